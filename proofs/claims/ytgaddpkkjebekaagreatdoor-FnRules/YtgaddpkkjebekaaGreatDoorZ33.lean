import Derived.Test.YtgaddpkkjebekaaGreatDoorProg
import Derived.Test.YtgaddpkkjebekaaGreatDoorZ30
import Derived.Test.YtgaddpkkjebekaaGreatDoorZ06
import Derived.Test.YtgaddpkkjebekaaGreatDoorZ07
import Derived.Test.YtgaddpkkjebekaaGreatDoorZ24
import Derived.Test.YtgaddpkkjebekaaGreatDoorZ32
import Derived.Shelf.Strings.Builder1
import Derived.Shelf.Strings.Builder2
import Derived.Shelf.Strings.BuilderF
import Derived.Shelf.Strconv.Atoi
import Derived.Shelf.Strconv.Itoa0
import Derived.Shelf.Strconv.Itoa1
import Derived.Shelf.LaysM
import Derived.Shelf.Strconv.Itoa2
import Derived.Shelf.Strconv.Itoa3
import Derived.Shelf.Strconv.AtoiErrFast
import Derived.Shelf.Strconv.ParseIntEmpty
import Derived.Shelf.Strconv.AtoiFail
import Derived.Shelf.Strconv.Clone
import Derived.Shelf.Strconv.SyntaxError
import Derived.Shelf.LaysC
import Derived.Shelf.Strconv.ToError
import Derived.Shelf.Strconv.Lower
import Derived.Shelf.Strconv.ParseUint10
import Derived.Shelf.Strconv.ParseUint10Empty
import Derived.Shelf.Strconv.ParseUint10Any
import Derived.Shelf.Strconv.ParseInt10
import Derived.Shelf.Strconv.AtoiLong
import Derived.Shelf.Strconv.AtoiInnerAll
import Derived.Shelf.Strconv.RangeError
import Derived.Shelf.Strconv.ToErrorRange
import Derived.Shelf.Strconv.AtoiAll
import Derived.Shelf.Strings.Prefix
import Derived.Shelf.Bits.Mul64
import Derived.Shelf.Strings.Repeat
import Derived.Lib.AppendIntMem
import Derived.Deep.CutRange
import Derived.Deep.CutBlock
import Derived.Deep.RegionHeld3
set_option maxHeartbeats 100000000
set_option maxRecDepth 100000
namespace Go.Proofs
open Go.Shelf
def Tryz.laysM171_ren:Go.Shelf.Ren:=⟨fun|171=>66|243=>93|246=>121|283=>148|284=>149|285=>150|286=>151|129=>164|317=>163|318=>165|319=>166|320=>167|337=>175|338=>176|n=>n,fun|3=>3|9=>9|2=>2|4=>4|171=>219|0=>0|53=>121|37=>22|5=>5|173=>222|212=>242|51=>224|20=>20|213=>243|46=>185|232=>252|233=>253|n=>n,fun|17=>6|18=>8|19=>9|n=>n⟩
theorem Tryz.laysM171:Go.Proofs.LaysM.n171 Tryz.prog Tryz.laysM171_ren:={
 mixed:=by kernel_rfl
 f129:=Tryz.func164.trans (congrArg some (by kernel_rfl))
 f171:=Tryz.func66.trans (congrArg some (by kernel_rfl))
 f243:=Tryz.func93.trans (congrArg some (by kernel_rfl))
 f246:=Tryz.func121.trans (congrArg some (by kernel_rfl))
 f283:=Tryz.func148.trans (congrArg some (by kernel_rfl))
 f284:=Tryz.func149.trans (congrArg some (by kernel_rfl))
 f285:=Tryz.func150.trans (congrArg some (by kernel_rfl))
 f286:=Tryz.func151.trans (congrArg some (by kernel_rfl))
 f317:=Tryz.func163.trans (congrArg some (by kernel_rfl))
 f318:=Tryz.func165.trans (congrArg some (by kernel_rfl))
 f319:=Tryz.func166.trans (congrArg some (by kernel_rfl))
 f320:=Tryz.func167.trans (congrArg some (by kernel_rfl))
 f337:=Tryz.func175.trans (congrArg some (by kernel_rfl))
 f338:=Tryz.func176.trans (congrArg some (by kernel_rfl))
 t0:=Tryz.underlying0
 a0:=Tryz.isAgg0
 z0:=Tryz.sizeOf0
 v0:=Tryz.zeroValue0
 t2:=Tryz.underlying2
 a2:=Tryz.isAgg2
 z2:=Tryz.sizeOf2
 v2:=Tryz.zeroValue2
 t3:=Tryz.underlying3
 a3:=Tryz.isAgg3
 z3:=Tryz.sizeOf3
 v3:=Tryz.zeroValue3
 t4:=Tryz.underlying4
 a4:=Tryz.isAgg4
 z4:=Tryz.sizeOf4
 v4:=Tryz.zeroValue4
 t5:=Tryz.underlying5
 a5:=Tryz.isAgg5
 z5:=Tryz.sizeOf5
 v5:=Tryz.zeroValue5
 t9:=Tryz.underlying9
 a9:=Tryz.isAgg9
 z9:=Tryz.sizeOf9
 v9:=Tryz.zeroValue9
 t20:=Tryz.underlying20
 a20:=Tryz.isAgg20
 z20:=Tryz.sizeOf20
 v20:=Tryz.zeroValue20
 t37:=Tryz.underlying22
 a37:=Tryz.isAgg22
 z37:=Tryz.sizeOf22
 v37:=Tryz.zeroValue22
 t46:=Tryz.underlying185
 a46:=Tryz.isAgg185
 z46:=Tryz.sizeOf185
 v46:=Tryz.zeroValue185
 t51:=Tryz.underlying224
 a51:=Tryz.isAgg224
 z51:=Tryz.sizeOf224
 v51:=Tryz.zeroValue224
 t53:=Tryz.underlying121
 a53:=Tryz.isAgg121
 z53:=Tryz.sizeOf121
 v53:=Tryz.zeroValue121
 t171:=Tryz.underlying219
 a171:=Tryz.isAgg219
 z171:=Tryz.sizeOf219
 v171:=Tryz.zeroValue219
 t173:=Tryz.underlying222
 a173:=Tryz.isAgg222
 z173:=Tryz.sizeOf222
 v173:=Tryz.zeroValue222
 t212:=Tryz.underlying242
 a212:=Tryz.isAgg242
 z212:=Tryz.sizeOf242
 v212:=Tryz.zeroValue242
 t213:=Tryz.underlying243
 a213:=Tryz.isAgg243
 z213:=Tryz.sizeOf243
 t232:=Tryz.underlying252
 a232:=Tryz.isAgg252
 z232:=Tryz.sizeOf252
 v232:=Tryz.zeroValue252
 t233:=Tryz.underlying253
 a233:=Tryz.isAgg253
 z233:=Tryz.sizeOf253
 v233:=Tryz.zeroValue253
 g17:=by kernel_rfl
 g18:=by kernel_rfl
 g19:=by kernel_rfl
 i0:=by kernel_rfl
 i2:=by kernel_rfl
 i3:=by kernel_rfl
 i4:=by kernel_rfl
 i5:=by kernel_rfl
 i9:=by kernel_rfl
 i20:=by kernel_rfl
 i37:=by kernel_rfl
 i46:=by kernel_rfl
 i51:=by kernel_rfl
 i53:=by kernel_rfl
 i171:=by kernel_rfl
 i173:=by kernel_rfl
 i212:=by kernel_rfl
 i232:=by kernel_rfl
 i233:=by kernel_rfl
 m17:=by kernel_rfl
 m18:=by kernel_rfl
 m19:=by kernel_rfl }
open Go.RowKit Go.Sort Go.Lib in
theorem Tryz.strconv_Itoa (n:Int) (h0:-9223372036854775808<=n) (h1:n<=9223372036854775807) (w:World) (htab:Lib.TabIs Tryz.prog w "internal/strconv.uint64pow10" .u64 Lib.pow10Tab) :
  Calls Tryz.prog 66 #[.int .i64 n] w fun e w'=>e=.returned (.string ⟨(Lib.itoa n).toArray⟩)/\∃ k os,w'=grow (w.drewN k) os:=Any.strconv_Itoa Tryz.laysM171 n h0 h1 w htab
def Tryz.laysC245_ren:Go.Shelf.Ren:=⟨fun|245=>92|279=>117|280=>118|281=>119|282=>120|316=>146|171=>66|205=>147|243=>93|246=>121|283=>148|284=>149|285=>150|286=>151|129=>164|317=>163|318=>165|319=>166|320=>167|337=>175|338=>176|n=>n,fun|9=>9|3=>3|75=>115|167=>176|4=>4|168=>179|210=>217|37=>22|0=>0|127=>229|145=>239|143=>237|2=>2|171=>219|53=>121|5=>5|173=>222|212=>242|51=>224|20=>20|213=>243|46=>185|232=>252|233=>253|80=>192|n=>n,fun|15=>2|16=>3|17=>6|18=>8|19=>9|n=>n⟩
theorem Tryz.laysC245:Go.Proofs.LaysC.n245 Tryz.prog Tryz.laysC245_ren:={
 mixed:=by kernel_rfl
 f129:=Tryz.func164.trans (congrArg some (by kernel_rfl))
 f171:=Tryz.func66.trans (congrArg some (by kernel_rfl))
 f205:=Tryz.func147.trans (congrArg some (by kernel_rfl))
 f243:=Tryz.func93.trans (congrArg some (by kernel_rfl))
 f245:=Tryz.func92.trans (congrArg some (by kernel_rfl))
 f246:=Tryz.func121.trans (congrArg some (by kernel_rfl))
 f279:=Tryz.func117.trans (congrArg some (by kernel_rfl))
 f280:=Tryz.func118.trans (congrArg some (by kernel_rfl))
 f281:=Tryz.func119.trans (congrArg some (by kernel_rfl))
 f282:=Tryz.func120.trans (congrArg some (by kernel_rfl))
 f283:=Tryz.func148.trans (congrArg some (by kernel_rfl))
 f284:=Tryz.func149.trans (congrArg some (by kernel_rfl))
 f285:=Tryz.func150.trans (congrArg some (by kernel_rfl))
 f286:=Tryz.func151.trans (congrArg some (by kernel_rfl))
 f316:=Tryz.func146.trans (congrArg some (by kernel_rfl))
 f317:=Tryz.func163.trans (congrArg some (by kernel_rfl))
 f318:=Tryz.func165.trans (congrArg some (by kernel_rfl))
 f319:=Tryz.func166.trans (congrArg some (by kernel_rfl))
 f320:=Tryz.func167.trans (congrArg some (by kernel_rfl))
 f337:=Tryz.func175.trans (congrArg some (by kernel_rfl))
 f338:=Tryz.func176.trans (congrArg some (by kernel_rfl))
 t0:=Tryz.underlying0
 a0:=Tryz.isAgg0
 z0:=Tryz.sizeOf0
 v0:=Tryz.zeroValue0
 t2:=Tryz.underlying2
 a2:=Tryz.isAgg2
 z2:=Tryz.sizeOf2
 v2:=Tryz.zeroValue2
 t3:=Tryz.underlying3
 a3:=Tryz.isAgg3
 z3:=Tryz.sizeOf3
 v3:=Tryz.zeroValue3
 t4:=Tryz.underlying4
 a4:=Tryz.isAgg4
 z4:=Tryz.sizeOf4
 v4:=Tryz.zeroValue4
 t5:=Tryz.underlying5
 a5:=Tryz.isAgg5
 z5:=Tryz.sizeOf5
 v5:=Tryz.zeroValue5
 t9:=Tryz.underlying9
 a9:=Tryz.isAgg9
 z9:=Tryz.sizeOf9
 v9:=Tryz.zeroValue9
 t20:=Tryz.underlying20
 a20:=Tryz.isAgg20
 z20:=Tryz.sizeOf20
 v20:=Tryz.zeroValue20
 t37:=Tryz.underlying22
 a37:=Tryz.isAgg22
 z37:=Tryz.sizeOf22
 v37:=Tryz.zeroValue22
 t46:=Tryz.underlying185
 a46:=Tryz.isAgg185
 z46:=Tryz.sizeOf185
 v46:=Tryz.zeroValue185
 t51:=Tryz.underlying224
 a51:=Tryz.isAgg224
 z51:=Tryz.sizeOf224
 v51:=Tryz.zeroValue224
 t53:=Tryz.underlying121
 a53:=Tryz.isAgg121
 z53:=Tryz.sizeOf121
 v53:=Tryz.zeroValue121
 t75:=Tryz.underlying115
 a75:=Tryz.isAgg115
 z75:=Tryz.sizeOf115
 v75:=Tryz.zeroValue115
 t127:=Tryz.underlying229
 a127:=Tryz.isAgg229
 z127:=Tryz.sizeOf229
 v127:=Tryz.zeroValue229
 t143:=Tryz.underlying237
 a143:=Tryz.isAgg237
 z143:=Tryz.sizeOf237
 v143:=Tryz.zeroValue237
 t145:=Tryz.underlying239
 a145:=Tryz.isAgg239
 z145:=Tryz.sizeOf239
 v145:=Tryz.zeroValue239
 t167:=Tryz.underlying176
 a167:=Tryz.isAgg176
 z167:=Tryz.sizeOf176
 v167:=Tryz.zeroValue176
 t168:=Tryz.underlying179
 a168:=Tryz.isAgg179
 z168:=Tryz.sizeOf179
 v168:=Tryz.zeroValue179
 t171:=Tryz.underlying219
 a171:=Tryz.isAgg219
 z171:=Tryz.sizeOf219
 v171:=Tryz.zeroValue219
 t173:=Tryz.underlying222
 a173:=Tryz.isAgg222
 z173:=Tryz.sizeOf222
 v173:=Tryz.zeroValue222
 t210:=Tryz.underlying217
 a210:=Tryz.isAgg217
 z210:=Tryz.sizeOf217
 v210:=Tryz.zeroValue217
 t212:=Tryz.underlying242
 a212:=Tryz.isAgg242
 z212:=Tryz.sizeOf242
 v212:=Tryz.zeroValue242
 t213:=Tryz.underlying243
 a213:=Tryz.isAgg243
 z213:=Tryz.sizeOf243
 t232:=Tryz.underlying252
 a232:=Tryz.isAgg252
 z232:=Tryz.sizeOf252
 v232:=Tryz.zeroValue252
 t233:=Tryz.underlying253
 a233:=Tryz.isAgg253
 z233:=Tryz.sizeOf253
 v233:=Tryz.zeroValue253
 g15:=by kernel_rfl
 g16:=by kernel_rfl
 g17:=by kernel_rfl
 g18:=by kernel_rfl
 g19:=by kernel_rfl
 t80:=Tryz.underlying192
 a80:=Tryz.isAgg192
 z80:=Tryz.sizeOf192
 v80:=Tryz.zeroValue192
 i0:=by kernel_rfl
 i2:=by kernel_rfl
 i3:=by kernel_rfl
 i4:=by kernel_rfl
 i5:=by kernel_rfl
 i9:=by kernel_rfl
 i20:=by kernel_rfl
 i37:=by kernel_rfl
 i46:=by kernel_rfl
 i51:=by kernel_rfl
 i53:=by kernel_rfl
 i75:=by kernel_rfl
 i80:=by kernel_rfl
 i127:=by kernel_rfl
 i143:=by kernel_rfl
 i145:=by kernel_rfl
 i167:=by kernel_rfl
 i168:=by kernel_rfl
 i171:=by kernel_rfl
 i173:=by kernel_rfl
 i210:=by kernel_rfl
 i212:=by kernel_rfl
 i232:=by kernel_rfl
 i233:=by kernel_rfl
 m15:=by kernel_rfl
 m16:=by kernel_rfl
 m17:=by kernel_rfl
 m18:=by kernel_rfl
 m19:=by kernel_rfl
 c0:=by kernel_rfl
 c2:=by kernel_rfl
 c3:=by kernel_rfl
 c4:=by kernel_rfl
 c5:=by kernel_rfl
 c9:=by kernel_rfl
 c20:=by kernel_rfl
 c37:=by kernel_rfl
 c46:=by kernel_rfl
 c51:=by kernel_rfl
 c53:=by kernel_rfl
 c75:=by kernel_rfl
 c80:=by kernel_rfl
 c127:=by kernel_rfl
 c143:=by kernel_rfl
 c145:=by kernel_rfl
 c167:=by kernel_rfl
 c168:=by kernel_rfl
 c171:=by kernel_rfl
 c173:=by kernel_rfl
 c210:=by kernel_rfl
 c212:=by kernel_rfl
 c213:=by kernel_rfl
 c232:=by kernel_rfl
 c233:=by kernel_rfl }
open Go.RowKit in
theorem Tryz.strconv_toError_syntax (fn s:ByteArray) (base bits:Int) (ev:Value) (w:World) (hlim:s.size<=281474976710656) (hv:w.cell? ⟨2,0,none⟩=some ev) (hev:ev=.nilIface\/∃ te pe,ev=.iface te pe) :
  Calls Tryz.prog 92 #[.string fn,.string s,.int .i64 base,.int .i64 bits,.iface 176 (.int .i64 2)] w fun e w'=>∃ N,e=.returned (.iface 179 (.pointer (some ⟨N,0,none⟩)))/\w.heap.size<=N/\w'.heap[N]?=some (.cells #[.string fn,.string s,ev] 217 (0,0))/\Below w.heap.size w w':=Any.strconv_toError_syntax Tryz.laysC245 fn s base bits ev w hlim hv hev
def Tryz.lays321_ren:Go.Shelf.Ren:=⟨fun|321=>123|n=>n,fun|5=>5|n=>n,fun|n=>n⟩
theorem Tryz.lays321:Go.Proofs.Lays.n321 Tryz.prog Tryz.lays321_ren:={
 mixed:=by kernel_rfl
 f321:=Tryz.func123.trans (congrArg some (by kernel_rfl))
 t5:=Tryz.underlying5
 a5:=Tryz.isAgg5
 z5:=Tryz.sizeOf5
 v5:=Tryz.zeroValue5 }
open Go.RowKit in
theorem Tryz.internal_strconv_lower (c:Int) (w:World) :
  Calls Tryz.prog 123 #[.int .u8 c] w fun e w'=>e=.returned (.int .u8 (bits .or .u8 c 32))/\w'=w:=Any.internal_strconv_lower Tryz.lays321 c w
open Go.RowKit in
theorem Tryz.strconv_toError_range (fn s:ByteArray) (base bits:Int) (ev:Value) (w:World) (hlim:s.size<=281474976710656) (hv:w.cell? ⟨3,0,none⟩=some ev) (hev:ev=.nilIface\/∃ te pe,ev=.iface te pe) :
  Calls Tryz.prog 92 #[.string fn,.string s,.int .i64 base,.int .i64 bits,.iface 176 (.int .i64 1)] w fun e w'=>∃ N,e=.returned (.iface 179 (.pointer (some ⟨N,0,none⟩)))/\w.heap.size<=N/\w'.heap[N]?=some (.cells #[.string fn,.string s,ev] 217 (0,0))/\Below w.heap.size w w':=Any.strconv_toError_range Tryz.laysC245 fn s base bits ev w hlim hv hev
def Tryz.laysC172_ren:Go.Shelf.Ren:=⟨fun|172=>65|244=>91|245=>92|247=>116|279=>117|280=>118|281=>119|282=>120|287=>95|316=>146|171=>66|205=>147|321=>123|322=>124|243=>93|246=>121|283=>148|284=>149|285=>150|286=>151|129=>164|317=>163|318=>165|319=>166|320=>167|337=>175|338=>176|n=>n,fun|9=>9|3=>3|75=>115|76=>116|4=>4|5=>5|167=>176|37=>22|0=>0|85=>177|2=>2|168=>179|53=>121|175=>122|46=>185|210=>217|127=>229|145=>239|143=>237|21=>21|171=>219|173=>222|212=>242|51=>224|20=>20|213=>243|232=>252|233=>253|80=>192|n=>n,fun|15=>2|16=>3|17=>6|18=>8|19=>9|n=>n⟩
theorem Tryz.laysC172:Go.Proofs.LaysC.n172 Tryz.prog Tryz.laysC172_ren:={
 mixed:=by kernel_rfl
 f129:=Tryz.func164.trans (congrArg some (by kernel_rfl))
 f171:=Tryz.func66.trans (congrArg some (by kernel_rfl))
 f172:=Tryz.func65.trans (congrArg some (by kernel_rfl))
 f205:=Tryz.func147.trans (congrArg some (by kernel_rfl))
 f243:=Tryz.func93.trans (congrArg some (by kernel_rfl))
 f244:=Tryz.func91.trans (congrArg some (by kernel_rfl))
 f245:=Tryz.func92.trans (congrArg some (by kernel_rfl))
 f246:=Tryz.func121.trans (congrArg some (by kernel_rfl))
 f247:=Tryz.func116.trans (congrArg some (by kernel_rfl))
 f279:=Tryz.func117.trans (congrArg some (by kernel_rfl))
 f280:=Tryz.func118.trans (congrArg some (by kernel_rfl))
 f281:=Tryz.func119.trans (congrArg some (by kernel_rfl))
 f282:=Tryz.func120.trans (congrArg some (by kernel_rfl))
 f283:=Tryz.func148.trans (congrArg some (by kernel_rfl))
 f284:=Tryz.func149.trans (congrArg some (by kernel_rfl))
 f285:=Tryz.func150.trans (congrArg some (by kernel_rfl))
 f286:=Tryz.func151.trans (congrArg some (by kernel_rfl))
 f287:=Tryz.func95.trans (congrArg some (by kernel_rfl))
 f316:=Tryz.func146.trans (congrArg some (by kernel_rfl))
 f317:=Tryz.func163.trans (congrArg some (by kernel_rfl))
 f318:=Tryz.func165.trans (congrArg some (by kernel_rfl))
 f319:=Tryz.func166.trans (congrArg some (by kernel_rfl))
 f320:=Tryz.func167.trans (congrArg some (by kernel_rfl))
 f321:=Tryz.func123.trans (congrArg some (by kernel_rfl))
 f322:=Tryz.func124.trans (congrArg some (by kernel_rfl))
 f337:=Tryz.func175.trans (congrArg some (by kernel_rfl))
 f338:=Tryz.func176.trans (congrArg some (by kernel_rfl))
 t0:=Tryz.underlying0
 a0:=Tryz.isAgg0
 z0:=Tryz.sizeOf0
 v0:=Tryz.zeroValue0
 t2:=Tryz.underlying2
 a2:=Tryz.isAgg2
 z2:=Tryz.sizeOf2
 v2:=Tryz.zeroValue2
 t3:=Tryz.underlying3
 a3:=Tryz.isAgg3
 z3:=Tryz.sizeOf3
 v3:=Tryz.zeroValue3
 t4:=Tryz.underlying4
 a4:=Tryz.isAgg4
 z4:=Tryz.sizeOf4
 v4:=Tryz.zeroValue4
 t5:=Tryz.underlying5
 a5:=Tryz.isAgg5
 z5:=Tryz.sizeOf5
 v5:=Tryz.zeroValue5
 t9:=Tryz.underlying9
 a9:=Tryz.isAgg9
 z9:=Tryz.sizeOf9
 v9:=Tryz.zeroValue9
 t20:=Tryz.underlying20
 a20:=Tryz.isAgg20
 z20:=Tryz.sizeOf20
 v20:=Tryz.zeroValue20
 t21:=Tryz.underlying21
 a21:=Tryz.isAgg21
 z21:=Tryz.sizeOf21
 v21:=Tryz.zeroValue21
 t37:=Tryz.underlying22
 a37:=Tryz.isAgg22
 z37:=Tryz.sizeOf22
 v37:=Tryz.zeroValue22
 t46:=Tryz.underlying185
 a46:=Tryz.isAgg185
 z46:=Tryz.sizeOf185
 v46:=Tryz.zeroValue185
 t51:=Tryz.underlying224
 a51:=Tryz.isAgg224
 z51:=Tryz.sizeOf224
 v51:=Tryz.zeroValue224
 t53:=Tryz.underlying121
 a53:=Tryz.isAgg121
 z53:=Tryz.sizeOf121
 v53:=Tryz.zeroValue121
 t75:=Tryz.underlying115
 a75:=Tryz.isAgg115
 z75:=Tryz.sizeOf115
 v75:=Tryz.zeroValue115
 t76:=Tryz.underlying116
 a76:=Tryz.isAgg116
 z76:=Tryz.sizeOf116
 v76:=Tryz.zeroValue116
 t85:=Tryz.underlying177
 a85:=Tryz.isAgg177
 z85:=Tryz.sizeOf177
 v85:=Tryz.zeroValue177
 t127:=Tryz.underlying229
 a127:=Tryz.isAgg229
 z127:=Tryz.sizeOf229
 v127:=Tryz.zeroValue229
 t143:=Tryz.underlying237
 a143:=Tryz.isAgg237
 z143:=Tryz.sizeOf237
 v143:=Tryz.zeroValue237
 t145:=Tryz.underlying239
 a145:=Tryz.isAgg239
 z145:=Tryz.sizeOf239
 v145:=Tryz.zeroValue239
 t167:=Tryz.underlying176
 a167:=Tryz.isAgg176
 z167:=Tryz.sizeOf176
 v167:=Tryz.zeroValue176
 t168:=Tryz.underlying179
 a168:=Tryz.isAgg179
 z168:=Tryz.sizeOf179
 v168:=Tryz.zeroValue179
 t171:=Tryz.underlying219
 a171:=Tryz.isAgg219
 z171:=Tryz.sizeOf219
 v171:=Tryz.zeroValue219
 t173:=Tryz.underlying222
 a173:=Tryz.isAgg222
 z173:=Tryz.sizeOf222
 v173:=Tryz.zeroValue222
 t175:=Tryz.underlying122
 a175:=Tryz.isAgg122
 z175:=Tryz.sizeOf122
 v175:=Tryz.zeroValue122
 t210:=Tryz.underlying217
 a210:=Tryz.isAgg217
 z210:=Tryz.sizeOf217
 v210:=Tryz.zeroValue217
 t212:=Tryz.underlying242
 a212:=Tryz.isAgg242
 z212:=Tryz.sizeOf242
 v212:=Tryz.zeroValue242
 t213:=Tryz.underlying243
 a213:=Tryz.isAgg243
 z213:=Tryz.sizeOf243
 t232:=Tryz.underlying252
 a232:=Tryz.isAgg252
 z232:=Tryz.sizeOf252
 v232:=Tryz.zeroValue252
 t233:=Tryz.underlying253
 a233:=Tryz.isAgg253
 z233:=Tryz.sizeOf253
 v233:=Tryz.zeroValue253
 g15:=by kernel_rfl
 g16:=by kernel_rfl
 g17:=by kernel_rfl
 g18:=by kernel_rfl
 g19:=by kernel_rfl
 t80:=Tryz.underlying192
 a80:=Tryz.isAgg192
 z80:=Tryz.sizeOf192
 v80:=Tryz.zeroValue192
 i0:=by kernel_rfl
 i2:=by kernel_rfl
 i3:=by kernel_rfl
 i4:=by kernel_rfl
 i5:=by kernel_rfl
 i9:=by kernel_rfl
 i20:=by kernel_rfl
 i21:=by kernel_rfl
 i37:=by kernel_rfl
 i46:=by kernel_rfl
 i51:=by kernel_rfl
 i53:=by kernel_rfl
 i75:=by kernel_rfl
 i76:=by kernel_rfl
 i80:=by kernel_rfl
 i85:=by kernel_rfl
 i127:=by kernel_rfl
 i143:=by kernel_rfl
 i145:=by kernel_rfl
 i167:=by kernel_rfl
 i168:=by kernel_rfl
 i171:=by kernel_rfl
 i173:=by kernel_rfl
 i175:=by kernel_rfl
 i210:=by kernel_rfl
 i212:=by kernel_rfl
 i232:=by kernel_rfl
 i233:=by kernel_rfl
 m15:=by kernel_rfl
 m16:=by kernel_rfl
 m17:=by kernel_rfl
 m18:=by kernel_rfl
 m19:=by kernel_rfl
 c0:=by kernel_rfl
 c2:=by kernel_rfl
 c3:=by kernel_rfl
 c4:=by kernel_rfl
 c5:=by kernel_rfl
 c9:=by kernel_rfl
 c20:=by kernel_rfl
 c21:=by kernel_rfl
 c37:=by kernel_rfl
 c46:=by kernel_rfl
 c51:=by kernel_rfl
 c53:=by kernel_rfl
 c75:=by kernel_rfl
 c76:=by kernel_rfl
 c80:=by kernel_rfl
 c85:=by kernel_rfl
 c127:=by kernel_rfl
 c143:=by kernel_rfl
 c145:=by kernel_rfl
 c167:=by kernel_rfl
 c168:=by kernel_rfl
 c171:=by kernel_rfl
 c173:=by kernel_rfl
 c175:=by kernel_rfl
 c210:=by kernel_rfl
 c212:=by kernel_rfl
 c213:=by kernel_rfl
 c232:=by kernel_rfl
 c233:=by kernel_rfl }
open Go.RowKit in
theorem Tryz.strconv_Atoi_ok (s:ByteArray) (hmax:s.size<=9223372036854775806) (v:Int) (h:Lib.atoiAll s.data.toList=.ok v) (w:World) :
  Calls Tryz.prog 65 #[.string s] w fun e w'=>e=.returned (.tuple #[.int .i64 v,.nilIface])/\(w'=w\/∃ t,w'=Lib.bytesWorld w 5 t):=Any.strconv_Atoi_ok Tryz.laysC172 s hmax v h w
open Go.RowKit in
theorem Tryz.strconv_Atoi_syntax (s:ByteArray) (hlim:s.size<=281474976710656) (h:Lib.atoiAll s.data.toList=.«syntax») (ev:Value) (w:World) (hv:w.cell? ⟨2,0,none⟩=some ev) (hev:ev=.nilIface\/∃ te pe,ev=.iface te pe) :
  Calls Tryz.prog 65 #[.string s] w fun e w'=>∃ N,e=.returned (.tuple #[.int .i64 (0),.iface 179 (.pointer (some ⟨N,0,none⟩))])/\w.heap.size<=N/\w'.heap[N]?=some (.cells #[.string ⟨#[65,116,111,105]⟩,.string s,ev] 217 (0,0))/\Below w.heap.size w w':=Any.strconv_Atoi_syntax Tryz.laysC172 s hlim h ev w hv hev
open Go.RowKit in
theorem Tryz.strconv_Atoi_range (s:ByteArray) (hlim:s.size<=281474976710656) (h:Lib.atoiAll s.data.toList=.range) (ev:Value) (w:World) (hv:w.cell? ⟨3,0,none⟩=some ev) (hev:ev=.nilIface\/∃ te pe,ev=.iface te pe) :
  Calls Tryz.prog 65 #[.string s] w fun e w'=>∃ N,e=.returned (.tuple #[.int .i64 (Lib.atoiSat s.data.toList),.iface 179 (.pointer (some ⟨N,0,none⟩))])/\w.heap.size<=N/\w'.heap[N]?=some (.cells #[.string ⟨#[65,116,111,105]⟩,.string s,ev] 217 (0,0))/\Below w.heap.size w w':=Any.strconv_Atoi_range Tryz.laysC172 s hlim h ev w hv hev
def Tryz.lays206_ren:Go.Shelf.Ren:=⟨fun|206=>122|n=>n,fun|9=>9|4=>4|3=>3|n=>n,fun|n=>n⟩
theorem Tryz.lays206:Go.Proofs.Lays.n206 Tryz.prog Tryz.lays206_ren:={
 mixed:=by kernel_rfl
 f206:=Tryz.func122.trans (congrArg some (by kernel_rfl))
 t3:=Tryz.underlying3
 a3:=Tryz.isAgg3
 z3:=Tryz.sizeOf3
 v3:=Tryz.zeroValue3
 t4:=Tryz.underlying4
 a4:=Tryz.isAgg4
 z4:=Tryz.sizeOf4
 v4:=Tryz.zeroValue4
 t9:=Tryz.underlying9
 a9:=Tryz.isAgg9
 z9:=Tryz.sizeOf9
 v9:=Tryz.zeroValue9 }
open Go.RowKit Go.Lib in
theorem Tryz.stringslite_HasPrefix (s p:ByteArray) (w:World) :
  Calls Tryz.prog 122 #[.string s,.string p] w fun e w'=>e=.returned (.bool (Lib.hasPrefix s.data.toList p.data.toList))/\w'=w:=Any.stringslite_HasPrefix Tryz.lays206 s p w
def Tryz.lays105_ren:Go.Shelf.Ren:=⟨fun|105=>97|212=>126|99=>127|165=>128|166=>129|170=>130|169=>131|263=>152|264=>153|206=>122|240=>154|241=>155|276=>168|277=>169|n=>n,fun|9=>9|3=>3|4=>4|20=>20|0=>0|46=>185|109=>186|5=>5|72=>190|76=>116|51=>224|146=>225|53=>121|148=>227|70=>188|37=>22|75=>115|127=>229|164=>245|80=>192|n=>n,fun|n=>n⟩
theorem Tryz.lays105:Go.Proofs.Lays.n105 Tryz.prog Tryz.lays105_ren:={
 mixed:=by kernel_rfl
 f99:=Tryz.func127.trans (congrArg some (by kernel_rfl))
 f105:=Tryz.func97.trans (congrArg some (by kernel_rfl))
 f165:=Tryz.func128.trans (congrArg some (by kernel_rfl))
 f166:=Tryz.func129.trans (congrArg some (by kernel_rfl))
 f169:=Tryz.func131.trans (congrArg some (by kernel_rfl))
 f170:=Tryz.func130.trans (congrArg some (by kernel_rfl))
 f206:=Tryz.func122.trans (congrArg some (by kernel_rfl))
 f212:=Tryz.func126.trans (congrArg some (by kernel_rfl))
 f240:=Tryz.func154.trans (congrArg some (by kernel_rfl))
 f241:=Tryz.func155.trans (congrArg some (by kernel_rfl))
 f263:=Tryz.func152.trans (congrArg some (by kernel_rfl))
 f264:=Tryz.func153.trans (congrArg some (by kernel_rfl))
 f276:=Tryz.func168.trans (congrArg some (by kernel_rfl))
 f277:=Tryz.func169.trans (congrArg some (by kernel_rfl))
 t0:=Tryz.underlying0
 a0:=Tryz.isAgg0
 z0:=Tryz.sizeOf0
 v0:=Tryz.zeroValue0
 t3:=Tryz.underlying3
 a3:=Tryz.isAgg3
 z3:=Tryz.sizeOf3
 v3:=Tryz.zeroValue3
 t4:=Tryz.underlying4
 a4:=Tryz.isAgg4
 z4:=Tryz.sizeOf4
 v4:=Tryz.zeroValue4
 t5:=Tryz.underlying5
 a5:=Tryz.isAgg5
 z5:=Tryz.sizeOf5
 v5:=Tryz.zeroValue5
 t9:=Tryz.underlying9
 a9:=Tryz.isAgg9
 z9:=Tryz.sizeOf9
 v9:=Tryz.zeroValue9
 t20:=Tryz.underlying20
 a20:=Tryz.isAgg20
 z20:=Tryz.sizeOf20
 v20:=Tryz.zeroValue20
 t37:=Tryz.underlying22
 a37:=Tryz.isAgg22
 z37:=Tryz.sizeOf22
 v37:=Tryz.zeroValue22
 t46:=Tryz.underlying185
 a46:=Tryz.isAgg185
 z46:=Tryz.sizeOf185
 v46:=Tryz.zeroValue185
 t51:=Tryz.underlying224
 a51:=Tryz.isAgg224
 z51:=Tryz.sizeOf224
 v51:=Tryz.zeroValue224
 t53:=Tryz.underlying121
 a53:=Tryz.isAgg121
 z53:=Tryz.sizeOf121
 v53:=Tryz.zeroValue121
 t70:=Tryz.underlying188
 a70:=Tryz.isAgg188
 z70:=Tryz.sizeOf188
 v70:=Tryz.zeroValue188
 t72:=Tryz.underlying190
 a72:=Tryz.isAgg190
 z72:=Tryz.sizeOf190
 v72:=Tryz.zeroValue190
 t75:=Tryz.underlying115
 a75:=Tryz.isAgg115
 z75:=Tryz.sizeOf115
 v75:=Tryz.zeroValue115
 t76:=Tryz.underlying116
 a76:=Tryz.isAgg116
 z76:=Tryz.sizeOf116
 v76:=Tryz.zeroValue116
 t109:=Tryz.underlying186
 a109:=Tryz.isAgg186
 z109:=Tryz.sizeOf186
 v109:=Tryz.zeroValue186
 t127:=Tryz.underlying229
 a127:=Tryz.isAgg229
 z127:=Tryz.sizeOf229
 v127:=Tryz.zeroValue229
 t146:=Tryz.underlying225
 a146:=Tryz.isAgg225
 z146:=Tryz.sizeOf225
 v146:=Tryz.zeroValue225
 t148:=Tryz.underlying227
 a148:=Tryz.isAgg227
 z148:=Tryz.sizeOf227
 v148:=Tryz.zeroValue227
 t164:=Tryz.underlying245
 a164:=Tryz.isAgg245
 z164:=Tryz.sizeOf245
 v164:=Tryz.zeroValue245 }
theorem Tryz.Builder_Extra_105:Builder.Extra Tryz.prog Tryz.lays105_ren:={
 sizeBuilder:=by kernel_rfl
 liesBuilder:=by kernel_rfl
 t5:=Tryz.underlying5
 a5:=Tryz.isAgg5
 z5:=Tryz.sizeOf5
 v5:=Tryz.zeroValue5
 infoByte:=by kernel_rfl
 cellsByte:=by kernel_rfl
 sizeByte:=by kernel_rfl
 neB5:=by decide }
open Go.RowKit Go.Lib in
theorem Tryz.strings_Repeat (s:ByteArray) (c:Nat) (w:World) (hc:c<=9223372036854775807) (hlen:s.size*c<=140737488355328) :
  Calls Tryz.prog 97 #[.string s,.int .i64 c] w fun e w'=>e=.returned (.string ⟨(Lib.repeatL s.data.toList c).toArray⟩)/\Below w.heap.size w w':=Any.strings_Repeat Tryz.lays105 Tryz.Builder_Extra_105 s c w hc hlen
end Go.Proofs
namespace Go.Proofs.YtgaddpkkjebekaaGreatDoor
open Go.RowKit Go.Lib
theorem Bv:∀ (f u:Nat),u<10 ^ f->1<=f->kE f u=(decDigits u).map fun b=>(b.toNat:Int)
 | 0,u,_,h=>absurd h (by omega)
 | f+1,u,hu,_=>by
  rw[kE,decDigits];by_cases h:u<10
  ·rw[if_pos h,dif_pos h,List.map_cons,List.map_nil,UInt8.toNat_ofNat']
   congr 1
   omega
  ·rw[if_neg h,dif_neg h,List.map_append,List.map_cons,List.map_nil,UInt8.toNat_ofNat']
   have hf:1<=f:=by
    rcases Nat.eq_zero_or_pos f with h0|h0
    ·rw[h0]at hu;simp at hu;omega
    ·exact h0
   rw[Bv f (u / 10) (by rw[Nat.pow_succ]at hu;omega) hf]
   congr 2
   omega
theorem BA (n:Int) (hn:InR n):bytesOf ⟨(itoa n).toArray⟩=iI n:=by
 unfold InR at hn;show ((itoa n).toArray.toList.map fun b=>(b.toNat:Int))=_;rw[List.toList_toArray];unfold itoa iI;by_cases h:n<0
 ·rw[if_pos h,if_pos h,List.map_cons,Bv 20 _ (by have:(10:Nat) ^ 20=100000000000000000000:=(by decide);omega) (by decide)];have:n.natAbs=(-n).toNat:=by omega
  rw[this];rfl
 ·rw[if_neg h,if_neg h,Bv 20 _ (by have:(10:Nat) ^ 20=100000000000000000000:=(by decide);omega) (by decide)]
theorem Iw (w:World) (k:Nat) (os:Array Obj):Later w (Sort.grow (w.drewN k) os):=by
 refine⟨rfl,rfl,rfl,?_,fun b hb=>?_⟩
 ·show w.heap.size<=(w.heap++os).size;simp
 ·show (w.heap++os)[b]?=w.heap[b]?;rw[Array.getElem?_append_left hb]
theorem J5 (nm:String) (hname:nm= "internal/strconv.uint64pow10") (n:Int) (w:World) (hn:InR n) (ht:TabIs Tryz.prog w nm .u64 pow10Tab):Calls Tryz.prog 66 #[.int .i64 n] w (GY w (iI n)):=by
 subst hname;refine (Tryz.strconv_Itoa n hn.1 hn.2 w ht).mono ?_;rintro e w' ⟨rfl,k,os,rfl⟩;exact⟨_,rfl,BA n hn,Iw w k os⟩
theorem tz_16 (w:World) (h:w.cell? ⟨9,15,none⟩=some (.int .u8 4)):Calls Tryz.prog 167 #[.int .u64 16] w fun e w'=>e=.returned (.int .i64 4)/\w'=w:=by
 have e1:IntKind.u64.wrap (bits .and .u64 16 (IntKind.u64.wrap (-16))*285870213051353865) / 288230376151711744=15:=by decide
 have hA:Calls Tryz.prog 176 #[.int .u64 16] w fun e w'=>e=.returned (.int .i64 4)/\w'=w:=by
  go_enter Tryz.func176,Tryz.ntmps176;go_wp2_with fail
  go_ret;exact⟨rfl,rfl⟩
 clear e1 h;go_enter Tryz.func167,Tryz.ntmps167;go_wp2_with (go_at_call 176;refine hA.mono ?_;rintro e w2 ⟨rfl,hw⟩;obtain rfl:=hw.symm)
 go_ret;exact⟨rfl,rfl⟩
theorem UF (w:World):Calls Tryz.prog 166 #[.int .i64 16] w fun e w'=>e=.returned (.bool true)/\w'=w:=by
 have e1:bits .and .i64 16 15=0:=by decide
 go_enter Tryz.func166,Tryz.ntmps166;go_wp2_with fail
 go_ret;exact⟨rfl,rfl⟩
theorem Dn (k u:Nat):dD (k+1) u=hexD (u / 16 ^ k % 16)::dD k u:=by
 induction k generalizing u with
 | zero=>rw[dD,dD,dD,Nat.pow_zero,Nat.div_one];rfl
 | succ k ih=>rw[dD,ih,dD,Nat.div_div_eq_div_mul,Nat.pow_succ,Nat.mul_comm];rfl
theorem TY:∀ (D:Nat) (h:D<36),D<16->((((⟨#[48,49,50,51,52,53,54,55,56,57,97,98,99,100,101,102,103,104,105,106,107,108,109,110,111,112,113,114,115,116,117,118,119,120,121,122]⟩:ByteArray)[D]'h).toNat:Nat):Int)=hexD D:=by
 intro D h _;obtain rfl|rfl|rfl|rfl|rfl|rfl|rfl|rfl|rfl|rfl|rfl|rfl|rfl|rfl|rfl|rfl:D=0\/D=1\/D=2\/D=3\/D=4\/D=5\/D=6\/D=7\/D=8\/D=9\/D=10\/D=11\/D=12\/D=13\/D=14\/D=15:=by omega
 all_goals rfl
def Eu (C:Array Value) (p:Nat) (zs:List Int):Prop:=C.size=65/\p+zs.length=65/\∀ j z,zs[j]?=some z->C[p+j]?=some (.int .u8 z)
theorem Eu.put {C:Array Value}{p:Nat}{zs:List Int}(h:Eu C (p+1) zs) (z:Int):Eu (C.setIfInBounds p (.int .u8 z)) p (z::zs):=by
 obtain⟨h1,h2,h3⟩:=h;refine⟨by simpa using h1,by rw[List.length_cons];omega,fun j y hy=>?_⟩
 cases j with
 | zero =>
  have:z=y:=by simpa using hy
  subst this;rw[Nat.add_zero,Array.getElem?_setIfInBounds_self_of_lt (by omega)]
 | succ j =>
  have hy':zs[j]?=some y:=by simpa using hy
  rw[Array.getElem?_setIfInBounds_ne (by omega),show p+(j+1)=p+1+j by omega];exact h3 j y hy'
structure sH (w wr:World) (p:Nat) (zs:List Int):Prop where
 lat:Later w wr
 row:∃ C,wr.heap[w.heap.size]?=some (.cells C 243)/\Eu C p zs
theorem sH.old {w wr:World}{p:Nat}{zs:List Int}(h:sH w wr (p+1) zs):∃ u,wr.cell? ⟨w.heap.size,p,none⟩=some u/\wr.frozen? ⟨w.heap.size,p,none⟩=false:=by
 obtain⟨_,C,hr,h1,h2,_⟩:=h;have hp:p<C.size:=by omega
 refine⟨C[p],?_,?_⟩
 ·show (match wr.heap[w.heap.size]? with|some (.cells c _ _)=>c[p]?|_=>none)=some C[p];rw[hr];exact Array.getElem?_eq_getElem hp
 ·simp[World.frozen?,hr]
theorem sH.put {w wr:World}{p:Nat}{zs:List Int}(h:sH w wr (p+1) zs) (z:Int):sH w (wr.setCell ⟨w.heap.size,p,none⟩ (.int .u8 z)) p (z::zs):=by
 obtain⟨hl,C,hr,hT⟩:=h;refine⟨hl.trans' (v:=.slice (some ⟨w.heap.size,0,none⟩) 0 0) (ny wr w.heap.size p (.int .u8 z)) (fun b e=>by cases e;exact Nat.le_refl _),_,heap_setCell_same wr w.heap.size p _ _ (.int .u8 z) hr,hT.put z⟩
theorem sH.cells {w wr:World}{p:Nat}{zs:List Int}(h:sH w wr p zs):∀ i,i<zs.length->wr.cell? ⟨w.heap.size,p+i,none⟩=some (.int .u8 (zs.getD i 0)):=by
 intro i hi;obtain⟨_,C,hr,_,_,h3⟩:=h;show (match wr.heap[w.heap.size]? with|some (.cells c _ _)=>c[p+i]?|_=>none)=_;rw[hr];refine h3 i _ ?_;rw[List.getD_eq_getElem?_getD,List.getElem?_eq_getElem hi];rfl
theorem x8:∀ (k u:Nat),∀ z∈dD k u,0<=z/\z<=255
 | 0,_,z,h=>by simp[dD]at h
 | k+1,u,z,h=>by
  rw[dD,List.mem_append]at h;rcases h with h|h
  ·exact x8 k _ z h
  ·have:z=hexD (u % 16):=by simpa using h
   rw[this];unfold hexD;split <;> omega
def F16 (u:Nat) (w:World) (e:Ending) (w':World):Prop:=∃ s m,e=.returned (.tuple #[.slice none 0 0,.string s])/\1<=m/\m<=16/\u<16 ^ m/\bytesOf s=dD m u/\Later w w'
theorem Js (u:Nat) (w:World) (hu:u<18446744073709551616) (hg:9<w.heap.size) (h:w.cell? ⟨9,15,none⟩=some (.int .u8 4)):Calls Tryz.prog 151 #[.slice none 0 0,.int .u64 (u:Int),.int .i64 16,.bool false,.bool false] w (F16 u w):=by
 have hq:∀ o,(w.alloc o).cell? ⟨9,15,none⟩=some (.int .u8 4):=fun o=>by rw[(ae w o).cell (p:=⟨9,15,none⟩) hg];exact h
 have HQ:Hid _:=hq;clear hq h;have H16:Hid (u<16 ^ 16):=by show u<16 ^ 16;have:(16:Nat) ^ 16=18446744073709551616:=(by decide);omega
 have HFQ:Hid (∀ e w',F16 u w e w'->F16 u w e w'):=fun _ _ h=>h
 generalize hQ:F16 u w=Q at HFQ ⊢
 have HFQ':Hid (∀ e w',F16 u w e w'->Q e w'):=fun e w' h=>by rw[<-hQ];exact h
 clear hQ HFQ;go_enter Tryz.func151,Tryz.ntmps151;go_wp2_with (first|(go_at_call 167;refine (tz_16 _ (HQ.out _)).mono ?_;rintro e w2 ⟨rfl,hw⟩;obtain rfl:=hw.symm)|(go_at_call 166;refine (UF _).mono ?_;rintro e w2 ⟨rfl,hw⟩;obtain rfl:=hw.symm))
 go_loopw [1,13] (fun uu i wr=>∃ (k p:Nat),uu=.int .u64 ((u / 16 ^ k:Nat):Int)/\i=.int .i64 (p:Int)/\k<=15/\sH w wr p (dD k u)) (fun uu _ _=>(RowKit.intOf uu).toNat)
 case atStart=>exact⟨0,65,by rw[Nat.pow_zero,Nat.div_one],rfl,by omega,ae _ _,_,(by show (w.heap.push _)[w.heap.size]?=_;simp;rfl),rfl,rfl,fun j z hz=>by simp[dD]at hz⟩
 case round =>
  obtain⟨k,p,rfl,rfl,hk,hR⟩:=hrel;have hlen:p+k=65:=by obtain⟨_,C,_,_,h2,_⟩:=hR;rw[iK]at h2;exact h2
  obtain⟨q,rfl⟩:∃ q,p=q+1:=⟨p - 1,by omega⟩
  have hx64:u / 16 ^ k<18446744073709551616:=Nat.lt_of_le_of_lt (Nat.div_le_self _ _) hu;have hstep:=Dn k u;obtain⟨v0,c0,f0⟩:=hR.old;by_cases hge:16<=u / 16 ^ k
  ·have i1:(16:Int)<=((u / 16 ^ k:Nat):Int):=by omega
   have hk15:k+1<=15:=by
    rcases Nat.lt_or_ge k 15 with h|h
    ·exact h
    ·exfalso
     have:k=15:=by omega
     subst this;have h1:=H16.out;have h2:(16:Nat) ^ 16=16 ^ 15*16:=by decide
     rw[h2]at h1;have:=Nat.div_lt_of_lt_mul h1;omega
   obtain⟨D,hD,hD16,hDe⟩:∃ D:Nat,bits .and .u64 ((u / 16 ^ k:Nat):Int) 15=(D:Int)/\D<16/\Hid (D=u / 16 ^ k % 16):=⟨u / 16 ^ k % 16,by
    have h2:=bits_and_u64_nat (u / 16 ^ k) 15 hx64 (by decide);rw[show ((15:Nat):Int)=15 from rfl]at h2
    rw[h2,show (15:Nat)=2 ^ 4 - 1 from rfl,Nat.and_two_pow_sub_one_eq_mod],Nat.mod_lt _ (by decide),rfl⟩
   have hlit:=TY D (by omega) hD16;have hdd:Hid (u / 16 ^ (k+1)=u / 16 ^ k / 16):=by show _=_;rw[Nat.pow_succ,<- Nat.div_div_eq_div_mul]
   have HT:Hid (sH w (wr.setCell ⟨w.heap.size,q,none⟩ (.int .u8 (hexD D))) q (dD (k+1) u)):=by show sH _ _ _ _;rw[hstep,<- hDe.out];exact hR.put _
   have hX':∃ X,Hid (X=u / 16 ^ k):=⟨_,rfl⟩
   obtain⟨X,hX⟩:=hX';rw[<-hX.out]at i1 hD hx64 hdd ⊢;clear hstep hge;go_wp2_with fail
   refine⟨⟨k+1,q,by rw[hdd.out,Int.natCast_ediv];rfl,rfl,hk15,HT.out⟩,?_⟩;simp only[RowKit.intOf];omega
  ·have i1:¬ (16:Int)<=((u / 16 ^ k:Nat):Int):=by omega
   have hu16:Hid (u<16 ^ (k+1)):=by
    show u<16 ^ (k+1);have h3:=(Nat.div_lt_iff_lt_mul (Nat.pow_pos (n:=k) (show 0<16 by decide))).1 (show u / 16 ^ k<16 by omega);rw[Nat.pow_succ,Nat.mul_comm];exact h3
   have hR1:sH w (wr.setCell ⟨w.heap.size,q,none⟩ (.int .u8 (hexD (u / 16 ^ k)))) q (dD (k+1) u):=by
    rw[hstep,Nat.mod_eq_of_lt (show u / 16 ^ k<16 by omega)];exact hR.put _
   have hlm:(dD (k+1) u).length=k+1:=iK _ _;have hlq:65 - q=k+1:=by omega
   have hlq':(65:Int) - (q:Int)=((k+1:Nat):Int):=by omega
   have cv:∀ c,(convert 22 9 (.slice (some ⟨w.heap.size,q,none⟩) (65 - q) c)).run Tryz.prog (wr.setCell ⟨w.heap.size,q,none⟩ (.int .u8 (hexD (u / 16 ^ k))))=.ok (.string (strOfNums (dD (k+1) u))) (wr.setCell ⟨w.heap.size,q,none⟩ (.int .u8 (hexD (u / 16 ^ k)))):=fun c=>by
    rw[hlq];exact run_convert_bytes_arg _ 22 5 Tryz.underlying22 Tryz.underlying5 w.heap.size q (k+1) c (dD (k+1) u) hlm (fun i hi=>hR1.cells i (by omega)) 9 Tryz.underlying9
   have HB:Hid (Q (.returned (.tuple #[.slice none 0 0,.string (strOfNums (dD (k+1) u))])) (wr.setCell ⟨w.heap.size,q,none⟩ (.int .u8 (hexD (u / 16 ^ k))))):=HFQ'.out _ _ ⟨_,k+1,rfl,by omega,by omega,hu16.out,xh _ (x8 _ _),hR1.lat⟩;obtain⟨X,hX⟩:=dJ (u / 16 ^ k);obtain⟨Z,hZ⟩:=dJ (strOfNums (dD (k+1) u));rw[<-hZ.out]at cv HB;rw[<-hX.out]at i1 cv HB hx64 ⊢;have hX16:X<16:=by omega
   have hlit:=TY X (by omega) hX16;have hq65:(q:Int)<=65:=by omega
   have hqn:¬ 65=q:=by omega
   clear hstep hge hR1 hR hlq hlq';go_wp2_with fail
   exact HB.out
def H16 (u:Nat) (w:World) (e:Ending) (w':World):Prop:=∃ s m,e=.returned (.string s)/\1<=m/\m<=16/\u<16 ^ m/\bytesOf s=dD m u/\Later w w'
theorem Nl (u:Nat) (w:World) (hu:u<18446744073709551616) (hg:9<w.heap.size) (h:w.cell? ⟨9,15,none⟩=some (.int .u8 4)):Calls Tryz.prog 96 #[.int .u64 (u:Int),.int .i64 16] w (H16 u w):=by
 have hB:=Js u w hu hg h
 have hA:Calls Tryz.prog 125 #[.int .u64 (u:Int),.int .i64 16] w (H16 u w):=by
  go_enter Tryz.func125,Tryz.ntmps125;go_wp2_with (go_at_call 151;refine hB.mono ?_;rintro e w2 ⟨s,m,rfl,h1,h2,h3,h4,h5⟩)
  have HB:Hid (H16 u w (.returned (.string s)) w2):=⟨s,m,rfl,h1,h2,h3,h4,h5⟩
  go_ret;exact HB.out
 clear hB;go_enter Tryz.func96,Tryz.ntmps96;go_wp2_with (go_at_call 125;refine hA.mono ?_;rintro e w2 ⟨s,m,rfl,h1,h2,h3,h4,h5⟩)
 have HB:Hid (H16 u w (.returned (.string s)) w2):=⟨s,m,rfl,h1,h2,h3,h4,h5⟩
 go_ret;exact HB.out
theorem Bc:∀ (m d u:Nat),u<16 ^ m->dD (m+d) u=List.replicate d 48++dD m u
 | m,0,u,_=>rfl
 | m,d+1,u,h=>by
  rw[<-Nat.add_assoc,Dn,Bc m d u h,List.replicate_succ];have:u / 16 ^ (m+d)=0:=Nat.div_eq_of_lt (Nat.lt_of_lt_of_le h (Nat.pow_le_pow_right (by decide) (by omega)));rw[this];rfl
theorem yQ (a b:ByteArray):bytesOf (a++b)=bytesOf a++bytesOf b:=by
 unfold bytesOf;rw[ByteArray.data_append,Array.toList_append,List.map_append]
theorem Kr (n:Int) (w:World) (hg:9<w.heap.size) (h:w.cell? ⟨9,15,none⟩=some (.int .u8 4)):Calls Tryz.prog 69 #[.int .i64 n] w (GY w (hexL n)):=by
 obtain⟨u,hu⟩:∃ u:Nat,(n % 18446744073709551616).toNat=u:=⟨_,rfl⟩
 have e1:IntKind.u64.wrap n=(u:Int):=by rw[IntKind.wrap_u64];omega
 have hu64:u<18446744073709551616:=by omega
 have eL:Hid (hexL n=[48,102]++dD 16 u):=by show hexL n=_;unfold hexL;rw[hu]
 have hF:=Nl u w hu64 hg h;clear hu h hg;go_enter Tryz.func69,Tryz.ntmps69;go_wp2_with fail
 refine hF.mono ?_;rintro e w2 ⟨s,m,rfl,h1,h2,h3,h4,h5⟩;have hsz:s.size=m:=by rw[<-yP,h4,iK]
 have hsm:(16:Int) - (m:Int)=((16 - m:Nat):Int):=by omega
 have hR:=Tryz.strings_Repeat ⟨#[48]⟩ (16 - m) w2 (by omega) (by show 1*(16 - m)<=_;omega);rw[<-hsm]at hR;have hm16:16=m+(16 - m):=by omega
 have hz:=Bc m (16 - m) u h3;rw[<-hm16]at hz;clear hsm hm16;go_wp2_with fail
 refine hR.mono ?_;rintro e w3 ⟨rfl,hw3⟩
 have HB:Hid (∀ s',bytesOf s'=[48,102]++List.replicate (16 - m) 48++bytesOf s->GY w (hexL n) (.returned (.string s')) w3):=fun s' hs'=>⟨s',rfl,by rw[hs',eL.out,hz,h4,List.append_assoc],h5.trans hw3⟩
 have hrep:∀ c,(repeatL [48] c).map (fun b=>(b.toNat:Int))=List.replicate c 48:=fun c=>by
  induction c with
  | zero=>rfl
  | succ c ih=>rw[repeatL,List.map_append,ih,List.replicate_succ];rfl
 have hrl:(repeatL [48] (16 - m)).length=16 - m:=by rw[repeatL_length];simp
 obtain⟨Z,hZ⟩:=dJ (⟨(repeatL [48] (16 - m)).toArray⟩:ByteArray);have hZs:Z.size<=16:=by rw[hZ.out];show (repeatL [48] (16 - m)).toArray.size<=16;rw[List.size_toArray,hrl];omega
 have hZb:Hid (bytesOf Z=List.replicate (16 - m) 48):=by show _=_;rw[hZ.out,<- hrep (16 - m)];unfold bytesOf;simp
 have HB':Hid (GY w (hexL n) (.returned (.string ((⟨#[48,102]⟩:ByteArray)++Z++s))) w3):=HB.out _ (by rw[yQ,yQ,hZb.out];rfl);have d1:¬ 9223372036854775807<2+Z.size:=by omega
 have d2:¬ 9223372036854775807<2+Z.size+m:=by omega
 clear hR hz h1 h3 hF HB hrep hrl;rw[<-hZ.out]
 generalize hQ:GY w (hexL n)=Q at *
 clear hQ;go_wp2_with fail
 exact HB'.out
end Go.Proofs.YtgaddpkkjebekaaGreatDoor
namespace Go.Proofs.YtgaddpkkjebekaaGreatDoor
open Go.RowKit
end Go.Proofs.YtgaddpkkjebekaaGreatDoor
namespace Go.Proofs.YtgaddpkkjebekaaGreatDoor
open Go.RowKit
end Go.Proofs.YtgaddpkkjebekaaGreatDoor
namespace Go.Proofs.YtgaddpkkjebekaaGreatDoor
open Go.RowKit
end Go.Proofs.YtgaddpkkjebekaaGreatDoor
namespace Go.Proofs.YtgaddpkkjebekaaGreatDoor
open Go.RowKit
end Go.Proofs.YtgaddpkkjebekaaGreatDoor
namespace Go.Proofs.YtgaddpkkjebekaaGreatDoor
open Go.RowKit
end Go.Proofs.YtgaddpkkjebekaaGreatDoor
namespace Go.Proofs.YtgaddpkkjebekaaGreatDoor
open Go.RowKit
end Go.Proofs.YtgaddpkkjebekaaGreatDoor
namespace Go.Proofs.YtgaddpkkjebekaaGreatDoor
open Go.RowKit
end Go.Proofs.YtgaddpkkjebekaaGreatDoor
namespace Go.Proofs.YtgaddpkkjebekaaGreatDoor
open Go.RowKit Go.Lib
def So.ok (x:So):Bool:=x.run.isSome&&decide (x.text.length<=6000)
theorem Vr {W:World}(nm:String) (hname:nm= "internal/strconv.uint64pow10") (hT:TabIs Tryz.prog W nm .u64 pow10Tab) (hb:9<W.heap.size) (hc:W.cell? ⟨9,15,none⟩=some (.int .u8 4)) (ho:5<W.heap.size) (hs:∀ i:Nat,i<7->∃ s,W.cell? ⟨5,i,none⟩=some (.string s)/\bytesOf s=opL i):Env W where
 ito:=fun n w hn hw=>J5 nm hname n w hn (tabBelow_of_tabIs hT w hw)
 flo:=fun n w _ hw=>Kr n w (Nat.lt_of_lt_of_le hb hw.size) (by rw[hw.cell (p:=⟨9,15,none⟩) hb];exact hc)
 ops:=hs
 big:=ho
theorem Env.later {W w:World}(h:Env W) (hw:Later W w):Env w where
 ito:=fun n w' hn hw'=>h.ito n w' hn (hw.trans hw')
 flo:=fun n w' hn hw'=>h.flo n w' hn (hw.trans hw')
 ops:=fun i hi=>by
  obtain⟨s,h1,h2⟩:=h.ops i hi;exact⟨s,by rw[hw.cell (p:=⟨5,i,none⟩) h.big];exact h1,h2⟩
 big:=Nat.lt_of_lt_of_le h.big hw.size
def OkP (b:Bool) (w:World) (e:Ending) (w':World):Prop:=e=.returned (.bool b)/\Later w w'
theorem J6 (x:So) (v0 v1:Value) (w:World) (hE:Env w) (hg:Fu.aZ x.funcs) (h0:RdL w 2 v0 (Sc.ah x.structs)) (h1:RdL w 5 v1 (Fu.ah x.funcs)) :
  Calls Tryz.prog 10 #[.agg #[v0,v1]] w (OkP x.ok w):=by
 have hP:=fun w' (l:Later w w')=>II x v0 v1 w' (hE.later l) hg (h0.later l) (h1.later l);obtain⟨sa,scap,rfl,hsl⟩:=Sc.slice h0;obtain⟨fa,fcap,rfl,hfl⟩:=Fu.slice h1
 have HY:Hid (∀ w',Later w w'->x.run.isSome=true->x.text.length<=6000->OkP x.ok w (.returned (.bool true)) w'):=fun w' l a b=>⟨by unfold So.ok;rw[a,decide_eq_true b];rfl,l⟩
 have HN:Hid (∀ w',Later w w'->¬ (x.run.isSome=true/\x.text.length<=6000)->OkP x.ok w (.returned (.bool false)) w'):=fun w' l a=>⟨by
  have:x.ok=false:=by
   unfold So.ok
   cases h:x.run.isSome
   ·rfl
   ·rw[Bool.true_and,decide_eq_false (fun q=>a ⟨h,q⟩)]
  rw[this],l⟩
 generalize hQ:OkP x.ok w=Q at *
 clear hQ h0 h1 hsl hfl;go_enter Tryz.func10,Tryz.ntmps10;go_wp2_with fail
 refine (hP _ (ae _ _)).mono ?_;rintro e w2 ⟨hl,⟨hr,h6,v,rfl,_⟩|⟨hn,rfl⟩⟩
 ·have HA:=HY.out w2 ((ae _ _).trans hl) hr h6;clear HY HN hP;go_wp2_with fail
  exact HA
 ·have HA:=HN.out w2 ((ae _ _).trans hl) hn;clear HY HN hP;go_wp2_with fail
  exact HA
end Go.Proofs.YtgaddpkkjebekaaGreatDoor
