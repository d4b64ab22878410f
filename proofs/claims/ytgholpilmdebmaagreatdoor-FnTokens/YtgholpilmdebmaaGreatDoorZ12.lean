import Derived.Test.YtgholpilmdebmaaGreatDoorProg
import Derived.Test.YtgholpilmdebmaaGreatDoorZ11
import Derived.Shelf.Strings.Builder1
import Derived.Shelf.Strings.Builder2
import Derived.Shelf.Strings.BuilderF
import Derived.Shelf.Strconv.Atoi
import Derived.Shelf.Strconv.Itoa0
import Derived.Shelf.Strconv.Itoa1
import Derived.Shelf.LaysM
import Derived.Shelf.Strconv.Itoa2
import Derived.Shelf.Strconv.Itoa3
import Derived.Shelf.Strconv.AtoiErrFast
import Derived.Shelf.Strconv.ParseIntEmpty
import Derived.Shelf.Strconv.AtoiFail
import Derived.Shelf.Strconv.Clone
import Derived.Shelf.Strconv.SyntaxError
import Derived.Shelf.LaysC
import Derived.Shelf.Strconv.ToError
import Derived.Shelf.Strconv.Lower
import Derived.Shelf.Strconv.ParseUint10
import Derived.Shelf.Strconv.ParseUint10Empty
import Derived.Shelf.Strconv.ParseUint10Any
import Derived.Shelf.Strconv.ParseInt10
import Derived.Shelf.Strconv.AtoiLong
import Derived.Shelf.Strconv.AtoiInnerAll
import Derived.Shelf.Strconv.RangeError
import Derived.Shelf.Strconv.ToErrorRange
import Derived.Shelf.Strconv.AtoiAll
import Derived.Shelf.Strings.Prefix
import Derived.Shelf.Bits.Mul64
import Derived.Shelf.Strings.Repeat
import Derived.Lib.AppendIntMem
set_option maxHeartbeats 100000000
set_option maxRecDepth 100000
namespace Go.Proofs
open Go.Shelf
def Tryz.laysM171_ren:Go.Shelf.Ren:=⟨fun|171=>29|243=>48|246=>73|283=>104|284=>105|285=>106|286=>107|129=>121|317=>120|318=>122|319=>123|320=>124|337=>133|338=>134|n=>n,fun|3=>3|9=>9|2=>2|4=>4|171=>152|0=>0|53=>59|37=>22|5=>5|173=>155|212=>174|51=>157|20=>20|213=>175|46=>113|232=>185|233=>186|n=>n,fun|17=>3|18=>5|19=>6|n=>n⟩
theorem Tryz.laysM171:Go.Proofs.LaysM.n171 Tryz.prog Tryz.laysM171_ren:={
 mixed:=by kernel_rfl
 f129:=Tryz.func121.trans (congrArg some (by kernel_rfl))
 f171:=Tryz.func29.trans (congrArg some (by kernel_rfl))
 f243:=Tryz.func48.trans (congrArg some (by kernel_rfl))
 f246:=Tryz.func73.trans (congrArg some (by kernel_rfl))
 f283:=Tryz.func104.trans (congrArg some (by kernel_rfl))
 f284:=Tryz.func105.trans (congrArg some (by kernel_rfl))
 f285:=Tryz.func106.trans (congrArg some (by kernel_rfl))
 f286:=Tryz.func107.trans (congrArg some (by kernel_rfl))
 f317:=Tryz.func120.trans (congrArg some (by kernel_rfl))
 f318:=Tryz.func122.trans (congrArg some (by kernel_rfl))
 f319:=Tryz.func123.trans (congrArg some (by kernel_rfl))
 f320:=Tryz.func124.trans (congrArg some (by kernel_rfl))
 f337:=Tryz.func133.trans (congrArg some (by kernel_rfl))
 f338:=Tryz.func134.trans (congrArg some (by kernel_rfl))
 t0:=Tryz.underlying0
 a0:=Tryz.isAgg0
 z0:=Tryz.sizeOf0
 v0:=Tryz.zeroValue0
 t2:=Tryz.underlying2
 a2:=Tryz.isAgg2
 z2:=Tryz.sizeOf2
 v2:=Tryz.zeroValue2
 t3:=Tryz.underlying3
 a3:=Tryz.isAgg3
 z3:=Tryz.sizeOf3
 v3:=Tryz.zeroValue3
 t4:=Tryz.underlying4
 a4:=Tryz.isAgg4
 z4:=Tryz.sizeOf4
 v4:=Tryz.zeroValue4
 t5:=Tryz.underlying5
 a5:=Tryz.isAgg5
 z5:=Tryz.sizeOf5
 v5:=Tryz.zeroValue5
 t9:=Tryz.underlying9
 a9:=Tryz.isAgg9
 z9:=Tryz.sizeOf9
 v9:=Tryz.zeroValue9
 t20:=Tryz.underlying20
 a20:=Tryz.isAgg20
 z20:=Tryz.sizeOf20
 v20:=Tryz.zeroValue20
 t37:=Tryz.underlying22
 a37:=Tryz.isAgg22
 z37:=Tryz.sizeOf22
 v37:=Tryz.zeroValue22
 t46:=Tryz.underlying113
 a46:=Tryz.isAgg113
 z46:=Tryz.sizeOf113
 v46:=Tryz.zeroValue113
 t51:=Tryz.underlying157
 a51:=Tryz.isAgg157
 z51:=Tryz.sizeOf157
 v51:=Tryz.zeroValue157
 t53:=Tryz.underlying59
 a53:=Tryz.isAgg59
 z53:=Tryz.sizeOf59
 v53:=Tryz.zeroValue59
 t171:=Tryz.underlying152
 a171:=Tryz.isAgg152
 z171:=Tryz.sizeOf152
 v171:=Tryz.zeroValue152
 t173:=Tryz.underlying155
 a173:=Tryz.isAgg155
 z173:=Tryz.sizeOf155
 v173:=Tryz.zeroValue155
 t212:=Tryz.underlying174
 a212:=Tryz.isAgg174
 z212:=Tryz.sizeOf174
 v212:=Tryz.zeroValue174
 t213:=Tryz.underlying175
 a213:=Tryz.isAgg175
 z213:=Tryz.sizeOf175
 t232:=Tryz.underlying185
 a232:=Tryz.isAgg185
 z232:=Tryz.sizeOf185
 v232:=Tryz.zeroValue185
 t233:=Tryz.underlying186
 a233:=Tryz.isAgg186
 z233:=Tryz.sizeOf186
 v233:=Tryz.zeroValue186
 g17:=by kernel_rfl
 g18:=by kernel_rfl
 g19:=by kernel_rfl
 i0:=by kernel_rfl
 i2:=by kernel_rfl
 i3:=by kernel_rfl
 i4:=by kernel_rfl
 i5:=by kernel_rfl
 i9:=by kernel_rfl
 i20:=by kernel_rfl
 i37:=by kernel_rfl
 i46:=by kernel_rfl
 i51:=by kernel_rfl
 i53:=by kernel_rfl
 i171:=by kernel_rfl
 i173:=by kernel_rfl
 i212:=by kernel_rfl
 i232:=by kernel_rfl
 i233:=by kernel_rfl
 m17:=by kernel_rfl
 m18:=by kernel_rfl
 m19:=by kernel_rfl }
open Go.RowKit Go.Sort Go.Lib in
theorem Tryz.strconv_Itoa (n:Int) (h0:-9223372036854775808≤n) (h1:n≤9223372036854775807) (w:World) (htab:Lib.TabIs Tryz.prog w "internal/strconv.uint64pow10" .u64 Lib.pow10Tab) :
  Calls Tryz.prog 29 #[.int .i64 n] w fun e w'=>e=.returned (.string ⟨(Lib.itoa n).toArray⟩)∧∃ k os,w'=grow (w.drewN k) os:=Any.strconv_Itoa Tryz.laysM171 n h0 h1 w htab
def Tryz.laysC245_ren:Go.Shelf.Ren:=⟨fun|245=>47|279=>69|280=>70|281=>71|282=>72|316=>102|171=>29|205=>103|243=>48|246=>73|283=>104|284=>105|285=>106|286=>107|129=>121|317=>120|318=>122|319=>123|320=>124|337=>133|338=>134|n=>n,fun|9=>9|3=>3|75=>53|167=>114|4=>4|168=>117|210=>150|37=>22|0=>0|127=>162|145=>171|143=>169|2=>2|171=>152|53=>59|5=>5|173=>155|212=>174|51=>157|20=>20|213=>175|46=>113|232=>185|233=>186|80=>130|n=>n,fun|15=>0|16=>1|17=>3|18=>5|19=>6|n=>n⟩
theorem Tryz.laysC245:Go.Proofs.LaysC.n245 Tryz.prog Tryz.laysC245_ren:={
 mixed:=by kernel_rfl
 f129:=Tryz.func121.trans (congrArg some (by kernel_rfl))
 f171:=Tryz.func29.trans (congrArg some (by kernel_rfl))
 f205:=Tryz.func103.trans (congrArg some (by kernel_rfl))
 f243:=Tryz.func48.trans (congrArg some (by kernel_rfl))
 f245:=Tryz.func47.trans (congrArg some (by kernel_rfl))
 f246:=Tryz.func73.trans (congrArg some (by kernel_rfl))
 f279:=Tryz.func69.trans (congrArg some (by kernel_rfl))
 f280:=Tryz.func70.trans (congrArg some (by kernel_rfl))
 f281:=Tryz.func71.trans (congrArg some (by kernel_rfl))
 f282:=Tryz.func72.trans (congrArg some (by kernel_rfl))
 f283:=Tryz.func104.trans (congrArg some (by kernel_rfl))
 f284:=Tryz.func105.trans (congrArg some (by kernel_rfl))
 f285:=Tryz.func106.trans (congrArg some (by kernel_rfl))
 f286:=Tryz.func107.trans (congrArg some (by kernel_rfl))
 f316:=Tryz.func102.trans (congrArg some (by kernel_rfl))
 f317:=Tryz.func120.trans (congrArg some (by kernel_rfl))
 f318:=Tryz.func122.trans (congrArg some (by kernel_rfl))
 f319:=Tryz.func123.trans (congrArg some (by kernel_rfl))
 f320:=Tryz.func124.trans (congrArg some (by kernel_rfl))
 f337:=Tryz.func133.trans (congrArg some (by kernel_rfl))
 f338:=Tryz.func134.trans (congrArg some (by kernel_rfl))
 t0:=Tryz.underlying0
 a0:=Tryz.isAgg0
 z0:=Tryz.sizeOf0
 v0:=Tryz.zeroValue0
 t2:=Tryz.underlying2
 a2:=Tryz.isAgg2
 z2:=Tryz.sizeOf2
 v2:=Tryz.zeroValue2
 t3:=Tryz.underlying3
 a3:=Tryz.isAgg3
 z3:=Tryz.sizeOf3
 v3:=Tryz.zeroValue3
 t4:=Tryz.underlying4
 a4:=Tryz.isAgg4
 z4:=Tryz.sizeOf4
 v4:=Tryz.zeroValue4
 t5:=Tryz.underlying5
 a5:=Tryz.isAgg5
 z5:=Tryz.sizeOf5
 v5:=Tryz.zeroValue5
 t9:=Tryz.underlying9
 a9:=Tryz.isAgg9
 z9:=Tryz.sizeOf9
 v9:=Tryz.zeroValue9
 t20:=Tryz.underlying20
 a20:=Tryz.isAgg20
 z20:=Tryz.sizeOf20
 v20:=Tryz.zeroValue20
 t37:=Tryz.underlying22
 a37:=Tryz.isAgg22
 z37:=Tryz.sizeOf22
 v37:=Tryz.zeroValue22
 t46:=Tryz.underlying113
 a46:=Tryz.isAgg113
 z46:=Tryz.sizeOf113
 v46:=Tryz.zeroValue113
 t51:=Tryz.underlying157
 a51:=Tryz.isAgg157
 z51:=Tryz.sizeOf157
 v51:=Tryz.zeroValue157
 t53:=Tryz.underlying59
 a53:=Tryz.isAgg59
 z53:=Tryz.sizeOf59
 v53:=Tryz.zeroValue59
 t75:=Tryz.underlying53
 a75:=Tryz.isAgg53
 z75:=Tryz.sizeOf53
 v75:=Tryz.zeroValue53
 t127:=Tryz.underlying162
 a127:=Tryz.isAgg162
 z127:=Tryz.sizeOf162
 v127:=Tryz.zeroValue162
 t143:=Tryz.underlying169
 a143:=Tryz.isAgg169
 z143:=Tryz.sizeOf169
 v143:=Tryz.zeroValue169
 t145:=Tryz.underlying171
 a145:=Tryz.isAgg171
 z145:=Tryz.sizeOf171
 v145:=Tryz.zeroValue171
 t167:=Tryz.underlying114
 a167:=Tryz.isAgg114
 z167:=Tryz.sizeOf114
 v167:=Tryz.zeroValue114
 t168:=Tryz.underlying117
 a168:=Tryz.isAgg117
 z168:=Tryz.sizeOf117
 v168:=Tryz.zeroValue117
 t171:=Tryz.underlying152
 a171:=Tryz.isAgg152
 z171:=Tryz.sizeOf152
 v171:=Tryz.zeroValue152
 t173:=Tryz.underlying155
 a173:=Tryz.isAgg155
 z173:=Tryz.sizeOf155
 v173:=Tryz.zeroValue155
 t210:=Tryz.underlying150
 a210:=Tryz.isAgg150
 z210:=Tryz.sizeOf150
 v210:=Tryz.zeroValue150
 t212:=Tryz.underlying174
 a212:=Tryz.isAgg174
 z212:=Tryz.sizeOf174
 v212:=Tryz.zeroValue174
 t213:=Tryz.underlying175
 a213:=Tryz.isAgg175
 z213:=Tryz.sizeOf175
 t232:=Tryz.underlying185
 a232:=Tryz.isAgg185
 z232:=Tryz.sizeOf185
 v232:=Tryz.zeroValue185
 t233:=Tryz.underlying186
 a233:=Tryz.isAgg186
 z233:=Tryz.sizeOf186
 v233:=Tryz.zeroValue186
 g15:=by kernel_rfl
 g16:=by kernel_rfl
 g17:=by kernel_rfl
 g18:=by kernel_rfl
 g19:=by kernel_rfl
 t80:=Tryz.underlying130
 a80:=Tryz.isAgg130
 z80:=Tryz.sizeOf130
 v80:=Tryz.zeroValue130
 i0:=by kernel_rfl
 i2:=by kernel_rfl
 i3:=by kernel_rfl
 i4:=by kernel_rfl
 i5:=by kernel_rfl
 i9:=by kernel_rfl
 i20:=by kernel_rfl
 i37:=by kernel_rfl
 i46:=by kernel_rfl
 i51:=by kernel_rfl
 i53:=by kernel_rfl
 i75:=by kernel_rfl
 i80:=by kernel_rfl
 i127:=by kernel_rfl
 i143:=by kernel_rfl
 i145:=by kernel_rfl
 i167:=by kernel_rfl
 i168:=by kernel_rfl
 i171:=by kernel_rfl
 i173:=by kernel_rfl
 i210:=by kernel_rfl
 i212:=by kernel_rfl
 i232:=by kernel_rfl
 i233:=by kernel_rfl
 m15:=by kernel_rfl
 m16:=by kernel_rfl
 m17:=by kernel_rfl
 m18:=by kernel_rfl
 m19:=by kernel_rfl
 c0:=by kernel_rfl
 c2:=by kernel_rfl
 c3:=by kernel_rfl
 c4:=by kernel_rfl
 c5:=by kernel_rfl
 c9:=by kernel_rfl
 c20:=by kernel_rfl
 c37:=by kernel_rfl
 c46:=by kernel_rfl
 c51:=by kernel_rfl
 c53:=by kernel_rfl
 c75:=by kernel_rfl
 c80:=by kernel_rfl
 c127:=by kernel_rfl
 c143:=by kernel_rfl
 c145:=by kernel_rfl
 c167:=by kernel_rfl
 c168:=by kernel_rfl
 c171:=by kernel_rfl
 c173:=by kernel_rfl
 c210:=by kernel_rfl
 c212:=by kernel_rfl
 c213:=by kernel_rfl
 c232:=by kernel_rfl
 c233:=by kernel_rfl }
open Go.RowKit in
theorem Tryz.strconv_toError_syntax (fn s:ByteArray) (base bits:Int) (ev:Value) (w:World) (hlim:s.size≤281474976710656) (hv:w.cell? ⟨0,0,none⟩=some ev) (hev:ev=.nilIface∨∃ te pe,ev=.iface te pe) :
  Calls Tryz.prog 47 #[.string fn,.string s,.int .i64 base,.int .i64 bits,.iface 114 (.int .i64 2)] w fun e w'=>∃ N,e=.returned (.iface 117 (.pointer (some ⟨N,0,none⟩)))∧w.heap.size≤N∧w'.heap[N]?=some (.cells #[.string fn,.string s,ev] 150 (0,0))∧Below w.heap.size w w':=Any.strconv_toError_syntax Tryz.laysC245 fn s base bits ev w hlim hv hev
def Tryz.lays321_ren:Go.Shelf.Ren:=⟨fun|321=>75|n=>n,fun|5=>5|n=>n,fun|n=>n⟩
theorem Tryz.lays321:Go.Proofs.Lays.n321 Tryz.prog Tryz.lays321_ren:={
 mixed:=by kernel_rfl
 f321:=Tryz.func75.trans (congrArg some (by kernel_rfl))
 t5:=Tryz.underlying5
 a5:=Tryz.isAgg5
 z5:=Tryz.sizeOf5
 v5:=Tryz.zeroValue5 }
open Go.RowKit in
theorem Tryz.internal_strconv_lower (c:Int) (w:World) :
  Calls Tryz.prog 75 #[.int .u8 c] w fun e w'=>e=.returned (.int .u8 (bits .or .u8 c 32))∧w'=w:=Any.internal_strconv_lower Tryz.lays321 c w
open Go.RowKit in
theorem Tryz.strconv_toError_range (fn s:ByteArray) (base bits:Int) (ev:Value) (w:World) (hlim:s.size≤281474976710656) (hv:w.cell? ⟨1,0,none⟩=some ev) (hev:ev=.nilIface∨∃ te pe,ev=.iface te pe) :
  Calls Tryz.prog 47 #[.string fn,.string s,.int .i64 base,.int .i64 bits,.iface 114 (.int .i64 1)] w fun e w'=>∃ N,e=.returned (.iface 117 (.pointer (some ⟨N,0,none⟩)))∧w.heap.size≤N∧w'.heap[N]?=some (.cells #[.string fn,.string s,ev] 150 (0,0))∧Below w.heap.size w w':=Any.strconv_toError_range Tryz.laysC245 fn s base bits ev w hlim hv hev
def Tryz.laysC172_ren:Go.Shelf.Ren:=⟨fun|172=>28|244=>46|245=>47|247=>68|279=>69|280=>70|281=>71|282=>72|287=>50|316=>102|171=>29|205=>103|321=>75|322=>76|243=>48|246=>73|283=>104|284=>105|285=>106|286=>107|129=>121|317=>120|318=>122|319=>123|320=>124|337=>133|338=>134|n=>n,fun|9=>9|3=>3|75=>53|76=>54|4=>4|5=>5|167=>114|37=>22|0=>0|85=>115|2=>2|168=>117|53=>59|175=>60|46=>113|210=>150|127=>162|145=>171|143=>169|21=>21|171=>152|173=>155|212=>174|51=>157|20=>20|213=>175|232=>185|233=>186|80=>130|n=>n,fun|15=>0|16=>1|17=>3|18=>5|19=>6|n=>n⟩
theorem Tryz.laysC172:Go.Proofs.LaysC.n172 Tryz.prog Tryz.laysC172_ren:={
 mixed:=by kernel_rfl
 f129:=Tryz.func121.trans (congrArg some (by kernel_rfl))
 f171:=Tryz.func29.trans (congrArg some (by kernel_rfl))
 f172:=Tryz.func28.trans (congrArg some (by kernel_rfl))
 f205:=Tryz.func103.trans (congrArg some (by kernel_rfl))
 f243:=Tryz.func48.trans (congrArg some (by kernel_rfl))
 f244:=Tryz.func46.trans (congrArg some (by kernel_rfl))
 f245:=Tryz.func47.trans (congrArg some (by kernel_rfl))
 f246:=Tryz.func73.trans (congrArg some (by kernel_rfl))
 f247:=Tryz.func68.trans (congrArg some (by kernel_rfl))
 f279:=Tryz.func69.trans (congrArg some (by kernel_rfl))
 f280:=Tryz.func70.trans (congrArg some (by kernel_rfl))
 f281:=Tryz.func71.trans (congrArg some (by kernel_rfl))
 f282:=Tryz.func72.trans (congrArg some (by kernel_rfl))
 f283:=Tryz.func104.trans (congrArg some (by kernel_rfl))
 f284:=Tryz.func105.trans (congrArg some (by kernel_rfl))
 f285:=Tryz.func106.trans (congrArg some (by kernel_rfl))
 f286:=Tryz.func107.trans (congrArg some (by kernel_rfl))
 f287:=Tryz.func50.trans (congrArg some (by kernel_rfl))
 f316:=Tryz.func102.trans (congrArg some (by kernel_rfl))
 f317:=Tryz.func120.trans (congrArg some (by kernel_rfl))
 f318:=Tryz.func122.trans (congrArg some (by kernel_rfl))
 f319:=Tryz.func123.trans (congrArg some (by kernel_rfl))
 f320:=Tryz.func124.trans (congrArg some (by kernel_rfl))
 f321:=Tryz.func75.trans (congrArg some (by kernel_rfl))
 f322:=Tryz.func76.trans (congrArg some (by kernel_rfl))
 f337:=Tryz.func133.trans (congrArg some (by kernel_rfl))
 f338:=Tryz.func134.trans (congrArg some (by kernel_rfl))
 t0:=Tryz.underlying0
 a0:=Tryz.isAgg0
 z0:=Tryz.sizeOf0
 v0:=Tryz.zeroValue0
 t2:=Tryz.underlying2
 a2:=Tryz.isAgg2
 z2:=Tryz.sizeOf2
 v2:=Tryz.zeroValue2
 t3:=Tryz.underlying3
 a3:=Tryz.isAgg3
 z3:=Tryz.sizeOf3
 v3:=Tryz.zeroValue3
 t4:=Tryz.underlying4
 a4:=Tryz.isAgg4
 z4:=Tryz.sizeOf4
 v4:=Tryz.zeroValue4
 t5:=Tryz.underlying5
 a5:=Tryz.isAgg5
 z5:=Tryz.sizeOf5
 v5:=Tryz.zeroValue5
 t9:=Tryz.underlying9
 a9:=Tryz.isAgg9
 z9:=Tryz.sizeOf9
 v9:=Tryz.zeroValue9
 t20:=Tryz.underlying20
 a20:=Tryz.isAgg20
 z20:=Tryz.sizeOf20
 v20:=Tryz.zeroValue20
 t21:=Tryz.underlying21
 a21:=Tryz.isAgg21
 z21:=Tryz.sizeOf21
 v21:=Tryz.zeroValue21
 t37:=Tryz.underlying22
 a37:=Tryz.isAgg22
 z37:=Tryz.sizeOf22
 v37:=Tryz.zeroValue22
 t46:=Tryz.underlying113
 a46:=Tryz.isAgg113
 z46:=Tryz.sizeOf113
 v46:=Tryz.zeroValue113
 t51:=Tryz.underlying157
 a51:=Tryz.isAgg157
 z51:=Tryz.sizeOf157
 v51:=Tryz.zeroValue157
 t53:=Tryz.underlying59
 a53:=Tryz.isAgg59
 z53:=Tryz.sizeOf59
 v53:=Tryz.zeroValue59
 t75:=Tryz.underlying53
 a75:=Tryz.isAgg53
 z75:=Tryz.sizeOf53
 v75:=Tryz.zeroValue53
 t76:=Tryz.underlying54
 a76:=Tryz.isAgg54
 z76:=Tryz.sizeOf54
 v76:=Tryz.zeroValue54
 t85:=Tryz.underlying115
 a85:=Tryz.isAgg115
 z85:=Tryz.sizeOf115
 v85:=Tryz.zeroValue115
 t127:=Tryz.underlying162
 a127:=Tryz.isAgg162
 z127:=Tryz.sizeOf162
 v127:=Tryz.zeroValue162
 t143:=Tryz.underlying169
 a143:=Tryz.isAgg169
 z143:=Tryz.sizeOf169
 v143:=Tryz.zeroValue169
 t145:=Tryz.underlying171
 a145:=Tryz.isAgg171
 z145:=Tryz.sizeOf171
 v145:=Tryz.zeroValue171
 t167:=Tryz.underlying114
 a167:=Tryz.isAgg114
 z167:=Tryz.sizeOf114
 v167:=Tryz.zeroValue114
 t168:=Tryz.underlying117
 a168:=Tryz.isAgg117
 z168:=Tryz.sizeOf117
 v168:=Tryz.zeroValue117
 t171:=Tryz.underlying152
 a171:=Tryz.isAgg152
 z171:=Tryz.sizeOf152
 v171:=Tryz.zeroValue152
 t173:=Tryz.underlying155
 a173:=Tryz.isAgg155
 z173:=Tryz.sizeOf155
 v173:=Tryz.zeroValue155
 t175:=Tryz.underlying60
 a175:=Tryz.isAgg60
 z175:=Tryz.sizeOf60
 v175:=Tryz.zeroValue60
 t210:=Tryz.underlying150
 a210:=Tryz.isAgg150
 z210:=Tryz.sizeOf150
 v210:=Tryz.zeroValue150
 t212:=Tryz.underlying174
 a212:=Tryz.isAgg174
 z212:=Tryz.sizeOf174
 v212:=Tryz.zeroValue174
 t213:=Tryz.underlying175
 a213:=Tryz.isAgg175
 z213:=Tryz.sizeOf175
 t232:=Tryz.underlying185
 a232:=Tryz.isAgg185
 z232:=Tryz.sizeOf185
 v232:=Tryz.zeroValue185
 t233:=Tryz.underlying186
 a233:=Tryz.isAgg186
 z233:=Tryz.sizeOf186
 v233:=Tryz.zeroValue186
 g15:=by kernel_rfl
 g16:=by kernel_rfl
 g17:=by kernel_rfl
 g18:=by kernel_rfl
 g19:=by kernel_rfl
 t80:=Tryz.underlying130
 a80:=Tryz.isAgg130
 z80:=Tryz.sizeOf130
 v80:=Tryz.zeroValue130
 i0:=by kernel_rfl
 i2:=by kernel_rfl
 i3:=by kernel_rfl
 i4:=by kernel_rfl
 i5:=by kernel_rfl
 i9:=by kernel_rfl
 i20:=by kernel_rfl
 i21:=by kernel_rfl
 i37:=by kernel_rfl
 i46:=by kernel_rfl
 i51:=by kernel_rfl
 i53:=by kernel_rfl
 i75:=by kernel_rfl
 i76:=by kernel_rfl
 i80:=by kernel_rfl
 i85:=by kernel_rfl
 i127:=by kernel_rfl
 i143:=by kernel_rfl
 i145:=by kernel_rfl
 i167:=by kernel_rfl
 i168:=by kernel_rfl
 i171:=by kernel_rfl
 i173:=by kernel_rfl
 i175:=by kernel_rfl
 i210:=by kernel_rfl
 i212:=by kernel_rfl
 i232:=by kernel_rfl
 i233:=by kernel_rfl
 m15:=by kernel_rfl
 m16:=by kernel_rfl
 m17:=by kernel_rfl
 m18:=by kernel_rfl
 m19:=by kernel_rfl
 c0:=by kernel_rfl
 c2:=by kernel_rfl
 c3:=by kernel_rfl
 c4:=by kernel_rfl
 c5:=by kernel_rfl
 c9:=by kernel_rfl
 c20:=by kernel_rfl
 c21:=by kernel_rfl
 c37:=by kernel_rfl
 c46:=by kernel_rfl
 c51:=by kernel_rfl
 c53:=by kernel_rfl
 c75:=by kernel_rfl
 c76:=by kernel_rfl
 c80:=by kernel_rfl
 c85:=by kernel_rfl
 c127:=by kernel_rfl
 c143:=by kernel_rfl
 c145:=by kernel_rfl
 c167:=by kernel_rfl
 c168:=by kernel_rfl
 c171:=by kernel_rfl
 c173:=by kernel_rfl
 c175:=by kernel_rfl
 c210:=by kernel_rfl
 c212:=by kernel_rfl
 c213:=by kernel_rfl
 c232:=by kernel_rfl
 c233:=by kernel_rfl }
open Go.RowKit in
theorem Tryz.strconv_Atoi_ok (s:ByteArray) (hmax:s.size≤9223372036854775806) (v:Int) (h:Lib.atoiAll s.data.toList=.ok v) (w:World) :
  Calls Tryz.prog 28 #[.string s] w fun e w'=>e=.returned (.tuple #[.int .i64 v,.nilIface])∧(w'=w∨∃ t,w'=Lib.bytesWorld w 5 t):=Any.strconv_Atoi_ok Tryz.laysC172 s hmax v h w
open Go.RowKit in
theorem Tryz.strconv_Atoi_syntax (s:ByteArray) (hlim:s.size≤281474976710656) (h:Lib.atoiAll s.data.toList=.«syntax») (ev:Value) (w:World) (hv:w.cell? ⟨0,0,none⟩=some ev) (hev:ev=.nilIface∨∃ te pe,ev=.iface te pe) :
  Calls Tryz.prog 28 #[.string s] w fun e w'=>∃ N,e=.returned (.tuple #[.int .i64 (0),.iface 117 (.pointer (some ⟨N,0,none⟩))])∧w.heap.size≤N∧w'.heap[N]?=some (.cells #[.string ⟨#[65,116,111,105]⟩,.string s,ev] 150 (0,0))∧Below w.heap.size w w':=Any.strconv_Atoi_syntax Tryz.laysC172 s hlim h ev w hv hev
open Go.RowKit in
theorem Tryz.strconv_Atoi_range (s:ByteArray) (hlim:s.size≤281474976710656) (h:Lib.atoiAll s.data.toList=.range) (ev:Value) (w:World) (hv:w.cell? ⟨1,0,none⟩=some ev) (hev:ev=.nilIface∨∃ te pe,ev=.iface te pe) :
  Calls Tryz.prog 28 #[.string s] w fun e w'=>∃ N,e=.returned (.tuple #[.int .i64 (Lib.atoiSat s.data.toList),.iface 117 (.pointer (some ⟨N,0,none⟩))])∧w.heap.size≤N∧w'.heap[N]?=some (.cells #[.string ⟨#[65,116,111,105]⟩,.string s,ev] 150 (0,0))∧Below w.heap.size w w':=Any.strconv_Atoi_range Tryz.laysC172 s hlim h ev w hv hev
def Tryz.lays206_ren:Go.Shelf.Ren:=⟨fun|206=>74|n=>n,fun|9=>9|4=>4|3=>3|n=>n,fun|n=>n⟩
theorem Tryz.lays206:Go.Proofs.Lays.n206 Tryz.prog Tryz.lays206_ren:={
 mixed:=by kernel_rfl
 f206:=Tryz.func74.trans (congrArg some (by kernel_rfl))
 t3:=Tryz.underlying3
 a3:=Tryz.isAgg3
 z3:=Tryz.sizeOf3
 v3:=Tryz.zeroValue3
 t4:=Tryz.underlying4
 a4:=Tryz.isAgg4
 z4:=Tryz.sizeOf4
 v4:=Tryz.zeroValue4
 t9:=Tryz.underlying9
 a9:=Tryz.isAgg9
 z9:=Tryz.sizeOf9
 v9:=Tryz.zeroValue9 }
open Go.RowKit Go.Lib in
theorem Tryz.stringslite_HasPrefix (s p:ByteArray) (w:World) :
  Calls Tryz.prog 74 #[.string s,.string p] w fun e w'=>e=.returned (.bool (Lib.hasPrefix s.data.toList p.data.toList))∧w'=w:=Any.stringslite_HasPrefix Tryz.lays206 s p w
def Tryz.lays105_ren:Go.Shelf.Ren:=⟨fun|105=>52|212=>78|99=>79|165=>80|166=>81|170=>82|169=>83|263=>108|264=>109|206=>74|240=>110|241=>111|276=>125|277=>126|n=>n,fun|9=>9|3=>3|4=>4|20=>20|0=>0|46=>113|109=>123|5=>5|72=>127|76=>54|51=>157|146=>158|53=>59|148=>160|70=>125|37=>22|75=>53|127=>162|164=>177|80=>130|n=>n,fun|n=>n⟩
theorem Tryz.lays105:Go.Proofs.Lays.n105 Tryz.prog Tryz.lays105_ren:={
 mixed:=by kernel_rfl
 f99:=Tryz.func79.trans (congrArg some (by kernel_rfl))
 f105:=Tryz.func52.trans (congrArg some (by kernel_rfl))
 f165:=Tryz.func80.trans (congrArg some (by kernel_rfl))
 f166:=Tryz.func81.trans (congrArg some (by kernel_rfl))
 f169:=Tryz.func83.trans (congrArg some (by kernel_rfl))
 f170:=Tryz.func82.trans (congrArg some (by kernel_rfl))
 f206:=Tryz.func74.trans (congrArg some (by kernel_rfl))
 f212:=Tryz.func78.trans (congrArg some (by kernel_rfl))
 f240:=Tryz.func110.trans (congrArg some (by kernel_rfl))
 f241:=Tryz.func111.trans (congrArg some (by kernel_rfl))
 f263:=Tryz.func108.trans (congrArg some (by kernel_rfl))
 f264:=Tryz.func109.trans (congrArg some (by kernel_rfl))
 f276:=Tryz.func125.trans (congrArg some (by kernel_rfl))
 f277:=Tryz.func126.trans (congrArg some (by kernel_rfl))
 t0:=Tryz.underlying0
 a0:=Tryz.isAgg0
 z0:=Tryz.sizeOf0
 v0:=Tryz.zeroValue0
 t3:=Tryz.underlying3
 a3:=Tryz.isAgg3
 z3:=Tryz.sizeOf3
 v3:=Tryz.zeroValue3
 t4:=Tryz.underlying4
 a4:=Tryz.isAgg4
 z4:=Tryz.sizeOf4
 v4:=Tryz.zeroValue4
 t5:=Tryz.underlying5
 a5:=Tryz.isAgg5
 z5:=Tryz.sizeOf5
 v5:=Tryz.zeroValue5
 t9:=Tryz.underlying9
 a9:=Tryz.isAgg9
 z9:=Tryz.sizeOf9
 v9:=Tryz.zeroValue9
 t20:=Tryz.underlying20
 a20:=Tryz.isAgg20
 z20:=Tryz.sizeOf20
 v20:=Tryz.zeroValue20
 t37:=Tryz.underlying22
 a37:=Tryz.isAgg22
 z37:=Tryz.sizeOf22
 v37:=Tryz.zeroValue22
 t46:=Tryz.underlying113
 a46:=Tryz.isAgg113
 z46:=Tryz.sizeOf113
 v46:=Tryz.zeroValue113
 t51:=Tryz.underlying157
 a51:=Tryz.isAgg157
 z51:=Tryz.sizeOf157
 v51:=Tryz.zeroValue157
 t53:=Tryz.underlying59
 a53:=Tryz.isAgg59
 z53:=Tryz.sizeOf59
 v53:=Tryz.zeroValue59
 t70:=Tryz.underlying125
 a70:=Tryz.isAgg125
 z70:=Tryz.sizeOf125
 v70:=Tryz.zeroValue125
 t72:=Tryz.underlying127
 a72:=Tryz.isAgg127
 z72:=Tryz.sizeOf127
 v72:=Tryz.zeroValue127
 t75:=Tryz.underlying53
 a75:=Tryz.isAgg53
 z75:=Tryz.sizeOf53
 v75:=Tryz.zeroValue53
 t76:=Tryz.underlying54
 a76:=Tryz.isAgg54
 z76:=Tryz.sizeOf54
 v76:=Tryz.zeroValue54
 t109:=Tryz.underlying123
 a109:=Tryz.isAgg123
 z109:=Tryz.sizeOf123
 v109:=Tryz.zeroValue123
 t127:=Tryz.underlying162
 a127:=Tryz.isAgg162
 z127:=Tryz.sizeOf162
 v127:=Tryz.zeroValue162
 t146:=Tryz.underlying158
 a146:=Tryz.isAgg158
 z146:=Tryz.sizeOf158
 v146:=Tryz.zeroValue158
 t148:=Tryz.underlying160
 a148:=Tryz.isAgg160
 z148:=Tryz.sizeOf160
 v148:=Tryz.zeroValue160
 t164:=Tryz.underlying177
 a164:=Tryz.isAgg177
 z164:=Tryz.sizeOf177
 v164:=Tryz.zeroValue177 }
theorem Tryz.Builder_Extra_105:Builder.Extra Tryz.prog Tryz.lays105_ren:={
 sizeBuilder:=by kernel_rfl
 liesBuilder:=by kernel_rfl
 t5:=Tryz.underlying5
 a5:=Tryz.isAgg5
 z5:=Tryz.sizeOf5
 v5:=Tryz.zeroValue5
 infoByte:=by kernel_rfl
 cellsByte:=by kernel_rfl
 sizeByte:=by kernel_rfl
 neB5:=by decide }
open Go.RowKit Go.Lib in
theorem Tryz.strings_Repeat (s:ByteArray) (c:Nat) (w:World) (hc:c≤9223372036854775807) (hlen:s.size*c≤140737488355328) :
  Calls Tryz.prog 52 #[.string s,.int .i64 c] w fun e w'=>e=.returned (.string ⟨(Lib.repeatL s.data.toList c).toArray⟩)∧Below w.heap.size w w':=Any.strings_Repeat Tryz.lays105 Tryz.Builder_Extra_105 s c w hc hlen
end Go.Proofs
namespace Go.Proofs.YtgholpilmdebmaaGreatDoor
open Go.RowKit Go.Lib
theorem digF_dec:∀ (f u:Nat),u<10 ^ f→1≤f→digF f u=(decDigits u).map fun b=>(b.toNat:Int)
 | 0,u,_,h=>absurd h (by omega)
 | f+1,u,hu,_=>by
  rw[digF,decDigits];by_cases h:u<10
  ·rw[if_pos h,dif_pos h,List.map_cons,List.map_nil,UInt8.toNat_ofNat']
   congr 1
   omega
  ·rw[if_neg h,dif_neg h,List.map_append,List.map_cons,List.map_nil,UInt8.toNat_ofNat']
   have hf:1≤f:=by
    rcases Nat.eq_zero_or_pos f with h0|h0
    ·rw[h0]at hu;simp at hu;omega
    ·exact h0
   rw[digF_dec f (u / 10) (by rw[Nat.pow_succ]at hu;omega) hf]
   congr 2
   omega
theorem bytes_itoa (n:Int) (hn:InR n):bytesOf ⟨(itoa n).toArray⟩=decL n:=by
 unfold InR at hn;show ((itoa n).toArray.toList.map fun b=>(b.toNat:Int))=_;rw[List.toList_toArray];unfold itoa decL;by_cases h:n<0
 ·rw[if_pos h,if_pos h,List.map_cons,digF_dec 20 _ (by have:(10:Nat) ^ 20=100000000000000000000:=(by decide);omega) (by decide)];have:n.natAbs=(-n).toNat:=by omega
  rw[this];rfl
 ·rw[if_neg h,if_neg h,digF_dec 20 _ (by have:(10:Nat) ^ 20=100000000000000000000:=(by decide);omega) (by decide)]
theorem later_grow (w:World) (k:Nat) (os:Array Obj):Later w (Sort.grow (w.drewN k) os):=by
 refine⟨rfl,rfl,rfl,?_,fun b hb=>?_⟩
 ·show w.heap.size≤(w.heap++os).size;simp
 ·show (w.heap++os)[b]?=w.heap[b]?;rw[Array.getElem?_append_left hb]
theorem ito_any (nm:String) (hname:nm= "internal/strconv.uint64pow10") (n:Int) (w:World) (hn:InR n) (ht:TabIs Tryz.prog w nm .u64 pow10Tab):Calls Tryz.prog 29 #[.int .i64 n] w (StrL w (decL n)):=by
 subst hname;refine (Tryz.strconv_Itoa n hn.1 hn.2 w ht).mono ?_;rintro e w' ⟨rfl,k,os,rfl⟩;exact⟨_,rfl,bytes_itoa n hn,later_grow w k os⟩
theorem tz_16 (w:World) (h:w.cell? ⟨6,15,none⟩=some (.int .u8 4)):Calls Tryz.prog 124 #[.int .u64 16] w fun e w'=>e=.returned (.int .i64 4)∧w'=w:=by
 have e1:IntKind.u64.wrap (bits .and .u64 16 (IntKind.u64.wrap (-16))*285870213051353865) / 288230376151711744=15:=by decide
 have hA:Calls Tryz.prog 134 #[.int .u64 16] w fun e w'=>e=.returned (.int .i64 4)∧w'=w:=by
  go_enter Tryz.func134,Tryz.ntmps134;go_wp2_with fail
  go_ret;exact⟨rfl,rfl⟩
 clear e1 h;go_enter Tryz.func124,Tryz.ntmps124;go_wp2_with (go_at_call 134;refine hA.mono ?_;rintro e w2 ⟨rfl,hw⟩;obtain rfl:=hw.symm)
 go_ret;exact⟨rfl,rfl⟩
theorem pow_16 (w:World):Calls Tryz.prog 123 #[.int .i64 16] w fun e w'=>e=.returned (.bool true)∧w'=w:=by
 have e1:bits .and .i64 16 15=0:=by decide
 go_enter Tryz.func123,Tryz.ntmps123;go_wp2_with fail
 go_ret;exact⟨rfl,rfl⟩
theorem hexF_cons (k u:Nat):hexF (k+1) u=hexD (u / 16 ^ k % 16)::hexF k u:=by
 induction k generalizing u with
 | zero=>rw[hexF,hexF,hexF,Nat.pow_zero,Nat.div_one];rfl
 | succ k ih=>rw[hexF,ih,hexF,Nat.div_div_eq_div_mul,Nat.pow_succ,Nat.mul_comm];rfl
theorem hex36:∀ (D:Nat) (h:D<36),D<16→((((⟨#[48,49,50,51,52,53,54,55,56,57,97,98,99,100,101,102,103,104,105,106,107,108,109,110,111,112,113,114,115,116,117,118,119,120,121,122]⟩:ByteArray)[D]'h).toNat:Nat):Int)=hexD D:=by
 intro D h _;obtain rfl|rfl|rfl|rfl|rfl|rfl|rfl|rfl|rfl|rfl|rfl|rfl|rfl|rfl|rfl|rfl:D=0∨D=1∨D=2∨D=3∨D=4∨D=5∨D=6∨D=7∨D=8∨D=9∨D=10∨D=11∨D=12∨D=13∨D=14∨D=15:=by omega
 all_goals rfl
def Tail16 (C:Array Value) (p:Nat) (zs:List Int):Prop:=C.size=65∧p+zs.length=65∧∀ j z,zs[j]?=some z→C[p+j]?=some (.int .u8 z)
theorem Tail16.put {C:Array Value}{p:Nat}{zs:List Int}(h:Tail16 C (p+1) zs) (z:Int):Tail16 (C.setIfInBounds p (.int .u8 z)) p (z::zs):=by
 obtain⟨h1,h2,h3⟩:=h;refine⟨by simpa using h1,by rw[List.length_cons];omega,fun j y hy=>?_⟩
 cases j with
 | zero =>
  have:z=y:=by simpa using hy
  subst this;rw[Nat.add_zero,Array.getElem?_setIfInBounds_self_of_lt (by omega)]
 | succ j =>
  have hy':zs[j]?=some y:=by simpa using hy
  rw[Array.getElem?_setIfInBounds_ne (by omega),show p+(j+1)=p+1+j by omega];exact h3 j y hy'
structure Row16 (w wr:World) (p:Nat) (zs:List Int):Prop where
 lat:Later w wr
 row:∃ C,wr.heap[w.heap.size]?=some (.cells C 175)∧Tail16 C p zs
theorem Row16.old {w wr:World}{p:Nat}{zs:List Int}(h:Row16 w wr (p+1) zs):∃ u,wr.cell? ⟨w.heap.size,p,none⟩=some u∧wr.frozen? ⟨w.heap.size,p,none⟩=false:=by
 obtain⟨_,C,hr,h1,h2,_⟩:=h;have hp:p<C.size:=by omega
 refine⟨C[p],?_,?_⟩
 ·show (match wr.heap[w.heap.size]? with|some (.cells c _ _)=>c[p]?|_=>none)=some C[p];rw[hr];exact Array.getElem?_eq_getElem hp
 ·simp[World.frozen?,hr]
theorem Row16.put {w wr:World}{p:Nat}{zs:List Int}(h:Row16 w wr (p+1) zs) (z:Int):Row16 w (wr.setCell ⟨w.heap.size,p,none⟩ (.int .u8 z)) p (z::zs):=by
 obtain⟨hl,C,hr,hT⟩:=h;refine⟨hl.trans' (v:=.slice (some ⟨w.heap.size,0,none⟩) 0 0) (set_grown wr w.heap.size p (.int .u8 z)) (fun b e=>by cases e;exact Nat.le_refl _),_,heap_setCell_same wr w.heap.size p _ _ (.int .u8 z) hr,hT.put z⟩
theorem Row16.cells {w wr:World}{p:Nat}{zs:List Int}(h:Row16 w wr p zs):∀ i,i<zs.length→wr.cell? ⟨w.heap.size,p+i,none⟩=some (.int .u8 (zs.getD i 0)):=by
 intro i hi;obtain⟨_,C,hr,_,_,h3⟩:=h;show (match wr.heap[w.heap.size]? with|some (.cells c _ _)=>c[p+i]?|_=>none)=_;rw[hr];refine h3 i _ ?_;rw[List.getD_eq_getElem?_getD,List.getElem?_eq_getElem hi];rfl
theorem hexF_byte:∀ (k u:Nat),∀ z∈hexF k u,0≤z∧z≤255
 | 0,_,z,h=>by simp[hexF]at h
 | k+1,u,z,h=>by
  rw[hexF,List.mem_append]at h;rcases h with h|h
  ·exact hexF_byte k _ z h
  ·have:z=hexD (u % 16):=by simpa using h
   rw[this];unfold hexD;split <;> omega
def F16 (u:Nat) (w:World) (e:Ending) (w':World):Prop:=∃ s m,e=.returned (.tuple #[.slice none 0 0,.string s])∧1≤m∧m≤16∧u<16 ^ m∧bytesOf s=hexF m u∧Later w w'
theorem bits16_any (u:Nat) (w:World) (hu:u<18446744073709551616) (hg:6<w.heap.size) (h:w.cell? ⟨6,15,none⟩=some (.int .u8 4)):Calls Tryz.prog 107 #[.slice none 0 0,.int .u64 (u:Int),.int .i64 16,.bool false,.bool false] w (F16 u w):=by
 have hq:∀ o,(w.alloc o).cell? ⟨6,15,none⟩=some (.int .u8 4):=fun o=>by rw[(later1 w o).cell (p:=⟨6,15,none⟩) hg];exact h
 have HQ:Hid _:=hq;clear hq h;have H16:Hid (u<16 ^ 16):=by show u<16 ^ 16;have:(16:Nat) ^ 16=18446744073709551616:=(by decide);omega
 have HFQ:Hid (∀ e w',F16 u w e w'→F16 u w e w'):=fun _ _ h=>h
 generalize hQ:F16 u w=Q at HFQ ⊢
 have HFQ':Hid (∀ e w',F16 u w e w'→Q e w'):=fun e w' h=>by rw[←hQ];exact h
 clear hQ HFQ;go_enter Tryz.func107,Tryz.ntmps107;go_wp2_with (first|(go_at_call 124;refine (tz_16 _ (HQ.out _)).mono ?_;rintro e w2 ⟨rfl,hw⟩;obtain rfl:=hw.symm)|(go_at_call 123;refine (pow_16 _).mono ?_;rintro e w2 ⟨rfl,hw⟩;obtain rfl:=hw.symm))
 go_loopw [1,13] (fun uu i wr=>∃ (k p:Nat),uu=.int .u64 ((u / 16 ^ k:Nat):Int)∧i=.int .i64 (p:Int)∧k≤15∧Row16 w wr p (hexF k u)) (fun uu _ _=>(RowKit.intOf uu).toNat)
 case atStart=>exact⟨0,65,by rw[Nat.pow_zero,Nat.div_one],rfl,by omega,later1 _ _,_,(by show (w.heap.push _)[w.heap.size]?=_;simp;rfl),rfl,rfl,fun j z hz=>by simp[hexF]at hz⟩
 case round =>
  obtain⟨k,p,rfl,rfl,hk,hR⟩:=hrel;have hlen:p+k=65:=by obtain⟨_,C,_,_,h2,_⟩:=hR;rw[zbd]at h2;exact h2
  obtain⟨q,rfl⟩:∃ q,p=q+1:=⟨p - 1,by omega⟩
  have hx64:u / 16 ^ k<18446744073709551616:=Nat.lt_of_le_of_lt (Nat.div_le_self _ _) hu;have hstep:=hexF_cons k u;obtain⟨v0,c0,f0⟩:=hR.old;by_cases hge:16≤u / 16 ^ k
  ·have i1:(16:Int)≤((u / 16 ^ k:Nat):Int):=by omega
   have hk15:k+1≤15:=by
    rcases Nat.lt_or_ge k 15 with h|h
    ·exact h
    ·exfalso
     have:k=15:=by omega
     subst this;have h1:=H16.out;have h2:(16:Nat) ^ 16=16 ^ 15*16:=by decide
     rw[h2]at h1;have:=Nat.div_lt_of_lt_mul h1;omega
   obtain⟨D,hD,hD16,hDe⟩:∃ D:Nat,bits .and .u64 ((u / 16 ^ k:Nat):Int) 15=(D:Int)∧D<16∧Hid (D=u / 16 ^ k % 16):=⟨u / 16 ^ k % 16,by
    have h2:=bits_and_u64_nat (u / 16 ^ k) 15 hx64 (by decide);rw[show ((15:Nat):Int)=15 from rfl]at h2
    rw[h2,show (15:Nat)=2 ^ 4 - 1 from rfl,Nat.and_two_pow_sub_one_eq_mod],Nat.mod_lt _ (by decide),rfl⟩
   have hlit:=hex36 D (by omega) hD16;have hdd:Hid (u / 16 ^ (k+1)=u / 16 ^ k / 16):=by show _=_;rw[Nat.pow_succ,← Nat.div_div_eq_div_mul]
   have HT:Hid (Row16 w (wr.setCell ⟨w.heap.size,q,none⟩ (.int .u8 (hexD D))) q (hexF (k+1) u)):=by show Row16 _ _ _ _;rw[hstep,← hDe.out];exact hR.put _
   have hX':∃ X,Hid (X=u / 16 ^ k):=⟨_,rfl⟩
   obtain⟨X,hX⟩:=hX';rw[←hX.out]at i1 hD hx64 hdd ⊢;clear hstep hge;go_wp2_with fail
   refine⟨⟨k+1,q,by rw[hdd.out,Int.natCast_ediv];rfl,rfl,hk15,HT.out⟩,?_⟩;simp only[RowKit.intOf];omega
  ·have i1:¬ (16:Int)≤((u / 16 ^ k:Nat):Int):=by omega
   have hu16:Hid (u<16 ^ (k+1)):=by
    show u<16 ^ (k+1);have h3:=(Nat.div_lt_iff_lt_mul (Nat.pow_pos (n:=k) (show 0<16 by decide))).1 (show u / 16 ^ k<16 by omega);rw[Nat.pow_succ,Nat.mul_comm];exact h3
   have hR1:Row16 w (wr.setCell ⟨w.heap.size,q,none⟩ (.int .u8 (hexD (u / 16 ^ k)))) q (hexF (k+1) u):=by
    rw[hstep,Nat.mod_eq_of_lt (show u / 16 ^ k<16 by omega)];exact hR.put _
   have hlm:(hexF (k+1) u).length=k+1:=zbd _ _;have hlq:65 - q=k+1:=by omega
   have hlq':(65:Int) - (q:Int)=((k+1:Nat):Int):=by omega
   have cv:∀ c,(convert 22 9 (.slice (some ⟨w.heap.size,q,none⟩) (65 - q) c)).run Tryz.prog (wr.setCell ⟨w.heap.size,q,none⟩ (.int .u8 (hexD (u / 16 ^ k))))=.ok (.string (strOfNums (hexF (k+1) u))) (wr.setCell ⟨w.heap.size,q,none⟩ (.int .u8 (hexD (u / 16 ^ k)))):=fun c=>by
    rw[hlq];exact run_convert_bytes_arg _ 22 5 Tryz.underlying22 Tryz.underlying5 w.heap.size q (k+1) c (hexF (k+1) u) hlm (fun i hi=>hR1.cells i (by omega)) 9 Tryz.underlying9
   have HB:Hid (Q (.returned (.tuple #[.slice none 0 0,.string (strOfNums (hexF (k+1) u))])) (wr.setCell ⟨w.heap.size,q,none⟩ (.int .u8 (hexD (u / 16 ^ k))))):=HFQ'.out _ _ ⟨_,k+1,rfl,by omega,by omega,hu16.out,bytesOf_nums _ (hexF_byte _ _),hR1.lat⟩;obtain⟨X,hX⟩:=zbi (u / 16 ^ k);obtain⟨Z,hZ⟩:=zbi (strOfNums (hexF (k+1) u));rw[←hZ.out]at cv HB;rw[←hX.out]at i1 cv HB hx64 ⊢;have hX16:X<16:=by omega
   have hlit:=hex36 X (by omega) hX16;have hq65:(q:Int)≤65:=by omega
   have hqn:¬ 65=q:=by omega
   clear hstep hge hR1 hR hlq hlq';go_wp2_with fail
   exact HB.out
def H16 (u:Nat) (w:World) (e:Ending) (w':World):Prop:=∃ s m,e=.returned (.string s)∧1≤m∧m≤16∧u<16 ^ m∧bytesOf s=hexF m u∧Later w w'
theorem fuint_any (u:Nat) (w:World) (hu:u<18446744073709551616) (hg:6<w.heap.size) (h:w.cell? ⟨6,15,none⟩=some (.int .u8 4)):Calls Tryz.prog 51 #[.int .u64 (u:Int),.int .i64 16] w (H16 u w):=by
 have hB:=bits16_any u w hu hg h
 have hA:Calls Tryz.prog 77 #[.int .u64 (u:Int),.int .i64 16] w (H16 u w):=by
  go_enter Tryz.func77,Tryz.ntmps77;go_wp2_with (go_at_call 107;refine hB.mono ?_;rintro e w2 ⟨s,m,rfl,h1,h2,h3,h4,h5⟩)
  have HB:Hid (H16 u w (.returned (.string s)) w2):=⟨s,m,rfl,h1,h2,h3,h4,h5⟩
  go_ret;exact HB.out
 clear hB;go_enter Tryz.func51,Tryz.ntmps51;go_wp2_with (go_at_call 77;refine hA.mono ?_;rintro e w2 ⟨s,m,rfl,h1,h2,h3,h4,h5⟩)
 have HB:Hid (H16 u w (.returned (.string s)) w2):=⟨s,m,rfl,h1,h2,h3,h4,h5⟩
 go_ret;exact HB.out
theorem hexF_zeros:∀ (m d u:Nat),u<16 ^ m→hexF (m+d) u=List.replicate d 48++hexF m u
 | m,0,u,_=>rfl
 | m,d+1,u,h=>by
  rw[←Nat.add_assoc,hexF_cons,hexF_zeros m d u h,List.replicate_succ];have:u / 16 ^ (m+d)=0:=Nat.div_eq_of_lt (Nat.lt_of_lt_of_le h (Nat.pow_le_pow_right (by decide) (by omega)));rw[this];rfl
theorem bytesOf_app (a b:ByteArray):bytesOf (a++b)=bytesOf a++bytesOf b:=by
 unfold bytesOf;rw[ByteArray.data_append,Array.toList_append,List.map_append]
theorem flo_any (n:Int) (w:World) (hg:6<w.heap.size) (h:w.cell? ⟨6,15,none⟩=some (.int .u8 4)):Calls Tryz.prog 32 #[.int .i64 n] w (StrL w (hexL n)):=by
 obtain⟨u,hu⟩:∃ u:Nat,(n % 18446744073709551616).toNat=u:=⟨_,rfl⟩
 have e1:IntKind.u64.wrap n=(u:Int):=by rw[IntKind.wrap_u64];omega
 have hu64:u<18446744073709551616:=by omega
 have eL:Hid (hexL n=[48,102]++hexF 16 u):=by show hexL n=_;unfold hexL;rw[hu]
 have hF:=fuint_any u w hu64 hg h;clear hu h hg;go_enter Tryz.func32,Tryz.ntmps32;go_wp2_with fail
 refine hF.mono ?_;rintro e w2 ⟨s,m,rfl,h1,h2,h3,h4,h5⟩;have hsz:s.size=m:=by rw[←bytesOf_len,h4,zbd]
 have hsm:(16:Int) - (m:Int)=((16 - m:Nat):Int):=by omega
 have hR:=Tryz.strings_Repeat ⟨#[48]⟩ (16 - m) w2 (by omega) (by show 1*(16 - m)≤_;omega);rw[←hsm]at hR;have hm16:16=m+(16 - m):=by omega
 have hz:=hexF_zeros m (16 - m) u h3;rw[←hm16]at hz;clear hsm hm16;go_wp2_with fail
 refine hR.mono ?_;rintro e w3 ⟨rfl,hw3⟩
 have HB:Hid (∀ s',bytesOf s'=[48,102]++List.replicate (16 - m) 48++bytesOf s→StrL w (hexL n) (.returned (.string s')) w3):=fun s' hs'=>⟨s',rfl,by rw[hs',eL.out,hz,h4,List.append_assoc],h5.trans hw3⟩
 have hrep:∀ c,(repeatL [48] c).map (fun b=>(b.toNat:Int))=List.replicate c 48:=fun c=>by
  induction c with
  | zero=>rfl
  | succ c ih=>rw[repeatL,List.map_append,ih,List.replicate_succ];rfl
 have hrl:(repeatL [48] (16 - m)).length=16 - m:=by rw[repeatL_length];simp
 obtain⟨Z,hZ⟩:=zbi (⟨(repeatL [48] (16 - m)).toArray⟩:ByteArray);have hZs:Z.size≤16:=by rw[hZ.out];show (repeatL [48] (16 - m)).toArray.size≤16;rw[List.size_toArray,hrl];omega
 have hZb:Hid (bytesOf Z=List.replicate (16 - m) 48):=by show _=_;rw[hZ.out,← hrep (16 - m)];unfold bytesOf;simp
 have HB':Hid (StrL w (hexL n) (.returned (.string ((⟨#[48,102]⟩:ByteArray)++Z++s))) w3):=HB.out _ (by rw[bytesOf_app,bytesOf_app,hZb.out];rfl);have d1:¬ 9223372036854775807<2+Z.size:=by omega
 have d2:¬ 9223372036854775807<2+Z.size+m:=by omega
 clear hR hz h1 h3 hF HB hrep hrl;rw[←hZ.out]
 generalize hQ:StrL w (hexL n)=Q at *
 clear hQ;go_wp2_with fail
 exact HB'.out
end Go.Proofs.YtgholpilmdebmaaGreatDoor
