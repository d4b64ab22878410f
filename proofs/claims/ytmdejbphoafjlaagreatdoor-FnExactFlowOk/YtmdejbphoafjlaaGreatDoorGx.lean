/- My texts Shelf, T61, T62 in one. -/
import Derived.Test.YtmdejbphoafjlaaGreatDoorProg
import Derived.Test.YtmdejbphoafjlaaGreatDoorGu
import Derived.Shelf.Strings.Builder1
import Derived.Shelf.Strings.Builder2
import Derived.Shelf.Strings.BuilderF
import Derived.Shelf.Strconv.Itoa0
import Derived.Shelf.Strconv.Itoa1
import Derived.Shelf.LaysM
import Derived.Shelf.Strconv.Itoa2
import Derived.Shelf.Strconv.Itoa3
import Derived.Shelf.Strings.Prefix
import Derived.Shelf.Bits.Mul64
import Derived.Shelf.Strings.Repeat
import Derived.Lib.AppendIntMem
set_option maxHeartbeats 100000000
set_option maxRecDepth 100000
namespace Go.Proofs
open Go.Shelf
def Tryz.laysM171_ren:Go.Shelf.Ren:=⟨fun|171=>194|243=>200|246=>206|283=>216|284=>217|285=>218|286=>219|129=>229|317=>228|318=>230|319=>231|320=>232|337=>235|338=>236|n=>n,fun|3=>3|9=>9|2=>2|4=>4|171=>282|0=>0|53=>236|37=>41|5=>5|173=>285|212=>298|51=>287|20=>20|213=>299|46=>256|232=>304|233=>305|n=>n,fun|17=>3|18=>6|19=>7|n=>n⟩
theorem Tryz.laysM171:Go.Proofs.LaysM.n171 Tryz.prog Tryz.laysM171_ren:={
 mixed:=by kernel_rfl
 f129:=Tryz.func229.trans (congrArg some (by kernel_rfl))
 f171:=Tryz.func194.trans (congrArg some (by kernel_rfl))
 f243:=Tryz.func200.trans (congrArg some (by kernel_rfl))
 f246:=Tryz.func206.trans (congrArg some (by kernel_rfl))
 f283:=Tryz.func216.trans (congrArg some (by kernel_rfl))
 f284:=Tryz.func217.trans (congrArg some (by kernel_rfl))
 f285:=Tryz.func218.trans (congrArg some (by kernel_rfl))
 f286:=Tryz.func219.trans (congrArg some (by kernel_rfl))
 f317:=Tryz.func228.trans (congrArg some (by kernel_rfl))
 f318:=Tryz.func230.trans (congrArg some (by kernel_rfl))
 f319:=Tryz.func231.trans (congrArg some (by kernel_rfl))
 f320:=Tryz.func232.trans (congrArg some (by kernel_rfl))
 f337:=Tryz.func235.trans (congrArg some (by kernel_rfl))
 f338:=Tryz.func236.trans (congrArg some (by kernel_rfl))
 t0:=Tryz.underlying0
 a0:=Tryz.isAgg0
 z0:=Tryz.sizeOf0
 v0:=Tryz.zeroValue0
 t2:=Tryz.underlying2
 a2:=Tryz.isAgg2
 z2:=Tryz.sizeOf2
 v2:=Tryz.zeroValue2
 t3:=Tryz.underlying3
 a3:=Tryz.isAgg3
 z3:=Tryz.sizeOf3
 v3:=Tryz.zeroValue3
 t4:=Tryz.underlying4
 a4:=Tryz.isAgg4
 z4:=Tryz.sizeOf4
 v4:=Tryz.zeroValue4
 t5:=Tryz.underlying5
 a5:=Tryz.isAgg5
 z5:=Tryz.sizeOf5
 v5:=Tryz.zeroValue5
 t9:=Tryz.underlying9
 a9:=Tryz.isAgg9
 z9:=Tryz.sizeOf9
 v9:=Tryz.zeroValue9
 t20:=Tryz.underlying20
 a20:=Tryz.isAgg20
 z20:=Tryz.sizeOf20
 v20:=Tryz.zeroValue20
 t37:=Tryz.underlying41
 a37:=Tryz.isAgg41
 z37:=Tryz.sizeOf41
 v37:=Tryz.zeroValue41
 t46:=Tryz.underlying256
 a46:=Tryz.isAgg256
 z46:=Tryz.sizeOf256
 v46:=Tryz.zeroValue256
 t51:=Tryz.underlying287
 a51:=Tryz.isAgg287
 z51:=Tryz.sizeOf287
 v51:=Tryz.zeroValue287
 t53:=Tryz.underlying236
 a53:=Tryz.isAgg236
 z53:=Tryz.sizeOf236
 v53:=Tryz.zeroValue236
 t171:=Tryz.underlying282
 a171:=Tryz.isAgg282
 z171:=Tryz.sizeOf282
 v171:=Tryz.zeroValue282
 t173:=Tryz.underlying285
 a173:=Tryz.isAgg285
 z173:=Tryz.sizeOf285
 v173:=Tryz.zeroValue285
 t212:=Tryz.underlying298
 a212:=Tryz.isAgg298
 z212:=Tryz.sizeOf298
 v212:=Tryz.zeroValue298
 t213:=Tryz.underlying299
 a213:=Tryz.isAgg299
 z213:=Tryz.sizeOf299
 t232:=Tryz.underlying304
 a232:=Tryz.isAgg304
 z232:=Tryz.sizeOf304
 v232:=Tryz.zeroValue304
 t233:=Tryz.underlying305
 a233:=Tryz.isAgg305
 z233:=Tryz.sizeOf305
 v233:=Tryz.zeroValue305
 g17:=by kernel_rfl
 g18:=by kernel_rfl
 g19:=by kernel_rfl
 i0:=by kernel_rfl
 i2:=by kernel_rfl
 i3:=by kernel_rfl
 i4:=by kernel_rfl
 i5:=by kernel_rfl
 i9:=by kernel_rfl
 i20:=by kernel_rfl
 i37:=by kernel_rfl
 i46:=by kernel_rfl
 i51:=by kernel_rfl
 i53:=by kernel_rfl
 i171:=by kernel_rfl
 i173:=by kernel_rfl
 i212:=by kernel_rfl
 i232:=by kernel_rfl
 i233:=by kernel_rfl
 m17:=by kernel_rfl
 m18:=by kernel_rfl
 m19:=by kernel_rfl }
open Go.RowKit Go.Sort Go.Lib in
theorem Tryz.strconv_Itoa (n:Int) (h0:-9223372036854775808≤n) (h1:n≤9223372036854775807) (w:World) (htab:Lib.TabIs Tryz.prog w "internal/strconv.uint64pow10" .u64 Lib.pow10Tab) :
  Calls Tryz.prog 194 #[.int .i64 n] w fun e w'=>e=.returned (.string ⟨(Lib.itoa n).toArray⟩)∧∃ k os,w'=grow (w.drewN k) os:=Any.strconv_Itoa Tryz.laysM171 n h0 h1 w htab
def Tryz.lays105_ren:Go.Shelf.Ren:=⟨fun|105=>202|212=>208|99=>209|165=>210|166=>211|170=>212|169=>213|263=>220|264=>221|206=>222|240=>223|241=>224|276=>233|277=>234|n=>n,fun|9=>9|3=>3|4=>4|20=>20|0=>0|46=>256|109=>269|5=>5|72=>274|76=>278|51=>287|146=>288|53=>236|148=>290|70=>272|37=>41|75=>277|127=>292|164=>301|80=>281|n=>n,fun|n=>n⟩
theorem Tryz.lays105:Go.Proofs.Lays.n105 Tryz.prog Tryz.lays105_ren:={
 mixed:=by kernel_rfl
 f99:=Tryz.func209.trans (congrArg some (by kernel_rfl))
 f105:=Tryz.func202.trans (congrArg some (by kernel_rfl))
 f165:=Tryz.func210.trans (congrArg some (by kernel_rfl))
 f166:=Tryz.func211.trans (congrArg some (by kernel_rfl))
 f169:=Tryz.func213.trans (congrArg some (by kernel_rfl))
 f170:=Tryz.func212.trans (congrArg some (by kernel_rfl))
 f206:=Tryz.func222.trans (congrArg some (by kernel_rfl))
 f212:=Tryz.func208.trans (congrArg some (by kernel_rfl))
 f240:=Tryz.func223.trans (congrArg some (by kernel_rfl))
 f241:=Tryz.func224.trans (congrArg some (by kernel_rfl))
 f263:=Tryz.func220.trans (congrArg some (by kernel_rfl))
 f264:=Tryz.func221.trans (congrArg some (by kernel_rfl))
 f276:=Tryz.func233.trans (congrArg some (by kernel_rfl))
 f277:=Tryz.func234.trans (congrArg some (by kernel_rfl))
 t0:=Tryz.underlying0
 a0:=Tryz.isAgg0
 z0:=Tryz.sizeOf0
 v0:=Tryz.zeroValue0
 t3:=Tryz.underlying3
 a3:=Tryz.isAgg3
 z3:=Tryz.sizeOf3
 v3:=Tryz.zeroValue3
 t4:=Tryz.underlying4
 a4:=Tryz.isAgg4
 z4:=Tryz.sizeOf4
 v4:=Tryz.zeroValue4
 t5:=Tryz.underlying5
 a5:=Tryz.isAgg5
 z5:=Tryz.sizeOf5
 v5:=Tryz.zeroValue5
 t9:=Tryz.underlying9
 a9:=Tryz.isAgg9
 z9:=Tryz.sizeOf9
 v9:=Tryz.zeroValue9
 t20:=Tryz.underlying20
 a20:=Tryz.isAgg20
 z20:=Tryz.sizeOf20
 v20:=Tryz.zeroValue20
 t37:=Tryz.underlying41
 a37:=Tryz.isAgg41
 z37:=Tryz.sizeOf41
 v37:=Tryz.zeroValue41
 t46:=Tryz.underlying256
 a46:=Tryz.isAgg256
 z46:=Tryz.sizeOf256
 v46:=Tryz.zeroValue256
 t51:=Tryz.underlying287
 a51:=Tryz.isAgg287
 z51:=Tryz.sizeOf287
 v51:=Tryz.zeroValue287
 t53:=Tryz.underlying236
 a53:=Tryz.isAgg236
 z53:=Tryz.sizeOf236
 v53:=Tryz.zeroValue236
 t70:=Tryz.underlying272
 a70:=Tryz.isAgg272
 z70:=Tryz.sizeOf272
 v70:=Tryz.zeroValue272
 t72:=Tryz.underlying274
 a72:=Tryz.isAgg274
 z72:=Tryz.sizeOf274
 v72:=Tryz.zeroValue274
 t75:=Tryz.underlying277
 a75:=Tryz.isAgg277
 z75:=Tryz.sizeOf277
 v75:=Tryz.zeroValue277
 t76:=Tryz.underlying278
 a76:=Tryz.isAgg278
 z76:=Tryz.sizeOf278
 v76:=Tryz.zeroValue278
 t109:=Tryz.underlying269
 a109:=Tryz.isAgg269
 z109:=Tryz.sizeOf269
 v109:=Tryz.zeroValue269
 t127:=Tryz.underlying292
 a127:=Tryz.isAgg292
 z127:=Tryz.sizeOf292
 v127:=Tryz.zeroValue292
 t146:=Tryz.underlying288
 a146:=Tryz.isAgg288
 z146:=Tryz.sizeOf288
 v146:=Tryz.zeroValue288
 t148:=Tryz.underlying290
 a148:=Tryz.isAgg290
 z148:=Tryz.sizeOf290
 v148:=Tryz.zeroValue290
 t164:=Tryz.underlying301
 a164:=Tryz.isAgg301
 z164:=Tryz.sizeOf301
 v164:=Tryz.zeroValue301 }
theorem Tryz.Builder_Extra_105:Builder.Extra Tryz.prog Tryz.lays105_ren:={
 sizeBuilder:=by kernel_rfl
 liesBuilder:=by kernel_rfl
 t5:=Tryz.underlying5
 a5:=Tryz.isAgg5
 z5:=Tryz.sizeOf5
 v5:=Tryz.zeroValue5
 infoByte:=by kernel_rfl
 cellsByte:=by kernel_rfl
 sizeByte:=by kernel_rfl
 neB5:=by decide }
open Go.RowKit Go.Lib in
theorem Tryz.strings_Repeat (s:ByteArray) (c:Nat) (w:World) (hc:c≤9223372036854775807) (hlen:s.size*c≤140737488355328) :
  Calls Tryz.prog 202 #[.string s,.int .i64 c] w fun e w'=>e=.returned (.string ⟨(Lib.repeatL s.data.toList c).toArray⟩)∧Below w.heap.size w w':=Any.strings_Repeat Tryz.lays105 Tryz.Builder_Extra_105 s c w hc hlen
end Go.Proofs
namespace Go.Proofs.YtmdejbphoafjlaaGreatDoor
open Go.RowKit Go.Lib
theorem digF_dec:∀ (f u:Nat),u<10 ^ f→1≤f→digF f u=(decDigits u).map fun b=>(b.toNat:Int)
 | 0,u,_,h=>absurd h (by omega)
 | f+1,u,hu,_=>by
  rw[digF,decDigits]
  by_cases h:u<10
  ·rw[if_pos h,dif_pos h,List.map_cons,List.map_nil,UInt8.toNat_ofNat']
   congr 1
   omega
  ·rw[if_neg h,dif_neg h,List.map_append,List.map_cons,List.map_nil,UInt8.toNat_ofNat']
   have hf:1≤f:=by
    rcases Nat.eq_zero_or_pos f with h0|h0
    ·rw[h0]at hu;simp at hu;omega
    ·exact h0
   rw[digF_dec f (u / 10) (by rw[Nat.pow_succ]at hu;omega) hf]
   congr 2
   omega
theorem bytes_itoa (n:Int) (hn:InR n):bytesOf ⟨(itoa n).toArray⟩=decL n:=by
 unfold InR at hn
 show ((itoa n).toArray.toList.map fun b=>(b.toNat:Int))=_
 rw[List.toList_toArray]
 unfold itoa decL
 by_cases h:n<0
 ·rw[if_pos h,if_pos h,List.map_cons,digF_dec 20 _ (by have:(10:Nat) ^ 20=100000000000000000000:=(by decide);omega) (by decide)]
  have:n.natAbs=(-n).toNat:=by omega
  rw[this]
  rfl
 ·rw[if_neg h,if_neg h,digF_dec 20 _ (by have:(10:Nat) ^ 20=100000000000000000000:=(by decide);omega) (by decide)]
theorem later_grow (w:World) (k:Nat) (os:Array Obj):Later w (Sort.grow (w.drewN k) os):=by
 refine⟨rfl,rfl,rfl,?_,fun b hb=>?_⟩
 ·show w.heap.size≤(w.heap++os).size
  simp
 ·show (w.heap++os)[b]?=w.heap[b]?
  rw[Array.getElem?_append_left hb]
theorem ito_any (nm:String) (hname:nm= "internal/strconv.uint64pow10") (n:Int) (w:World) (hn:InR n) (ht:TabIs Tryz.prog w nm .u64 pow10Tab):Calls Tryz.prog 194 #[.int .i64 n] w (StrL w (decL n)):=by
 subst hname
 refine (Tryz.strconv_Itoa n hn.1 hn.2 w ht).mono ?_
 rintro e w' ⟨rfl,k,os,rfl⟩
 exact⟨_,rfl,bytes_itoa n hn,later_grow w k os⟩
theorem tz_16 (w:World) (h:w.cell? ⟨7,15,none⟩=some (.int .u8 4)):Calls Tryz.prog 232 #[.int .u64 16] w fun e w'=>e=.returned (.int .i64 4)∧w'=w:=by
 have e1:IntKind.u64.wrap (bits .and .u64 16 (IntKind.u64.wrap (-16))*285870213051353865) / 288230376151711744=15:=by decide
 have hA:Calls Tryz.prog 236 #[.int .u64 16] w fun e w'=>e=.returned (.int .i64 4)∧w'=w:=by
  go_enter Tryz.func236,Tryz.ntmps236
  go_wp2_with fail
  go_ret
  exact⟨rfl,rfl⟩
 clear e1 h
 go_enter Tryz.func232,Tryz.ntmps232
 go_wp2_with (go_at_call 236;refine hA.mono ?_;rintro e w2 ⟨rfl,hw⟩;obtain rfl:=hw.symm)
 go_ret
 exact⟨rfl,rfl⟩
theorem pow_16 (w:World):Calls Tryz.prog 231 #[.int .i64 16] w fun e w'=>e=.returned (.bool true)∧w'=w:=by
 have e1:bits .and .i64 16 15=0:=by decide
 go_enter Tryz.func231,Tryz.ntmps231
 go_wp2_with fail
 go_ret
 exact⟨rfl,rfl⟩
theorem hexF_cons (k u:Nat):hexF (k+1) u=hexD (u / 16 ^ k % 16)::hexF k u:=by
 induction k generalizing u with
 | zero=>rw[hexF,hexF,hexF,Nat.pow_zero,Nat.div_one];rfl
 | succ k ih=>rw[hexF,ih,hexF,Nat.div_div_eq_div_mul,Nat.pow_succ,Nat.mul_comm];rfl
theorem hex36:∀ (D:Nat) (h:D<36),D<16→((((⟨#[48,49,50,51,52,53,54,55,56,57,97,98,99,100,101,102,103,104,105,106,107,108,109,110,111,112,113,114,115,116,117,118,119,120,121,122]⟩:ByteArray)[D]'h).toNat:Nat):Int)=hexD D:=by
 intro D h _
 obtain rfl|rfl|rfl|rfl|rfl|rfl|rfl|rfl|rfl|rfl|rfl|rfl|rfl|rfl|rfl|rfl:D=0∨D=1∨D=2∨D=3∨D=4∨D=5∨D=6∨D=7∨D=8∨D=9∨D=10∨D=11∨D=12∨D=13∨D=14∨D=15:=by omega
 all_goals rfl
def Tail16 (C:Array Value) (p:Nat) (zs:List Int):Prop:=C.size=65∧p+zs.length=65∧∀ j z,zs[j]?=some z→C[p+j]?=some (.int .u8 z)
theorem Tail16.put {C:Array Value}{p:Nat}{zs:List Int}(h:Tail16 C (p+1) zs) (z:Int):Tail16 (C.setIfInBounds p (.int .u8 z)) p (z::zs):=by
 obtain⟨h1,h2,h3⟩:=h
 refine⟨by simpa using h1,by rw[List.length_cons];omega,fun j y hy=>?_⟩
 cases j with
 | zero =>
  have:z=y:=by simpa using hy
  subst this
  rw[Nat.add_zero,Array.getElem?_setIfInBounds_self_of_lt (by omega)]
 | succ j =>
  have hy':zs[j]?=some y:=by simpa using hy
  rw[Array.getElem?_setIfInBounds_ne (by omega),show p+(j+1)=p+1+j by omega]
  exact h3 j y hy'
structure Row16 (w wr:World) (p:Nat) (zs:List Int):Prop where
 lat:Later w wr
 row:∃ C,wr.heap[w.heap.size]?=some (.cells C 299)∧Tail16 C p zs
theorem Row16.old {w wr:World}{p:Nat}{zs:List Int}(h:Row16 w wr (p+1) zs):∃ u,wr.cell? ⟨w.heap.size,p,none⟩=some u∧wr.frozen? ⟨w.heap.size,p,none⟩=false:=by
 obtain⟨_,C,hr,h1,h2,_⟩:=h
 have hp:p<C.size:=by omega
 refine⟨C[p],?_,?_⟩
 ·show (match wr.heap[w.heap.size]? with|some (.cells c _ _)=>c[p]?|_=>none)=some C[p]
  rw[hr]
  exact Array.getElem?_eq_getElem hp
 ·simp[World.frozen?,hr]
theorem Row16.put {w wr:World}{p:Nat}{zs:List Int}(h:Row16 w wr (p+1) zs) (z:Int):Row16 w (wr.setCell ⟨w.heap.size,p,none⟩ (.int .u8 z)) p (z::zs):=by
 obtain⟨hl,C,hr,hT⟩:=h
 refine⟨hl.trans' (v:=.slice (some ⟨w.heap.size,0,none⟩) 0 0) (set_grown wr w.heap.size p (.int .u8 z)) (fun b e=>by cases e;exact Nat.le_refl _),_,heap_setCell_same wr w.heap.size p _ _ (.int .u8 z) hr,hT.put z⟩
theorem Row16.cells {w wr:World}{p:Nat}{zs:List Int}(h:Row16 w wr p zs):∀ i,i<zs.length→wr.cell? ⟨w.heap.size,p+i,none⟩=some (.int .u8 (zs.getD i 0)):=by
 intro i hi
 obtain⟨_,C,hr,_,_,h3⟩:=h
 show (match wr.heap[w.heap.size]? with|some (.cells c _ _)=>c[p+i]?|_=>none)=_
 rw[hr]
 refine h3 i _ ?_
 rw[List.getD_eq_getElem?_getD,List.getElem?_eq_getElem hi]
 rfl
theorem hexF_byte:∀ (k u:Nat),∀ z∈hexF k u,0≤z∧z≤255
 | 0,_,z,h=>by simp[hexF]at h
 | k+1,u,z,h=>by
  rw[hexF,List.mem_append]at h
  rcases h with h|h
  ·exact hexF_byte k _ z h
  ·have:z=hexD (u % 16):=by simpa using h
   rw[this]
   unfold hexD
   split <;> omega
def F16 (u:Nat) (w:World) (e:Ending) (w':World):Prop:=∃ s m,e=.returned (.tuple #[.slice none 0 0,.string s])∧1≤m∧m≤16∧u<16 ^ m∧bytesOf s=hexF m u∧Later w w'
theorem bits16_any (u:Nat) (w:World) (hu:u<18446744073709551616) (hg:7<w.heap.size) (h:w.cell? ⟨7,15,none⟩=some (.int .u8 4)):Calls Tryz.prog 219 #[.slice none 0 0,.int .u64 (u:Int),.int .i64 16,.bool false,.bool false] w (F16 u w):=by
 have hq:∀ o,(w.alloc o).cell? ⟨7,15,none⟩=some (.int .u8 4):=fun o=>by rw[(later1 w o).cell (p:=⟨7,15,none⟩) hg];exact h
 have HQ:Hid (∀ o,(w.alloc o).cell? ⟨7,15,none⟩=some (.int .u8 4)):=hq
 clear hq h
 have H16:Hid (u<16 ^ 16):=by show u<16 ^ 16;have:(16:Nat) ^ 16=18446744073709551616:=(by decide);omega
 have HFQ:Hid (∀ e w',F16 u w e w'→F16 u w e w'):=fun _ _ h=>h
 generalize hQ:F16 u w=Q at HFQ ⊢
 have HFQ':Hid (∀ e w',F16 u w e w'→Q e w'):=fun e w' h=>by rw[←hQ];exact h
 clear hQ HFQ
 go_enter Tryz.func219,Tryz.ntmps219
 go_wp2_with (first|(go_at_call 232;refine (tz_16 _ (HQ.out _)).mono ?_;rintro e w2 ⟨rfl,hw⟩;obtain rfl:=hw.symm)|(go_at_call 231;refine (pow_16 _).mono ?_;rintro e w2 ⟨rfl,hw⟩;obtain rfl:=hw.symm))
 go_loopw [1,13] (fun uu i wr=>∃ (k p:Nat),uu=.int .u64 ((u / 16 ^ k:Nat):Int)∧i=.int .i64 (p:Int)∧k≤15∧Row16 w wr p (hexF k u)) (fun uu _ _=>(RowKit.intOf uu).toNat)
 case atStart=>exact⟨0,65,by rw[Nat.pow_zero,Nat.div_one],rfl,by omega,later1 _ _,_,(by show (w.heap.push _)[w.heap.size]?=_;simp;rfl),rfl,rfl,fun j z hz=>by simp[hexF]at hz⟩
 case round =>
  obtain⟨k,p,rfl,rfl,hk,hR⟩:=hrel
  have hlen:p+k=65:=by obtain⟨_,C,_,_,h2,_⟩:=hR;rw[hexF_len]at h2;exact h2
  obtain⟨q,rfl⟩:∃ q,p=q+1:=⟨p - 1,by omega⟩
  have hx64:u / 16 ^ k<18446744073709551616:=Nat.lt_of_le_of_lt (Nat.div_le_self _ _) hu
  have hstep:=hexF_cons k u
  obtain⟨v0,c0,f0⟩:=hR.old
  by_cases hge:16≤u / 16 ^ k
  ·have i1:(16:Int)≤((u / 16 ^ k:Nat):Int):=by omega
   have hk15:k+1≤15:=by
    rcases Nat.lt_or_ge k 15 with h|h
    ·exact h
    ·exfalso
     have:k=15:=by omega
     subst this
     have h1:=H16.out
     have h2:(16:Nat) ^ 16=16 ^ 15*16:=by decide
     rw[h2]at h1
     have:=Nat.div_lt_of_lt_mul h1
     omega
   obtain⟨D,hD,hD16,hDe⟩:∃ D:Nat,bits .and .u64 ((u / 16 ^ k:Nat):Int) 15=(D:Int)∧D<16∧Hid (D=u / 16 ^ k % 16):=⟨u / 16 ^ k % 16,by
    have h2:=bits_and_u64_nat (u / 16 ^ k) 15 hx64 (by decide)
    rw[show ((15:Nat):Int)=15 from rfl]at h2
    rw[h2,show (15:Nat)=2 ^ 4 - 1 from rfl,Nat.and_two_pow_sub_one_eq_mod],Nat.mod_lt _ (by decide),rfl⟩
   have hlit:=hex36 D (by omega) hD16
   have hdd:Hid (u / 16 ^ (k+1)=u / 16 ^ k / 16):=by show _=_;rw[Nat.pow_succ,← Nat.div_div_eq_div_mul]
   have HT:Hid (Row16 w (wr.setCell ⟨w.heap.size,q,none⟩ (.int .u8 (hexD D))) q (hexF (k+1) u)):=by show Row16 _ _ _ _;rw[hstep,← hDe.out];exact hR.put _
   have hX':∃ X,Hid (X=u / 16 ^ k):=⟨_,rfl⟩
   obtain⟨X,hX⟩:=hX'
   rw[←hX.out]at i1 hD hx64 hdd ⊢
   clear hstep hge
   go_wp2_with fail
   refine⟨⟨k+1,q,by rw[hdd.out,Int.natCast_ediv];rfl,rfl,hk15,HT.out⟩,?_⟩
   simp only[RowKit.intOf]
   omega
  ·have i1:¬ (16:Int)≤((u / 16 ^ k:Nat):Int):=by omega
   have hu16:Hid (u<16 ^ (k+1)):=by
    show u<16 ^ (k+1)
    have h3:=(Nat.div_lt_iff_lt_mul (Nat.pow_pos (n:=k) (show 0<16 by decide))).1 (show u / 16 ^ k<16 by omega)
    rw[Nat.pow_succ,Nat.mul_comm]
    exact h3
   have hR1:Row16 w (wr.setCell ⟨w.heap.size,q,none⟩ (.int .u8 (hexD (u / 16 ^ k)))) q (hexF (k+1) u):=by
    rw[hstep,Nat.mod_eq_of_lt (show u / 16 ^ k<16 by omega)]
    exact hR.put _
   have hlm:(hexF (k+1) u).length=k+1:=hexF_len _ _
   have hlq:65 - q=k+1:=by omega
   have hlq':(65:Int) - (q:Int)=((k+1:Nat):Int):=by omega
   have cv:∀ c,(convert 41 9 (.slice (some ⟨w.heap.size,q,none⟩) (65 - q) c)).run Tryz.prog (wr.setCell ⟨w.heap.size,q,none⟩ (.int .u8 (hexD (u / 16 ^ k))))=.ok (.string (strOfNums (hexF (k+1) u))) (wr.setCell ⟨w.heap.size,q,none⟩ (.int .u8 (hexD (u / 16 ^ k)))):=fun c=>by
    rw[hlq]
    exact run_convert_bytes_arg _ 41 5 Tryz.underlying41 Tryz.underlying5 w.heap.size q (k+1) c (hexF (k+1) u) hlm (fun i hi=>hR1.cells i (by omega)) 9 Tryz.underlying9
   have HB:Hid (Q (.returned (.tuple #[.slice none 0 0,.string (strOfNums (hexF (k+1) u))])) (wr.setCell ⟨w.heap.size,q,none⟩ (.int .u8 (hexD (u / 16 ^ k))))):=HFQ'.out _ _ ⟨_,k+1,rfl,by omega,by omega,hu16.out,bytesOf_nums _ (hexF_byte _ _),hR1.lat⟩
   obtain⟨X,hX⟩:=hid_ex (u / 16 ^ k)
   obtain⟨Z,hZ⟩:=hid_ex (strOfNums (hexF (k+1) u))
   rw[←hZ.out]at cv HB
   rw[←hX.out]at i1 cv HB hx64 ⊢
   have hX16:X<16:=by omega
   have hlit:=hex36 X (by omega) hX16
   have hq65:(q:Int)≤65:=by omega
   have hqn:¬ 65=q:=by omega
   clear hstep hge hR1 hR hlq hlq'
   go_wp2_with fail
   exact HB.out
def H16 (u:Nat) (w:World) (e:Ending) (w':World):Prop:=∃ s m,e=.returned (.string s)∧1≤m∧m≤16∧u<16 ^ m∧bytesOf s=hexF m u∧Later w w'
theorem fuint_any (u:Nat) (w:World) (hu:u<18446744073709551616) (hg:7<w.heap.size) (h:w.cell? ⟨7,15,none⟩=some (.int .u8 4)):Calls Tryz.prog 201 #[.int .u64 (u:Int),.int .i64 16] w (H16 u w):=by
 have hB:=bits16_any u w hu hg h
 have hA:Calls Tryz.prog 207 #[.int .u64 (u:Int),.int .i64 16] w (H16 u w):=by
  go_enter Tryz.func207,Tryz.ntmps207
  go_wp2_with (go_at_call 219;refine hB.mono ?_;rintro e w2 ⟨s,m,rfl,h1,h2,h3,h4,h5⟩)
  have HB:Hid (H16 u w (.returned (.string s)) w2):=⟨s,m,rfl,h1,h2,h3,h4,h5⟩
  go_ret
  exact HB.out
 clear hB
 go_enter Tryz.func201,Tryz.ntmps201
 go_wp2_with (go_at_call 207;refine hA.mono ?_;rintro e w2 ⟨s,m,rfl,h1,h2,h3,h4,h5⟩)
 have HB:Hid (H16 u w (.returned (.string s)) w2):=⟨s,m,rfl,h1,h2,h3,h4,h5⟩
 go_ret
 exact HB.out
theorem hexF_zeros:∀ (m d u:Nat),u<16 ^ m→hexF (m+d) u=List.replicate d 48++hexF m u
 | m,0,u,_=>rfl
 | m,d+1,u,h=>by
  rw[←Nat.add_assoc,hexF_cons,hexF_zeros m d u h,List.replicate_succ]
  have:u / 16 ^ (m+d)=0:=Nat.div_eq_of_lt (Nat.lt_of_lt_of_le h (Nat.pow_le_pow_right (by decide) (by omega)))
  rw[this]
  rfl
theorem bytesOf_app (a b:ByteArray):bytesOf (a++b)=bytesOf a++bytesOf b:=by
 unfold bytesOf
 rw[ByteArray.data_append,Array.toList_append,List.map_append]
theorem flo_any (n:Int) (w:World) (hg:7<w.heap.size) (h:w.cell? ⟨7,15,none⟩=some (.int .u8 4)):Calls Tryz.prog 195 #[.int .i64 n] w (StrL w (hexL n)):=by
 obtain⟨u,hu⟩:∃ u:Nat,(n % 18446744073709551616).toNat=u:=⟨_,rfl⟩
 have e1:IntKind.u64.wrap n=(u:Int):=by rw[IntKind.wrap_u64];omega
 have hu64:u<18446744073709551616:=by omega
 have eL:Hid (hexL n=[48,102]++hexF 16 u):=by show hexL n=_;unfold hexL;rw[hu]
 have hF:=fuint_any u w hu64 hg h
 clear hu h hg
 go_enter Tryz.func195,Tryz.ntmps195
 go_wp2_with fail
 refine hF.mono ?_
 rintro e w2 ⟨s,m,rfl,h1,h2,h3,h4,h5⟩
 have hsz:s.size=m:=by rw[←bytesOf_len,h4,hexF_len]
 have hsm:(16:Int) - (m:Int)=((16 - m:Nat):Int):=by omega
 have hR:=Tryz.strings_Repeat ⟨#[48]⟩ (16 - m) w2 (by omega) (by show 1*(16 - m)≤_;omega)
 rw[←hsm]at hR
 have hm16:16=m+(16 - m):=by omega
 have hz:=hexF_zeros m (16 - m) u h3
 rw[←hm16]at hz
 clear hsm hm16
 go_wp2_with fail
 refine hR.mono ?_
 rintro e w3 ⟨rfl,hw3⟩
 have HB:Hid (∀ s',bytesOf s'=[48,102]++List.replicate (16 - m) 48++bytesOf s→StrL w (hexL n) (.returned (.string s')) w3):=fun s' hs'=>⟨s',rfl,by rw[hs',eL.out,hz,h4,List.append_assoc],h5.trans hw3⟩
 have hrep:∀ c,(repeatL [48] c).map (fun b=>(b.toNat:Int))=List.replicate c 48:=fun c=>by
  induction c with
  | zero=>rfl
  | succ c ih=>rw[repeatL,List.map_append,ih,List.replicate_succ];rfl
 have hrl:(repeatL [48] (16 - m)).length=16 - m:=by rw[repeatL_length];simp
 obtain⟨Z,hZ⟩:=hid_ex (⟨(repeatL [48] (16 - m)).toArray⟩:ByteArray)
 have hZs:Z.size≤16:=by rw[hZ.out];show (repeatL [48] (16 - m)).toArray.size≤16;rw[List.size_toArray,hrl];omega
 have hZb:Hid (bytesOf Z=List.replicate (16 - m) 48):=by show _=_;rw[hZ.out,← hrep (16 - m)];unfold bytesOf;simp
 have HB':Hid (StrL w (hexL n) (.returned (.string ((⟨#[48,102]⟩:ByteArray)++Z++s))) w3):=HB.out _ (by rw[bytesOf_app,bytesOf_app,hZb.out];rfl)
 have d1:¬ 9223372036854775807<2+Z.size:=by omega
 have d2:¬ 9223372036854775807<2+Z.size+m:=by omega
 clear hR hz h1 h3 hF HB hrep hrl
 rw[←hZ.out]
 generalize hQ:StrL w (hexL n)=Q at *
 clear hQ
 go_wp2_with fail
 exact HB'.out
end Go.Proofs.YtmdejbphoafjlaaGreatDoor
