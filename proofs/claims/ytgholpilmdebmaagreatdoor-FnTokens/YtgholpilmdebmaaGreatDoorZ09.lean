import Derived.Test.YtgholpilmdebmaaGreatDoorZ05
import Derived.Test.YtgholpilmdebmaaGreatDoorZ08
import Derived.Lib.SlBytesConst
set_option maxHeartbeats 100000000
set_option maxRecDepth 100000
namespace Go.Proofs.YtgholpilmdebmaaGreatDoor
open Go.RowKit
theorem ilet_any (z:Int) (w:World):Calls Tryz.prog 14 #[.int .u8 z] w fun e w'=>e=.returned (.bool (low z||up z))∧w'=w:=by
 have h1:=fun w=>ilow_any z w;have h2:=fun w=>iup_any z w
 generalize low z=A at *
 generalize up z=B at *
 cases A
 ·go_enter Tryz.func14,Tryz.ntmps14;go_wp2_with (first|(go_at_call 26;refine (h1 _).mono ?_;rintro e w1 ⟨rfl,hw⟩;obtain rfl:=hw.symm;clear hw)|(go_at_call 27;refine (h2 _).mono ?_;rintro e w1 ⟨rfl,hw⟩;obtain rfl:=hw.symm;clear hw))
  go_ret;exact⟨rfl,rfl⟩
 ·go_enter Tryz.func14,Tryz.ntmps14;go_wp2_with (first|(go_at_call 26;refine (h1 _).mono ?_;rintro e w1 ⟨rfl,hw⟩;obtain rfl:=hw.symm;clear hw)|(go_at_call 27;refine (h2 _).mono ?_;rintro e w1 ⟨rfl,hw⟩;obtain rfl:=hw.symm;clear hw))
  go_ret;exact⟨rfl,rfl⟩
def begX (ys:List Int):Bool:=if ys.getD 0 0=45 then decide (1<ys.length)&&dig (ys.getD 1 0) else (low (ys.getD 0 0)||up (ys.getD 0 0))||dig (ys.getD 0 0)
theorem begB_start (zs:List Int) (i:Nat) (hi:i<zs.length):begX (zs.drop i)=KL.startB zs i:=by
 have e:∀ j,(zs.drop i).getD j 0=zs.getD (i+j) 0:=fun j=>by rw[List.getD_eq_getElem?_getD,List.getD_eq_getElem?_getD,List.getElem?_drop]
 unfold begX KL.startB;rw[e 0,e 1,Nat.add_zero,List.length_drop];by_cases h:zs.getD i 0=45
 ·rw[if_pos h,h];have h1:inner 45=false:=by decide
  rw[h1,Bool.false_or];have h2:((45:Int)==45)=true:=rfl;rw[h2,Bool.true_and]
  congr 1
  exact decide_eq_decide.2 (by omega)
 ·rw[if_neg h];have h2:(zs.getD i 0==45)=false:=by simpa using h
  rw[h2,Bool.false_and,Bool.false_and,Bool.or_false];rfl
theorem beg_any (v:Value) (ys:List Int) (w:World) (h:RdB w v ys) (h0:0<ys.length):Calls Tryz.prog 12 #[v] w fun e w'=>e=.returned (.bool (begX ys))∧w'=w:=by
 obtain⟨a,cap,rfl,hl,hb,hc⟩:=h;obtain⟨g,off,rfl,hg,c0⟩:=hc 0 h0;rw[Nat.add_zero]at c0;have i0:(0:Int)<(ys.length:Int):=by omega
 have hd:=fun z w=>idig_any z w;have hlt:=fun z w=>ilet_any z w;unfold begX;by_cases h45:ys.getD 0 0=45
 ·rw[if_pos h45];rw[h45]at c0;by_cases h1:1<ys.length
  ·obtain⟨g',off',e,_,c1⟩:=hc 1 h1
   cases e
   have i1:(1:Int)<(ys.length:Int):=by omega
   rw[decide_eq_true h1,Bool.true_and]
   generalize ys.getD 1 0=z1 at *
   have hd1:=hd z1
   generalize dig z1=D at *
   clear hc;go_enter Tryz.func12,Tryz.ntmps12;go_wp2_with (go_at_call 15;refine (hd1 _).mono ?_;rintro e w1 ⟨rfl,hw⟩;obtain rfl:=hw.symm;clear hw)
   go_ret;exact⟨rfl,rfl⟩
  ·have i1:¬ (1:Int)<(ys.length:Int):=by omega
   rw[decide_eq_false h1,Bool.false_and];clear hc;go_enter Tryz.func12,Tryz.ntmps12;go_wp2_with fail
   go_ret;exact⟨rfl,rfl⟩
 ·rw[if_neg h45];have e45:(ys.getD 0 0==45)=false:=by simpa using h45
  generalize ys.getD 0 0=z at *
  have hd1:=hd z;have hl1:=hlt z
  generalize dig z=D at *
  generalize (low z||up z)=L at *
  clear hc
  cases L
  ·go_enter Tryz.func12,Tryz.ntmps12;go_wp2_with (first|(go_at_call 14;refine (hl1 _).mono ?_;rintro e w1 ⟨rfl,hw⟩;obtain rfl:=hw.symm;clear hw)|(go_at_call 15;refine (hd1 _).mono ?_;rintro e w1 ⟨rfl,hw⟩;obtain rfl:=hw.symm;clear hw))
   go_ret;exact⟨rfl,rfl⟩
  ·go_enter Tryz.func12,Tryz.ntmps12;go_wp2_with (first|(go_at_call 14;refine (hl1 _).mono ?_;rintro e w1 ⟨rfl,hw⟩;obtain rfl:=hw.symm;clear hw)|(go_at_call 15;refine (hd1 _).mono ?_;rintro e w1 ⟨rfl,hw⟩;obtain rfl:=hw.symm;clear hw))
   go_ret;exact⟨rfl,rfl⟩
theorem equalX_any (v u:Value) (xs ys:List Int) (w:World) (h:RdB w v xs) (k:RdB w u ys):Calls Tryz.prog 25 #[v,u] w fun e w'=>e=.returned (.bool (decide (xs=ys)))∧w'=w:=by
 have hc:=zcb h;have kc:=zcb k;have hs:=str_inj h.isB k.isB;obtain⟨a,cap,rfl,_⟩:=h.slice;obtain⟨b,cap',rfl,_⟩:=k.slice;clear h k;go_enter Tryz.func25,Tryz.ntmps25;go_wp2_with fail
 go_ret;exact⟨rfl,rfl⟩
theorem RdB.two {w:World}{g off n cap:Nat}{zs:List Int}(h:RdB w (.slice (some ⟨g,off,none⟩) n cap) zs) (h2:2≤zs.length):RdB w (.slice (some ⟨g,off,none⟩) 2 cap) (zs.take 2):=by
 obtain⟨a,c,e,hl,hb,hc⟩:=h
 cases e
 have hl2:(zs.take 2).length=2:=by rw[List.length_take];omega
 refine⟨_,cap,by rw[hl2],by rw[hl2];decide,fun j=>?_,fun j hj=>?_⟩
 ·rw[List.getD_eq_getElem?_getD,List.getElem?_take];split
  ·have:=hb j;rw[List.getD_eq_getElem?_getD]at this;exact this
  ·exact⟨by decide,by decide⟩
 ·rw[hl2]at hj;obtain⟨g',off',e,hg,hv⟩:=hc j (by omega)
  cases e
  refine⟨g,off,rfl,hg,?_⟩;rw[hv,List.getD_eq_getElem?_getD,List.getD_eq_getElem?_getD,List.getElem?_take_of_lt hj]
def two61 (ys:List Int):Bool:=decide (2≤ys.length)&&decide (ys.take 2=[61,61])
theorem hasp_any (v u:Value) (ys:List Int) (w:World) (h:RdN w v ys) (h0:0<ys.length) (k:RdB w u [61,61]):Calls Tryz.prog 13 #[v,u] w fun e w'=>e=.returned (.bool (two61 ys))∧w'=w:=by
 obtain⟨a,cap,rfl,hcap,hmx⟩:=h.cap;have hr:=h.rd;obtain⟨b,cap',rfl,_⟩:=k.slice;have hk:=k;unfold two61;by_cases h2:2≤ys.length
 ·obtain⟨g,off,rfl⟩:∃ g off,a=some ⟨g,off,none⟩:=by
   obtain⟨_,_,e,_,_,hc⟩:=hr
   cases e
   obtain⟨g,off,e,_⟩:=hc 0 h0;exact⟨g,off,e⟩
  have hE:=equalX_any _ _ _ _ w (hr.two h2) k;rw[decide_eq_true h2,Bool.true_and];have i1:(2:Int)≤(ys.length:Int):=by omega
  have i2:(2:Int)≤(cap:Int):=by omega
  generalize decide (ys.take 2=[61,61])=D at *
  obtain⟨L,hL⟩:∃ L,Hid (L=ys.length):=⟨_,show ys.length=ys.length from rfl⟩
  rw[←hL.out]at i1 ⊢;clear hr hk k h hcap hmx;go_enter Tryz.func13,Tryz.ntmps13;go_wp2_with (go_at_call 25;refine hE.mono ?_;rintro e w1 ⟨rfl,hw⟩;obtain rfl:=hw.symm;clear hw)
  go_ret;exact⟨rfl,rfl⟩
 ·rw[decide_eq_false h2,Bool.false_and];have i1:¬ (2:Int)≤(ys.length:Int):=by omega
  clear hr hk k h;go_enter Tryz.func13,Tryz.ntmps13;go_wp2_with fail
  go_ret;exact⟨rfl,rfl⟩
theorem new_two (w:World):RdB (w.alloc (.cells #[.int .u8 61,.int .u8 61] 5 (2,3))) (.slice (some ⟨w.heap.size,0,none⟩) 2 2) [61,61]:=by
 refine⟨_,2,rfl,by decide,fun j=>?_,fun j hj=>⟨w.heap.size,0,rfl,by simp,?_⟩⟩
 ·match j with
  | 0=>exact⟨by decide,by decide⟩
  | 1=>exact⟨by decide,by decide⟩
  | j+2=>exact⟨by simp,by simp⟩
 ·match j,hj with
  | 0,_=>unfold World.cell? World.alloc;simp
  | 1,_=>unfold World.cell? World.alloc;simp
def sizeL (zs:List Int) (i:Nat):Nat:=if KL.startB zs i then KL.pieceE zs (i+1) - i else KL.signE zs i - i
theorem sign_two (zs:List Int) (i:Nat) (hi:i<zs.length):KL.signE zs i - i=if two61 (zs.drop i) then 2 else 1:=by
 unfold KL.signE two61;have e:∀ j,(zs.drop i).getD j 0=zs.getD (i+j) 0:=fun j=>by rw[List.getD_eq_getElem?_getD,List.getD_eq_getElem?_getD,List.getElem?_drop]
 have e0:=e 0;have e1:=e 1;rw[Nat.add_zero]at e0;rw[List.length_drop];by_cases h2:i+1<zs.length
 ·have hl:2≤(zs.drop i).length:=by rw[List.length_drop];omega
  have et:(zs.drop i).take 2=[zs.getD i 0,zs.getD (i+1) 0]:=by
   rw[←e0,← e1]
   match zs.drop i,hl with
   | a::b::r,_=>rfl
  rw[decide_eq_true (show 2≤zs.length - i by omega),Bool.true_and,et,decide_eq_true h2,Bool.and_true];by_cases q:zs.getD i 0=61
  ·by_cases r:zs.getD (i+1) 0=61
   ·rw[if_pos (by rw[q,r];rfl),if_pos (by rw[q,r];rfl)];omega
   ·rw[if_neg (by rw[Bool.and_eq_true,beq_iff_eq,beq_iff_eq];exact fun s=>r s.2),if_neg (by rw[decide_eq_true_eq];intro s;injection s with _ s;injection s with s;exact r s)];omega
  ·rw[if_neg (by rw[Bool.and_eq_true,beq_iff_eq,beq_iff_eq];exact fun s=>q s.1),if_neg (by rw[decide_eq_true_eq];intro s;injection s with s;exact q s)];omega
 ·rw[decide_eq_false (show ¬ 2≤zs.length - i by omega),decide_eq_false h2];simp
theorem RdB.drop {w:World}{zs:List Int}{g off n cap c:Nat}(h:RdB w (.slice (some ⟨g,off,none⟩) n cap) zs) (i:Nat) (hi:i≤zs.length):RdB w (.slice (some ⟨g,off+i,none⟩) (zs.length - i) c) (zs.drop i):=by
 obtain⟨a,c',e,hl,hb,hc⟩:=h
 cases e
 have e:∀ j,(zs.drop i).getD j 0=zs.getD (i+j) 0:=fun j=>by rw[List.getD_eq_getElem?_getD,List.getD_eq_getElem?_getD,List.getElem?_drop]
 refine⟨_,c,by rw[List.length_drop],by rw[List.length_drop];omega,fun j=>by rw[e];exact hb _,fun j hj=>?_⟩;rw[List.length_drop]at hj;obtain⟨g',off',e',hg,hv⟩:=hc (i+j) (by omega)
 cases e'
 refine⟨g,off+i,rfl,hg,?_⟩;rw[e,Nat.add_assoc];exact hv
theorem tsize_any (zs:List Int) (i:Nat) (hi:i<zs.length) (v:Value) (w:World) (h:RdN w v (zs.drop i)):Calls Tryz.prog 7 #[v] w fun e w'=>e=.returned (.int .i64 ((sizeL zs i:Nat):Int))∧Later w w':=by
 have hl0:0<(zs.drop i).length:=by rw[List.length_drop];omega
 have hB:=beg_any v _ w h.rd hl0;rw[begB_start zs i hi]at hB;have hH:=fun o=>hasp_any v (.slice (some ⟨w.heap.size,0,none⟩) 2 2) _ (w.alloc o) (h.later (later1 _ _)) hl0;have hH2:=hH _ (new_two w);have hcv:(convert 22 22 (.slice (some ⟨w.heap.size,0,none⟩) 2 2)).run Tryz.prog (w.alloc (.cells #[.int .u8 61,.int .u8 61] 5))=.ok (.slice (some ⟨w.heap.size,0,none⟩) 2 2) (w.alloc (.cells #[.int .u8 61,.int .u8 61] 5 (2,3))):=Go.Lib.run_convert_bytes_const w 22 5 #[.int .u8 61,.int .u8 61] 2 2 Tryz.underlying22 Tryz.underlying5;have hst:=sign_two zs i hi;have hr:=h.rd;obtain⟨a,cap,rfl,_,_⟩:=h.cap;unfold sizeL
 cases hs:KL.startB zs i with
 | false =>
  rw[hs]at hB;rw[if_neg (by decide),hst]
  generalize two61 (zs.drop i)=D at *
  obtain⟨L,hL⟩:∃ L,Hid (L=(zs.drop i).length):=⟨_,show (zs.drop i).length=_ from rfl⟩
  rw[←hL.out]at hB hH2 ⊢;clear hH hr h hst hs
  cases D
  ·go_enter Tryz.func7,Tryz.ntmps7;go_wp2_with (go_at_call 12;refine hB.mono ?_;rintro e w1 ⟨rfl,hw⟩;obtain rfl:=hw.symm;clear hw)
   refine hH2.mono ?_;rintro e w1 ⟨rfl,hw⟩;obtain rfl:=hw.symm;clear hw;go_wp2_with fail
   go_ret;exact⟨rfl,later1 _ _⟩
  ·go_enter Tryz.func7,Tryz.ntmps7;go_wp2_with (go_at_call 12;refine hB.mono ?_;rintro e w1 ⟨rfl,hw⟩;obtain rfl:=hw.symm;clear hw)
   refine hH2.mono ?_;rintro e w1 ⟨rfl,hw⟩;obtain rfl:=hw.symm;clear hw;go_wp2_with fail
   go_ret;exact⟨rfl,later1 _ _⟩
 | true =>
  rw[hs]at hB;rw[if_pos rfl];obtain⟨a',c',e',hll,hb,hc⟩:=hr
  cases e'
  have hc':Hid (∀ j,i+j<zs.length→∃ g off,a=some ⟨g,off,none⟩∧w.cell? ⟨g,off+j,none⟩=some (.int .u8 (zs.getD (i+j) 0))):=fun j hj=>by
   obtain⟨g,off,e,_,hv⟩:=hc j (by rw[List.length_drop];omega);exact⟨g,off,e,by rw[hv,List.getD_eq_getElem?_getD,List.getD_eq_getElem?_getD,List.getElem?_drop]⟩
  have hP0:Hid (KL.Piece zs (i+1) (KL.pieceE zs (i+1))):=KL.Piece.start zs (i+1)
  obtain⟨E,hE⟩:∃ E,Hid (E=KL.pieceE zs (i+1)):=⟨_,show KL.pieceE zs (i+1)=_ from rfl⟩
  rw[←hE.out]at hP0 ⊢
  obtain⟨L,hL⟩:∃ L,Hid (L=(zs.drop i).length):=⟨_,show (zs.drop i).length=_ from rfl⟩
  rw[←hL.out]at hB ⊢;have hLl:Hid (L=zs.length - i):=by rw[hL.out];exact List.length_drop
  have hLi:(L:Int)≤9223372036854775807:=by rw[hL.out];exact hll
  clear hH hH2 h hst hs hc hb hll;go_enter Tryz.func7,Tryz.ntmps7;go_wp2_with (go_at_call 12;refine hB.mono ?_;rintro e w1 ⟨rfl,hw⟩;obtain rfl:=hw.symm;clear hw)
  go_loopw [3] (fun s wr=>∃ j:Nat,s=.int .i64 (j:Int)∧1≤j∧j≤L∧Hid (KL.Piece zs (i+j) E)∧wr=w) (fun s _=>L - (intOf s).toNat)
  case atStart=>exact⟨1,rfl,Nat.le_refl _,by have:=hLl.out;omega,hP0,rfl⟩
  case round =>
   obtain⟨j,rfl,hj1,hj,hP,rfl⟩:=hrel;clear hP0;by_cases hlt:j<L
   ·have ij:(j:Int)<(L:Int):=by omega
    have hjz:i+j<zs.length:=by have:=hLl.out;omega
    obtain⟨g,off,rfl,c0⟩:=hc'.out j hjz
    obtain⟨z,hz⟩:∃ z,Hid (z=zs.getD (i+j) 0):=⟨_,show zs.getD (i+j) 0=_ from rfl⟩
    rw[←hz.out]at c0;have hd1:=fun w=>idig_any z w;have hl1:=fun w=>ilet_any z w;have hin:Hid (inner z=((low z||up z)||dig z)):=rfl
    obtain⟨D,hD⟩:∃ D,Hid (D=dig z):=⟨_,show dig z=_ from rfl⟩
    obtain⟨A,hA⟩:∃ A,Hid (A=(low z||up z)):=⟨_,show (low z||up z)=_ from rfl⟩
    rw[←hD.out]at hd1;rw[←hA.out]at hl1
    cases hAD:(A||D) with
    | true =>
     have hP2:Hid (KL.Piece zs (i+(j+1)) E):=hP.out.next hjz (by rw[←hz.out,hin.out,← hA.out,← hD.out];exact hAD)
     clear hP
     cases A with
     | true =>
      clear hAD;go_wp2_with (go_at_call 14;refine (hl1 _).mono ?_;rintro e w1 ⟨rfl,hw⟩;obtain rfl:=hw.symm;clear hw)
      go_roundw
      case rel=>exact⟨j+1,by go_num,by omega,by omega,hP2,by first|rfl|trivial⟩
      case measure=>simp[intOf];omega
     | false =>
      cases D with
      | false=>cases hAD
      | true =>
       clear hAD;go_wp2_with (first|(go_at_call 14;refine (hl1 _).mono ?_;rintro e w1 ⟨rfl,hw⟩;obtain rfl:=hw.symm;clear hw)|(go_at_call 15;refine (hd1 _).mono ?_;rintro e w1 ⟨rfl,hw⟩;obtain rfl:=hw.symm;clear hw))
       go_roundw
       case rel=>exact⟨j+1,by go_num,by omega,by omega,hP2,by first|rfl|trivial⟩
       case measure=>simp[intOf];omega
    | false =>
     have hEj:Hid (((j:Nat):Int)=((E - i:Nat):Int)):=by
      have:=hP.out.done (fun q=>by
       have q2:=q.2;rw[←hz.out,hin.out,← hA.out,← hD.out,hAD]at q2
       cases q2)
      show _=_;omega
     clear hP
     cases A with
     | true=>cases hAD
     | false =>
      cases D with
      | true=>cases hAD
      | false =>
       clear hAD;go_wp2_with (first|(go_at_call 14;refine (hl1 _).mono ?_;rintro e w1 ⟨rfl,hw⟩;obtain rfl:=hw.symm;clear hw)|(go_at_call 15;refine (hd1 _).mono ?_;rintro e w1 ⟨rfl,hw⟩;obtain rfl:=hw.symm;clear hw))
       go_ret;exact⟨ret_int hEj.out,Later.refl _⟩
   ·have ij:¬ (j:Int)<(L:Int):=by omega
    have hEj:Hid (((j:Nat):Int)=((E - i:Nat):Int)):=by
     have:=hP.out.done (fun q=>by have:=hLl.out;omega);show _=_;omega
    clear hP;go_wp2_with fail
    go_ret;exact⟨ret_int hEj.out,Later.refl _⟩
end Go.Proofs.YtgholpilmdebmaaGreatDoor
