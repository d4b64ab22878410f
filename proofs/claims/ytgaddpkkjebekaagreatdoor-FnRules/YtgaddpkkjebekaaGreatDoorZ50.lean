import Derived.Test.YtgaddpkkjebekaaGreatDoorZ04
import Derived.Test.YtgaddpkkjebekaaGreatDoorZ38
import Derived.Test.YtgaddpkkjebekaaGreatDoorZ33
import Derived.Lib.SlBytesConst
import Derived.Lib.AtoiAllCases
set_option maxHeartbeats 100000000
set_option maxRecDepth 100000
namespace Go.Proofs.YtgaddpkkjebekaaGreatDoor
open Go.RowKit
theorem FZ (z:Int) (w:World):Calls Tryz.prog 33 #[.int .u8 z] w fun e w'=>e=.returned (.bool (low z||up z))/\w'=w:=by
 have h1:=fun w=>AV z w;have h2:=fun w=>J4 z w
 generalize low z=A at *
 generalize up z=B at *
 cases A
 ·go_enter Tryz.func33,Tryz.ntmps33;go_wp2_with (first|(go_at_call 63;refine (h1 _).mono ?_;rintro e w1 ⟨rfl,hw⟩;obtain rfl:=hw.symm;clear hw)|(go_at_call 64;refine (h2 _).mono ?_;rintro e w1 ⟨rfl,hw⟩;obtain rfl:=hw.symm;clear hw))
  go_ret;exact⟨rfl,rfl⟩
 ·go_enter Tryz.func33,Tryz.ntmps33;go_wp2_with (first|(go_at_call 63;refine (h1 _).mono ?_;rintro e w1 ⟨rfl,hw⟩;obtain rfl:=hw.symm;clear hw)|(go_at_call 64;refine (h2 _).mono ?_;rintro e w1 ⟨rfl,hw⟩;obtain rfl:=hw.symm;clear hw))
  go_ret;exact⟨rfl,rfl⟩
def TF (ys:List Int):Bool:=if ys.getD 0 0=45 then decide (1<ys.length)&&dig (ys.getD 1 0) else (low (ys.getD 0 0)||up (ys.getD 0 0))||dig (ys.getD 0 0)
theorem Jt (zs:List Int) (i:Nat) (hi:i<zs.length):TF (zs.drop i)=KL.qW zs i:=by
 have e:∀ j,(zs.drop i).getD j 0=zs.getD (i+j) 0:=fun j=>by rw[List.getD_eq_getElem?_getD,List.getD_eq_getElem?_getD,List.getElem?_drop]
 unfold TF KL.qW;rw[e 0,e 1,Nat.add_zero,List.length_drop];by_cases h:zs.getD i 0=45
 ·rw[if_pos h,h];have h1:inner 45=false:=by decide
  rw[h1,Bool.false_or];have h2:((45:Int)==45)=true:=rfl;rw[h2,Bool.true_and]
  congr 1
  exact decide_eq_decide.2 (by omega)
 ·rw[if_neg h];have h2:(zs.getD i 0==45)=false:=by simpa using h
  rw[h2,Bool.false_and,Bool.false_and,Bool.or_false];rfl
theorem TE (v:Value) (ys:List Int) (w:World) (h:RdB w v ys) (h0:0<ys.length):Calls Tryz.prog 31 #[v] w fun e w'=>e=.returned (.bool (TF ys))/\w'=w:=by
 obtain⟨a,cap,rfl,hl,hb,hc⟩:=h;obtain⟨g,off,rfl,hg,c0⟩:=hc 0 h0;rw[Nat.add_zero]at c0;have i0:(0:Int)<(ys.length:Int):=by omega
 have hd:=fun z w=>AY z w;have hlt:=fun z w=>FZ z w;unfold TF;by_cases h45:ys.getD 0 0=45
 ·rw[if_pos h45];rw[h45]at c0;by_cases h1:1<ys.length
  ·obtain⟨g',off',e,_,c1⟩:=hc 1 h1
   cases e
   have i1:(1:Int)<(ys.length:Int):=by omega
   rw[decide_eq_true h1,Bool.true_and]
   generalize ys.getD 1 0=z1 at *
   have hd1:=hd z1
   generalize dig z1=D at *
   clear hc;go_enter Tryz.func31,Tryz.ntmps31;go_wp2_with (go_at_call 34;refine (hd1 _).mono ?_;rintro e w1 ⟨rfl,hw⟩;obtain rfl:=hw.symm;clear hw)
   go_ret;exact⟨rfl,rfl⟩
  ·have i1:¬ (1:Int)<(ys.length:Int):=by omega
   rw[decide_eq_false h1,Bool.false_and];clear hc;go_enter Tryz.func31,Tryz.ntmps31;go_wp2_with fail
   go_ret;exact⟨rfl,rfl⟩
 ·rw[if_neg h45];have e45:(ys.getD 0 0==45)=false:=by simpa using h45
  generalize ys.getD 0 0=z at *
  have hd1:=hd z;have hl1:=hlt z
  generalize dig z=D at *
  generalize (low z||up z)=L at *
  clear hc
  cases L
  ·go_enter Tryz.func31,Tryz.ntmps31;go_wp2_with (first|(go_at_call 33;refine (hl1 _).mono ?_;rintro e w1 ⟨rfl,hw⟩;obtain rfl:=hw.symm;clear hw)|(go_at_call 34;refine (hd1 _).mono ?_;rintro e w1 ⟨rfl,hw⟩;obtain rfl:=hw.symm;clear hw))
   go_ret;exact⟨rfl,rfl⟩
  ·go_enter Tryz.func31,Tryz.ntmps31;go_wp2_with (first|(go_at_call 33;refine (hl1 _).mono ?_;rintro e w1 ⟨rfl,hw⟩;obtain rfl:=hw.symm;clear hw)|(go_at_call 34;refine (hd1 _).mono ?_;rintro e w1 ⟨rfl,hw⟩;obtain rfl:=hw.symm;clear hw))
   go_ret;exact⟨rfl,rfl⟩
theorem Jj (v u:Value) (xs ys:List Int) (w:World) (h:RdB w v xs) (k:RdB w u ys):Calls Tryz.prog 62 #[v,u] w fun e w'=>e=.returned (.bool (decide (xs=ys)))/\w'=w:=by
 have hc:=eH h;have kc:=eH k;have hs:=lQ h.isB k.isB;obtain⟨a,cap,rfl,_⟩:=h.slice;obtain⟨b,cap',rfl,_⟩:=k.slice;clear h k;go_enter Tryz.func62,Tryz.ntmps62;go_wp2_with fail
 go_ret;exact⟨rfl,rfl⟩
theorem RdB.two {w:World}{g off n cap:Nat}{zs:List Int}(h:RdB w (.slice (some ⟨g,off,none⟩) n cap) zs) (h2:2<=zs.length):RdB w (.slice (some ⟨g,off,none⟩) 2 cap) (zs.take 2):=by
 obtain⟨a,c,e,hl,hb,hc⟩:=h
 cases e
 have hl2:(zs.take 2).length=2:=by rw[List.length_take];omega
 refine⟨_,cap,by rw[hl2],by rw[hl2];decide,fun j=>?_,fun j hj=>?_⟩
 ·rw[List.getD_eq_getElem?_getD,List.getElem?_take];split
  ·have:=hb j;rw[List.getD_eq_getElem?_getD]at this;exact this
  ·exact⟨by decide,by decide⟩
 ·rw[hl2]at hj;obtain⟨g',off',e,hg,hv⟩:=hc j (by omega)
  cases e
  refine⟨g,off,rfl,hg,?_⟩;rw[hv,List.getD_eq_getElem?_getD,List.getD_eq_getElem?_getD,List.getElem?_take_of_lt hj]
def EH (ys:List Int):Bool:=decide (2<=ys.length)&&decide (ys.take 2=[61,61])
theorem PW (v u:Value) (ys:List Int) (w:World) (h:RdN w v ys) (h0:0<ys.length) (k:RdB w u [61,61]):Calls Tryz.prog 32 #[v,u] w fun e w'=>e=.returned (.bool (EH ys))/\w'=w:=by
 obtain⟨a,cap,rfl,hcap,hmx⟩:=h.cap;have hr:=h.rd;obtain⟨b,cap',rfl,_⟩:=k.slice;have hk:=k;unfold EH;by_cases h2:2<=ys.length
 ·obtain⟨g,off,rfl⟩:∃ g off,a=some ⟨g,off,none⟩:=by
   obtain⟨_,_,e,_,_,hc⟩:=hr
   cases e
   obtain⟨g,off,e,_⟩:=hc 0 h0;exact⟨g,off,e⟩
  have hE:=Jj _ _ _ _ w (hr.two h2) k;rw[decide_eq_true h2,Bool.true_and];have i1:(2:Int)<=(ys.length:Int):=by omega
  have i2:(2:Int)<=(cap:Int):=by omega
  generalize decide (ys.take 2=[61,61])=D at *
  obtain⟨L,hL⟩:∃ L,Hid (L=ys.length):=⟨_,show ys.length=ys.length from rfl⟩
  rw[<-hL.out]at i1 ⊢;clear hr hk k h hcap hmx;go_enter Tryz.func32,Tryz.ntmps32;go_wp2_with (go_at_call 62;refine hE.mono ?_;rintro e w1 ⟨rfl,hw⟩;obtain rfl:=hw.symm;clear hw)
  go_ret;exact⟨rfl,rfl⟩
 ·rw[decide_eq_false h2,Bool.false_and];have i1:¬ (2:Int)<=(ys.length:Int):=by omega
  clear hr hk k h;go_enter Tryz.func32,Tryz.ntmps32;go_wp2_with fail
  go_ret;exact⟨rfl,rfl⟩
theorem Sl (w:World):RdB (w.alloc (.cells #[.int .u8 61,.int .u8 61] 5 (2,3))) (.slice (some ⟨w.heap.size,0,none⟩) 2 2) [61,61]:=by
 refine⟨_,2,rfl,by decide,fun j=>?_,fun j hj=>⟨w.heap.size,0,rfl,by simp,?_⟩⟩
 ·match j with
  | 0=>exact⟨by decide,by decide⟩
  | 1=>exact⟨by decide,by decide⟩
  | j+2=>exact⟨by simp,by simp⟩
 ·match j,hj with
  | 0,_=>unfold World.cell? World.alloc;simp
  | 1,_=>unfold World.cell? World.alloc;simp
def fJ (zs:List Int) (i:Nat):Nat:=if KL.qW zs i then KL.jY zs (i+1) - i else KL.ni zs i - i
theorem NY (zs:List Int) (i:Nat) (hi:i<zs.length):KL.ni zs i - i=if EH (zs.drop i) then 2 else 1:=by
 unfold KL.ni EH;have e:∀ j,(zs.drop i).getD j 0=zs.getD (i+j) 0:=fun j=>by rw[List.getD_eq_getElem?_getD,List.getD_eq_getElem?_getD,List.getElem?_drop]
 have e0:=e 0;have e1:=e 1;rw[Nat.add_zero]at e0;rw[List.length_drop];by_cases h2:i+1<zs.length
 ·have hl:2<=(zs.drop i).length:=by rw[List.length_drop];omega
  have et:(zs.drop i).take 2=[zs.getD i 0,zs.getD (i+1) 0]:=by
   rw[<-e0,<- e1]
   match zs.drop i,hl with
   | a::b::r,_=>rfl
  rw[decide_eq_true (show 2<=zs.length - i by omega),Bool.true_and,et,decide_eq_true h2,Bool.and_true];by_cases q:zs.getD i 0=61
  ·by_cases r:zs.getD (i+1) 0=61
   ·rw[if_pos (by rw[q,r];rfl),if_pos (by rw[q,r];rfl)];omega
   ·rw[if_neg (by rw[Bool.and_eq_true,beq_iff_eq,beq_iff_eq];exact fun s=>r s.2),if_neg (by rw[decide_eq_true_eq];intro s;injection s with _ s;injection s with s;exact r s)];omega
  ·rw[if_neg (by rw[Bool.and_eq_true,beq_iff_eq,beq_iff_eq];exact fun s=>q s.1),if_neg (by rw[decide_eq_true_eq];intro s;injection s with s;exact q s)];omega
 ·rw[decide_eq_false (show ¬ 2<=zs.length - i by omega),decide_eq_false h2];simp
theorem RdB.drop {w:World}{zs:List Int}{g off n cap c:Nat}(h:RdB w (.slice (some ⟨g,off,none⟩) n cap) zs) (i:Nat) (hi:i<=zs.length):RdB w (.slice (some ⟨g,off+i,none⟩) (zs.length - i) c) (zs.drop i):=by
 obtain⟨a,c',e,hl,hb,hc⟩:=h
 cases e
 have e:∀ j,(zs.drop i).getD j 0=zs.getD (i+j) 0:=fun j=>by rw[List.getD_eq_getElem?_getD,List.getD_eq_getElem?_getD,List.getElem?_drop]
 refine⟨_,c,by rw[List.length_drop],by rw[List.length_drop];omega,fun j=>by rw[e];exact hb _,fun j hj=>?_⟩;rw[List.length_drop]at hj;obtain⟨g',off',e',hg,hv⟩:=hc (i+j) (by omega)
 cases e'
 refine⟨g,off+i,rfl,hg,?_⟩;rw[e,Nat.add_assoc];exact hv
theorem KQ (zs:List Int) (i:Nat) (hi:i<zs.length) (v:Value) (w:World) (h:RdN w v (zs.drop i)):Calls Tryz.prog 14 #[v] w fun e w'=>e=.returned (.int .i64 ((fJ zs i:Nat):Int))/\Later w w':=by
 have hl0:0<(zs.drop i).length:=by rw[List.length_drop];omega
 have hB:=TE v _ w h.rd hl0;rw[Jt zs i hi]at hB;have hH:=fun o=>PW v (.slice (some ⟨w.heap.size,0,none⟩) 2 2) _ (w.alloc o) (h.later (ae _ _)) hl0;have hH2:=hH _ (Sl w);have hcv:(convert 22 22 (.slice (some ⟨w.heap.size,0,none⟩) 2 2)).run Tryz.prog (w.alloc (.cells #[.int .u8 61,.int .u8 61] 5))=.ok (.slice (some ⟨w.heap.size,0,none⟩) 2 2) (w.alloc (.cells #[.int .u8 61,.int .u8 61] 5 (2,3))):=Go.Lib.run_convert_bytes_const w 22 5 #[.int .u8 61,.int .u8 61] 2 2 Tryz.underlying22 Tryz.underlying5;have hst:=NY zs i hi;have hr:=h.rd;obtain⟨a,cap,rfl,_,_⟩:=h.cap;unfold fJ
 cases hs:KL.qW zs i with
 | false =>
  rw[hs]at hB;rw[if_neg (by decide),hst]
  generalize EH (zs.drop i)=D at *
  obtain⟨L,hL⟩:∃ L,Hid (L=(zs.drop i).length):=⟨_,show (zs.drop i).length=_ from rfl⟩
  rw[<-hL.out]at hB hH2 ⊢;clear hH hr h hst hs
  cases D
  ·go_enter Tryz.func14,Tryz.ntmps14;go_wp2_with (go_at_call 31;refine hB.mono ?_;rintro e w1 ⟨rfl,hw⟩;obtain rfl:=hw.symm;clear hw)
   refine hH2.mono ?_;rintro e w1 ⟨rfl,hw⟩;obtain rfl:=hw.symm;clear hw;go_wp2_with fail
   go_ret;exact⟨rfl,ae _ _⟩
  ·go_enter Tryz.func14,Tryz.ntmps14;go_wp2_with (go_at_call 31;refine hB.mono ?_;rintro e w1 ⟨rfl,hw⟩;obtain rfl:=hw.symm;clear hw)
   refine hH2.mono ?_;rintro e w1 ⟨rfl,hw⟩;obtain rfl:=hw.symm;clear hw;go_wp2_with fail
   go_ret;exact⟨rfl,ae _ _⟩
 | true =>
  rw[hs]at hB;rw[if_pos rfl];obtain⟨a',c',e',hll,hb,hc⟩:=hr
  cases e'
  have hc':Hid (∀ j,i+j<zs.length->∃ g off,a=some ⟨g,off,none⟩/\w.cell? ⟨g,off+j,none⟩=some (.int .u8 (zs.getD (i+j) 0))):=fun j hj=>by
   obtain⟨g,off,e,_,hv⟩:=hc j (by rw[List.length_drop];omega);exact⟨g,off,e,by rw[hv,List.getD_eq_getElem?_getD,List.getD_eq_getElem?_getD,List.getElem?_drop]⟩
  have hP0:Hid (KL.Piece zs (i+1) (KL.jY zs (i+1))):=KL.Piece.start zs (i+1)
  obtain⟨E,hE⟩:∃ E,Hid (E=KL.jY zs (i+1)):=⟨_,show KL.jY zs (i+1)=_ from rfl⟩
  rw[<-hE.out]at hP0 ⊢
  obtain⟨L,hL⟩:∃ L,Hid (L=(zs.drop i).length):=⟨_,show (zs.drop i).length=_ from rfl⟩
  rw[<-hL.out]at hB ⊢;have hLl:Hid (L=zs.length - i):=by rw[hL.out];exact List.length_drop
  have hLi:(L:Int)<=9223372036854775807:=by rw[hL.out];exact hll
  clear hH hH2 h hst hs hc hb hll;go_enter Tryz.func14,Tryz.ntmps14;go_wp2_with (go_at_call 31;refine hB.mono ?_;rintro e w1 ⟨rfl,hw⟩;obtain rfl:=hw.symm;clear hw)
  go_loopw [3] (fun s wr=>∃ j:Nat,s=.int .i64 (j:Int)/\1<=j/\j<=L/\Hid (KL.Piece zs (i+j) E)/\wr=w) (fun s _=>L - (intOf s).toNat)
  case atStart=>exact⟨1,rfl,Nat.le_refl _,by have:=hLl.out;omega,hP0,rfl⟩
  case round =>
   obtain⟨j,rfl,hj1,hj,hP,rfl⟩:=hrel;clear hP0;by_cases hlt:j<L
   ·have ij:(j:Int)<(L:Int):=by omega
    have hjz:i+j<zs.length:=by have:=hLl.out;omega
    obtain⟨g,off,rfl,c0⟩:=hc'.out j hjz
    obtain⟨z,hz⟩:∃ z,Hid (z=zs.getD (i+j) 0):=⟨_,show zs.getD (i+j) 0=_ from rfl⟩
    rw[<-hz.out]at c0;have hd1:=fun w=>AY z w;have hl1:=fun w=>FZ z w;have hin:Hid (inner z=((low z||up z)||dig z)):=rfl
    obtain⟨D,hD⟩:∃ D,Hid (D=dig z):=⟨_,show dig z=_ from rfl⟩
    obtain⟨A,hA⟩:∃ A,Hid (A=(low z||up z)):=⟨_,show (low z||up z)=_ from rfl⟩
    rw[<-hD.out]at hd1;rw[<-hA.out]at hl1
    cases hAD:(A||D) with
    | true =>
     have hP2:Hid (KL.Piece zs (i+(j+1)) E):=hP.out.next hjz (by rw[<-hz.out,hin.out,<- hA.out,<- hD.out];exact hAD)
     clear hP
     cases A with
     | true =>
      clear hAD;go_wp2_with (go_at_call 33;refine (hl1 _).mono ?_;rintro e w1 ⟨rfl,hw⟩;obtain rfl:=hw.symm;clear hw)
      go_roundw
      case rel=>exact⟨j+1,by go_num,by omega,by omega,hP2,by first|rfl|trivial⟩
      case measure=>simp[intOf];omega
     | false =>
      cases D with
      | false=>cases hAD
      | true =>
       clear hAD;go_wp2_with (first|(go_at_call 33;refine (hl1 _).mono ?_;rintro e w1 ⟨rfl,hw⟩;obtain rfl:=hw.symm;clear hw)|(go_at_call 34;refine (hd1 _).mono ?_;rintro e w1 ⟨rfl,hw⟩;obtain rfl:=hw.symm;clear hw))
       go_roundw
       case rel=>exact⟨j+1,by go_num,by omega,by omega,hP2,by first|rfl|trivial⟩
       case measure=>simp[intOf];omega
    | false =>
     have hEj:Hid (((j:Nat):Int)=((E - i:Nat):Int)):=by
      have:=hP.out.done (fun q=>by
       have q2:=q.2;rw[<-hz.out,hin.out,<- hA.out,<- hD.out,hAD]at q2
       cases q2)
      show _=_;omega
     clear hP
     cases A with
     | true=>cases hAD
     | false =>
      cases D with
      | true=>cases hAD
      | false =>
       clear hAD;go_wp2_with (first|(go_at_call 33;refine (hl1 _).mono ?_;rintro e w1 ⟨rfl,hw⟩;obtain rfl:=hw.symm;clear hw)|(go_at_call 34;refine (hd1 _).mono ?_;rintro e w1 ⟨rfl,hw⟩;obtain rfl:=hw.symm;clear hw))
       go_ret;exact⟨wu hEj.out,Later.refl _⟩
   ·have ij:¬ (j:Int)<(L:Int):=by omega
    have hEj:Hid (((j:Nat):Int)=((E - i:Nat):Int)):=by
     have:=hP.out.done (fun q=>by have:=hLl.out;omega);show _=_;omega
    clear hP;go_wp2_with fail
    go_ret;exact⟨wu hEj.out,Later.refl _⟩
end Go.Proofs.YtgaddpkkjebekaaGreatDoor
namespace Go.Proofs.YtgaddpkkjebekaaGreatDoor
open Go.RowKit Go.Lib
theorem DU (c:UInt8) (d:Nat) (hc:48<=c.toNat/\c.toNat<=57) (hd:d=c.toNat - 48):∀ (l:List UInt8) (acc a:Nat),parseUint10 acc l=.ok a->a<1844674407370955162->a*10+d<18446744073709551616->parseUint10 acc (l++[c])=.ok (a*10+d)
 | [],acc,a,h,h1,h2=>by
  rw[parseUint10]at h
  cases h
  rw[List.nil_append,parseUint10,if_pos hc,if_neg (by omega),if_neg (by omega),parseUint10,hd]
 | b::r,acc,a,h,h1,h2=>by
  rw[parseUint10]at h;rw[List.cons_append,parseUint10];split at h
  ·rename_i q
   rw[if_pos q];split at h
   ·cases h
   ·rename_i q2
    rw[if_neg q2];split at h
    ·cases h
    ·rename_i q3
     rw[if_neg q3];exact DU c d hc hd r _ a h h1 h2
  ·cases h
theorem UD (u:Nat):u<18446744073709551616->parseUint10 0 (decDigits u)=.ok u:=by
 induction u using Nat.strongRecOn with
 | _ u ih =>
 intro hu;rw[decDigits];by_cases h:u<10
 ·rw[dif_pos h];have e:(UInt8.ofNat (48+u)).toNat=48+u:=by rw[UInt8.toNat_ofNat'];omega
  have:=DU (UInt8.ofNat (48+u)) u (by rw[e];omega) (by rw[e];omega) [] 0 0 rfl (by decide) (by omega);rw[List.nil_append]at this;rw[this]
  congr 1
  omega
 ·rw[dif_neg h];have e:(UInt8.ofNat (48+u % 10)).toNat=48+u % 10:=by rw[UInt8.toNat_ofNat'];omega
  rw[DU (UInt8.ofNat (48+u % 10)) (u % 10) (by rw[e];omega) (by rw[e];omega) _ 0 (u / 10) (ih (u / 10) (by omega) (by omega)) (by omega) (by omega)]
  congr 1
  omega
theorem Gz (u:Nat):∃ c r,decDigits u=c::r/\48<=c.toNat/\c.toNat<=57:=by
 induction u using Nat.strongRecOn with
 | _ u ih =>
 rw[decDigits];by_cases h:u<10
 ·rw[dif_pos h];have e:(UInt8.ofNat (48+u)).toNat=48+u:=by rw[UInt8.toNat_ofNat'];omega
  exact⟨_,[],rfl,by rw[e];omega,by rw[e];omega⟩
 ·rw[dif_neg h];obtain⟨c,r,e,h1,h2⟩:=ih (u / 10) (by omega);rw[e];exact⟨c,r++[_],rfl,h1,h2⟩
theorem JP (u:Nat) (hu:u<18446744073709551616):parseMag (decDigits u)=.ok u:=by
 unfold parseMag;obtain⟨c,r,e,_⟩:=Gz u;rw[if_neg (by rw[e];simp)];exact UD u hu
theorem NC {n:Int}(hn:InR n):atoiAll (itoa n)=.ok n:=by
 unfold InR at hn;unfold itoa;by_cases h:n<0
 ·rw[if_pos h,atoiAll_minus,JP _ (by omega)];unfold signed;simp only;rw[if_neg (by omega)]
  congr 1
  omega
 ·rw[if_neg h];obtain⟨c,r,e,h1,h2⟩:=Gz n.toNat;rw[e,atoiAll_plain c r (by omega) (by omega),<- e,JP _ (by omega)];unfold signless;simp only;rw[if_neg (by omega)]
  congr 1
  omega
theorem oI (s:ByteArray):s=strOfNums (bytesOf s):=by
 obtain⟨d⟩:=s;unfold strOfNums bytesOf
 congr 1
 rw[List.map_map]
 have:((fun n:Int=>UInt8.ofNat n.toNat) ∘ fun b:UInt8=>(b.toNat:Int))=id:=by
  funext b
  show UInt8.ofNat ((b.toNat:Int)).toNat=b;rw[Int.toNat_natCast];exact UInt8.ofNat_toNat
 rw[this,List.map_id]
theorem ML {n:Int}(hn:InR n):(strOfNums (iI n)).data.toList=itoa n:=by
 have:=oI ⟨(itoa n).toArray⟩;rw[BA n hn]at this;rw[<-this]
structure vN (W:World):Prop where
 tab:TabIs Tryz.prog W "internal/strconv.uint64pow10" .u64 pow10Tab
 big:9<W.heap.size
 deb:W.cell? ⟨9,15,none⟩=some (.int .u8 4)
 syn:∃ tp p,W.cell? ⟨2,0,none⟩=some (.iface tp p)
 ran:∃ tp p,W.cell? ⟨3,0,none⟩=some (.iface tp p)
 syb:2<W.heap.size
 rab:3<W.heap.size
theorem vN.later {W w:World}(h:vN W) (hw:Later W w):vN w where
 tab:=tabBelow_of_tabIs h.tab w hw
 big:=Nat.lt_of_lt_of_le h.big hw.size
 deb:=by rw[hw.cell (p:=⟨9,15,none⟩) h.big];exact h.deb
 syn:=by obtain⟨tp,p,h1⟩:=h.syn;exact⟨tp,p,by rw[hw.cell (p:=⟨2,0,none⟩) h.syb];exact h1⟩
 ran:=by obtain⟨tp,p,h1⟩:=h.ran;exact⟨tp,p,by rw[hw.cell (p:=⟨3,0,none⟩) h.rab];exact h1⟩
 syb:=Nat.lt_of_lt_of_le h.syb hw.size
 rab:=Nat.lt_of_lt_of_le h.rab hw.size
theorem SH {w:World}(hE:vN w) {n:Int}(hn:InR n):Calls Tryz.prog 66 #[.int .i64 n] w fun e w'=>e=.returned (.string (strOfNums (iI n)))/\Later w w':=by
 refine (J5 _ rfl n w hn hE.tab).mono ?_;rintro e w' ⟨s,rfl,hs,l⟩;exact⟨by rw[oI s,hs],l⟩
theorem jK (w:World) (e:TypeId) (s:ByteArray):Later w (bytesWorld w e s):=bytesWorld_below w e s
theorem Oc (zs:List Int) (hz:∀ j,isB (zs.getD j 0)) (hl:zs.length<=6000) (w:World) (hE:vN w):Calls Tryz.prog 35 #[.string (strOfNums zs)] w (KL.BQ zs w):=by
 have hsz:(strOfNums zs).size<=6000:=by rw[strOfNums_size];exact hl
 have hdec:∀ m,InR m->zs=iI m->atoiAll (strOfNums zs).data.toList=.ok m:=fun m hm e=>by rw[e,ML hm];exact NC hm
 have hdB:∀ m,InR m->∀ j,isB ((iI m).getD j 0):=fun m _=>KL.Qp m
 cases h:atoiAll (strOfNums zs).data.toList with
 | ok v =>
  have hv:InR v:=atoiAll_bounds h;have hA:=Tryz.strconv_Atoi_ok (strOfNums zs) (by omega) v h w;have hI:=fun w' (l:Later w w')=>SH (hE.later l) hv;have hcmp:=lQ (hdB v hv) hz;by_cases he:iI v=zs
  ·have HB:Hid (∀ w',Later w w'->KL.BQ zs w (.returned (.tuple #[.int .i64 v,.bool true])) w'):=fun w' l=>⟨v,true,rfl,by rw[if_pos rfl,<- he];exact KL.IQ hv,l⟩
   rw[decide_eq_true he]at hcmp
   generalize hQ:KL.BQ zs w=Q at *
   generalize strOfNums zs=SZ at *
   generalize strOfNums (iI v)=SV at *
   have hcmp2:(SV.toList != SZ.toList)=false:=by unfold bne;rw[hcmp];rfl
   clear hQ hdec hdB h hE;go_enter Tryz.func35,Tryz.ntmps35;go_wp2_with fail
   refine hA.mono ?_;rintro e w1 ⟨rfl,hw1⟩
   have l1:Later w w1:=by
    rcases hw1 with rfl|⟨t,rfl⟩
    ·exact Later.refl _
    ·exact jK _ _ _
   clear hw1;go_wp2_with fail
   refine (hI _ l1).mono ?_;rintro e w2 ⟨rfl,l2⟩;have HC:=HB.out w2 (l1.trans l2);clear HB;go_wp2_with fail
   exact HC
  ·have HB:Hid (∀ w',Later w w'->KL.BQ zs w (.returned (.tuple #[.int .i64 0,.bool false])) w'):=fun w' l=>⟨0,false,rfl,by
    rw[if_neg (by decide)]
    exact KL.mr (fun m hm e=>by
     have:=hdec m hm e;rw[h]at this
     cases this
     exact he e.symm),l⟩
   rw[decide_eq_false he]at hcmp
   generalize hQ:KL.BQ zs w=Q at *
   generalize strOfNums zs=SZ at *
   generalize strOfNums (iI v)=SV at *
   have hcmp2:(SV.toList != SZ.toList)=true:=by unfold bne;rw[hcmp];rfl
   clear hQ hdec hdB h hE;go_enter Tryz.func35,Tryz.ntmps35;go_wp2_with fail
   refine hA.mono ?_;rintro e w1 ⟨rfl,hw1⟩
   have l1:Later w w1:=by
    rcases hw1 with rfl|⟨t,rfl⟩
    ·exact Later.refl _
    ·exact jK _ _ _
   clear hw1;go_wp2_with fail
   refine (hI _ l1).mono ?_;rintro e w2 ⟨rfl,l2⟩;have HC:=HB.out w2 (l1.trans l2);clear HB;go_wp2_with fail
   exact HC
 | «syntax» =>
  have HB:Hid (∀ w',Later w w'->KL.BQ zs w (.returned (.tuple #[.int .i64 0,.bool false])) w'):=fun w' l=>⟨0,false,rfl,by
   rw[if_neg (by decide)]
   exact KL.mr (fun m hm e=>by
    have:=hdec m hm e;rw[h]at this
    cases this),l⟩
  obtain⟨tp,p,hs⟩:=hE.syn;have hA:=Tryz.strconv_Atoi_syntax (strOfNums zs) (by omega) h _ w hs (.inr ⟨_,_,rfl⟩)
  generalize hQ:KL.BQ zs w=Q at *
  generalize strOfNums zs=SZ at *
  clear hQ hdec hdB h hE hs;go_enter Tryz.func35,Tryz.ntmps35;go_wp2_with fail
  refine hA.mono ?_;rintro e w1 ⟨N,rfl,_,_,l1⟩;have HC:=HB.out w1 l1;clear HB;go_wp2_with fail
  exact HC
 | range =>
  have HB:Hid (∀ w',Later w w'->KL.BQ zs w (.returned (.tuple #[.int .i64 0,.bool false])) w'):=fun w' l=>⟨0,false,rfl,by
   rw[if_neg (by decide)]
   exact KL.mr (fun m hm e=>by
    have:=hdec m hm e;rw[h]at this
    cases this),l⟩
  obtain⟨tp,p,hs⟩:=hE.ran;have hA:=Tryz.strconv_Atoi_range (strOfNums zs) (by omega) h _ w hs (.inr ⟨_,_,rfl⟩)
  generalize hQ:KL.BQ zs w=Q at *
  generalize strOfNums zs=SZ at *
  clear hQ hdec hdB h hE hs;go_enter Tryz.func35,Tryz.ntmps35;go_wp2_with fail
  refine hA.mono ?_;rintro e w1 ⟨N,rfl,_,_,l1⟩;have HC:=HB.out w1 l1;clear HB;go_wp2_with fail
  exact HC
end Go.Proofs.YtgaddpkkjebekaaGreatDoor
