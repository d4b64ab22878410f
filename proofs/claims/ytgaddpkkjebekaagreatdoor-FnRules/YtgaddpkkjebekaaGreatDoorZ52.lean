import Derived.Test.YtgaddpkkjebekaaGreatDoorZ51
import Derived.Test.YtgaddpkkjebekaaGreatDoorZ38
import Derived.Test.YtgaddpkkjebekaaGreatDoorZ50
import Derived.Laws.RangeAny
set_option maxHeartbeats 100000000
set_option maxRecDepth 100000
namespace Go.Proofs.YtgaddpkkjebekaaGreatDoor
open Go.RowKit Go.Lib
theorem Dp {v:Nat}(hv:v<16):KL.x9 (hexD v)=true/\KL.hexV (hexD v)=(v:Int):=by
 rcases lu hv with ⟨h1,h2,h3⟩|⟨h1,h2,h3⟩
 ·have hb:isB (hexD v):=by unfold isB;omega
  rcases KL.AZ hb with h|h|h|h|h
  ·exact⟨h.2.2.1,by rw[h.2.2.2];exact h3⟩
  all_goals exact absurd h1 (by omega)
 ·have hb:isB (hexD v):=by unfold isB;omega
  rcases KL.AZ hb with h|h|h|h|h
  ·exact absurd h1 (by omega)
  ·exact⟨h.2.2.1,by rw[h.2.2.2];exact h3⟩
  all_goals exact absurd h1 (by omega)
theorem Gv:∀ (k u:Nat),KL.evH (dD k u)=((u % 16 ^ k:Nat):Int)
 | 0,u=>by rw[dD,Nat.pow_zero,Nat.mod_one];rfl
 | k+1,u=>by
  rw[dD,KL.Gu,Gv k (u / 16),(Dp (Nat.mod_lt u (by decide))).2,Nat.pow_succ,Nat.mul_comm (16 ^ k) 16,Nat.mod_mul];omega
theorem sZ (m:Int):∃ u:Nat,(u:Int)=m % 18446744073709551616/\hexL m=48::102::dD 16 u:=⟨(m % 18446744073709551616).toNat,by omega,by unfold hexL;rw[List.cons_append,List.cons_append,List.nil_append]⟩
theorem Qd {m:Int}(hm:InR m):KL.dB (hexL m)=if KL.canon m then some m else none:=by
 have hl:=Ba m;obtain⟨u,hu,e⟩:=sZ m;rw[e]at hl ⊢;have hd:(48::102::dD 16 u:List Int).drop 2=dD 16 u:=by rw[List.drop_succ_cons,List.drop_succ_cons,List.drop_zero]
 have hw:wrap64 (KL.evH (dD 16 u))=m:=by
  have h16:(16:Nat) ^ 16=18446744073709551616:=by decide
  rw[Gv,h16];unfold InR at hm;unfold wrap64;omega
 have hg:∀ i,(48::102::dD 16 u:List Int).getD (i+2) 0=(dD 16 u).getD i 0:=fun i=>by
  rw[List.getD_eq_getElem?_getD,List.getElem?_cons_succ,List.getElem?_cons_succ,<- List.getD_eq_getElem?_getD]
 rw[KL.Qc hl rfl rfl (fun j hj hj2=>by
  obtain⟨i,rfl⟩:∃ i,j=i+2:=⟨j - 2,by omega⟩
  rw[hg,Be 16 _ _ (by omega)]
  exact (Dp (Nat.mod_lt _ (by decide))).1),hd,hw]
theorem Ko:∀ (k:Nat) (xs:List Int),xs.length=k->(∀ z∈xs,isB z/\KL.x9 z=true)->0<=KL.evH xs/\KL.evH xs<((16 ^ k:Nat):Int)/\dD k (KL.evH xs).toNat=xs
 | 0,xs,h,_=>by
  obtain rfl:=List.length_eq_zero_iff.1 h;exact⟨by decide,by decide,rfl⟩
 | k+1,xs,h,ha=>by
  have hne:xs≠[]:=fun e=>by rw[e]at h;cases h
  obtain⟨ys,z,rfl⟩:∃ ys z,xs=ys++[z]:=⟨_,_,(List.dropLast_concat_getLast hne).symm⟩
  have hl:ys.length=k:=by rw[List.length_append]at h;simpa using h
  obtain⟨i0,i1,i2⟩:=Ko k ys hl (fun x hx=>ha x (List.mem_append_left _ hx));obtain⟨hb,hh⟩:=ha z (List.mem_append_right _ (List.mem_singleton.2 rfl))
  obtain⟨v0,v1,v2⟩:0<=KL.hexV z/\KL.hexV z<16/\hexD (KL.hexV z).toNat=z:=by
   rcases KL.AZ hb with h|h|h|h|h
   ·refine⟨by omega,by omega,?_⟩;unfold hexD;rw[if_pos (by omega)];omega
   ·refine⟨by omega,by omega,?_⟩;unfold hexD;rw[if_neg (by omega)];omega
   ·rw[h.2]at hh;cases hh
   ·rw[h.2.2]at hh;cases hh
   ·rw[h.2]at hh;cases hh
  rw[KL.Gu];refine⟨by omega,by rw[Nat.pow_succ];omega,?_⟩;rw[dD,show (KL.evH ys*16+KL.hexV z).toNat / 16=(KL.evH ys).toNat by omega,i2,show (KL.evH ys*16+KL.hexV z).toNat % 16=(KL.hexV z).toNat by omega,v2]
theorem Kq {zs:List Int}(hz:∀ j,isB (zs.getD j 0)) (h:∀ m,InR m->zs=hexL m->False):KL.dB zs=none:=by
 refine KL.Gn (fun ⟨h1,h2,h3,h4⟩=>?_)
 have ha:∀ z∈zs.drop 2,isB z/\KL.x9 z=true:=fun z hm=>by
  obtain⟨j,hj,rfl⟩:=List.mem_iff_getElem.1 hm;rw[List.length_drop]at hj
  have e:(zs.drop 2)[j]'(by rw[List.length_drop];exact hj)=zs.getD (2+j) 0:=by
   rw[List.getElem_drop,List.getD_eq_getElem?_getD,List.getElem?_eq_getElem (by omega)];rfl
  rw[e];exact⟨hz _,h4 _ (by omega) (by omega)⟩
 obtain⟨i0,i1,i2⟩:=Ko 16 (zs.drop 2) (by rw[List.length_drop];omega) ha;have h16:(16:Nat) ^ 16=18446744073709551616:=by decide
 rw[h16]at i1
 obtain⟨E,hE⟩:∃ E,E=KL.evH (zs.drop 2):=⟨_,rfl⟩
 rw[<-hE]at i0 i1 i2;obtain⟨u,hu,e⟩:=sZ (wrap64 E);refine h (wrap64 E) (by unfold InR wrap64;omega) ?_;rw[e,show u=E.toNat by unfold wrap64 at hu;omega,i2]
 match zs,h1,h2,h3 with
 | a::b::r,_,h2,h3 =>
  have e1:a=48:=h2;have e2:b=102:=h3;rw[e1,e2,List.drop_succ_cons,List.drop_succ_cons,List.drop_zero]
theorem Qs {n:Int}(hn:InR n):(cb (fb n)==n)=KL.canon n:=by
 unfold KL.canon;by_cases h:Ag (fb n)=true
 ·rw[if_pos h,Jn h,Bool.eq_iff_iff,beq_iff_eq,beq_iff_eq];exact eq_comm
 ·have h':Ag (fb n)=false:=by simpa using h
  rw[if_neg h,KL.Jo hn h'];simp
theorem Gf (n:Int) (hn:InR n) (w:World):Calls Tryz.prog 70 #[.int .i64 n] w fun e w'=>e=.returned (.bool (KL.canon n))/\w'=w:=by
 have hq:=Qs hn
 generalize KL.canon n=cn at *
 have hF:=Dt n w;have hB:=GU (fb n) w
 generalize cb (fb n)=r at *
 go_enter Tryz.func70,Tryz.ntmps70;go_wp2_with (first|(go_at_call 99;refine hF.mono ?_;rintro e w1 ⟨rfl,hww⟩;obtain rfl:=hww.symm)|(go_at_call 98;refine hB.mono ?_;rintro e w1 ⟨rfl,hww⟩;obtain rfl:=hww.symm))
 go_ret;exact⟨rfl,rfl⟩
def PuQ (zs:List Int) (w:World) (e:Ending) (w':World):Prop:=∃ (n:Int) (ev:Value),e=.returned (.tuple #[.int .u64 n,ev])/\(0<=n/\n<18446744073709551616)/\Later w w'/\(ev=.nilIface\/∃ t p,ev=.iface t p)/\∀ u:Nat,u<18446744073709551616->zs=dD 16 u->n=(u:Int)/\ev=.nilIface
theorem H7 (zs:List Int) (hz:∀ j,isB (zs.getD j 0)) (hl:zs.length<=6000) (w:World) (hE:vN w):Calls Tryz.prog 68 #[.string (strOfNums zs),.int .i64 16,.int .i64 64] w (PuQ zs w):=by
 have hP:=LG zs hz hl w;have hsz:(strOfNums zs).size<=281474976710656:=by rw[strOfNums_size];omega
 have hEr:Hid (∀ w1,Later w w1->∀ q:Int,(q=2\/q=1)->Calls Tryz.prog 92 #[.string ⟨#[80,97,114,115,101,85,105,110,116]⟩,.string (strOfNums zs),.int .i64 16,.int .i64 64,.iface 176 (.int .i64 q)] w1 (fun e w'=>∃ t p,e=.returned (.iface t p)/\Later w1 w')):=fun w1 l q hq=>by
  have hE1:=hE.later l;rcases hq with rfl|rfl
  ·obtain⟨tp,p,hs⟩:=hE1.syn;refine (Tryz.strconv_toError_syntax _ _ 16 64 _ w1 hsz hs (.inr ⟨_,_,rfl⟩)).mono ?_;rintro e w2 ⟨N,rfl,_,_,l2⟩;exact⟨_,_,rfl,l2⟩
  ·obtain⟨tp,p,hs⟩:=hE1.ran;refine (Tryz.strconv_toError_range _ _ 16 64 _ w1 hsz hs (.inr ⟨_,_,rfl⟩)).mono ?_;rintro e w2 ⟨N,rfl,_,_,l2⟩;exact⟨_,_,rfl,l2⟩
 have HQ:Hid (∀ n ev w',(0<=n/\n<18446744073709551616)->Later w w'->(ev=.nilIface\/∃ t p,ev=.iface t p)->(∀ u:Nat,u<18446744073709551616->zs=dD 16 u->n=(u:Int)/\ev=.nilIface)->PuQ zs w (.returned (.tuple #[.int .u64 n,ev])) w'):=fun n ev w' h1 h2 h3 h4=>⟨n,ev,rfl,h1,h2,h3,h4⟩
 generalize hQ:PuQ zs w=Q at *
 generalize strOfNums zs=S at *
 clear hQ hsz hE;go_enter Tryz.func68,Tryz.ntmps68;go_wp2_with fail
 refine hP.mono ?_;rintro e w1 ⟨n,ev,rfl,hn,l1,hev,hu⟩;have HU:Hid _:=hu;clear hu hP;have HN:Hid _:=hn;clear hn;rcases hev with rfl|hev
 ·have HA:=HQ.out n .nilIface w1 HN.out l1 (.inl rfl) HU.out;clear HQ hEr;go_wp2_with fail
  exact HA
 ·obtain⟨q,hq,rfl⟩:∃ q:Int,(q=2\/q=1)/\ev=.iface 176 (.int .i64 q):=by
   rcases hev with rfl|rfl
   ·exact⟨_,.inl rfl,rfl⟩
   ·exact⟨_,.inr rfl,rfl⟩
  have hT:=hEr.out w1 l1 q hq;have HA:Hid (∀ t p w2,Later w1 w2->Q (.returned (.tuple #[.int .u64 n,.iface t p])) w2):=fun t p w2 l2=>HQ.out n _ w2 HN.out (l1.trans l2) (.inr ⟨_,_,rfl⟩) (fun u hu e=>absurd (HU.out u hu e).2 (by intro h;cases h));clear HQ hEr hev hq;go_wp2_with fail
  refine hT.mono ?_;rintro e w2 ⟨t,p,rfl,l2⟩;have HB:=HA.out t p w2 l2;clear HA;go_wp2_with fail
  exact HB
theorem TS {z:Int}(h:isB z) {c:Nat}(hc:c<256):(UInt8.ofNat z.toNat=UInt8.ofNat c)↔z=(c:Int):=by
 unfold isB at h;constructor
 ·intro e;have:=congrArg UInt8.toNat e;rw[UInt8.toNat_ofNat',UInt8.toNat_ofNat']at this;omega
 ·rintro rfl;rw[Int.toNat_natCast]
theorem Rt (r:List Int):Lib.hasPrefix (strOfNums (48::102::r)).data.toList (⟨#[48,102]⟩:ByteArray).data.toList=true:=by
 rw[strOfNums_data];rfl
theorem UE {zs:List Int}(hz:∀ j,isB (zs.getD j 0)) (h:∀ r,zs=48::102::r->False):Lib.hasPrefix (strOfNums zs).data.toList (⟨#[48,102]⟩:ByteArray).data.toList=false:=by
 rw[strOfNums_data]
 match zs,hz,h with
 | [],_,_=>rfl
 | [a],_,_=>show ((48:UInt8)==UInt8.ofNat a.toNat&&false)=false;rw[Bool.and_false]
 | a::b::r,hz,h =>
  show ((48:UInt8)==UInt8.ofNat a.toNat&&((102:UInt8)==UInt8.ofNat b.toNat&&true))=false;rw[Bool.and_true,Bool.and_eq_false_iff];by_cases e:a=48
  ·refine .inr (beq_eq_false_iff_ne.2 fun e2=>h r ?_);have:b=((102:Nat):Int):=(TS (c:=102) (hz 1) (by decide)).1 e2.symm;rw[e,this];rfl
  ·exact .inl (beq_eq_false_iff_ne.2 fun e2=>e ((TS (c:=48) (hz 0) (by decide)).1 e2.symm))
def BR (T:ByteArray) (b:Bool) (w:World) (e:Ending) (w':World):Prop:=e=.returned (.tuple #[.string T,.bool b])/\w'=w
theorem Tz (a b:Int) (r:List Int):(strOfNums (a::b::r)).extract 2 (r.length+1+1)=strOfNums r:=by
 have h:((strOfNums (a::b::r)).extract 2 (r.length+1+1)).data=(strOfNums r).data:=by
  rw[ByteArray.data_extract]
  apply Array.toList_inj.1
  rw[Array.toList_extract,strOfNums_data,strOfNums_data,List.map_cons,List.map_cons,List.extract_eq_take_drop,List.drop_succ_cons,List.drop_succ_cons,List.drop_zero,List.take_of_length_le (by rw[List.length_map];omega)]
 cases hA:(strOfNums (a::b::r)).extract 2 (r.length+1+1) with
 | mk d =>
  cases hB:strOfNums r with
  | mk d2=>rw[hA,hB]at h;exact congrArg _ h
theorem Qr (r:List Int) (hl:r.length<=6000) (w:World):Calls Tryz.prog 94 #[.string (strOfNums (48::102::r)),.string ⟨#[48,102]⟩] w (BR (strOfNums r) true w):=by
 have hH:=Tryz.stringslite_HasPrefix (strOfNums (48::102::r)) ⟨#[48,102]⟩ w;rw[Rt]at hH;have hsz:=strOfNums_size (48::102::r);rw[List.length_cons,List.length_cons]at hsz;obtain⟨S,hS⟩:=dJ (strOfNums (48::102::r));rw[<-hS.out]at hH hsz ⊢
 have HA:BR (strOfNums r) true w (.returned (.tuple #[.string (S.extract 2 (r.length+1+1)),.bool true])) w:=⟨by rw[hS.out,Tz],rfl⟩
 generalize BR (strOfNums r) true w=Q at *
 go_enter Tryz.func94,Tryz.ntmps94;go_wp2_with fail
 refine hH.mono ?_;rintro e w1 ⟨rfl,hw⟩;obtain rfl:=hw.symm;clear hw;go_wp2_with fail
 exact HA
theorem TA (zs:List Int) (hz:∀ j,isB (zs.getD j 0)) (h:∀ r,zs=48::102::r->False) (w:World):Calls Tryz.prog 94 #[.string (strOfNums zs),.string ⟨#[48,102]⟩] w (BR (strOfNums zs) false w):=by
 have hH:=Tryz.stringslite_HasPrefix (strOfNums zs) ⟨#[48,102]⟩ w;rw[UE hz h]at hH
 generalize strOfNums zs=S at *
 have HA:BR S false w (.returned (.tuple #[.string S,.bool false])) w:=⟨rfl,rfl⟩
 generalize BR S false w=Q at *
 clear hz h;go_enter Tryz.func94,Tryz.ntmps94;go_wp2_with fail
 refine hH.mono ?_;rintro e w1 ⟨rfl,hw⟩;obtain rfl:=hw.symm;clear hw;go_wp2_with fail
 exact HA
theorem Qq (S T:ByteArray) (b:Bool) (w:World) (h:Calls Tryz.prog 94 #[.string S,.string ⟨#[48,102]⟩] w (BR T b w)):Calls Tryz.prog 67 #[.string S,.string ⟨#[48,102]⟩] w (BR T b w):=by
 have HA:BR T b w (.returned (.tuple #[.string T,.bool b])) w:=⟨rfl,rfl⟩
 generalize hQ:BR T b w=Q at HA ⊢
 go_enter Tryz.func67,Tryz.ntmps67;go_wp2_with fail
 refine h.mono ?_;rintro e w1 ⟨rfl,hw⟩;obtain rfl:=hw.symm;clear hw;go_wp2_with fail
 exact HA
theorem Oe (zs:List Int) (hz:∀ j,isB (zs.getD j 0)) (hl:zs.length<=6000) (w:World) (hE:vN w):Calls Tryz.prog 36 #[.string (strOfNums zs)] w (KL.GZ zs w):=by
 by_cases hp:∃ r,zs=48::102::r
 ·obtain⟨r,rfl⟩:=hp;have hlr:r.length<=6000:=by rw[List.length_cons,List.length_cons]at hl;omega
  have hzr:∀ j,isB (r.getD j 0):=fun j=>hz (j+2);have hC:=Qq _ _ _ w (Qr r hlr w);have hU:=H7 r hzr hlr w hE;have hF:Hid (∀ m w',Later w w'->Calls Tryz.prog 69 #[.int .i64 m] w' (GY w' (hexL m))):=fun m w' l=>Kr m w' (hE.later l).big (hE.later l).deb;have hB:=fun m (hm:InR m) w'=>Gf m hm w'
  have HP:Hid (∀ n b w',Later w w'->KL.dB (48::102::r)=(if b then some n else none)->KL.GZ (48::102::r) w (.returned (.tuple #[.int .i64 n,.bool b])) w'):=fun n b w' l h=>⟨n,b,rfl,h,l⟩
  have HN:Hid ((∀ u:Nat,u<18446744073709551616->(u:Int)=0\/True->r=dD 16 u->False)->KL.dB (48::102::r)=none):=fun h=>Kq hz (fun m hm e=>by
   obtain⟨u,hu,e2⟩:=sZ m;rw[e2]at e
   exact h u (by omega) (.inr trivial) (List.cons.inj (List.cons.inj e).2).2)
  have hcm:Hid (∀ m s,bytesOf s=hexL m->(s.toList==(strOfNums (48::102::r)).toList)=decide (hexL m=48::102::r)):=fun m s hs=>by
   rw[oI s,hs]
   exact lQ (fun j=>by
    obtain⟨u,_,e2⟩:=sZ m;rw[e2,List.getD_eq_getElem?_getD]
    cases hj:(48::102::dD 16 u:List Int)[j]? with
    | none=>exact⟨by decide,by decide⟩
    | some x =>
     have hm:=List.mem_of_getElem? hj;rw[List.mem_cons,List.mem_cons]at hm;rw[Option.getD_some];unfold isB;rcases hm with rfl|rfl|hm
     ·exact⟨by decide,by decide⟩
     ·exact⟨by decide,by decide⟩
     ·have:=x8 16 u x hm
      omega) hz
  have hfl:Hid (∀ m,InR m->hexL m=48::102::r->KL.dB (48::102::r)=if KL.canon m then some m else none):=fun m hm e=>by rw[<-e];exact Qd hm
  generalize hQ:KL.GZ (48::102::r) w=Q at *
  generalize strOfNums (48::102::r)=S at *
  generalize strOfNums r=R at *
  clear hQ hE hz hzr;go_enter Tryz.func36,Tryz.ntmps36;go_wp2_with fail
  refine hC.mono ?_;rintro e w1 ⟨rfl,hw⟩;obtain rfl:=hw.symm;clear hw hC;go_wp2_with fail
  refine hU.mono ?_;rintro e w1 ⟨n,ev,rfl,⟨hn0,hn1⟩,l1,hev,hu⟩;have HU:Hid _:=hu;clear hu hU;rcases hev with rfl|⟨t,p,rfl⟩
  ·obtain⟨m,hm⟩:=dJ (IntKind.i64.wrap n);have hmR:InR m:=by rw[hm.out,IntKind.wrap_i64];unfold InR;omega
   have hT:=hF.out m w1 l1;have hBm:=fun w'=>hB m hmR w';have hcm2:=fun s h=>hcm.out m s h;have hfl2:=hfl.out m hmR
   have HW:Hid (∀ u:Nat,u<18446744073709551616->r=dD 16 u->hexL m=48::102::r):=fun u hu e=>by
    have h1:=(HU.out u hu e).1;obtain⟨v,hv,e2⟩:=sZ m;have hm2:=hm.out;rw[IntKind.wrap_i64]at hm2;rw[e2,e,show v=u by omega]
   clear hF hB hcm hfl HU;have hm':IntKind.i64.wrap n=m:=hm.out.symm;by_cases he:hexL m=48::102::r
   ·have hfl3:=hfl2 he;rw[decide_eq_true he]at hcm2;have HC:Hid (∀ w',Later w w'->Q (.returned (.tuple #[.int .i64 (if KL.canon m then m else 0),.bool (KL.canon m)])) w'):=fun w' l=>HP.out _ _ w' l (by rw[hfl3];cases KL.canon m <;> rfl);have hcm3:Hid (∀ s,bytesOf s=hexL m->(s.toList==S.toList)=true):=fun s h=>hcm2 s h
    generalize KL.canon m=C at *
    clear hfl2 hfl3 HW HP HN hcm2 he
    cases C
    all_goals
     go_wp2_with fail
     refine hT.mono ?_;rintro e w2 ⟨s,rfl,hs,l2⟩;have hc4:=hcm3.out s hs;have hc5:(s.toList != S.toList)=false:=by unfold bne;rw[hc4];rfl
     have HD:=HC.out w2 (l1.trans l2);clear hcm3 HC hs;go_wp2_with (go_at_call 70;refine (hBm _).mono ?_;rintro e w3 ⟨rfl,hw⟩;obtain rfl:=hw.symm;clear hw)
     exact HD
   ·have HC:Hid (∀ w',Later w w'->Q (.returned (.tuple #[.int .i64 0,.bool false])) w'):=fun w' l=>HP.out _ _ w' l (by rw[HN.out (fun u hu _ e=>he (HW.out u hu e))];rfl);rw[decide_eq_false he]at hcm2;have hcm3:Hid (∀ s,bytesOf s=hexL m->(s.toList==S.toList)=false):=fun s h=>hcm2 s h;clear hfl2 HW HP HN hcm2 he;go_wp2_with fail
    refine hT.mono ?_;rintro e w2 ⟨s,rfl,hs,l2⟩;have hc4:=hcm3.out s hs;have hc5:(s.toList != S.toList)=true:=by unfold bne;rw[hc4];rfl
    have HD:=HC.out w2 (l1.trans l2);clear hcm3 HC hs;go_wp2_with fail
    exact HD
  ·have HA:=HP.out 0 false w1 l1 (by rw[HN.out (fun u hu _ e=>by have:=(HU.out u hu e).2;cases this)];rfl);clear HP HN HU hF hB hcm hfl;go_wp2_with fail
   exact HA
 ·have HA:=KL.GZ.no (w':=w) (n:=0) (zs:=zs) rfl (Kq hz (fun m _ e=>by
   obtain⟨u,hu,e2⟩:=sZ m
   exact hp ⟨_,by rw[e,e2]⟩)) (Later.refl w)
  have hC:=Qq _ _ _ w (TA zs hz (fun r e=>hp ⟨r,e⟩) w)
  generalize hQ:KL.GZ zs w=Q at *
  generalize strOfNums zs=S at *
  clear hQ hE hz hp;go_enter Tryz.func36,Tryz.ntmps36;go_wp2_with fail
  refine hC.mono ?_;rintro e w1 ⟨rfl,hw⟩;obtain rfl:=hw.symm;clear hw hC;go_wp2_with fail
  exact HA
def SG:ByteArray:={ data:=#[40,41,123,125,91,93,44,59,46,42,61,43,47,37,60,45] }
theorem UA:∀ k,k<16->Utf8.decode SG k=((eU.getD k 0).toNat,1):=by decide
theorem Uz:∀ k,k<16->Utf8.encode (eU.getD k 0)=strOfNums [eU.getD k 0]:=by decide
theorem JB:∀ k,k<16->isB (eU.getD k 0)/\0<=eU.getD k 0:=by unfold isB;decide
def lT (zs:List Int):Bool:=(decide (zs.length=1)&&sign (zs.getD 0 0))||decide (zs=[61,61])
theorem Lh {zs:List Int}{k:Nat}(hk:k<16) (e:zs=[eU.getD k 0]):lT zs=true:=by
 unfold lT;rw[e];have:sign (eU.getD k 0)=true:=Le hk rfl;show (decide (1=1)&&sign (eU.getD k 0)||_)=true;rw[this];rfl
theorem Hy {zs:List Int}(h:∀ j,j<16->zs≠[eU.getD j 0]):lT zs=decide (zs=[61,61]):=by
 unfold lT;by_cases hl:zs.length=1
 ·match zs,hl with
  | [c],_ =>
   have:sign c=false:=zN (fun j hj e=>h j hj (by rw[e]));show (decide (1=1)&&sign c||_)=_;rw[this];rfl
 ·rw[decide_eq_false hl];rfl
theorem RY {c:Int}(h:isB c):∀ j,isB (([c]:List Int).getD j 0)
 | 0=>h
 | j+1=>⟨by show (0:Int)<=0;decide,by show (0:Int)<=255;decide⟩
theorem MP (zs:List Int) (hz:∀ j,isB (zs.getD j 0)) (w:World):Calls Tryz.prog 39 #[.string (strOfNums zs)] w fun e w'=>e=.returned (.bool (lT zs))/\Later w w':=by
 have hcm:Hid (∀ k,k<16->((strOfNums zs).toList==(Utf8.encode (eU.getD k 0)).toList)=decide (zs=[eU.getD k 0])):=fun k hk=>by
  rw[Uz k hk];exact lQ hz (RY (JB k hk).1)
 have hlit:((strOfNums zs).toList==[61,61])=decide (zs=[61,61]):=dO (ys:=[61,61]) hz (eY (ys:=[61,61]) (by decide)) rfl
 generalize strOfNums zs=S at *
 go_enter Tryz.func39,Tryz.ntmps39;go_wp2_with fail
 go_loopw [4] (fun _ wr=>∃ pos:Nat,pos<=16/\wr=w.iter SG pos/\Hid (∀ j,j<pos->zs≠[eU.getD j 0])) (fun _ wr=>16 - wr.iterPos w.heap.size)
 case atStart=>exact⟨0,Nat.zero_le _,rfl,fun j hj=>absurd hj (Nat.not_lt_zero _)⟩
 case round =>
  obtain⟨pos,hp16,rfl,hno⟩:=hrel;by_cases hp:pos<16
  ·have hnx:∀ ty,(Instr.next (.pointer (some ⟨w.heap.size,0,none⟩)) true ty).run Tryz.prog (w.iter SG pos)=_:=fun ty=>run_next_any w SG pos ty hp;rw[UA pos hp]at hnx;have hc0:=(JB pos hp).2;have hc1:=hcm.out pos hp;have hh:Hid (zs=[eU.getD pos 0]->lT zs=true):=fun e=>Lh hp e
   have hno2:Hid (zs≠[eU.getD pos 0]->∀ j,j<pos+1->zs≠[eU.getD j 0]):=fun hne j hj=>by
    rcases Nat.lt_or_ge j pos with q|q
    ·exact hno.out j q
    ·rw[show j=pos by omega];exact hne
   obtain⟨c,hc⟩:=dJ (eU.getD pos 0);rw[<-hc.out]at hnx hc0 hc1 hh hno2;have hcn:((c.toNat:Nat):Int)=c:=by omega
   simp only[hcn]at hnx;clear hcm hlit;by_cases he:zs=[c]
   ·have hs:=hh.out he;rw[decide_eq_true he]at hc1;have HA:Hid _:=hs;clear he hh hno hno2 hs;go_wp2_with fail
    go_ret;exact⟨by rw[HA.out];rfl,ae _ _⟩
   ·have hn2:Hid (∀ j,j<pos+1->zs≠[eU.getD j 0]):=hno2.out he;rw[decide_eq_false he]at hc1;clear he hh hno hno2;go_wp2_with fail
    go_roundw
    case rel=>exact⟨pos+1,by omega,rfl,hn2⟩
    case measure=>simp;omega
  ·have hnx:∀ ty,(Instr.next (.pointer (some ⟨w.heap.size,0,none⟩)) true ty).run Tryz.prog (w.iter SG pos)=_:=fun ty=>run_next_end w SG pos ty (by show ¬ pos<16;exact hp);have hs:Hid (lT zs=decide (zs=[61,61])):=Hy (fun j hj=>hno.out j (by omega));obtain⟨D,hD⟩:=dJ (decide (zs=[61,61]));rw[<-hD.out]at hlit;clear hcm hno;go_wp2_with fail
   go_ret;exact⟨by rw[hs.out,<- hD.out];rfl,ae _ _⟩
def qp (p:List Int):Option (Int × Int × List Int) :=
 match KL.jH p with
 | some n=>some (2,n,[])
 | none=>match KL.dB p with
  | some m=>some (3,m,[])
  | none=>if aY p false||aY p true then some (1,0,p) else if lT p then some (4,0,p) else none
def xB (base:Nat) (w:World) (v:Value) (t:List Int):Prop:=(t=[]/\v=.slice none 0 0)\/∃ g cap,v=.slice (some ⟨g,0,none⟩) t.length cap/\base<=g/\(t.length<=cap/\cap<=maxLen)/\∀ j,j<t.length->w.cell? ⟨g,j,none⟩=some (.int .u8 (t.getD j 0))/\w.frozen? ⟨g,j,none⟩=false
def TokP (p:List Int) (w:World) (e:Ending) (w':World):Prop:=∃ tv b,e=.returned (.tuple #[tv,.bool b])/\Later w w'/\(b=false->qp p=none/\tv=.agg #[.int .i64 0,.int .i64 0,.int .i64 0,.slice none 0 0])/\(b=true->∃ k n t xv,qp p=some (k,n,t)/\tv=.agg #[.int .i64 k,.int .i64 0,.int .i64 n,xv]/\xB w.heap.size w' xv t)
theorem Nz {w w1:World}{a b c d:Value}{t:TypeId}(l:Later (w.alloc (.cells #[a,b,c,d] t)) w1):(w1.cell? ⟨w.heap.size,0,none⟩=some a/\w1.cell? ⟨w.heap.size,1,none⟩=some b/\w1.cell? ⟨w.heap.size,2,none⟩=some c/\w1.cell? ⟨w.heap.size,3,none⟩=some d)/\(w1.frozen? ⟨w.heap.size,0,none⟩=false/\w1.frozen? ⟨w.heap.size,1,none⟩=false/\w1.frozen? ⟨w.heap.size,2,none⟩=false/\w1.frozen? ⟨w.heap.size,3,none⟩=false):=by
 have h:w1.heap[w.heap.size]?=some (.cells #[a,b,c,d] t):=by
  rw[l.block _ (by simp)];exact heap_alloc_new _ _
 refine⟨⟨?_,?_,?_,?_⟩,?_,?_,?_,?_⟩ <;> simp[World.cell?,World.frozen?,h]
def EN (w1:World) (g:Nat) (a b c d:Value):World:=(((w1.setCell ⟨g,0,none⟩ a).setCell ⟨g,1,none⟩ b).setCell ⟨g,2,none⟩ c).setCell ⟨g,3,none⟩ d
theorem zQ (w1:World) (g:Nat) (a b c d:Value):w1.grownBy (EN w1 g a b c d) (some g):=⟨rfl,rfl,rfl,by simp[EN],fun k _ hk=>by
 have hne:k≠g:=fun e=>hk (by simp[e]);unfold EN
 rw[heap_setCell_other _ ⟨g,3,none⟩ k d hne,heap_setCell_other _ ⟨g,2,none⟩ k c hne,heap_setCell_other _ ⟨g,1,none⟩ k b hne,heap_setCell_other _ ⟨g,0,none⟩ k a hne]⟩
theorem zO {w w1:World}(l:Later w w1) (a b c d:Value):Later w (EN w1 w.heap.size a b c d):=Below.grown l (zQ _ _ _ _ _ _) l.size (fun j hj=>by cases hj;exact Nat.le_refl _)
theorem N9 {w w1:World}{v:Value}{t:List Int}(h:xB (w.heap.size+1) w1 v t) (a b c d:Value):xB w.heap.size (EN w1 w.heap.size a b c d) v t:=by
 rcases h with h|⟨g,cap,e,hb,hk,hc⟩
 ·exact .inl h
 ·refine .inr ⟨g,cap,e,by omega,hk,fun j hj=>?_⟩;obtain⟨c1,c2⟩:=hc j hj;have hbk:=(zQ w1 w.heap.size a b c d).block g (lt_of_cell c1) (fun e=>by cases e;omega)
  generalize EN w1 w.heap.size a b c d=W at hbk ⊢
  exact⟨(World.cell?_of_block (w:=w1) (w':=W) (a:=⟨g,j,none⟩) hbk).trans c1,(World.frozen?_of_block (w:=w1) (w':=W) (a:=⟨g,j,none⟩) hbk).trans c2⟩
theorem Rh (zs:List Int) (hz:∀ j,isB (zs.getD j 0)) (hl:zs.length<=6000) (w:World) (hE:vN w):Calls Tryz.prog 15 #[.string (strOfNums zs)] w (TokP zs w):=by
 have hI:Hid (∀ w',Later w w'->Calls Tryz.prog 35 #[.string (strOfNums zs)] w' (KL.BQ zs w')):=fun w' l=>Oc zs hz hl w' (hE.later l);have hF:Hid (∀ w',Later w w'->Calls Tryz.prog 36 #[.string (strOfNums zs)] w' (KL.GZ zs w')):=fun w' l=>Oe zs hz hl w' (hE.later l);have hG:Hid (∀ w',Calls Tryz.prog 39 #[.string (strOfNums zs)] w' fun e w''=>e=.returned (.bool (lT zs))/\Later w' w''):=fun w'=>MP zs hz w';have hC:Hid (∀ w',∃ w1 c,(convert 9 22 (.string (strOfNums zs))).run Tryz.prog w'=.ok (.slice (some ⟨w'.heap.size,0,none⟩) zs.length c) w1/\Later w' w1/\(w'.heap.size<w1.heap.size/\zs.length<=c/\c<=maxLen)/\∀ j,j<zs.length->w1.cell? ⟨w'.heap.size,j,none⟩=some (.int .u8 (zs.getD j 0))/\w1.frozen? ⟨w'.heap.size,j,none⟩=false):=fun w'=>vz zs hz hl w'
 generalize hQ:TokP zs w=Q
 generalize strOfNums zs=S at *
 go_enter Tryz.func15,Tryz.ntmps15;go_wp2_with fail
 refine (hI.out _ (ae _ _)).mono ?_;rintro e w1 ⟨n,b,rfl,hn,l1⟩
 have HQ:Hid (∀ k m t xv w2,qp zs=some (k,m,t)->Later w w2->xB (w.heap.size+1) w2 xv t->Q (.returned (.tuple #[.agg #[.int .i64 k,.int .i64 0,.int .i64 m,xv],.bool true])) (EN w2 w.heap.size (.int .i64 k) (.int .i64 0) (.int .i64 m) xv)):=fun k m t xv w2 h l ht=>by
  rw[<-hQ];exact⟨_,_,rfl,zO l _ _ _ _,fun h=>(by cases h),fun _=>⟨k,m,t,xv,h,rfl,N9 ht _ _ _ _⟩⟩
 have lw:Later w w1:=(ae _ _).trans l1;obtain⟨⟨c0,c1,c2,c3⟩,f0,f1,f2,f3⟩:=Nz l1;clear hI
 cases b with
 | true =>
  have HA:=HQ.out 2 n [] (.slice none 0 0) w1 (by unfold qp;rw[hn];rfl) lw (.inl ⟨rfl,rfl⟩);clear hF hG hC HQ hQ;go_wp2_with fail
  exact bodyPost_ret (v:=.tuple #[.agg #[.int .i64 2,.int .i64 0,.int .i64 n,.slice none 0 0],.bool true]) (by simp[results,Tryz.results15,go_sem,World.cell?_setCell_same',c0,c1,c2,c3]) rfl HA
 | false =>
  clear c0 c1 c2 c3 f0 f1 f2 f3;go_wp2_with fail
  refine (hF.out _ lw).mono ?_;rintro e w2 ⟨m,b2,rfl,hm,l2⟩;have lw2:Later w w2:=lw.trans l2;have hn':KL.jH zs=none:=hn;have l12:=l1.trans l2;clear hF
  cases b2 with
  | true =>
   obtain⟨⟨c0,c1,c2,c3⟩,f0,f1,f2,f3⟩:=Nz l12;have HA:=HQ.out 3 m [] (.slice none 0 0) w2 (by unfold qp;rw[hn',hm];rfl) lw2 (.inl ⟨rfl,rfl⟩);clear hG hC HQ hQ;go_wp2_with fail
   exact bodyPost_ret (v:=.tuple #[.agg #[.int .i64 3,.int .i64 0,.int .i64 m,.slice none 0 0],.bool true]) (by simp[results,Tryz.results15,go_sem,World.cell?_setCell_same',c0,c1,c2,c3]) rfl HA
  | false =>
   have hm':KL.dB zs=none:=hm;obtain⟨w3,p3,hcv3,l3,⟨hs3,hp3,hq3⟩,hc3⟩:=hC.out w2
   have hR3:RdN w3 (.slice (some ⟨w2.heap.size,0,none⟩) zs.length p3) zs:=⟨⟨_,_,rfl,by omega,hz,fun j hj=>⟨_,_,rfl,hs3,by rw[Nat.zero_add];exact (hc3 j hj).1⟩⟩,_,_,rfl,hp3,hq3⟩
   have hW3:=Az _ zs w3 hR3;have lw3:Later w w3:=lw2.trans l3;have l13:=l12.trans l3;have hbs:w.heap.size+1<=w2.heap.size:=by have:=l12.size;simp at this;omega
   have HX:Hid (∀ (v:Value) w4,Later w2 w4->∀ w5 c5,(convert 9 22 (.string S)).run Tryz.prog w4=.ok (.slice (some ⟨w4.heap.size,0,none⟩) zs.length c5) w5->(∀ j,j<zs.length->w5.cell? ⟨w4.heap.size,j,none⟩=some (.int .u8 (zs.getD j 0))/\w5.frozen? ⟨w4.heap.size,j,none⟩=false)->(zs.length<=c5/\c5<=maxLen)->xB (w.heap.size+1) w5 (.slice (some ⟨w4.heap.size,0,none⟩) zs.length c5) zs):=fun v w4 l4 w5 c5 _ hc hk=>.inr ⟨_,_,rfl,Nat.le_trans hbs l4.size,hk,hc⟩
   cases hws:aY zs false with
   | true =>
    rw[hws]at hW3;obtain⟨w4,p4,hcv4,l4,⟨_,hp4,hq4⟩,hc4⟩:=hC.out w3;have HT:=HX.out .nilIface w3 l3 w4 p4 hcv4 hc4 ⟨hp4,hq4⟩;have HA:=HQ.out 1 0 zs _ w4 (by unfold qp;rw[hn',hm',hws];rfl) (lw3.trans l4) HT;obtain⟨⟨c0,c1,c2,c3⟩,f0,f1,f2,f3⟩:=Nz (l13.trans l4);obtain⟨L,hL⟩:=dJ zs.length;rw[<-hL.out]at hcv3 hcv4 hW3 HA;clear hG hC HQ hQ HX hc3 hc4 hR3 HT;go_wp2_with (go_at_call 37;refine hW3.mono ?_;rintro e wz ⟨rfl,hw⟩;obtain rfl:=hw.symm;clear hw)
    exact bodyPost_ret (v:=.tuple #[.agg #[.int .i64 1,.int .i64 0,.int .i64 0,.slice (some ⟨w3.heap.size,0,none⟩) L p4],.bool true]) (by simp[results,Tryz.results15,go_sem,World.cell?_setCell_same',c0,c1,c2,c3]) rfl HA
   | false =>
    rw[hws]at hW3;obtain⟨w4,p4,hcv4,l4,⟨hs4,hp4,hq4⟩,hc4⟩:=hC.out w3
    have hR4:RdN w4 (.slice (some ⟨w3.heap.size,0,none⟩) zs.length p4) zs:=⟨⟨_,_,rfl,by omega,hz,fun j hj=>⟨_,_,rfl,hs4,by rw[Nat.zero_add];exact (hc4 j hj).1⟩⟩,_,_,rfl,hp4,hq4⟩
    have hW4:=vg _ zs w4 hR4;have lw4:Later w w4:=lw3.trans l4
    cases hwg:aY zs true with
    | true =>
     rw[hwg]at hW4;obtain⟨w5,p5,hcv5,l5,⟨_,hp5,hq5⟩,hc5⟩:=hC.out w4;have HT:=HX.out .nilIface w4 (l3.trans l4) w5 p5 hcv5 hc5 ⟨hp5,hq5⟩;have HA:=HQ.out 1 0 zs _ w5 (by unfold qp;rw[hn',hm',hws,hwg];rfl) (lw4.trans l5) HT;obtain⟨⟨c0,c1,c2,c3⟩,f0,f1,f2,f3⟩:=Nz ((l13.trans l4).trans l5);obtain⟨L,hL⟩:=dJ zs.length;rw[<-hL.out]at hcv3 hcv4 hcv5 hW3 hW4 HA;clear hG hC HQ hQ HX hc3 hc4 hc5 hR3 hR4 HT;go_wp2_with (first|(go_at_call 37;refine hW3.mono ?_;rintro e wz ⟨rfl,hw⟩;obtain rfl:=hw.symm;clear hw)|(go_at_call 38;refine hW4.mono ?_;rintro e wz ⟨rfl,hw⟩;obtain rfl:=hw.symm;clear hw))
     exact bodyPost_ret (v:=.tuple #[.agg #[.int .i64 1,.int .i64 0,.int .i64 0,.slice (some ⟨w4.heap.size,0,none⟩) L p5],.bool true]) (by simp[results,Tryz.results15,go_sem,World.cell?_setCell_same',c0,c1,c2,c3]) rfl HA
    | false =>
     rw[hwg]at hW4;have hG4:=hG.out w4;obtain⟨L,hL⟩:=dJ zs.length;rw[<-hL.out]at hcv3 hcv4 hW3 hW4;have l14:=l13.trans l4;have l24:=l3.trans l4;clear hc3 hc4 hR3 hR4 hG
     cases hsg:lT zs with
     | true =>
      rw[hsg]at hG4;go_wp2_with (first|(go_at_call 37;refine hW3.mono ?_;rintro e wz ⟨rfl,hw⟩;obtain rfl:=hw.symm;clear hw)|(go_at_call 38;refine hW4.mono ?_;rintro e wz ⟨rfl,hw⟩;obtain rfl:=hw.symm;clear hw))
      refine hG4.mono ?_;rintro e w5 ⟨rfl,l5⟩;obtain⟨w6,p6,hcv6,l6,⟨_,hp6,hq6⟩,hc6⟩:=hC.out w5;have HT:=HX.out .nilIface w5 (l24.trans l5) w6 p6 hcv6 hc6 ⟨hp6,hq6⟩;have HA:=HQ.out 4 0 zs _ w6 (by unfold qp;rw[hn',hm',hws,hwg,hsg];rfl) ((lw4.trans l5).trans l6) HT;obtain⟨⟨c0,c1,c2,c3⟩,f0,f1,f2,f3⟩:=Nz ((l14.trans l5).trans l6);rw[<-hL.out]at hcv6 HA;clear hC HQ hQ HX hc6 HT;go_wp2_with fail
      exact bodyPost_ret (v:=.tuple #[.agg #[.int .i64 4,.int .i64 0,.int .i64 0,.slice (some ⟨w5.heap.size,0,none⟩) L p6],.bool true]) (by simp[results,Tryz.results15,go_sem,World.cell?_setCell_same',c0,c1,c2,c3]) rfl HA
     | false =>
      rw[hsg]at hG4;go_wp2_with (first|(go_at_call 37;refine hW3.mono ?_;rintro e wz ⟨rfl,hw⟩;obtain rfl:=hw.symm;clear hw)|(go_at_call 38;refine hW4.mono ?_;rintro e wz ⟨rfl,hw⟩;obtain rfl:=hw.symm;clear hw))
      refine hG4.mono ?_;rintro e w5 ⟨rfl,l5⟩
      have HA:Q (.returned (.tuple #[.agg #[.int .i64 0,.int .i64 0,.int .i64 0,.slice none 0 0],.bool false])) (EN w5 w.heap.size (.int .i64 0) (.int .i64 0) (.int .i64 0) (.slice none 0 0)):=by
       rw[<-hQ];exact⟨_,_,rfl,zO (lw4.trans l5) _ _ _ _,fun _=>⟨by unfold qp;rw[hn',hm',hws,hwg,hsg];rfl,rfl⟩,fun h=>(by cases h)⟩
      obtain⟨⟨c0,c1,c2,c3⟩,f0,f1,f2,f3⟩:=Nz (l14.trans l5);clear hC HQ hQ HX;go_wp2_with fail
      exact bodyPost_ret (v:=.tuple #[.agg #[.int .i64 0,.int .i64 0,.int .i64 0,.slice none 0 0],.bool false]) (by simp[results,Tryz.results15,go_sem,World.cell?_setCell_same',c0,c1,c2,c3]) rfl HA
end Go.Proofs.YtgaddpkkjebekaaGreatDoor
