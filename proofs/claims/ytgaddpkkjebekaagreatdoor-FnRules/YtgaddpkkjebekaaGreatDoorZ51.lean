import Derived.Test.YtgaddpkkjebekaaGreatDoorZ50
import Derived.Lib.ConvBytes
set_option maxHeartbeats 100000000
set_option maxRecDepth 100000
namespace Go.Proofs.YtgaddpkkjebekaaGreatDoor
open Go.RowKit Go.Lib
theorem Be:∀ (m u j:Nat),j<m->(dD m u).getD j 0=hexD (u / 16 ^ (m - 1 - j) % 16)
 | 0,u,j,h=>absurd h (Nat.not_lt_zero _)
 | m+1,u,j,h=>by
  rw[dD];rcases Nat.lt_or_ge j m with q|q
  ·rw[List.getD_eq_getElem?_getD,List.getElem?_append_left (by rw[iK];exact q),<- List.getD_eq_getElem?_getD,Be m (u / 16) j q,Nat.div_div_eq_div_mul,show m+1 - 1 - j=(m - 1 - j)+1 by omega,Nat.pow_succ,Nat.mul_comm 16]
  ·obtain rfl:j=m:=by omega
   rw[List.getD_eq_getElem?_getD,List.getElem?_append_right (by rw[iK];exact Nat.le_refl _),iK,Nat.sub_self,show j+1 - 1 - j=0 by omega,Nat.pow_zero,Nat.div_one];rfl
theorem lu {v:Nat}(hv:v<16):(48<=hexD v/\hexD v<=57/\hexD v - 48=(v:Int))\/(97<=hexD v/\hexD v<=102/\hexD v - 97+10=(v:Int)):=by
 unfold hexD;by_cases h:v<10
 ·rw[if_pos h];exact .inl ⟨by omega,by omega,by omega⟩
 ·rw[if_neg h];exact .inr ⟨by omega,by omega,by omega⟩
theorem UU {c:Int}(h0:97<=c) (h1:c<=102):bits .or .u8 c 32=c:=by
 obtain rfl|rfl|rfl|rfl|rfl|rfl:c=97\/c=98\/c=99\/c=100\/c=101\/c=102:=by omega
 all_goals decide
theorem KC (bs:ByteArray):∀ (n i:Nat) (r:List UInt8),bs.size - i=n->ByteArray.toList.loop bs i r=r.reverse++bs.data.toList.drop i
 | 0,i,r,h=>by
  have hs:bs.data.toList.length=bs.size:=by rw[Array.length_toList];rfl
  rw[ByteArray.toList.loop,if_neg (by omega),List.drop_eq_nil_of_le (by omega),List.append_nil]
 | n+1,i,r,h=>by
  have hs:bs.data.toList.length=bs.size:=by rw[Array.length_toList];rfl
  have hi:i<bs.data.toList.length:=by omega
  rw[ByteArray.toList.loop,if_pos (by omega),KC bs n (i+1) _ (by omega),List.reverse_cons,List.append_assoc,List.drop_eq_getElem_cons hi]
  have:bs.get! i=bs.data.toList[i]:=by
   have hi2:i<bs.data.size:=by rw[Array.length_toList]at hi;exact hi
   show bs.data[i]! =_;rw[getElem!_pos bs.data i hi2,Array.getElem_toList]
  rw[this];rfl
theorem Dz (bs:ByteArray):bs.toList=bs.data.toList:=by
 rw[ByteArray.toList,KC bs _ 0 [] rfl];rfl
theorem zJ (zs:List Int):(strOfNums zs).toList=zs.map fun n=>UInt8.ofNat n.toNat:=by rw[Dz,strOfNums_data]
def PuP (zs:List Int) (w:World) (e:Ending) (w':World):Prop:=∃ (n:Int) (ev:Value),e=.returned (.tuple #[.int .u64 n,ev])/\(0<=n/\n<18446744073709551616)/\Later w w'/\(ev=.nilIface\/ev=.iface 176 (.int .i64 2)\/ev=.iface 176 (.int .i64 1))/\∀ u:Nat,u<18446744073709551616->zs=dD 16 u->n=(u:Int)/\ev=.nilIface
def PuS (zs:List Int) (k:Nat) (a:Int):Prop:=0<=a/\a<18446744073709551616/\∀ u:Nat,u<18446744073709551616->zs=dD 16 u->a=((u / 16 ^ (16 - k):Nat):Int)
theorem PuS.start (zs:List Int):PuS zs 0 0:=⟨by decide,by decide,fun u hu _=>by
 have:u / 16 ^ (16 - 0)=0:=Nat.div_eq_of_lt (by have:(16:Nat) ^ (16 - 0)=18446744073709551616:=(by decide);omega)
 rw[this];rfl⟩
theorem Oj {zs:List Int}{u k:Nat}(e:zs=dD 16 u) (hk:k<zs.length):k<16/\zs.getD k 0=hexD (u / 16 ^ (15 - k) % 16)/\u / 16 ^ (16 - k)=u / 16 ^ (15 - k) / 16:=by
 have hl:zs.length=16:=by rw[e,iK]
 refine⟨by omega,by rw[e,Be 16 u k (by omega)],?_⟩;rw[Nat.div_div_eq_div_mul,show 16 - k=(15 - k)+1 by omega,Nat.pow_succ]
theorem PuS.small {zs:List Int}{k:Nat}{a:Int}(h:PuS zs k a) {u:Nat}(hu:u<18446744073709551616) (e:zs=dD 16 u) (hk:k<zs.length):a<1152921504606846976:=by
 obtain⟨h1,h2,h3⟩:=Oj e hk;rw[h.2.2 u hu e]
 have:u / 16 ^ (16 - k)<16 ^ k:=by
  rw[Nat.div_lt_iff_lt_mul (Nat.pow_pos (by decide)),<- Nat.pow_add,show k+(16 - k)=16 by omega];have:(16:Nat) ^ 16=18446744073709551616:=by decide
  omega
 have h4:(16:Nat) ^ k<=16 ^ 15:=Nat.pow_le_pow_right (by decide) (by omega);have:(16:Nat) ^ 15=1152921504606846976:=by decide
 omega
theorem PuS.next {zs:List Int}{k:Nat}{a d:Int}(h:PuS zs k a) (hk:k<zs.length) (ha:a<1152921504606846976) (hd0:0<=d) (hd1:d<16) (hd:∀ v:Nat,v<16->zs.getD k 0=hexD v->d=(v:Int)):PuS zs (k+1) (a*16+d):=by
 refine⟨by have:=h.1;omega,by omega,fun u hu e=>?_⟩;obtain⟨h1,h2,h3⟩:=Oj e hk;rw[h.2.2 u hu e,h3,hd _ (Nat.mod_lt _ (by decide)) h2,show 16 - (k+1)=15 - k by omega];have:=Nat.div_add_mod (u / 16 ^ (15 - k)) 16;omega
theorem PuS.done {zs:List Int}{k:Nat}{a:Int}(h:PuS zs k a) (hk:zs.length<=k) {u:Nat}(hu:u<18446744073709551616) (e:zs=dD 16 u):a=(u:Int):=by
 have hl:zs.length=16:=by rw[e,iK]
 have:=h.2.2 u hu e;rw[show 16 - k=0 by omega,Nat.pow_zero,Nat.div_one]at this;exact this
theorem vz (zs:List Int) (hz:∀ j,isB (zs.getD j 0)) (hl:zs.length<=6000) (w:World):∃ w1 c,(convert 9 22 (.string (strOfNums zs))).run Tryz.prog w=.ok (.slice (some ⟨w.heap.size,0,none⟩) zs.length c) w1/\Later w w1/\(w.heap.size<w1.heap.size/\zs.length<=c/\c<=maxLen)/\∀ j,j<zs.length->w1.cell? ⟨w.heap.size,j,none⟩=some (.int .u8 (zs.getD j 0))/\w1.frozen? ⟨w.heap.size,j,none⟩=false:=by
 have h:=Go.Lib.run_convert_string_bytes (P:=Tryz.prog) w 9 22 5 (strOfNums zs) Tryz.underlying9 Tryz.underlying22 Tryz.underlying5;rw[strOfNums_size]at h;refine⟨_,_,h,jK _ _ _,⟨by rw[bytesWorld_size];omega,grownCap_ge w zs.length 0 _,grownCap_le_maxLen w zs.length 0 _ (by unfold maxLen;omega)⟩,fun j hj=>⟨?_,?_⟩⟩
 ·rw[bytesWorld_cell w _ _ j (by rw[strOfNums_size];exact hj),strOfNums_data];have hb:=hz j;unfold isB at hb;rw[List.getD_eq_getElem?_getD,List.getElem?_map,List.getElem?_eq_getElem hj];rw[List.getD_eq_getElem?_getD,List.getElem?_eq_getElem hj]at hb ⊢;simp only[Option.map_some,Option.getD_some]at hb ⊢;have e:(((UInt8.ofNat zs[j].toNat).toNat:Nat):Int)=zs[j]:=by rw[UInt8.toNat_ofNat'];omega
  rw[e]
 ·have hn:=bytesWorld_at_new w 5 (strOfNums zs)
  have hsz:zs.length<=(bytesCells w 5 (strOfNums zs)).size:=by
   unfold bytesCells;rw[Array.size_append,Array.size_map];have:(strOfNums zs).data.size=zs.length:=strOfNums_size zs;omega
  have:(bytesWorld w 5 (strOfNums zs)).frozen? ⟨w.heap.size,j,none⟩=(decide ((bytesCells w 5 (strOfNums zs)).size<=j)&&decide (j<(bytesCells w 5 (strOfNums zs)).size+1)):=by simp[World.frozen?,hn]
  rw[this,decide_eq_false (by omega),Bool.false_and]
theorem LG (zs:List Int) (hz:∀ j,isB (zs.getD j 0)) (hl:zs.length<=6000) (w:World):Calls Tryz.prog 95 #[.string (strOfNums zs),.int .i64 16,.int .i64 64] w (PuP zs w):=by
 obtain⟨w1,c,hcv,l1,⟨hlt1,_,_⟩,hcell⟩:=vz zs hz hl w;have hcell':Hid (∀ j,j<zs.length->w1.cell? ⟨w.heap.size,j,none⟩=some (.int .u8 (zs.getD j 0))):=fun j hj=>(hcell j hj).1;have hlow:=fun z w=>Tryz.internal_strconv_lower z w
 have HE:Hid (∀ (n:Int) (q:Int) w',(q=2\/q=1)->0<=n->n<18446744073709551616->Later w w'->(∀ u:Nat,u<18446744073709551616->zs=dD 16 u->False)->PuP zs w (.returned (.tuple #[.int .u64 n,.iface 176 (.int .i64 q)])) w'):=fun n q w' hq h0 h1 l hno=>⟨n,_,rfl,⟨h0,h1⟩,l,.inr (by rcases hq with rfl|rfl;exact .inl rfl;exact .inr rfl),fun u hu e=>(hno u hu e).elim⟩
 have HO:Hid (∀ (n:Int) w',0<=n->n<18446744073709551616->Later w w'->(∀ u:Nat,u<18446744073709551616->zs=dD 16 u->n=(u:Int))->PuP zs w (.returned (.tuple #[.int .u64 n,.nilIface])) w'):=fun n w' h0 h1 l hy=>⟨n,_,rfl,⟨h0,h1⟩,l,.inl rfl,fun u hu e=>⟨hy u hu e,rfl⟩⟩
 by_cases hz0:zs=[]
 ·have HA:=HE.out 0 2 w (.inl rfl) (by decide) (by decide) (Later.refl _) (fun u _ e=>by
   have:=congrArg List.length e;rw[iK,hz0]at this
   cases this)
  have hs:(strOfNums zs).toList.isEmpty=true:=by rw[zJ,hz0];rfl
  generalize hQ:PuP zs w=Q at *
  generalize strOfNums zs=S at *
  clear hQ HE HO hcell hcell' hcv hlow;go_enter Tryz.func95,Tryz.ntmps95;go_wp2_with fail
  exact HA
 ·have hs:(strOfNums zs).toList.isEmpty=false:=by
   rw[zJ]
   cases zs with
   | nil=>exact absurd rfl hz0
   | cons a r=>rfl
  generalize hQ:PuP zs w=Q at *
  generalize strOfNums zs=S at *
  obtain⟨L,hL⟩:=dJ zs.length;rw[<-hL.out]at hcv;have hLi:(L:Int)<=6000:=by have:=hL.out;omega
  clear hQ hcell;go_enter Tryz.func95,Tryz.ntmps95;go_wp2_with fail
  have hZ:Hid _:=hz;clear hz hs hcv;go_loopw [12,13,101] (fun s n i wr=>∃ (k:Nat) (a:Int),s=.bool false/\n=.int .u64 a/\i=.int .i64 (k:Int)/\k<=L/\Hid (PuS zs k a)/\wr=w1) (fun _ _ i _=>L - (RowKit.intOf i).toNat)
  case atStart=>exact⟨0,0,rfl,rfl,rfl,Nat.zero_le _,PuS.start zs,rfl⟩
  case round =>
   obtain⟨k,a,rfl,rfl,rfl,hk,hP,rfl⟩:=hrel;by_cases hlt:k<L
   ·have hkz:k<zs.length:=by have:=hL.out;omega
    have ik:(k:Int)<(L:Int):=by omega
    have c0:=hcell'.out k hkz;obtain⟨z,hz⟩:=dJ (zs.getD k 0);rw[<-hz.out]at c0;have hb:isB z:=by rw[hz.out];exact hZ.out k
    unfold isB at hb;obtain⟨hb0,hb1⟩:=hb
    obtain⟨ha0,ha1⟩:0<=a/\a<18446744073709551616:=⟨hP.out.1,hP.out.2.1⟩
    have hmx:Hid (IntKind.u64.wrap (IntKind.u64.wrap 18446744073709551616 - 1)=18446744073709551615):=(by decide:IntKind.u64.wrap (IntKind.u64.wrap 18446744073709551616 - 1)=18446744073709551615)
    have hSy:Hid ((∀ v:Nat,v<16->z=hexD v->False)->∀ u:Nat,u<18446744073709551616->zs=dD 16 u->False):=fun h u hu e=>h _ (Nat.mod_lt _ (by decide)) (by rw[hz.out];exact (Oj e hkz).2.1);by_cases hc:a<1152921504606846976
    ·have q3:¬ (1152921504606846976:Int)<=a:=by omega
     by_cases hd:48<=z/\z<=57
     ·obtain⟨hd0,hd1⟩:=hd;have hn:¬ z=95:=by omega
      have q0:(0:Int)<=z - 48:=by omega
      have q1:z - 48<256:=by omega
      have q2:¬ (16:Int)<=z - 48:=by omega
      have q4:¬ IntKind.u64.wrap (IntKind.u64.wrap 18446744073709551616 - 1)<a*16+(z - 48):=by rw[hmx.out];omega
      have hP2:Hid (PuS zs (k+1) (a*16+(z - 48))):=hP.out.next hkz hc q0 (by omega) (fun v hv e=>by
       rw[<-hz.out]at e;rcases lu hv with ⟨_,_,h3⟩|⟨h1,_,_⟩
       ·rw[e,h3]
       ·omega)
      go_wp2_with fail
      go_roundw
      case rel=>exact⟨k+1,_,rfl,rfl,by go_num,by omega,hP2,by first|rfl|trivial⟩
      case measure=>simp[RowKit.intOf];omega
     ·have hD:¬ (48<=z/\z<=57):=hd;obtain⟨m,hm⟩:=dJ (bits .or .u8 z 32);have hlz:=fun w=>hlow z w;rw[<-hm.out]at hlz;clear hlow;by_cases hM:97<=m/\m<=122
      ·obtain⟨hm0,hm1⟩:=hM;have q0:(0:Int)<=m - 97:=by omega
       have q1:m - 97<256:=by omega
       have q5:(0:Int)<=m - 97+10:=by omega
       have q6:m - 97+10<256:=by omega
       by_cases hg:m - 97+10<16
       ·have q2:¬ (16:Int)<=m - 97+10:=by omega
        have q4:¬ IntKind.u64.wrap (IntKind.u64.wrap 18446744073709551616 - 1)<a*16+(m - 97+10):=by rw[hmx.out];omega
        have hP2:Hid (PuS zs (k+1) (a*16+(m - 97+10))):=hP.out.next hkz hc q5 hg (fun v hv e=>by
         rw[<-hz.out]at e;rcases lu hv with ⟨h1,h2,h3⟩|⟨h1,h2,h3⟩
         ·exact absurd ⟨by omega,by omega⟩ hD
         ·rw[hm.out,e,UU h1 h2,h3])
        rcases (by omega:z<48\/(57<z/\¬ z=95)\/z=95) with hq|⟨hq,hn⟩|hq
        ·have p1:¬ (48:Int)<=z:=by omega
         have hn:¬ z=95:=by omega
         go_wp2_with (go_at_call 123;refine (hlz _).mono ?_;rintro e w1 ⟨rfl,hw⟩;obtain rfl:=hw.symm;clear hw)
         go_roundw
         case rel=>exact⟨k+1,_,rfl,rfl,by go_num,by omega,hP2,by first|rfl|trivial⟩
         case measure=>simp[RowKit.intOf];omega
        ·have p1:(48:Int)<=z:=by omega
         have p2:¬ z<=57:=by omega
         go_wp2_with (go_at_call 123;refine (hlz _).mono ?_;rintro e w1 ⟨rfl,hw⟩;obtain rfl:=hw.symm;clear hw)
         go_roundw
         case rel=>exact⟨k+1,_,rfl,rfl,by go_num,by omega,hP2,by first|rfl|trivial⟩
         case measure=>simp[RowKit.intOf];omega
        ·exact absurd hm.out (by rw[hq,show bits .or .u8 95 32=127 by decide];omega)
       ·have q2:(16:Int)<=m - 97+10:=by omega
        have HA:=HE.out 0 2 wr (.inl rfl) (by decide) (by decide) l1 (hSy.out fun v hv e=>by
         rcases lu hv with ⟨h1,h2,h3⟩|⟨h1,h2,h3⟩
         ·exact absurd ⟨by omega,by omega⟩ hD
         ·rw[hm.out,e,UU h1 h2]at q2;omega)
        rcases (by omega:z<48\/(57<z/\¬ z=95)\/z=95) with hq|⟨hq,hn⟩|hq
        ·have p1:¬ (48:Int)<=z:=by omega
         have hn:¬ z=95:=by omega
         go_wp2_with (go_at_call 123;refine (hlz _).mono ?_;rintro e w1 ⟨rfl,hw⟩;obtain rfl:=hw.symm;clear hw)
         exact HA
        ·have p1:(48:Int)<=z:=by omega
         have p2:¬ z<=57:=by omega
         go_wp2_with (go_at_call 123;refine (hlz _).mono ?_;rintro e w1 ⟨rfl,hw⟩;obtain rfl:=hw.symm;clear hw)
         exact HA
        ·exact absurd hm.out (by rw[hq,show bits .or .u8 95 32=127 by decide];omega)
      ·have HA:=HE.out 0 2 wr (.inl rfl) (by decide) (by decide) l1 (hSy.out fun v hv e=>by
        rcases lu hv with ⟨h1,h2,h3⟩|⟨h1,h2,h3⟩
        ·exact absurd ⟨by omega,by omega⟩ hD
        ·refine absurd ?_ hM
         rw[hm.out,e,UU h1 h2];omega)
       rcases (by omega:¬ 97<=m\/(97<=m/\¬ m<=122)) with r1|⟨r1,r2⟩
       ·skip
        rcases (by omega:z<48\/(57<z/\¬ z=95)\/z=95) with hq|⟨hq,hn⟩|hq
        ·have p1:¬ (48:Int)<=z:=by omega
         have hn:¬ z=95:=by omega
         go_wp2_with (go_at_call 123;refine (hlz _).mono ?_;rintro e w1 ⟨rfl,hw⟩;obtain rfl:=hw.symm;clear hw)
         exact HA
        ·have p1:(48:Int)<=z:=by omega
         have p2:¬ z<=57:=by omega
         go_wp2_with (go_at_call 123;refine (hlz _).mono ?_;rintro e w1 ⟨rfl,hw⟩;obtain rfl:=hw.symm;clear hw)
         exact HA
        ·subst hq;go_wp2_with (go_at_call 123;refine (hlz _).mono ?_;rintro e w1 ⟨rfl,hw⟩;obtain rfl:=hw.symm;clear hw)
         exact HA
       ·skip
        rcases (by omega:z<48\/(57<z/\¬ z=95)\/z=95) with hq|⟨hq,hn⟩|hq
        ·have p1:¬ (48:Int)<=z:=by omega
         have hn:¬ z=95:=by omega
         go_wp2_with (go_at_call 123;refine (hlz _).mono ?_;rintro e w1 ⟨rfl,hw⟩;obtain rfl:=hw.symm;clear hw)
         exact HA
        ·have p1:(48:Int)<=z:=by omega
         have p2:¬ z<=57:=by omega
         go_wp2_with (go_at_call 123;refine (hlz _).mono ?_;rintro e w1 ⟨rfl,hw⟩;obtain rfl:=hw.symm;clear hw)
         exact HA
        ·subst hq;go_wp2_with (go_at_call 123;refine (hlz _).mono ?_;rintro e w1 ⟨rfl,hw⟩;obtain rfl:=hw.symm;clear hw)
         exact HA
    ·have q3:(1152921504606846976:Int)<=a:=by omega
     have HA:Hid (∀ u:Nat,u<18446744073709551616->zs=dD 16 u->False):=fun u hu e=>absurd (hP.out.small hu e hkz) (by omega);have HA1:=HE.out 18446744073709551615 1 wr (.inr rfl) (by decide) (by decide) l1 HA.out;have HA2:=HE.out 0 2 wr (.inl rfl) (by decide) (by decide) l1 HA.out;rw[<-hmx.out]at HA1;by_cases hd:48<=z/\z<=57
     ·obtain⟨hd0,hd1⟩:=hd;have hn:¬ z=95:=by omega
      have q0:(0:Int)<=z - 48:=by omega
      have q1:z - 48<256:=by omega
      have q2:¬ (16:Int)<=z - 48:=by omega
      go_wp2_with fail
      exact HA1
     ·obtain⟨m,hm⟩:=dJ (bits .or .u8 z 32);have hlz:=fun w=>hlow z w;rw[<-hm.out]at hlz;clear hlow;by_cases hM:97<=m/\m<=122
      ·obtain⟨hm0,hm1⟩:=hM;have q0:(0:Int)<=m - 97:=by omega
       have q1:m - 97<256:=by omega
       have q5:(0:Int)<=m - 97+10:=by omega
       have q6:m - 97+10<256:=by omega
       by_cases hg:m - 97+10<16
       ·have q2:¬ (16:Int)<=m - 97+10:=by omega
        rcases (by omega:z<48\/(57<z/\¬ z=95)\/z=95) with hq|⟨hq,hn⟩|hq
        ·have p1:¬ (48:Int)<=z:=by omega
         have hn:¬ z=95:=by omega
         go_wp2_with (go_at_call 123;refine (hlz _).mono ?_;rintro e w1 ⟨rfl,hw⟩;obtain rfl:=hw.symm;clear hw)
         exact HA1
        ·have p1:(48:Int)<=z:=by omega
         have p2:¬ z<=57:=by omega
         go_wp2_with (go_at_call 123;refine (hlz _).mono ?_;rintro e w1 ⟨rfl,hw⟩;obtain rfl:=hw.symm;clear hw)
         exact HA1
        ·exact absurd hm.out (by rw[hq,show bits .or .u8 95 32=127 by decide];omega)
       ·have q2:(16:Int)<=m - 97+10:=by omega
        rcases (by omega:z<48\/(57<z/\¬ z=95)\/z=95) with hq|⟨hq,hn⟩|hq
        ·have p1:¬ (48:Int)<=z:=by omega
         have hn:¬ z=95:=by omega
         go_wp2_with (go_at_call 123;refine (hlz _).mono ?_;rintro e w1 ⟨rfl,hw⟩;obtain rfl:=hw.symm;clear hw)
         exact HA2
        ·have p1:(48:Int)<=z:=by omega
         have p2:¬ z<=57:=by omega
         go_wp2_with (go_at_call 123;refine (hlz _).mono ?_;rintro e w1 ⟨rfl,hw⟩;obtain rfl:=hw.symm;clear hw)
         exact HA2
        ·exact absurd hm.out (by rw[hq,show bits .or .u8 95 32=127 by decide];omega)
      ·rcases (by omega:¬ 97<=m\/(97<=m/\¬ m<=122)) with r1|⟨r1,r2⟩
       ·skip
        rcases (by omega:z<48\/(57<z/\¬ z=95)\/z=95) with hq|⟨hq,hn⟩|hq
        ·have p1:¬ (48:Int)<=z:=by omega
         have hn:¬ z=95:=by omega
         go_wp2_with (go_at_call 123;refine (hlz _).mono ?_;rintro e w1 ⟨rfl,hw⟩;obtain rfl:=hw.symm;clear hw)
         exact HA2
        ·have p1:(48:Int)<=z:=by omega
         have p2:¬ z<=57:=by omega
         go_wp2_with (go_at_call 123;refine (hlz _).mono ?_;rintro e w1 ⟨rfl,hw⟩;obtain rfl:=hw.symm;clear hw)
         exact HA2
        ·subst hq;go_wp2_with (go_at_call 123;refine (hlz _).mono ?_;rintro e w1 ⟨rfl,hw⟩;obtain rfl:=hw.symm;clear hw)
         exact HA2
       ·skip
        rcases (by omega:z<48\/(57<z/\¬ z=95)\/z=95) with hq|⟨hq,hn⟩|hq
        ·have p1:¬ (48:Int)<=z:=by omega
         have hn:¬ z=95:=by omega
         go_wp2_with (go_at_call 123;refine (hlz _).mono ?_;rintro e w1 ⟨rfl,hw⟩;obtain rfl:=hw.symm;clear hw)
         exact HA2
        ·have p1:(48:Int)<=z:=by omega
         have p2:¬ z<=57:=by omega
         go_wp2_with (go_at_call 123;refine (hlz _).mono ?_;rintro e w1 ⟨rfl,hw⟩;obtain rfl:=hw.symm;clear hw)
         exact HA2
        ·subst hq;go_wp2_with (go_at_call 123;refine (hlz _).mono ?_;rintro e w1 ⟨rfl,hw⟩;obtain rfl:=hw.symm;clear hw)
         exact HA2
   ·have hk2:k=L:=by omega
    have ik:¬ (k:Int)<(L:Int):=by omega
    have HA:=HO.out a wr hP.out.1 hP.out.2.1 l1 (fun u hu e=>hP.out.done (by have:=hL.out;omega) hu e);go_wp2_with fail
    exact HA
end Go.Proofs.YtgaddpkkjebekaaGreatDoor
