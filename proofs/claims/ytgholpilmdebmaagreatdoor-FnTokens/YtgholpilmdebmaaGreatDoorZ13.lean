import Derived.Test.YtgholpilmdebmaaGreatDoorZ09
import Derived.Test.YtgholpilmdebmaaGreatDoorZ12
import Derived.Lib.AtoiAllCases
import Derived.Lib.ConvBytes
set_option maxHeartbeats 100000000
set_option maxRecDepth 100000
namespace Go.Proofs.YtgholpilmdebmaaGreatDoor
open Go.RowKit Go.Lib
theorem pu_snoc (c:UInt8) (d:Nat) (hc:48≤c.toNat∧c.toNat≤57) (hd:d=c.toNat - 48):∀ (l:List UInt8) (acc a:Nat),parseUint10 acc l=.ok a→a<1844674407370955162→a*10+d<18446744073709551616→parseUint10 acc (l++[c])=.ok (a*10+d)
 | [],acc,a,h,h1,h2=>by
  rw[parseUint10]at h
  cases h
  rw[List.nil_append,parseUint10,if_pos hc,if_neg (by omega),if_neg (by omega),parseUint10,hd]
 | b::r,acc,a,h,h1,h2=>by
  rw[parseUint10]at h;rw[List.cons_append,parseUint10];split at h
  ·rename_i q
   rw[if_pos q];split at h
   ·cases h
   ·rename_i q2
    rw[if_neg q2];split at h
    ·cases h
    ·rename_i q3
     rw[if_neg q3];exact pu_snoc c d hc hd r _ a h h1 h2
  ·cases h
theorem pu_dec (u:Nat):u<18446744073709551616→parseUint10 0 (decDigits u)=.ok u:=by
 induction u using Nat.strongRecOn with
 | _ u ih =>
 intro hu;rw[decDigits];by_cases h:u<10
 ·rw[dif_pos h];have e:(UInt8.ofNat (48+u)).toNat=48+u:=by rw[UInt8.toNat_ofNat'];omega
  have:=pu_snoc (UInt8.ofNat (48+u)) u (by rw[e];omega) (by rw[e];omega) [] 0 0 rfl (by decide) (by omega);rw[List.nil_append]at this;rw[this]
  congr 1
  omega
 ·rw[dif_neg h];have e:(UInt8.ofNat (48+u % 10)).toNat=48+u % 10:=by rw[UInt8.toNat_ofNat'];omega
  rw[pu_snoc (UInt8.ofNat (48+u % 10)) (u % 10) (by rw[e];omega) (by rw[e];omega) _ 0 (u / 10) (ih (u / 10) (by omega) (by omega)) (by omega) (by omega)]
  congr 1
  omega
theorem dec_head (u:Nat):∃ c r,decDigits u=c::r∧48≤c.toNat∧c.toNat≤57:=by
 induction u using Nat.strongRecOn with
 | _ u ih =>
 rw[decDigits];by_cases h:u<10
 ·rw[dif_pos h];have e:(UInt8.ofNat (48+u)).toNat=48+u:=by rw[UInt8.toNat_ofNat'];omega
  exact⟨_,[],rfl,by rw[e];omega,by rw[e];omega⟩
 ·rw[dif_neg h];obtain⟨c,r,e,h1,h2⟩:=ih (u / 10) (by omega);rw[e];exact⟨c,r++[_],rfl,h1,h2⟩
theorem mag_dec (u:Nat) (hu:u<18446744073709551616):parseMag (decDigits u)=.ok u:=by
 unfold parseMag;obtain⟨c,r,e,_⟩:=dec_head u;rw[if_neg (by rw[e];simp)];exact pu_dec u hu
theorem atoi_itoa {n:Int}(hn:InR n):atoiAll (itoa n)=.ok n:=by
 unfold InR at hn;unfold itoa;by_cases h:n<0
 ·rw[if_pos h,atoiAll_minus,mag_dec _ (by omega)];unfold signed;simp only;rw[if_neg (by omega)]
  congr 1
  omega
 ·rw[if_neg h];obtain⟨c,r,e,h1,h2⟩:=dec_head n.toNat;rw[e,atoiAll_plain c r (by omega) (by omega),← e,mag_dec _ (by omega)];unfold signless;simp only;rw[if_neg (by omega)]
  congr 1
  omega
theorem zcg (s:ByteArray):s=strOfNums (bytesOf s):=by
 obtain⟨d⟩:=s;unfold strOfNums bytesOf
 congr 1
 rw[List.map_map]
 have:((fun n:Int=>UInt8.ofNat n.toNat) ∘ fun b:UInt8=>(b.toNat:Int))=id:=by
  funext b
  show UInt8.ofNat ((b.toNat:Int)).toNat=b;rw[Int.toNat_natCast];exact UInt8.ofNat_toNat
 rw[this,List.map_id]
theorem itoa_nums {n:Int}(hn:InR n):(strOfNums (decL n)).data.toList=itoa n:=by
 have:=zcg ⟨(itoa n).toArray⟩;rw[bytes_itoa n hn]at this;rw[←this]
structure LEnv (W:World):Prop where
 tab:TabIs Tryz.prog W "internal/strconv.uint64pow10" .u64 pow10Tab
 big:6<W.heap.size
 deb:W.cell? ⟨6,15,none⟩=some (.int .u8 4)
 syn:∃ tp p,W.cell? ⟨0,0,none⟩=some (.iface tp p)
 ran:∃ tp p,W.cell? ⟨1,0,none⟩=some (.iface tp p)
 syb:0<W.heap.size
 rab:1<W.heap.size
theorem LEnv.later {W w:World}(h:LEnv W) (hw:Later W w):LEnv w where
 tab:=tabBelow_of_tabIs h.tab w hw
 big:=Nat.lt_of_lt_of_le h.big hw.size
 deb:=by rw[hw.cell (p:=⟨6,15,none⟩) h.big];exact h.deb
 syn:=by obtain⟨tp,p,h1⟩:=h.syn;exact⟨tp,p,by rw[hw.cell (p:=⟨0,0,none⟩) h.syb];exact h1⟩
 ran:=by obtain⟨tp,p,h1⟩:=h.ran;exact⟨tp,p,by rw[hw.cell (p:=⟨1,0,none⟩) h.rab];exact h1⟩
 syb:=Nat.lt_of_lt_of_le h.syb hw.size
 rab:=Nat.lt_of_lt_of_le h.rab hw.size
theorem ito_str {w:World}(hE:LEnv w) {n:Int}(hn:InR n):Calls Tryz.prog 29 #[.int .i64 n] w fun e w'=>e=.returned (.string (strOfNums (decL n)))∧Later w w':=by
 refine (ito_any _ rfl n w hn hE.tab).mono ?_;rintro e w' ⟨s,rfl,hs,l⟩;exact⟨by rw[zcg s,hs],l⟩
theorem zbq (w:World) (e:TypeId) (s:ByteArray):Later w (bytesWorld w e s):=bytesWorld_below w e s
theorem rint_any (zs:List Int) (hz:∀ j,isB (zs.getD j 0)) (hl:zs.length≤6000) (w:World) (hE:LEnv w):Calls Tryz.prog 16 #[.string (strOfNums zs)] w (KL.IntP zs w):=by
 have hsz:(strOfNums zs).size≤6000:=by rw[strOfNums_size];exact hl
 have hdec:∀ m,InR m→zs=decL m→atoiAll (strOfNums zs).data.toList=.ok m:=fun m hm e=>by rw[e,itoa_nums hm];exact atoi_itoa hm
 have hdB:∀ m,InR m→∀ j,isB ((decL m).getD j 0):=fun m _=>KL.decL_isB m
 cases h:atoiAll (strOfNums zs).data.toList with
 | ok v =>
  have hv:InR v:=atoiAll_bounds h;have hA:=Tryz.strconv_Atoi_ok (strOfNums zs) (by omega) v h w;have hI:=fun w' (l:Later w w')=>ito_str (hE.later l) hv;have hcmp:=str_inj (hdB v hv) hz;by_cases he:decL v=zs
  ·have HB:Hid (∀ w',Later w w'→KL.IntP zs w (.returned (.tuple #[.int .i64 v,.bool true])) w'):=fun w' l=>⟨v,true,rfl,by rw[if_pos rfl,← he];exact KL.intOfL_dec hv,l⟩
   rw[decide_eq_true he]at hcmp
   generalize hQ:KL.IntP zs w=Q at *
   generalize strOfNums zs=SZ at *
   generalize strOfNums (decL v)=SV at *
   have hcmp2:(SV.toList != SZ.toList)=false:=by unfold bne;rw[hcmp];rfl
   clear hQ hdec hdB h hE;go_enter Tryz.func16,Tryz.ntmps16;go_wp2_with fail
   refine hA.mono ?_;rintro e w1 ⟨rfl,hw1⟩
   have l1:Later w w1:=by
    rcases hw1 with rfl|⟨t,rfl⟩
    ·exact Later.refl _
    ·exact zbq _ _ _
   clear hw1;go_wp2_with fail
   refine (hI _ l1).mono ?_;rintro e w2 ⟨rfl,l2⟩;have HC:=HB.out w2 (l1.trans l2);clear HB;go_wp2_with fail
   exact HC
  ·have HB:Hid (∀ w',Later w w'→KL.IntP zs w (.returned (.tuple #[.int .i64 0,.bool false])) w'):=fun w' l=>⟨0,false,rfl,by
    rw[if_neg (by decide)]
    exact KL.intOfL_none (fun m hm e=>by
     have:=hdec m hm e;rw[h]at this
     cases this
     exact he e.symm),l⟩
   rw[decide_eq_false he]at hcmp
   generalize hQ:KL.IntP zs w=Q at *
   generalize strOfNums zs=SZ at *
   generalize strOfNums (decL v)=SV at *
   have hcmp2:(SV.toList != SZ.toList)=true:=by unfold bne;rw[hcmp];rfl
   clear hQ hdec hdB h hE;go_enter Tryz.func16,Tryz.ntmps16;go_wp2_with fail
   refine hA.mono ?_;rintro e w1 ⟨rfl,hw1⟩
   have l1:Later w w1:=by
    rcases hw1 with rfl|⟨t,rfl⟩
    ·exact Later.refl _
    ·exact zbq _ _ _
   clear hw1;go_wp2_with fail
   refine (hI _ l1).mono ?_;rintro e w2 ⟨rfl,l2⟩;have HC:=HB.out w2 (l1.trans l2);clear HB;go_wp2_with fail
   exact HC
 | «syntax» =>
  have HB:Hid (∀ w',Later w w'→KL.IntP zs w (.returned (.tuple #[.int .i64 0,.bool false])) w'):=fun w' l=>⟨0,false,rfl,by
   rw[if_neg (by decide)]
   exact KL.intOfL_none (fun m hm e=>by
    have:=hdec m hm e;rw[h]at this
    cases this),l⟩
  obtain⟨tp,p,hs⟩:=hE.syn;have hA:=Tryz.strconv_Atoi_syntax (strOfNums zs) (by omega) h _ w hs (.inr ⟨_,_,rfl⟩)
  generalize hQ:KL.IntP zs w=Q at *
  generalize strOfNums zs=SZ at *
  clear hQ hdec hdB h hE hs;go_enter Tryz.func16,Tryz.ntmps16;go_wp2_with fail
  refine hA.mono ?_;rintro e w1 ⟨N,rfl,_,_,l1⟩;have HC:=HB.out w1 l1;clear HB;go_wp2_with fail
  exact HC
 | range =>
  have HB:Hid (∀ w',Later w w'→KL.IntP zs w (.returned (.tuple #[.int .i64 0,.bool false])) w'):=fun w' l=>⟨0,false,rfl,by
   rw[if_neg (by decide)]
   exact KL.intOfL_none (fun m hm e=>by
    have:=hdec m hm e;rw[h]at this
    cases this),l⟩
  obtain⟨tp,p,hs⟩:=hE.ran;have hA:=Tryz.strconv_Atoi_range (strOfNums zs) (by omega) h _ w hs (.inr ⟨_,_,rfl⟩)
  generalize hQ:KL.IntP zs w=Q at *
  generalize strOfNums zs=SZ at *
  clear hQ hdec hdB h hE hs;go_enter Tryz.func16,Tryz.ntmps16;go_wp2_with fail
  refine hA.mono ?_;rintro e w1 ⟨N,rfl,_,_,l1⟩;have HC:=HB.out w1 l1;clear HB;go_wp2_with fail
  exact HC
theorem hexF_get:∀ (m u j:Nat),j<m→(hexF m u).getD j 0=hexD (u / 16 ^ (m - 1 - j) % 16)
 | 0,u,j,h=>absurd h (Nat.not_lt_zero _)
 | m+1,u,j,h=>by
  rw[hexF];rcases Nat.lt_or_ge j m with q|q
  ·rw[List.getD_eq_getElem?_getD,List.getElem?_append_left (by rw[zbd];exact q),← List.getD_eq_getElem?_getD,hexF_get m (u / 16) j q,Nat.div_div_eq_div_mul,show m+1 - 1 - j=(m - 1 - j)+1 by omega,Nat.pow_succ,Nat.mul_comm 16]
  ·obtain rfl:j=m:=by omega
   rw[List.getD_eq_getElem?_getD,List.getElem?_append_right (by rw[zbd];exact Nat.le_refl _),zbd,Nat.sub_self,show j+1 - 1 - j=0 by omega,Nat.pow_zero,Nat.div_one];rfl
theorem zca {v:Nat}(hv:v<16):(48≤hexD v∧hexD v≤57∧hexD v - 48=(v:Int))∨(97≤hexD v∧hexD v≤102∧hexD v - 97+10=(v:Int)):=by
 unfold hexD;by_cases h:v<10
 ·rw[if_pos h];exact .inl ⟨by omega,by omega,by omega⟩
 ·rw[if_neg h];exact .inr ⟨by omega,by omega,by omega⟩
theorem or32 {c:Int}(h0:97≤c) (h1:c≤102):bits .or .u8 c 32=c:=by
 obtain rfl|rfl|rfl|rfl|rfl|rfl:c=97∨c=98∨c=99∨c=100∨c=101∨c=102:=by omega
 all_goals decide
theorem ba_loop (bs:ByteArray):∀ (n i:Nat) (r:List UInt8),bs.size - i=n→ByteArray.toList.loop bs i r=r.reverse++bs.data.toList.drop i
 | 0,i,r,h=>by
  have hs:bs.data.toList.length=bs.size:=by rw[Array.length_toList];rfl
  rw[ByteArray.toList.loop,if_neg (by omega),List.drop_eq_nil_of_le (by omega),List.append_nil]
 | n+1,i,r,h=>by
  have hs:bs.data.toList.length=bs.size:=by rw[Array.length_toList];rfl
  have hi:i<bs.data.toList.length:=by omega
  rw[ByteArray.toList.loop,if_pos (by omega),ba_loop bs n (i+1) _ (by omega),List.reverse_cons,List.append_assoc,List.drop_eq_getElem_cons hi]
  have:bs.get! i=bs.data.toList[i]:=by
   have hi2:i<bs.data.size:=by rw[Array.length_toList]at hi;exact hi
   show bs.data[i]! =_;rw[getElem!_pos bs.data i hi2,Array.getElem_toList]
  rw[this];rfl
theorem ba_toList (bs:ByteArray):bs.toList=bs.data.toList:=by
 rw[ByteArray.toList,ba_loop bs _ 0 [] rfl];rfl
theorem str_toList (zs:List Int):(strOfNums zs).toList=zs.map fun n=>UInt8.ofNat n.toNat:=by rw[ba_toList,strOfNums_data]
def PuP (zs:List Int) (w:World) (e:Ending) (w':World):Prop:=∃ (n:Int) (ev:Value),e=.returned (.tuple #[.int .u64 n,ev])∧(0≤n∧n<18446744073709551616)∧Later w w'∧(ev=.nilIface∨ev=.iface 114 (.int .i64 2)∨ev=.iface 114 (.int .i64 1))∧∀ u:Nat,u<18446744073709551616→zs=hexF 16 u→n=(u:Int)∧ev=.nilIface
def PuS (zs:List Int) (k:Nat) (a:Int):Prop:=0≤a∧a<18446744073709551616∧∀ u:Nat,u<18446744073709551616→zs=hexF 16 u→a=((u / 16 ^ (16 - k):Nat):Int)
theorem PuS.start (zs:List Int):PuS zs 0 0:=⟨by decide,by decide,fun u hu _=>by
 have:u / 16 ^ (16 - 0)=0:=Nat.div_eq_of_lt (by have:(16:Nat) ^ (16 - 0)=18446744073709551616:=(by decide);omega)
 rw[this];rfl⟩
theorem pu_at {zs:List Int}{u k:Nat}(e:zs=hexF 16 u) (hk:k<zs.length):k<16∧zs.getD k 0=hexD (u / 16 ^ (15 - k) % 16)∧u / 16 ^ (16 - k)=u / 16 ^ (15 - k) / 16:=by
 have hl:zs.length=16:=by rw[e,zbd]
 refine⟨by omega,by rw[e,hexF_get 16 u k (by omega)],?_⟩;rw[Nat.div_div_eq_div_mul,show 16 - k=(15 - k)+1 by omega,Nat.pow_succ]
theorem PuS.small {zs:List Int}{k:Nat}{a:Int}(h:PuS zs k a) {u:Nat}(hu:u<18446744073709551616) (e:zs=hexF 16 u) (hk:k<zs.length):a<1152921504606846976:=by
 obtain⟨h1,h2,h3⟩:=pu_at e hk;rw[h.2.2 u hu e]
 have:u / 16 ^ (16 - k)<16 ^ k:=by
  rw[Nat.div_lt_iff_lt_mul (Nat.pow_pos (by decide)),← Nat.pow_add,show k+(16 - k)=16 by omega];have:(16:Nat) ^ 16=18446744073709551616:=by decide
  omega
 have h4:(16:Nat) ^ k≤16 ^ 15:=Nat.pow_le_pow_right (by decide) (by omega);have:(16:Nat) ^ 15=1152921504606846976:=by decide
 omega
theorem PuS.next {zs:List Int}{k:Nat}{a d:Int}(h:PuS zs k a) (hk:k<zs.length) (ha:a<1152921504606846976) (hd0:0≤d) (hd1:d<16) (hd:∀ v:Nat,v<16→zs.getD k 0=hexD v→d=(v:Int)):PuS zs (k+1) (a*16+d):=by
 refine⟨by have:=h.1;omega,by omega,fun u hu e=>?_⟩;obtain⟨h1,h2,h3⟩:=pu_at e hk;rw[h.2.2 u hu e,h3,hd _ (Nat.mod_lt _ (by decide)) h2,show 16 - (k+1)=15 - k by omega];have:=Nat.div_add_mod (u / 16 ^ (15 - k)) 16;omega
theorem PuS.done {zs:List Int}{k:Nat}{a:Int}(h:PuS zs k a) (hk:zs.length≤k) {u:Nat}(hu:u<18446744073709551616) (e:zs=hexF 16 u):a=(u:Int):=by
 have hl:zs.length=16:=by rw[e,zbd]
 have:=h.2.2 u hu e;rw[show 16 - k=0 by omega,Nat.pow_zero,Nat.div_one]at this;exact this
theorem conv_bytes (zs:List Int) (hz:∀ j,isB (zs.getD j 0)) (hl:zs.length≤6000) (w:World):∃ w1 c,(convert 9 22 (.string (strOfNums zs))).run Tryz.prog w=.ok (.slice (some ⟨w.heap.size,0,none⟩) zs.length c) w1∧Later w w1∧(w.heap.size<w1.heap.size∧zs.length≤c∧c≤maxLen)∧∀ j,j<zs.length→w1.cell? ⟨w.heap.size,j,none⟩=some (.int .u8 (zs.getD j 0))∧w1.frozen? ⟨w.heap.size,j,none⟩=false:=by
 have h:=Go.Lib.run_convert_string_bytes (P:=Tryz.prog) w 9 22 5 (strOfNums zs) Tryz.underlying9 Tryz.underlying22 Tryz.underlying5;rw[strOfNums_size]at h;refine⟨_,_,h,zbq _ _ _,⟨by rw[bytesWorld_size];omega,grownCap_ge w zs.length 0 _,grownCap_le_maxLen w zs.length 0 _ (by unfold maxLen;omega)⟩,fun j hj=>⟨?_,?_⟩⟩
 ·rw[bytesWorld_cell w _ _ j (by rw[strOfNums_size];exact hj),strOfNums_data];have hb:=hz j;unfold isB at hb;rw[List.getD_eq_getElem?_getD,List.getElem?_map,List.getElem?_eq_getElem hj];rw[List.getD_eq_getElem?_getD,List.getElem?_eq_getElem hj]at hb ⊢;simp only[Option.map_some,Option.getD_some]at hb ⊢;have e:(((UInt8.ofNat zs[j].toNat).toNat:Nat):Int)=zs[j]:=by rw[UInt8.toNat_ofNat'];omega
  rw[e]
 ·have hn:=bytesWorld_at_new w 5 (strOfNums zs)
  have hsz:zs.length≤(bytesCells w 5 (strOfNums zs)).size:=by
   unfold bytesCells;rw[Array.size_append,Array.size_map];have:(strOfNums zs).data.size=zs.length:=strOfNums_size zs;omega
  have:(bytesWorld w 5 (strOfNums zs)).frozen? ⟨w.heap.size,j,none⟩=(decide ((bytesCells w 5 (strOfNums zs)).size≤j)&&decide (j<(bytesCells w 5 (strOfNums zs)).size+1)):=by simp[World.frozen?,hn]
  rw[this,decide_eq_false (by omega),Bool.false_and]
theorem puint_any (zs:List Int) (hz:∀ j,isB (zs.getD j 0)) (hl:zs.length≤6000) (w:World):Calls Tryz.prog 50 #[.string (strOfNums zs),.int .i64 16,.int .i64 64] w (PuP zs w):=by
 obtain⟨w1,c,hcv,l1,⟨hlt1,_,_⟩,hcell⟩:=conv_bytes zs hz hl w;have hcell':Hid (∀ j,j<zs.length→w1.cell? ⟨w.heap.size,j,none⟩=some (.int .u8 (zs.getD j 0))):=fun j hj=>(hcell j hj).1;have hlow:=fun z w=>Tryz.internal_strconv_lower z w
 have HE:Hid (∀ (n:Int) (q:Int) w',(q=2∨q=1)→0≤n→n<18446744073709551616→Later w w'→(∀ u:Nat,u<18446744073709551616→zs=hexF 16 u→False)→PuP zs w (.returned (.tuple #[.int .u64 n,.iface 114 (.int .i64 q)])) w'):=fun n q w' hq h0 h1 l hno=>⟨n,_,rfl,⟨h0,h1⟩,l,.inr (by rcases hq with rfl|rfl;exact .inl rfl;exact .inr rfl),fun u hu e=>(hno u hu e).elim⟩
 have HO:Hid (∀ (n:Int) w',0≤n→n<18446744073709551616→Later w w'→(∀ u:Nat,u<18446744073709551616→zs=hexF 16 u→n=(u:Int))→PuP zs w (.returned (.tuple #[.int .u64 n,.nilIface])) w'):=fun n w' h0 h1 l hy=>⟨n,_,rfl,⟨h0,h1⟩,l,.inl rfl,fun u hu e=>⟨hy u hu e,rfl⟩⟩
 by_cases hz0:zs=[]
 ·have HA:=HE.out 0 2 w (.inl rfl) (by decide) (by decide) (Later.refl _) (fun u _ e=>by
   have:=congrArg List.length e;rw[zbd,hz0]at this
   cases this)
  have hs:(strOfNums zs).toList.isEmpty=true:=by rw[str_toList,hz0];rfl
  generalize hQ:PuP zs w=Q at *
  generalize strOfNums zs=S at *
  clear hQ HE HO hcell hcell' hcv hlow;go_enter Tryz.func50,Tryz.ntmps50;go_wp2_with fail
  exact HA
 ·have hs:(strOfNums zs).toList.isEmpty=false:=by
   rw[str_toList]
   cases zs with
   | nil=>exact absurd rfl hz0
   | cons a r=>rfl
  generalize hQ:PuP zs w=Q at *
  generalize strOfNums zs=S at *
  obtain⟨L,hL⟩:=zbi zs.length;rw[←hL.out]at hcv;have hLi:(L:Int)≤6000:=by have:=hL.out;omega
  clear hQ hcell;go_enter Tryz.func50,Tryz.ntmps50;go_wp2_with fail
  have hZ:Hid _:=hz;clear hz hs hcv;go_loopw [12,13,101] (fun s n i wr=>∃ (k:Nat) (a:Int),s=.bool false∧n=.int .u64 a∧i=.int .i64 (k:Int)∧k≤L∧Hid (PuS zs k a)∧wr=w1) (fun _ _ i _=>L - (RowKit.intOf i).toNat)
  case atStart=>exact⟨0,0,rfl,rfl,rfl,Nat.zero_le _,PuS.start zs,rfl⟩
  case round =>
   obtain⟨k,a,rfl,rfl,rfl,hk,hP,rfl⟩:=hrel;by_cases hlt:k<L
   ·have hkz:k<zs.length:=by have:=hL.out;omega
    have ik:(k:Int)<(L:Int):=by omega
    have c0:=hcell'.out k hkz;obtain⟨z,hz⟩:=zbi (zs.getD k 0);rw[←hz.out]at c0;have hb:isB z:=by rw[hz.out];exact hZ.out k
    unfold isB at hb;obtain⟨hb0,hb1⟩:=hb
    obtain⟨ha0,ha1⟩:0≤a∧a<18446744073709551616:=⟨hP.out.1,hP.out.2.1⟩
    have hmx:Hid (IntKind.u64.wrap (IntKind.u64.wrap 18446744073709551616 - 1)=18446744073709551615):=(by decide:IntKind.u64.wrap (IntKind.u64.wrap 18446744073709551616 - 1)=18446744073709551615)
    have hSy:Hid ((∀ v:Nat,v<16→z=hexD v→False)→∀ u:Nat,u<18446744073709551616→zs=hexF 16 u→False):=fun h u hu e=>h _ (Nat.mod_lt _ (by decide)) (by rw[hz.out];exact (pu_at e hkz).2.1);by_cases hc:a<1152921504606846976
    ·have q3:¬ (1152921504606846976:Int)≤a:=by omega
     by_cases hd:48≤z∧z≤57
     ·obtain⟨hd0,hd1⟩:=hd;have hn:¬ z=95:=by omega
      have q0:(0:Int)≤z - 48:=by omega
      have q1:z - 48<256:=by omega
      have q2:¬ (16:Int)≤z - 48:=by omega
      have q4:¬ IntKind.u64.wrap (IntKind.u64.wrap 18446744073709551616 - 1)<a*16+(z - 48):=by rw[hmx.out];omega
      have hP2:Hid (PuS zs (k+1) (a*16+(z - 48))):=hP.out.next hkz hc q0 (by omega) (fun v hv e=>by
       rw[←hz.out]at e;rcases zca hv with ⟨_,_,h3⟩|⟨h1,_,_⟩
       ·rw[e,h3]
       ·omega)
      go_wp2_with fail
      go_roundw
      case rel=>exact⟨k+1,_,rfl,rfl,by go_num,by omega,hP2,by first|rfl|trivial⟩
      case measure=>simp[RowKit.intOf];omega
     ·have hD:¬ (48≤z∧z≤57):=hd;obtain⟨m,hm⟩:=zbi (bits .or .u8 z 32);have hlz:=fun w=>hlow z w;rw[←hm.out]at hlz;clear hlow;by_cases hM:97≤m∧m≤122
      ·obtain⟨hm0,hm1⟩:=hM;have q0:(0:Int)≤m - 97:=by omega
       have q1:m - 97<256:=by omega
       have q5:(0:Int)≤m - 97+10:=by omega
       have q6:m - 97+10<256:=by omega
       by_cases hg:m - 97+10<16
       ·have q2:¬ (16:Int)≤m - 97+10:=by omega
        have q4:¬ IntKind.u64.wrap (IntKind.u64.wrap 18446744073709551616 - 1)<a*16+(m - 97+10):=by rw[hmx.out];omega
        have hP2:Hid (PuS zs (k+1) (a*16+(m - 97+10))):=hP.out.next hkz hc q5 hg (fun v hv e=>by
         rw[←hz.out]at e;rcases zca hv with ⟨h1,h2,h3⟩|⟨h1,h2,h3⟩
         ·exact absurd ⟨by omega,by omega⟩ hD
         ·rw[hm.out,e,or32 h1 h2,h3])
        rcases (by omega:z<48∨(57<z∧¬ z=95)∨z=95) with hq|⟨hq,hn⟩|hq
        ·have p1:¬ (48:Int)≤z:=by omega
         have hn:¬ z=95:=by omega
         go_wp2_with (go_at_call 75;refine (hlz _).mono ?_;rintro e w1 ⟨rfl,hw⟩;obtain rfl:=hw.symm;clear hw)
         go_roundw
         case rel=>exact⟨k+1,_,rfl,rfl,by go_num,by omega,hP2,by first|rfl|trivial⟩
         case measure=>simp[RowKit.intOf];omega
        ·have p1:(48:Int)≤z:=by omega
         have p2:¬ z≤57:=by omega
         go_wp2_with (go_at_call 75;refine (hlz _).mono ?_;rintro e w1 ⟨rfl,hw⟩;obtain rfl:=hw.symm;clear hw)
         go_roundw
         case rel=>exact⟨k+1,_,rfl,rfl,by go_num,by omega,hP2,by first|rfl|trivial⟩
         case measure=>simp[RowKit.intOf];omega
        ·exact absurd hm.out (by rw[hq,show bits .or .u8 95 32=127 by decide];omega)
       ·have q2:(16:Int)≤m - 97+10:=by omega
        have HA:=HE.out 0 2 wr (.inl rfl) (by decide) (by decide) l1 (hSy.out fun v hv e=>by
         rcases zca hv with ⟨h1,h2,h3⟩|⟨h1,h2,h3⟩
         ·exact absurd ⟨by omega,by omega⟩ hD
         ·rw[hm.out,e,or32 h1 h2]at q2;omega)
        rcases (by omega:z<48∨(57<z∧¬ z=95)∨z=95) with hq|⟨hq,hn⟩|hq
        ·have p1:¬ (48:Int)≤z:=by omega
         have hn:¬ z=95:=by omega
         go_wp2_with (go_at_call 75;refine (hlz _).mono ?_;rintro e w1 ⟨rfl,hw⟩;obtain rfl:=hw.symm;clear hw)
         exact HA
        ·have p1:(48:Int)≤z:=by omega
         have p2:¬ z≤57:=by omega
         go_wp2_with (go_at_call 75;refine (hlz _).mono ?_;rintro e w1 ⟨rfl,hw⟩;obtain rfl:=hw.symm;clear hw)
         exact HA
        ·exact absurd hm.out (by rw[hq,show bits .or .u8 95 32=127 by decide];omega)
      ·have HA:=HE.out 0 2 wr (.inl rfl) (by decide) (by decide) l1 (hSy.out fun v hv e=>by
        rcases zca hv with ⟨h1,h2,h3⟩|⟨h1,h2,h3⟩
        ·exact absurd ⟨by omega,by omega⟩ hD
        ·refine absurd ?_ hM
         rw[hm.out,e,or32 h1 h2];omega)
       rcases (by omega:¬ 97≤m∨(97≤m∧¬ m≤122)) with r1|⟨r1,r2⟩
       ·skip
        rcases (by omega:z<48∨(57<z∧¬ z=95)∨z=95) with hq|⟨hq,hn⟩|hq
        ·have p1:¬ (48:Int)≤z:=by omega
         have hn:¬ z=95:=by omega
         go_wp2_with (go_at_call 75;refine (hlz _).mono ?_;rintro e w1 ⟨rfl,hw⟩;obtain rfl:=hw.symm;clear hw)
         exact HA
        ·have p1:(48:Int)≤z:=by omega
         have p2:¬ z≤57:=by omega
         go_wp2_with (go_at_call 75;refine (hlz _).mono ?_;rintro e w1 ⟨rfl,hw⟩;obtain rfl:=hw.symm;clear hw)
         exact HA
        ·subst hq;go_wp2_with (go_at_call 75;refine (hlz _).mono ?_;rintro e w1 ⟨rfl,hw⟩;obtain rfl:=hw.symm;clear hw)
         exact HA
       ·skip
        rcases (by omega:z<48∨(57<z∧¬ z=95)∨z=95) with hq|⟨hq,hn⟩|hq
        ·have p1:¬ (48:Int)≤z:=by omega
         have hn:¬ z=95:=by omega
         go_wp2_with (go_at_call 75;refine (hlz _).mono ?_;rintro e w1 ⟨rfl,hw⟩;obtain rfl:=hw.symm;clear hw)
         exact HA
        ·have p1:(48:Int)≤z:=by omega
         have p2:¬ z≤57:=by omega
         go_wp2_with (go_at_call 75;refine (hlz _).mono ?_;rintro e w1 ⟨rfl,hw⟩;obtain rfl:=hw.symm;clear hw)
         exact HA
        ·subst hq;go_wp2_with (go_at_call 75;refine (hlz _).mono ?_;rintro e w1 ⟨rfl,hw⟩;obtain rfl:=hw.symm;clear hw)
         exact HA
    ·have q3:(1152921504606846976:Int)≤a:=by omega
     have HA:Hid (∀ u:Nat,u<18446744073709551616→zs=hexF 16 u→False):=fun u hu e=>absurd (hP.out.small hu e hkz) (by omega);have HA1:=HE.out 18446744073709551615 1 wr (.inr rfl) (by decide) (by decide) l1 HA.out;have HA2:=HE.out 0 2 wr (.inl rfl) (by decide) (by decide) l1 HA.out;rw[←hmx.out]at HA1;by_cases hd:48≤z∧z≤57
     ·obtain⟨hd0,hd1⟩:=hd;have hn:¬ z=95:=by omega
      have q0:(0:Int)≤z - 48:=by omega
      have q1:z - 48<256:=by omega
      have q2:¬ (16:Int)≤z - 48:=by omega
      go_wp2_with fail
      exact HA1
     ·obtain⟨m,hm⟩:=zbi (bits .or .u8 z 32);have hlz:=fun w=>hlow z w;rw[←hm.out]at hlz;clear hlow;by_cases hM:97≤m∧m≤122
      ·obtain⟨hm0,hm1⟩:=hM;have q0:(0:Int)≤m - 97:=by omega
       have q1:m - 97<256:=by omega
       have q5:(0:Int)≤m - 97+10:=by omega
       have q6:m - 97+10<256:=by omega
       by_cases hg:m - 97+10<16
       ·have q2:¬ (16:Int)≤m - 97+10:=by omega
        rcases (by omega:z<48∨(57<z∧¬ z=95)∨z=95) with hq|⟨hq,hn⟩|hq
        ·have p1:¬ (48:Int)≤z:=by omega
         have hn:¬ z=95:=by omega
         go_wp2_with (go_at_call 75;refine (hlz _).mono ?_;rintro e w1 ⟨rfl,hw⟩;obtain rfl:=hw.symm;clear hw)
         exact HA1
        ·have p1:(48:Int)≤z:=by omega
         have p2:¬ z≤57:=by omega
         go_wp2_with (go_at_call 75;refine (hlz _).mono ?_;rintro e w1 ⟨rfl,hw⟩;obtain rfl:=hw.symm;clear hw)
         exact HA1
        ·exact absurd hm.out (by rw[hq,show bits .or .u8 95 32=127 by decide];omega)
       ·have q2:(16:Int)≤m - 97+10:=by omega
        rcases (by omega:z<48∨(57<z∧¬ z=95)∨z=95) with hq|⟨hq,hn⟩|hq
        ·have p1:¬ (48:Int)≤z:=by omega
         have hn:¬ z=95:=by omega
         go_wp2_with (go_at_call 75;refine (hlz _).mono ?_;rintro e w1 ⟨rfl,hw⟩;obtain rfl:=hw.symm;clear hw)
         exact HA2
        ·have p1:(48:Int)≤z:=by omega
         have p2:¬ z≤57:=by omega
         go_wp2_with (go_at_call 75;refine (hlz _).mono ?_;rintro e w1 ⟨rfl,hw⟩;obtain rfl:=hw.symm;clear hw)
         exact HA2
        ·exact absurd hm.out (by rw[hq,show bits .or .u8 95 32=127 by decide];omega)
      ·rcases (by omega:¬ 97≤m∨(97≤m∧¬ m≤122)) with r1|⟨r1,r2⟩
       ·skip
        rcases (by omega:z<48∨(57<z∧¬ z=95)∨z=95) with hq|⟨hq,hn⟩|hq
        ·have p1:¬ (48:Int)≤z:=by omega
         have hn:¬ z=95:=by omega
         go_wp2_with (go_at_call 75;refine (hlz _).mono ?_;rintro e w1 ⟨rfl,hw⟩;obtain rfl:=hw.symm;clear hw)
         exact HA2
        ·have p1:(48:Int)≤z:=by omega
         have p2:¬ z≤57:=by omega
         go_wp2_with (go_at_call 75;refine (hlz _).mono ?_;rintro e w1 ⟨rfl,hw⟩;obtain rfl:=hw.symm;clear hw)
         exact HA2
        ·subst hq;go_wp2_with (go_at_call 75;refine (hlz _).mono ?_;rintro e w1 ⟨rfl,hw⟩;obtain rfl:=hw.symm;clear hw)
         exact HA2
       ·skip
        rcases (by omega:z<48∨(57<z∧¬ z=95)∨z=95) with hq|⟨hq,hn⟩|hq
        ·have p1:¬ (48:Int)≤z:=by omega
         have hn:¬ z=95:=by omega
         go_wp2_with (go_at_call 75;refine (hlz _).mono ?_;rintro e w1 ⟨rfl,hw⟩;obtain rfl:=hw.symm;clear hw)
         exact HA2
        ·have p1:(48:Int)≤z:=by omega
         have p2:¬ z≤57:=by omega
         go_wp2_with (go_at_call 75;refine (hlz _).mono ?_;rintro e w1 ⟨rfl,hw⟩;obtain rfl:=hw.symm;clear hw)
         exact HA2
        ·subst hq;go_wp2_with (go_at_call 75;refine (hlz _).mono ?_;rintro e w1 ⟨rfl,hw⟩;obtain rfl:=hw.symm;clear hw)
         exact HA2
   ·have hk2:k=L:=by omega
    have ik:¬ (k:Int)<(L:Int):=by omega
    have HA:=HO.out a wr hP.out.1 hP.out.2.1 l1 (fun u hu e=>hP.out.done (by have:=hL.out;omega) hu e);go_wp2_with fail
    exact HA
end Go.Proofs.YtgholpilmdebmaaGreatDoor
