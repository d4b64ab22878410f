/- My texts K5, K6 in one. -/
import Derived.Test.YtmdejbphoafjlaaGreatDoorGa
set_option maxHeartbeats 100000000
set_option maxRecDepth 100000
namespace Go.Proofs.YtmdejbphoafjlaaGreatDoor
open Go.RowKit
def low (z:Int):Bool:=decide (97≤z)&&decide (z≤122)
def up (z:Int):Bool:=decide (65≤z)&&decide (z≤90)
def dig (z:Int):Bool:=decide (48≤z)&&decide (z≤57)
theorem range7 (z:Int):(z<48)∨(48≤z∧z≤57)∨(57<z∧z<65)∨(65≤z∧z≤90)∨(90<z∧z<97)∨(97≤z∧z≤122)∨(122<z):=by omega
def wordL (zs:List Int) (great:Bool):Bool:=decide (1≤zs.length)&&decide (zs.length≤8)&&(if great then up (zs.getD 0 0) else low (zs.getD 0 0))&&zs.tail.all (fun z=>low z||dig z)
def wordAt (k:Nat) (great:Bool) (z:Int):Bool:=if k=0 then (if great then up z else low z) else low z||dig z
theorem wordL_eq {zs:List Int}(great:Bool) (h1:1≤zs.length) (h8:zs.length≤8):wordL zs great=true↔∀ j,j<zs.length→wordAt j great (zs.getD j 0)=true:=by
 match zs,h1 with
 | z::r,_ =>
  unfold wordL
  have e1:decide (1≤(z::r).length)=true:=by simp
  have e2:decide ((z::r).length≤8)=true:=by simpa using h8
  rw[e1,e2]
  simp only[Bool.true_and,Bool.and_eq_true,List.tail_cons,List.all_eq_true]
  constructor
  ·rintro ⟨ha,hb⟩ j hj
   match j with
   | 0=>exact ha
   | j+1 =>
    have hj':j<r.length:=by simpa using hj
    show (low _||dig _)=true
    refine hb _ ?_
    simp only[List.getD_cons_succ]
    rw[List.getD_eq_getElem?_getD,List.getElem?_eq_getElem hj']
    exact List.getElem_mem _
  ·intro h
   refine⟨h 0 (by simp),fun x hx=>?_⟩
   obtain⟨j,hj,rfl⟩:=List.mem_iff_getElem.1 hx
   have:=h (j+1) (by simpa using hj)
   simp only[List.getD_cons_succ,wordAt]at this
   rw[List.getD_eq_getElem?_getD,List.getElem?_eq_getElem hj]at this
   simpa using this
theorem wk {k:Nat}(h:k≠0) (g:Bool) (z:Int):wordAt k g z=(low z||dig z):=if_neg h
theorem ranges (z:Int):∃ a b c:Bool,a=low z∧b=up z∧c=dig z:=⟨_,_,_,rfl,rfl,rfl⟩
theorem word_any (v:Value) (zs:List Int) (great:Bool) (w:World) (h:RdB w v zs):Calls Tryz.prog 92 #[v,.bool great] w fun e w'=>e=.returned (.bool (wordL zs great))∧w'=w:=by
 obtain⟨a,cap,rfl,hl,hz,hc⟩:=h
 by_cases h1:zs.length<1
 ·have e:wordL zs great=false:=by unfold wordL;rw[decide_eq_false (by omega)];rfl
  have h1':(zs.length:Int)<1:=by omega
  rw[e]
  clear hc e
  go_enter Tryz.func92,Tryz.ntmps92
  go_wp2
  go_ret
  exact⟨rfl,rfl⟩
 by_cases h8:8<zs.length
 ·have e:wordL zs great=false:=by unfold wordL;rw[decide_eq_false (show ¬ zs.length≤8 by omega)];simp
  have h1':¬ (zs.length:Int)<1:=by omega
  have h8':(8:Int)<(zs.length:Int):=by omega
  rw[e]
  clear hc e
  go_enter Tryz.func92,Tryz.ntmps92
  go_wp2
  go_ret
  exact⟨rfl,rfl⟩
 have h1':¬ (zs.length:Int)<1:=by omega
 have h8':¬ (8:Int)<(zs.length:Int):=by omega
 have HW:=wordL_eq (zs:=zs) great (by omega) (by omega)
 have HW1:Hid ((∀ j,j<zs.length→wordAt j great (zs.getD j 0)=true)→wordL zs great=true):=HW.2
 have HW2:Hid (∀ j,j<zs.length→wordAt j great (zs.getD j 0)=false→wordL zs great=false):=fun j hj e=>by
  rw[←Bool.not_eq_true,HW]
  intro hall
  rw[hall j hj]at e
  cases e
 clear HW
 go_enter Tryz.func92,Tryz.ntmps92
 go_wp2
 go_loop [5] (fun i=>∃ k:Nat,i=.int .i64 (k:Int)∧k≤zs.length∧Hid (∀ j,j<k→wordAt j great (zs.getD j 0)=true)) (fun i=>zs.length - (intOf i).toNat)
 case atStart=>exact⟨0,rfl,Nat.zero_le _,fun j hj=>absurd hj (Nat.not_lt_zero _)⟩
 case round =>
  obtain⟨k,rfl,hk,hall⟩:=hrel
  by_cases hlt:k<zs.length
  ·obtain⟨g,off,rfl,_,hv⟩:=hc k hlt
   have i1:(k:Int)<(zs.length:Int):=by omega
   have HF:Hid (wordAt k great (zs.getD k 0)=false→wordL zs great=false):=HW2.out k hlt
   have HT:Hid (∀ j,j=k→wordAt j great (zs.getD j 0)=wordAt k great (zs.getD k 0)):=fun j e=>by rw[e]
   generalize zs.getD k 0=z at *
   clear hc HW2
   by_cases hk0:k=0
   ·subst hk0
    rw[Nat.add_zero]at hv
    rcases range7 z with hr|hr|hr|hr|hr|hr|hr
    ·have f0:¬ 97≤z:=by omega
     have f1:z≤122:=by omega
     have f2:¬ 65≤z:=by omega
     have f3:z≤90:=by omega
     have f4:¬ 48≤z:=by omega
     have f5:z≤57:=by omega
     have lz:low z=false:=by unfold low;simp;omega
     have uz:up z=false:=by unfold up;simp;omega
     have dz:dig z=false:=by unfold dig;simp;omega
     clear hr
     cases great
     ·have e:wordAt 0 false z=false:=lz
      clear lz uz dz
      go_wp2_with fail
      go_ret
      exact⟨ret_bool (HF.out e).symm,rfl⟩
     ·have e:wordAt 0 true z=false:=uz
      clear lz uz dz
      go_wp2_with fail
      go_ret
      exact⟨ret_bool (HF.out e).symm,rfl⟩
    ·have f0:¬ 97≤z:=by omega
     have f1:z≤122:=by omega
     have f2:¬ 65≤z:=by omega
     have f3:z≤90:=by omega
     have f4:48≤z:=by omega
     have f5:z≤57:=by omega
     have lz:low z=false:=by unfold low;simp;omega
     have uz:up z=false:=by unfold up;simp;omega
     have dz:dig z=true:=by unfold dig;simp;omega
     clear hr
     cases great
     ·have e:wordAt 0 false z=false:=lz
      clear lz uz dz
      go_wp2_with fail
      go_ret
      exact⟨ret_bool (HF.out e).symm,rfl⟩
     ·have e:wordAt 0 true z=false:=uz
      clear lz uz dz
      go_wp2_with fail
      go_ret
      exact⟨ret_bool (HF.out e).symm,rfl⟩
    ·have f0:¬ 97≤z:=by omega
     have f1:z≤122:=by omega
     have f2:¬ 65≤z:=by omega
     have f3:z≤90:=by omega
     have f4:48≤z:=by omega
     have f5:¬ z≤57:=by omega
     have lz:low z=false:=by unfold low;simp;omega
     have uz:up z=false:=by unfold up;simp;omega
     have dz:dig z=false:=by unfold dig;simp;omega
     clear hr
     cases great
     ·have e:wordAt 0 false z=false:=lz
      clear lz uz dz
      go_wp2_with fail
      go_ret
      exact⟨ret_bool (HF.out e).symm,rfl⟩
     ·have e:wordAt 0 true z=false:=uz
      clear lz uz dz
      go_wp2_with fail
      go_ret
      exact⟨ret_bool (HF.out e).symm,rfl⟩
    ·have f0:¬ 97≤z:=by omega
     have f1:z≤122:=by omega
     have f2:65≤z:=by omega
     have f3:z≤90:=by omega
     have f4:48≤z:=by omega
     have f5:¬ z≤57:=by omega
     have lz:low z=false:=by unfold low;simp;omega
     have uz:up z=true:=by unfold up;simp;omega
     have dz:dig z=false:=by unfold dig;simp;omega
     clear hr
     cases great
     ·have e:wordAt 0 false z=false:=lz
      clear lz uz dz
      go_wp2_with fail
      go_ret
      exact⟨ret_bool (HF.out e).symm,rfl⟩
     ·have e:wordAt 0 true z=true:=uz
      clear lz uz dz
      go_wp2_with fail
      go_round
      case rel=>exact⟨0+1,by go_num,by omega,fun j hj=>by
        rcases Nat.lt_or_ge j 0 with a|a
        ·exact hall.out j a
        ·rw[HT.out j (by omega)];exact e⟩
      case measure=>simp[intOf];omega
    ·have f0:¬ 97≤z:=by omega
     have f1:z≤122:=by omega
     have f2:65≤z:=by omega
     have f3:¬ z≤90:=by omega
     have f4:48≤z:=by omega
     have f5:¬ z≤57:=by omega
     have lz:low z=false:=by unfold low;simp;omega
     have uz:up z=false:=by unfold up;simp;omega
     have dz:dig z=false:=by unfold dig;simp;omega
     clear hr
     cases great
     ·have e:wordAt 0 false z=false:=lz
      clear lz uz dz
      go_wp2_with fail
      go_ret
      exact⟨ret_bool (HF.out e).symm,rfl⟩
     ·have e:wordAt 0 true z=false:=uz
      clear lz uz dz
      go_wp2_with fail
      go_ret
      exact⟨ret_bool (HF.out e).symm,rfl⟩
    ·have f0:97≤z:=by omega
     have f1:z≤122:=by omega
     have f2:65≤z:=by omega
     have f3:¬ z≤90:=by omega
     have f4:48≤z:=by omega
     have f5:¬ z≤57:=by omega
     have lz:low z=true:=by unfold low;simp;omega
     have uz:up z=false:=by unfold up;simp;omega
     have dz:dig z=false:=by unfold dig;simp;omega
     clear hr
     cases great
     ·have e:wordAt 0 false z=true:=lz
      clear lz uz dz
      go_wp2_with fail
      go_round
      case rel=>exact⟨0+1,by go_num,by omega,fun j hj=>by
        rcases Nat.lt_or_ge j 0 with a|a
        ·exact hall.out j a
        ·rw[HT.out j (by omega)];exact e⟩
      case measure=>simp[intOf];omega
     ·have e:wordAt 0 true z=false:=uz
      clear lz uz dz
      go_wp2_with fail
      go_ret
      exact⟨ret_bool (HF.out e).symm,rfl⟩
    ·have f0:97≤z:=by omega
     have f1:¬ z≤122:=by omega
     have f2:65≤z:=by omega
     have f3:¬ z≤90:=by omega
     have f4:48≤z:=by omega
     have f5:¬ z≤57:=by omega
     have lz:low z=false:=by unfold low;simp;omega
     have uz:up z=false:=by unfold up;simp;omega
     have dz:dig z=false:=by unfold dig;simp;omega
     clear hr
     cases great
     ·have e:wordAt 0 false z=false:=lz
      clear lz uz dz
      go_wp2_with fail
      go_ret
      exact⟨ret_bool (HF.out e).symm,rfl⟩
     ·have e:wordAt 0 true z=false:=uz
      clear lz uz dz
      go_wp2_with fail
      go_ret
      exact⟨ret_bool (HF.out e).symm,rfl⟩
   ·have k1:((k:Int)==0)=false:=by simpa using hk0
    have k2:0<(k:Int):=by omega
    rcases range7 z with hr|hr|hr|hr|hr|hr|hr
    ·have f0:¬ 97≤z:=by omega
     have f1:z≤122:=by omega
     have f2:¬ 65≤z:=by omega
     have f3:z≤90:=by omega
     have f4:¬ 48≤z:=by omega
     have f5:z≤57:=by omega
     have lz:low z=false:=by unfold low;simp;omega
     have uz:up z=false:=by unfold up;simp;omega
     have dz:dig z=false:=by unfold dig;simp;omega
     clear hr
     cases great
     ·have e:wordAt k false z=false:=by rw[wk hk0,lz,dz];rfl
      clear lz uz dz
      go_wp2_with fail
      go_ret
      exact⟨ret_bool (HF.out e).symm,rfl⟩
     ·have e:wordAt k true z=false:=by rw[wk hk0,lz,dz];rfl
      clear lz uz dz
      go_wp2_with fail
      go_ret
      exact⟨ret_bool (HF.out e).symm,rfl⟩
    ·have f0:¬ 97≤z:=by omega
     have f1:z≤122:=by omega
     have f2:¬ 65≤z:=by omega
     have f3:z≤90:=by omega
     have f4:48≤z:=by omega
     have f5:z≤57:=by omega
     have lz:low z=false:=by unfold low;simp;omega
     have uz:up z=false:=by unfold up;simp;omega
     have dz:dig z=true:=by unfold dig;simp;omega
     clear hr
     cases great
     ·have e:wordAt k false z=true:=by rw[wk hk0,lz,dz];rfl
      clear lz uz dz
      go_wp2_with fail
      go_round
      case rel=>exact⟨k+1,by go_num,by omega,fun j hj=>by
        rcases Nat.lt_or_ge j k with a|a
        ·exact hall.out j a
        ·rw[HT.out j (by omega)];exact e⟩
      case measure=>simp[intOf];omega
     ·have e:wordAt k true z=true:=by rw[wk hk0,lz,dz];rfl
      clear lz uz dz
      go_wp2_with fail
      go_round
      case rel=>exact⟨k+1,by go_num,by omega,fun j hj=>by
        rcases Nat.lt_or_ge j k with a|a
        ·exact hall.out j a
        ·rw[HT.out j (by omega)];exact e⟩
      case measure=>simp[intOf];omega
    ·have f0:¬ 97≤z:=by omega
     have f1:z≤122:=by omega
     have f2:¬ 65≤z:=by omega
     have f3:z≤90:=by omega
     have f4:48≤z:=by omega
     have f5:¬ z≤57:=by omega
     have lz:low z=false:=by unfold low;simp;omega
     have uz:up z=false:=by unfold up;simp;omega
     have dz:dig z=false:=by unfold dig;simp;omega
     clear hr
     cases great
     ·have e:wordAt k false z=false:=by rw[wk hk0,lz,dz];rfl
      clear lz uz dz
      go_wp2_with fail
      go_ret
      exact⟨ret_bool (HF.out e).symm,rfl⟩
     ·have e:wordAt k true z=false:=by rw[wk hk0,lz,dz];rfl
      clear lz uz dz
      go_wp2_with fail
      go_ret
      exact⟨ret_bool (HF.out e).symm,rfl⟩
    ·have f0:¬ 97≤z:=by omega
     have f1:z≤122:=by omega
     have f2:65≤z:=by omega
     have f3:z≤90:=by omega
     have f4:48≤z:=by omega
     have f5:¬ z≤57:=by omega
     have lz:low z=false:=by unfold low;simp;omega
     have uz:up z=true:=by unfold up;simp;omega
     have dz:dig z=false:=by unfold dig;simp;omega
     clear hr
     cases great
     ·have e:wordAt k false z=false:=by rw[wk hk0,lz,dz];rfl
      clear lz uz dz
      go_wp2_with fail
      go_ret
      exact⟨ret_bool (HF.out e).symm,rfl⟩
     ·have e:wordAt k true z=false:=by rw[wk hk0,lz,dz];rfl
      clear lz uz dz
      go_wp2_with fail
      go_ret
      exact⟨ret_bool (HF.out e).symm,rfl⟩
    ·have f0:¬ 97≤z:=by omega
     have f1:z≤122:=by omega
     have f2:65≤z:=by omega
     have f3:¬ z≤90:=by omega
     have f4:48≤z:=by omega
     have f5:¬ z≤57:=by omega
     have lz:low z=false:=by unfold low;simp;omega
     have uz:up z=false:=by unfold up;simp;omega
     have dz:dig z=false:=by unfold dig;simp;omega
     clear hr
     cases great
     ·have e:wordAt k false z=false:=by rw[wk hk0,lz,dz];rfl
      clear lz uz dz
      go_wp2_with fail
      go_ret
      exact⟨ret_bool (HF.out e).symm,rfl⟩
     ·have e:wordAt k true z=false:=by rw[wk hk0,lz,dz];rfl
      clear lz uz dz
      go_wp2_with fail
      go_ret
      exact⟨ret_bool (HF.out e).symm,rfl⟩
    ·have f0:97≤z:=by omega
     have f1:z≤122:=by omega
     have f2:65≤z:=by omega
     have f3:¬ z≤90:=by omega
     have f4:48≤z:=by omega
     have f5:¬ z≤57:=by omega
     have lz:low z=true:=by unfold low;simp;omega
     have uz:up z=false:=by unfold up;simp;omega
     have dz:dig z=false:=by unfold dig;simp;omega
     clear hr
     cases great
     ·have e:wordAt k false z=true:=by rw[wk hk0,lz,dz];rfl
      clear lz uz dz
      go_wp2_with fail
      go_round
      case rel=>exact⟨k+1,by go_num,by omega,fun j hj=>by
        rcases Nat.lt_or_ge j k with a|a
        ·exact hall.out j a
        ·rw[HT.out j (by omega)];exact e⟩
      case measure=>simp[intOf];omega
     ·have e:wordAt k true z=true:=by rw[wk hk0,lz,dz];rfl
      clear lz uz dz
      go_wp2_with fail
      go_round
      case rel=>exact⟨k+1,by go_num,by omega,fun j hj=>by
        rcases Nat.lt_or_ge j k with a|a
        ·exact hall.out j a
        ·rw[HT.out j (by omega)];exact e⟩
      case measure=>simp[intOf];omega
    ·have f0:97≤z:=by omega
     have f1:¬ z≤122:=by omega
     have f2:65≤z:=by omega
     have f3:¬ z≤90:=by omega
     have f4:48≤z:=by omega
     have f5:¬ z≤57:=by omega
     have lz:low z=false:=by unfold low;simp;omega
     have uz:up z=false:=by unfold up;simp;omega
     have dz:dig z=false:=by unfold dig;simp;omega
     clear hr
     cases great
     ·have e:wordAt k false z=false:=by rw[wk hk0,lz,dz];rfl
      clear lz uz dz
      go_wp2_with fail
      go_ret
      exact⟨ret_bool (HF.out e).symm,rfl⟩
     ·have e:wordAt k true z=false:=by rw[wk hk0,lz,dz];rfl
      clear lz uz dz
      go_wp2_with fail
      go_ret
      exact⟨ret_bool (HF.out e).symm,rfl⟩
  ·have i1:¬ (k:Int)<(zs.length:Int):=by omega
   have i2:decide ((k:Int)<(zs.length:Int))=false:=decide_eq_false i1
   go_wp2_with fail
   go_ret
   exact⟨ret_bool (HW1.out (fun j hj=>hall.out j (by omega))).symm,rfl⟩
def digF:Nat→Nat→List Int
 | 0,_=>[]
 | f+1,u=>if u<10 then [48+(u:Int)] else digF f (u / 10)++[48+((u % 10:Nat):Int)]
theorem own_new (w:World) (z:Int):(w.alloc (.cells #[.int .u8 z] 5)).ownsRow w.heap.size 5 1 (.slice (some ⟨w.heap.size,0,none⟩) 1 1) 1 [.int .u8 z] :=
 ⟨rfl,.inr ⟨w.heap.size,1,#[.int .u8 z],rfl,Nat.le_refl _,by show (w.heap.push _)[w.heap.size]?=_;simp,Nat.le_refl _,by unfold maxLen;omega,rfl,rfl⟩⟩
theorem later_ownb {w w':World}{b:Nat}{v:Value}{n:Nat}{xs:List Value}(h:w.ownsRow b 5 1 v n xs) (hb:Later w w'):w'.ownsRow b 5 1 v n xs :=
 h.kept (row:=none) ⟨hb.os,hb.tape,hb.output,hb.size,fun k hk _=>hb.block k hk⟩ (by cases h:v.ownBlock <;> simp)
theorem own_monob {w:World}{b B:Nat}{v:Value}{n:Nat}{xs:List Value}(h:w.ownsRow B 5 1 v n xs) (hb:b≤B):w.ownsRow b 5 1 v n xs:=by
 refine⟨h.1,?_⟩
 rcases h.2 with h|⟨g,cap,cur,h1,h2,h3⟩
 ·exact .inl h
 ·exact .inr ⟨g,cap,cur,h1,Nat.le_trans hb h2,h3⟩
theorem own_lt_b {w:World}{base n:Nat}{v:Value}{xs:List Value}(h:w.ownsRow base 5 1 v n xs):∀ g,v.ownBlock=some g→base≤g:=fun g hg=>(h.lt g hg).1
theorem Later.trans' {w w1 w2:World}{v:Value}(h:Later w w1) (g:w1.grownBy w2 v.ownBlock) (hb:∀ g,v.ownBlock=some g→w.heap.size≤g):Later w w2 :=
 Below.grown h g h.size hb
theorem new_oneb (w:World) (z:Int):∀ j u,[Value.int .u8 z][j]?=some u→(w.alloc (.cells #[.int .u8 z] 5)).cell? ((⟨w.heap.size,0,none⟩:Addr).add j)=some u:=by
 intro j u h
 match j with
 | 0 =>
  have:Value.int .u8 z=u:=by simpa using h
  rw[←this,Addr.add_zero']
  simp
 | j+1=>simp at h
theorem digF_len (k u:Nat):(digF k u).length≤k:=by
 induction k generalizing u with
 | zero=>simp[digF]
 | succ k ih =>
  unfold digF
  split
  ·simp
  ·have:=ih (u / 10);simp;omega
theorem wrap8 {z:Int}(h0:0≤z) (h1:z≤255):IntKind.u8.wrap z=z:=by
 rw[IntKind.wrap_u8];omega
theorem digits_any (k:Nat):∀ (u:Nat) (w:World),k≤20→u<10 ^ k→0<k→u<18446744073709551616 →
  Calls Tryz.prog 178 #[.int .u64 (u:Int)] w fun e w'=>∃ v,e=.returned v∧w'.ownsRow w.heap.size 5 1 v (digF k u).length ((digF k u).map (Value.int .u8))∧Later w w':=by
 obtain⟨i0,hi,hz0,hz1,hz2⟩:=info_parts Tryz.info5
 induction k with
 | zero=>intro u w _ _ h _;exact absurd h (Nat.lt_irrefl _)
 | succ k ih =>
  intro u w hk hu _ hu64
  by_cases hlt:u<10
  ·have e:digF (k+1) u=[48+(u:Int)]:=by unfold digF;rw[if_pos hlt]
   have h1:(u:Int)<10:=by omega
   have hw8:=wrap8 (z:=48+(u:Int)) (by omega) (by omega)
   have ho:=own_new w (48+(u:Int))
   rw[e]
   clear ih
   go_enter Tryz.func178,Tryz.ntmps178
   go_wp2_with fail
   go_ret
   exact⟨_,rfl,ho,later1 _ _⟩
  ·have e:digF (k+1) u=digF k (u / 10)++[48+((u % 10:Nat):Int)]:=by rw[digF,if_neg hlt]
   have h1:¬ (u:Int)<10:=by omega
   have hk0:0<k:=by
    rcases Nat.eq_zero_or_pos k with h|h
    ·subst h;simp at hu;omega
    ·exact h
   have hq:(u:Int) / 10=((u / 10:Nat):Int):=by omega
   have hq':(u:Int) % 10=((u % 10:Nat):Int):=by omega
   have hI:=ih (u / 10) w (by omega) (by rw[Nat.pow_succ]at hu;omega) hk0 (by omega)
   have hl:=digF_len k (u / 10)
   have hw8:=wrap8 (z:=48+((u % 10:Nat):Int)) (by omega) (by omega)
   rw[e]
   generalize digF k (u / 10)=ds at *
   have hm:u % 10<10:=Nat.mod_lt _ (by decide)
   generalize u % 10=m at *
   generalize u / 10=q at *
   clear ih e
   go_enter Tryz.func178,Tryz.ntmps178
   go_wp2_with fail
   refine hI.mono ?_
   rintro e w1 ⟨v1,rfl,o1,l1⟩
   have o2:=o1.alloc (.cells #[.int .u8 (48+(m:Int))] 5)
   have hs1:=l1.size
   obtain⟨a1,p1,rfl⟩:∃ a cap,v1=.slice a ds.length cap:=by
    rcases o1.2 with ⟨rfl,h0⟩|⟨g,cap,_,rfl,_⟩
    ·exact⟨_,_,by rw[h0]⟩
    ·exact⟨_,_,rfl⟩
   go_wp2_with (at_builtin;refine wpList_append_own _ rfl _ _ 41 rfl w.heap.size 5 i0 (.int .u8 0) 1 1 Tryz.underlying41 hi hz0 hz1 hz2 rfl (by decide) _ _ _ rfl o2 ⟨w1.heap.size,0,none⟩ 1 1 [.int .u8 (48+(m:Int))] rfl rfl (new_oneb _ _) (by simp[Value.oneCell']) (by unfold maxLen;omega) (by omega) (by simp;omega) ?_;intro v3 w3 o3 g3 _)
   go_ret
   refine⟨_,rfl,?_,?_⟩
   ·rw[List.length_append,List.map_append];exact o3
   ·exact (l1.trans (later1 _ _)).trans' g3 (own_lt_b o2)
def decL (n:Int):List Int:=if n<0 then 45::digF 20 (-n).toNat else digF 20 n.toNat
theorem digF_pos (k u:Nat):0<(digF (k+1) u).length:=by
 unfold digF
 split <;> simp
theorem dec_any (n:Int) (w:World) (hn:InR n):Calls Tryz.prog 162 #[.int .i64 n] w fun e w'=>∃ v,e=.returned v∧w'.ownsRow w.heap.size 5 1 v (decL n).length ((decL n).map (Value.int .u8))∧Later w w':=by
 obtain⟨i0,hi,hz0,hz1,hz2⟩:=info_parts Tryz.info5
 unfold InR at hn
 by_cases hneg:n<0
 ·have e:decL n=45::digF 20 (-n).toNat:=by unfold decL;rw[if_pos hneg]
  have e1:IntKind.u64.wrap n=n+18446744073709551616:=by rw[IntKind.wrap_u64];omega
  have e2:IntKind.u64.wrap (-(n+18446744073709551616))=((-n).toNat:Int):=by rw[IntKind.wrap_u64];omega
  have hI:=digits_any 20 (-n).toNat (w.alloc (.cells #[.int .u8 45] 5)) (Nat.le_refl _) (by omega) (by decide) (by omega)
  have hl:=digF_len 20 (-n).toNat
  have hp:=digF_pos 19 (-n).toNat
  rw[e]
  generalize digF 20 (-n).toNat=ds at *
  generalize (-n).toNat=m at *
  clear e
  go_enter Tryz.func162,Tryz.ntmps162
  go_wp2_with fail
  refine hI.mono ?_
  rintro e w1 ⟨v1,rfl,o1,l1⟩
  have hs1:=l1.size
  have om:=later_ownb (own_new w 45) l1
  have hal:w.heap.size<(w.alloc (.cells #[.int .u8 45] 5)).heap.size:=by simp
  rcases o1.2 with ⟨_,h0⟩|⟨g1,p1,cur1,hv1,hb1,_⟩
  ·omega
  subst hv1
  have hsrc:∀ j u,(ds.map (Value.int .u8))[j]?=some u→w1.cell? ((⟨g1,0,none⟩:Addr).add j)=some u:=fun j u hj=>by
   have hj':j<ds.length:=by
    rcases Nat.lt_or_ge j ds.length with h|h
    ·exact h
    ·rw[List.getElem?_eq_none (by simpa using h)]at hj;cases hj
   rw[Addr.add_lit,Nat.zero_add,o1.cellAt j (by omega)]
   exact hj
  have hone:∀ u∈ds.map (Value.int .u8),u.oneCell'=true:=fun u hu=>by
   obtain⟨z,_,rfl⟩:=List.mem_map.1 hu
   rfl
  obtain⟨X,hX⟩:∃ X,Hid (X=ds.map (Value.int .u8)):=⟨_,rfl⟩
  have hXl:X.length=ds.length:=by rw[hX.out];simp
  rw[←hX.out]at hsrc hone
  clear o1 hI
  go_wp2_with (at_builtin;refine wpList_append_own _ rfl _ _ 41 rfl w.heap.size 5 i0 (.int .u8 0) 1 1 Tryz.underlying41 hi hz0 hz1 hz2 rfl (by decide) _ _ _ rfl om ⟨g1,0,none⟩ ds.length p1 X rfl (by rw[hXl,Nat.mul_one]) hsrc hone (by unfold maxLen;omega) (by omega) (by omega) ?_;intro v3 w3 o3 g3 _)
  go_ret
  refine⟨_,rfl,?_,?_⟩
  ·rw[hX.out,Nat.add_comm]at o3;exact o3
  ·exact ((later1 _ _).trans l1).trans' g3 (own_lt_b om)
 ·have e:decL n=digF 20 n.toNat:=by unfold decL;rw[if_neg hneg]
  have e1:IntKind.u64.wrap n=(n.toNat:Int):=by rw[IntKind.wrap_u64];omega
  have hI:=digits_any 20 n.toNat w (Nat.le_refl _) (by omega) (by decide) (by omega)
  rw[e]
  generalize digF 20 n.toNat=ds at *
  generalize n.toNat=m at *
  clear e
  go_enter Tryz.func162,Tryz.ntmps162
  go_wp2_with fail
  refine hI.mono ?_
  rintro e w1 ⟨v1,rfl,o1,l1⟩
  go_wp2_with fail
  go_ret
  exact⟨_,rfl,o1,l1⟩
end Go.Proofs.YtmdejbphoafjlaaGreatDoor
