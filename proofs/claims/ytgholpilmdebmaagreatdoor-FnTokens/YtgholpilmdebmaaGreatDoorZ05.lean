import Derived.Test.YtgholpilmdebmaaGreatDoorZ01
import Derived.Test.YtgholpilmdebmaaGreatDoorZ04
import Derived.Laws.BytesArg
set_option maxHeartbeats 100000000
set_option maxRecDepth 100000
namespace Go.Proofs.YtgholpilmdebmaaGreatDoor
open Go.RowKit
def low (z:Int):Bool:=decide (97≤z)&&decide (z≤122)
def up (z:Int):Bool:=decide (65≤z)&&decide (z≤90)
def dig (z:Int):Bool:=decide (48≤z)&&decide (z≤57)
def inner (z:Int):Bool:=low z||up z||dig z
def signL:List Int:=[40,41,123,125,91,93,44,59,46,42,61,43,47,37,60,45]
def sign (z:Int):Bool:=signL.contains z
theorem range7 (z:Int):(z<48)∨(48≤z∧z≤57)∨(57<z∧z<65)∨(65≤z∧z≤90)∨(90<z∧z<97)∨(97≤z∧z≤122)∨(122<z):=by omega
theorem sign_true {z:Int}{k:Nat}(h:k<16) (e:signL.getD k 0=z):sign z=true:=by
 have:∀ k,k<16→sign (signL.getD k 0)=true:=by decide
 rw[←e];exact this k h
theorem sign_false {z:Int}(h:∀ j,j<16→signL.getD j 0≠z):sign z=false:=by
 unfold sign;rw[←Bool.not_eq_true,List.contains_iff_exists_mem_beq];rintro ⟨a,ha,hb⟩;obtain⟨j,hj,rfl⟩:=List.mem_iff_getElem.1 ha;have e:z=signL[j]:=by simpa using hb
 refine h j hj ?_;rw[List.getD_eq_getElem?_getD,List.getElem?_eq_getElem hj,e];rfl
def wordL (zs:List Int) (great:Bool):Bool:=decide (1≤zs.length)&&decide (zs.length≤8)&&(if great then up (zs.getD 0 0) else low (zs.getD 0 0))&&zs.tail.all (fun z=>low z||dig z)
def wordAt (k:Nat) (great:Bool) (z:Int):Bool:=if k=0 then (if great then up z else low z) else low z||dig z
theorem wordL_eq {zs:List Int}(great:Bool) (h1:1≤zs.length) (h8:zs.length≤8):wordL zs great=true↔∀ j,j<zs.length→wordAt j great (zs.getD j 0)=true:=by
 match zs,h1 with
 | z::r,_ =>
  unfold wordL;have e1:decide (1≤(z::r).length)=true:=by simp
  have e2:decide ((z::r).length≤8)=true:=by simpa using h8
  rw[e1,e2];simp only[Bool.true_and,Bool.and_eq_true,List.tail_cons,List.all_eq_true];constructor
  ·rintro ⟨ha,hb⟩ j hj
   match j with
   | 0=>exact ha
   | j+1 =>
    have hj':j<r.length:=by simpa using hj
    show (low _||dig _)=true;refine hb _ ?_;simp only[List.getD_cons_succ];rw[List.getD_eq_getElem?_getD,List.getElem?_eq_getElem hj'];exact List.getElem_mem _
  ·intro h;refine⟨h 0 (by simp),fun x hx=>?_⟩;obtain⟨j,hj,rfl⟩:=List.mem_iff_getElem.1 hx;have:=h (j+1) (by simpa using hj);simp only[List.getD_cons_succ,wordAt]at this;rw[List.getD_eq_getElem?_getD,List.getElem?_eq_getElem hj]at this;simpa using this
theorem wk {k:Nat}(h:k≠0) (g:Bool) (z:Int):wordAt k g z=(low z||dig z):=if_neg h
theorem ranges (z:Int):∃ a b c:Bool,a=low z∧b=up z∧c=dig z:=⟨_,_,_,rfl,rfl,rfl⟩
theorem word_any (v:Value) (zs:List Int) (great:Bool) (w:World) (h:RdB w v zs):Calls Tryz.prog 95 #[v,.bool great] w fun e w'=>e=.returned (.bool (wordL zs great))∧w'=w:=by
 obtain⟨a,cap,rfl,hl,hz,hc⟩:=h;by_cases h1:zs.length<1
 ·have e:wordL zs great=false:=by unfold wordL;rw[decide_eq_false (by omega)];rfl
  have h1':(zs.length:Int)<1:=by omega
  rw[e];clear hc e;go_enter Tryz.func95,Tryz.ntmps95;go_wp2
  go_ret;exact⟨rfl,rfl⟩
 by_cases h8:8<zs.length
 ·have e:wordL zs great=false:=by unfold wordL;rw[decide_eq_false (show ¬ zs.length≤8 by omega)];simp
  have h1':¬ (zs.length:Int)<1:=by omega
  have h8':(8:Int)<(zs.length:Int):=by omega
  rw[e];clear hc e;go_enter Tryz.func95,Tryz.ntmps95;go_wp2
  go_ret;exact⟨rfl,rfl⟩
 have h1':¬ (zs.length:Int)<1:=by omega
 have h8':¬ (8:Int)<(zs.length:Int):=by omega
 have HW:=wordL_eq (zs:=zs) great (by omega) (by omega);have HW1:Hid ((∀ j,j<zs.length→wordAt j great (zs.getD j 0)=true)→wordL zs great=true):=HW.2
 have HW2:Hid (∀ j,j<zs.length→wordAt j great (zs.getD j 0)=false→wordL zs great=false):=fun j hj e=>by
  rw[←Bool.not_eq_true,HW];intro hall;rw[hall j hj]at e
  cases e
 clear HW;go_enter Tryz.func95,Tryz.ntmps95;go_wp2
 go_loop [5] (fun i=>∃ k:Nat,i=.int .i64 (k:Int)∧k≤zs.length∧Hid (∀ j,j<k→wordAt j great (zs.getD j 0)=true)) (fun i=>zs.length - (intOf i).toNat)
 case atStart=>exact⟨0,rfl,Nat.zero_le _,fun j hj=>absurd hj (Nat.not_lt_zero _)⟩
 case round =>
  obtain⟨k,rfl,hk,hall⟩:=hrel;by_cases hlt:k<zs.length
  ·obtain⟨g,off,rfl,_,hv⟩:=hc k hlt;have i1:(k:Int)<(zs.length:Int):=by omega
   have HF:Hid (wordAt k great (zs.getD k 0)=false→wordL zs great=false):=HW2.out k hlt;have HT:Hid (∀ j,j=k→wordAt j great (zs.getD j 0)=wordAt k great (zs.getD k 0)):=fun j e=>by rw[e]
   generalize zs.getD k 0=z at *
   clear hc HW2;by_cases hk0:k=0
   ·subst hk0;rw[Nat.add_zero]at hv;rcases range7 z with hr|hr|hr|hr|hr|hr|hr
    ·have f0:¬ 97≤z:=by omega
     have f1:z≤122:=by omega
     have f2:¬ 65≤z:=by omega
     have f3:z≤90:=by omega
     have f4:¬ 48≤z:=by omega
     have f5:z≤57:=by omega
     have lz:low z=false:=by unfold low;simp;omega
     have uz:up z=false:=by unfold up;simp;omega
     have dz:dig z=false:=by unfold dig;simp;omega
     clear hr
     cases great
     ·have e:wordAt 0 false z=false:=lz;clear lz uz dz;go_wp2_with fail
      go_ret;exact⟨zaf (HF.out e).symm,rfl⟩
     ·have e:wordAt 0 true z=false:=uz;clear lz uz dz;go_wp2_with fail
      go_ret;exact⟨zaf (HF.out e).symm,rfl⟩
    ·have f0:¬ 97≤z:=by omega
     have f1:z≤122:=by omega
     have f2:¬ 65≤z:=by omega
     have f3:z≤90:=by omega
     have f4:48≤z:=by omega
     have f5:z≤57:=by omega
     have lz:low z=false:=by unfold low;simp;omega
     have uz:up z=false:=by unfold up;simp;omega
     have dz:dig z=true:=by unfold dig;simp;omega
     clear hr
     cases great
     ·have e:wordAt 0 false z=false:=lz;clear lz uz dz;go_wp2_with fail
      go_ret;exact⟨zaf (HF.out e).symm,rfl⟩
     ·have e:wordAt 0 true z=false:=uz;clear lz uz dz;go_wp2_with fail
      go_ret;exact⟨zaf (HF.out e).symm,rfl⟩
    ·have f0:¬ 97≤z:=by omega
     have f1:z≤122:=by omega
     have f2:¬ 65≤z:=by omega
     have f3:z≤90:=by omega
     have f4:48≤z:=by omega
     have f5:¬ z≤57:=by omega
     have lz:low z=false:=by unfold low;simp;omega
     have uz:up z=false:=by unfold up;simp;omega
     have dz:dig z=false:=by unfold dig;simp;omega
     clear hr
     cases great
     ·have e:wordAt 0 false z=false:=lz;clear lz uz dz;go_wp2_with fail
      go_ret;exact⟨zaf (HF.out e).symm,rfl⟩
     ·have e:wordAt 0 true z=false:=uz;clear lz uz dz;go_wp2_with fail
      go_ret;exact⟨zaf (HF.out e).symm,rfl⟩
    ·have f0:¬ 97≤z:=by omega
     have f1:z≤122:=by omega
     have f2:65≤z:=by omega
     have f3:z≤90:=by omega
     have f4:48≤z:=by omega
     have f5:¬ z≤57:=by omega
     have lz:low z=false:=by unfold low;simp;omega
     have uz:up z=true:=by unfold up;simp;omega
     have dz:dig z=false:=by unfold dig;simp;omega
     clear hr
     cases great
     ·have e:wordAt 0 false z=false:=lz;clear lz uz dz;go_wp2_with fail
      go_ret;exact⟨zaf (HF.out e).symm,rfl⟩
     ·have e:wordAt 0 true z=true:=uz;clear lz uz dz;go_wp2_with fail
      go_round
      case rel=>exact⟨0+1,by go_num,by omega,fun j hj=>by
        rcases Nat.lt_or_ge j 0 with a|a
        ·exact hall.out j a
        ·rw[HT.out j (by omega)];exact e⟩
      case measure=>simp[intOf];omega
    ·have f0:¬ 97≤z:=by omega
     have f1:z≤122:=by omega
     have f2:65≤z:=by omega
     have f3:¬ z≤90:=by omega
     have f4:48≤z:=by omega
     have f5:¬ z≤57:=by omega
     have lz:low z=false:=by unfold low;simp;omega
     have uz:up z=false:=by unfold up;simp;omega
     have dz:dig z=false:=by unfold dig;simp;omega
     clear hr
     cases great
     ·have e:wordAt 0 false z=false:=lz;clear lz uz dz;go_wp2_with fail
      go_ret;exact⟨zaf (HF.out e).symm,rfl⟩
     ·have e:wordAt 0 true z=false:=uz;clear lz uz dz;go_wp2_with fail
      go_ret;exact⟨zaf (HF.out e).symm,rfl⟩
    ·have f0:97≤z:=by omega
     have f1:z≤122:=by omega
     have f2:65≤z:=by omega
     have f3:¬ z≤90:=by omega
     have f4:48≤z:=by omega
     have f5:¬ z≤57:=by omega
     have lz:low z=true:=by unfold low;simp;omega
     have uz:up z=false:=by unfold up;simp;omega
     have dz:dig z=false:=by unfold dig;simp;omega
     clear hr
     cases great
     ·have e:wordAt 0 false z=true:=lz;clear lz uz dz;go_wp2_with fail
      go_round
      case rel=>exact⟨0+1,by go_num,by omega,fun j hj=>by
        rcases Nat.lt_or_ge j 0 with a|a
        ·exact hall.out j a
        ·rw[HT.out j (by omega)];exact e⟩
      case measure=>simp[intOf];omega
     ·have e:wordAt 0 true z=false:=uz;clear lz uz dz;go_wp2_with fail
      go_ret;exact⟨zaf (HF.out e).symm,rfl⟩
    ·have f0:97≤z:=by omega
     have f1:¬ z≤122:=by omega
     have f2:65≤z:=by omega
     have f3:¬ z≤90:=by omega
     have f4:48≤z:=by omega
     have f5:¬ z≤57:=by omega
     have lz:low z=false:=by unfold low;simp;omega
     have uz:up z=false:=by unfold up;simp;omega
     have dz:dig z=false:=by unfold dig;simp;omega
     clear hr
     cases great
     ·have e:wordAt 0 false z=false:=lz;clear lz uz dz;go_wp2_with fail
      go_ret;exact⟨zaf (HF.out e).symm,rfl⟩
     ·have e:wordAt 0 true z=false:=uz;clear lz uz dz;go_wp2_with fail
      go_ret;exact⟨zaf (HF.out e).symm,rfl⟩
   ·have k1:((k:Int)==0)=false:=by simpa using hk0
    have k2:0<(k:Int):=by omega
    rcases range7 z with hr|hr|hr|hr|hr|hr|hr
    ·have f0:¬ 97≤z:=by omega
     have f1:z≤122:=by omega
     have f2:¬ 65≤z:=by omega
     have f3:z≤90:=by omega
     have f4:¬ 48≤z:=by omega
     have f5:z≤57:=by omega
     have lz:low z=false:=by unfold low;simp;omega
     have uz:up z=false:=by unfold up;simp;omega
     have dz:dig z=false:=by unfold dig;simp;omega
     clear hr
     cases great
     ·have e:wordAt k false z=false:=by rw[wk hk0,lz,dz];rfl
      clear lz uz dz;go_wp2_with fail
      go_ret;exact⟨zaf (HF.out e).symm,rfl⟩
     ·have e:wordAt k true z=false:=by rw[wk hk0,lz,dz];rfl
      clear lz uz dz;go_wp2_with fail
      go_ret;exact⟨zaf (HF.out e).symm,rfl⟩
    ·have f0:¬ 97≤z:=by omega
     have f1:z≤122:=by omega
     have f2:¬ 65≤z:=by omega
     have f3:z≤90:=by omega
     have f4:48≤z:=by omega
     have f5:z≤57:=by omega
     have lz:low z=false:=by unfold low;simp;omega
     have uz:up z=false:=by unfold up;simp;omega
     have dz:dig z=true:=by unfold dig;simp;omega
     clear hr
     cases great
     ·have e:wordAt k false z=true:=by rw[wk hk0,lz,dz];rfl
      clear lz uz dz;go_wp2_with fail
      go_round
      case rel=>exact⟨k+1,by go_num,by omega,fun j hj=>by
        rcases Nat.lt_or_ge j k with a|a
        ·exact hall.out j a
        ·rw[HT.out j (by omega)];exact e⟩
      case measure=>simp[intOf];omega
     ·have e:wordAt k true z=true:=by rw[wk hk0,lz,dz];rfl
      clear lz uz dz;go_wp2_with fail
      go_round
      case rel=>exact⟨k+1,by go_num,by omega,fun j hj=>by
        rcases Nat.lt_or_ge j k with a|a
        ·exact hall.out j a
        ·rw[HT.out j (by omega)];exact e⟩
      case measure=>simp[intOf];omega
    ·have f0:¬ 97≤z:=by omega
     have f1:z≤122:=by omega
     have f2:¬ 65≤z:=by omega
     have f3:z≤90:=by omega
     have f4:48≤z:=by omega
     have f5:¬ z≤57:=by omega
     have lz:low z=false:=by unfold low;simp;omega
     have uz:up z=false:=by unfold up;simp;omega
     have dz:dig z=false:=by unfold dig;simp;omega
     clear hr
     cases great
     ·have e:wordAt k false z=false:=by rw[wk hk0,lz,dz];rfl
      clear lz uz dz;go_wp2_with fail
      go_ret;exact⟨zaf (HF.out e).symm,rfl⟩
     ·have e:wordAt k true z=false:=by rw[wk hk0,lz,dz];rfl
      clear lz uz dz;go_wp2_with fail
      go_ret;exact⟨zaf (HF.out e).symm,rfl⟩
    ·have f0:¬ 97≤z:=by omega
     have f1:z≤122:=by omega
     have f2:65≤z:=by omega
     have f3:z≤90:=by omega
     have f4:48≤z:=by omega
     have f5:¬ z≤57:=by omega
     have lz:low z=false:=by unfold low;simp;omega
     have uz:up z=true:=by unfold up;simp;omega
     have dz:dig z=false:=by unfold dig;simp;omega
     clear hr
     cases great
     ·have e:wordAt k false z=false:=by rw[wk hk0,lz,dz];rfl
      clear lz uz dz;go_wp2_with fail
      go_ret;exact⟨zaf (HF.out e).symm,rfl⟩
     ·have e:wordAt k true z=false:=by rw[wk hk0,lz,dz];rfl
      clear lz uz dz;go_wp2_with fail
      go_ret;exact⟨zaf (HF.out e).symm,rfl⟩
    ·have f0:¬ 97≤z:=by omega
     have f1:z≤122:=by omega
     have f2:65≤z:=by omega
     have f3:¬ z≤90:=by omega
     have f4:48≤z:=by omega
     have f5:¬ z≤57:=by omega
     have lz:low z=false:=by unfold low;simp;omega
     have uz:up z=false:=by unfold up;simp;omega
     have dz:dig z=false:=by unfold dig;simp;omega
     clear hr
     cases great
     ·have e:wordAt k false z=false:=by rw[wk hk0,lz,dz];rfl
      clear lz uz dz;go_wp2_with fail
      go_ret;exact⟨zaf (HF.out e).symm,rfl⟩
     ·have e:wordAt k true z=false:=by rw[wk hk0,lz,dz];rfl
      clear lz uz dz;go_wp2_with fail
      go_ret;exact⟨zaf (HF.out e).symm,rfl⟩
    ·have f0:97≤z:=by omega
     have f1:z≤122:=by omega
     have f2:65≤z:=by omega
     have f3:¬ z≤90:=by omega
     have f4:48≤z:=by omega
     have f5:¬ z≤57:=by omega
     have lz:low z=true:=by unfold low;simp;omega
     have uz:up z=false:=by unfold up;simp;omega
     have dz:dig z=false:=by unfold dig;simp;omega
     clear hr
     cases great
     ·have e:wordAt k false z=true:=by rw[wk hk0,lz,dz];rfl
      clear lz uz dz;go_wp2_with fail
      go_round
      case rel=>exact⟨k+1,by go_num,by omega,fun j hj=>by
        rcases Nat.lt_or_ge j k with a|a
        ·exact hall.out j a
        ·rw[HT.out j (by omega)];exact e⟩
      case measure=>simp[intOf];omega
     ·have e:wordAt k true z=true:=by rw[wk hk0,lz,dz];rfl
      clear lz uz dz;go_wp2_with fail
      go_round
      case rel=>exact⟨k+1,by go_num,by omega,fun j hj=>by
        rcases Nat.lt_or_ge j k with a|a
        ·exact hall.out j a
        ·rw[HT.out j (by omega)];exact e⟩
      case measure=>simp[intOf];omega
    ·have f0:97≤z:=by omega
     have f1:¬ z≤122:=by omega
     have f2:65≤z:=by omega
     have f3:¬ z≤90:=by omega
     have f4:48≤z:=by omega
     have f5:¬ z≤57:=by omega
     have lz:low z=false:=by unfold low;simp;omega
     have uz:up z=false:=by unfold up;simp;omega
     have dz:dig z=false:=by unfold dig;simp;omega
     clear hr
     cases great
     ·have e:wordAt k false z=false:=by rw[wk hk0,lz,dz];rfl
      clear lz uz dz;go_wp2_with fail
      go_ret;exact⟨zaf (HF.out e).symm,rfl⟩
     ·have e:wordAt k true z=false:=by rw[wk hk0,lz,dz];rfl
      clear lz uz dz;go_wp2_with fail
      go_ret;exact⟨zaf (HF.out e).symm,rfl⟩
  ·have i1:¬ (k:Int)<(zs.length:Int):=by omega
   have i2:decide ((k:Int)<(zs.length:Int))=false:=decide_eq_false i1;go_wp2_with fail
   go_ret;exact⟨zaf (HW1.out (fun j hj=>hall.out j (by omega))).symm,rfl⟩
theorem conv_str {w:World}{v:Value}{zs:List Int}(h:RdB w v zs):∀ w',Later w w'→(convert 22 9 v).run Tryz.prog w'=.ok (.string (strOfNums zs)) w':=by
 intro w' hl;obtain⟨a,cap,rfl,_,_,hc⟩:=h.later hl;rcases Nat.eq_zero_or_pos zs.length with h0|h0
 ·have:zs=[]:=List.eq_nil_of_length_eq_zero h0;subst this
  cases a with
  | none=>exact run_convert_bytes_nil w' 22 5 Tryz.underlying22 Tryz.underlying5 0 cap 9 Tryz.underlying9
  | some x =>
   obtain⟨b,off,sp⟩:=x;rw[run_convert_bytes_string w' 22 9 5 _ _ cap Tryz.underlying22 Tryz.underlying5 Tryz.underlying9,run_bytesToString w' _ _ cap [] (by simpa using run_loadCells_list (P:=Tryz.prog) w' ⟨b,off,sp⟩ [] (fun j v h=>by simp at h))];rfl
 ·obtain⟨g,off,rfl,_,_⟩:=hc 0 h0;refine run_convert_bytes_arg w' 22 5 Tryz.underlying22 Tryz.underlying5 g off zs.length cap zs rfl (fun i hi=>?_) 9 Tryz.underlying9;obtain⟨_,_,he,_,hv⟩:=hc i hi
  cases he
  exact hv
theorem zcb {w:World}{v:Value}{zs:List Int}(h:RdB w v zs):(convert 22 9 v).run Tryz.prog w=.ok (.string (strOfNums zs)) w:=conv_str h w (Later.refl _)
theorem str_inj {xs ys:List Int}(hx:∀ j,isB (xs.getD j 0)) (hy:∀ j,isB (ys.getD j 0)):((strOfNums xs).toList==(strOfNums ys).toList)=decide (xs=ys):=by
 have e:∀ zs:List Int,(strOfNums zs).toList=zs.map fun n=>UInt8.ofNat n.toNat:=fun zs=>by
  rw[ByteArray.toList_eq];exact strOfNums_data zs
 rw[e,e,Bool.eq_iff_iff,beq_iff_eq,decide_eq_true_eq];constructor
 ·intro h;have hl:xs.length=ys.length:=by simpa using congrArg List.length h
  refine eq_of_getD hl (fun j hj=>?_);have h1:=congrArg (fun l=>l[j]?) h;simp only[List.getElem?_map,List.getElem?_eq_getElem hj,List.getElem?_eq_getElem (show j<ys.length by omega),Option.map_some,Option.some.injEq]at h1;have a:=hx j;have b:=hy j;rw[List.getD_eq_getElem?_getD,List.getElem?_eq_getElem hj]at a ⊢;rw[List.getD_eq_getElem?_getD,List.getElem?_eq_getElem (show j<ys.length by omega)]at b ⊢;simp only[Option.getD_some]at a b ⊢;unfold isB at a b;have h2:=congrArg UInt8.toNat h1;rw[UInt8.toNat_ofNat',UInt8.toNat_ofNat']at h2;omega
 ·intro h;rw[h]
def keyLs:List (List Int):=[[116,121,112,101],[115,116,114,117,99,116],[102,117,110,99],[118,97,114],[105,102],[101,108,115,101],[102,111,114],[114,101,116,117,114,110],[112,114,105,110,116],[112,97,110,105,99],[100,111],[105,110,116],[102,108,111,97,116],[110,105,108],[110,101,119],[109,97,107,101],[108,101,110],[114,101,97,100]]
def keyL (zs:List Int):Bool:=keyLs.contains zs
def nameL (zs:List Int):Bool:=wordL zs false&&!keyL zs
theorem RdB.isB {w:World}{v:Value}{zs:List Int}(h:RdB w v zs):∀ j,Proofs.YtgholpilmdebmaaGreatDoor.isB (zs.getD j 0):=by obtain⟨_,_,_,_,hb,_⟩:=h;exact hb
theorem is_any (v:Value) (zs ys:List Int) (w:World) (h:RdB w v zs) (hy:∀ j,isB (ys.getD j 0)):Calls Tryz.prog 130 #[v,.string (strOfNums ys)] w fun e w'=>e=.returned (.bool (decide (zs=ys)))∧w'=w:=by
 have hc:=zcb h;have hs:=str_inj h.isB hy;obtain⟨a,cap,rfl,_⟩:=h.slice;clear h hy;go_enter Tryz.func130,Tryz.ntmps130;go_wp2_with fail
 go_ret;exact⟨rfl,rfl⟩
theorem str_lit {zs ys:List Int}{ls:List UInt8}(hx:∀ j,isB (zs.getD j 0)) (hy:∀ j,isB (ys.getD j 0)) (e:ys.map (fun n=>UInt8.ofNat n.toNat)=ls):((strOfNums zs).toList==ls)=decide (zs=ys):=by
 rw[←str_inj hx hy,← e]
 congr 1
 rw[ByteArray.toList_eq];exact (strOfNums_data ys).symm
theorem isB_of {ys:List Int}(h:ys.all (fun z=>decide (0≤z)&&decide (z≤255))=true):∀ j,isB (ys.getD j 0):=by
 intro j;rcases Nat.lt_or_ge j ys.length with l|l
 ·rw[List.getD_eq_getElem?_getD,List.getElem?_eq_getElem l];have:=List.all_eq_true.1 h _ (List.getElem_mem l);rw[Bool.and_eq_true,decide_eq_true_eq,decide_eq_true_eq]at this;exact this
 ·rw[List.getD_eq_getElem?_getD,List.getElem?_eq_none l];exact⟨by simp,by simp⟩
theorem keys_any (w:World):Calls Tryz.prog 129 #[] w fun e w'=>e=.returned (.slice (some ⟨w.heap.size,0,none⟩) 18 18)∧w'=w.alloc (.cells (keyLs.map fun k=>Value.string (strOfNums k)).toArray 9):=by
 go_enter Tryz.func129,Tryz.ntmps129;go_wp2_with fail
 go_ret;exact⟨rfl,rfl⟩
theorem keyLs_isB:∀ k,k<18→∀ j,isB ((keyLs.getD k []).getD j 0):=by
 intro k hk;refine isB_of ?_;have:∀ k,k<18→(keyLs.getD k []).all (fun z=>decide (0≤z)&&decide (z≤255))=true:=by decide
 exact this k hk
theorem key_any (v:Value) (zs:List Int) (w:World) (h:RdB w v zs):Calls Tryz.prog 118 #[v] w fun e w'=>e=.returned (.bool (keyL zs))∧Later w w':=by
 obtain⟨a,cap,rfl,_⟩:=h.slice;go_enter Tryz.func118,Tryz.ntmps118;go_wp2_with fail
 refine (keys_any w).mono ?_;rintro e w1 ⟨rfl,hw1⟩;have l1:Later w w1:=by rw[hw1];exact later1 _ _
 have hcell:Hid (∀ k,k<18→w1.cell? ⟨w.heap.size,k,none⟩=some (.string (strOfNums (keyLs.getD k [])))):=fun k hk=>by
  rw[hw1];have e:(w.alloc (.cells (keyLs.map fun k=>Value.string (strOfNums k)).toArray 9)).cell? ⟨w.heap.size,k,none⟩=(keyLs.map fun k=>Value.string (strOfNums k)).toArray[k]?:=by simp
  rw[e,List.getElem?_toArray,List.getElem?_map,List.getD_eq_getElem?_getD,List.getElem?_eq_getElem (show k<keyLs.length from hk)];rfl
 clear hw1;go_wp2_with fail
 go_loop [4] (fun i=>∃ k:Nat,i=.int .i64 (k:Int)∧k≤18∧Hid (∀ j,j<k→zs≠keyLs.getD j [])) (fun i=>18 - (intOf i).toNat)
 case atStart=>exact⟨0,rfl,by decide,fun j hj=>absurd hj (Nat.not_lt_zero _)⟩
 case round =>
  obtain⟨k,rfl,hk,hall⟩:=hrel;by_cases hlt:k<18
  ·have i1:(k:Int)<18:=by omega
   have hv:=hcell.out k hlt;have hi:=is_any _ zs (keyLs.getD k []) w1 (h.later l1) (keyLs_isB k hlt);by_cases q:zs=keyLs.getD k []
   ·have ek:keyL zs=true:=by
     unfold keyL;rw[List.contains_iff_mem,q,List.getD_eq_getElem?_getD,List.getElem?_eq_getElem (show k<keyLs.length from hlt)];exact List.getElem_mem _
    have HK:Hid (keyL zs=true):=ek;rw[decide_eq_true q]at hi;clear ek q hall
    generalize keyLs.getD k []=kw at *
    go_wp2_with fail
    refine hi.mono ?_;rintro e w2 ⟨rfl,hww⟩;obtain rfl:=hww.symm;go_wp2_with fail
    go_ret;exact⟨zaf HK.out.symm,l1⟩
   ·rw[decide_eq_false q]at hi
    have HN:Hid (∀ j,j<k+1→zs≠keyLs.getD j []):=fun j hj=>by
     rcases Nat.lt_or_ge j k with a|a
     ·exact hall.out j a
     ·have:j=k:=by omega
      rw[this];exact q
    clear q hall
    generalize keyLs.getD k []=kw at *
    go_wp2_with fail
    refine hi.mono ?_;rintro e w2 ⟨rfl,hww⟩;obtain rfl:=hww.symm;go_wp2_with fail
    go_round
    case rel=>exact⟨k+1,by go_num,by omega,HN⟩
    case measure=>simp[intOf];omega
  ·have i1:¬ (k:Int)<18:=by omega
   have hkk:k=18:=by omega
   subst hkk
   have HK:Hid (keyL zs=false):=show _=_ by
    unfold keyL;rw[←Bool.not_eq_true,List.contains_iff_mem];intro hm;obtain⟨j,hj,e⟩:=List.mem_iff_getElem.1 hm;refine hall.out j hj ?_;rw[List.getD_eq_getElem?_getD,List.getElem?_eq_getElem hj,← e];rfl
   clear hall;go_wp2_with fail
   go_ret;exact⟨zaf HK.out.symm,l1⟩
theorem zdw (v:Value) (zs:List Int) (w:World) (h:RdB w v zs):Calls Tryz.prog 98 #[v] w fun e w'=>e=.returned (.bool (nameL zs))∧Later w w':=by
 have hw:=word_any v zs false w h;have hk:=key_any v zs w h;obtain⟨a,cap,rfl,_⟩:=h.slice;unfold nameL
 cases q:wordL zs false
 ·rw[q]at hw;go_enter Tryz.func98,Tryz.ntmps98;go_wp2_with (go_at_call 95;refine hw.mono ?_;rintro e w1 ⟨rfl,hww⟩;obtain rfl:=hww.symm)
  go_ret;exact⟨rfl,Later.refl _⟩
 ·rw[q]at hw;go_enter Tryz.func98,Tryz.ntmps98;go_wp2_with (first|(go_at_call 95;refine hw.mono ?_;rintro e w1 ⟨rfl,hww⟩;obtain rfl:=hww.symm)|(go_at_call 118;refine hk.mono ?_;rintro e w1 ⟨rfl,l1⟩))
  go_ret;exact⟨rfl,l1⟩
theorem ilow_any (z:Int) (w:World):Calls Tryz.prog 26 #[.int .u8 z] w fun e w'=>e=.returned (.bool (low z))∧w'=w:=by
 unfold low;by_cases h1:97≤z
 ·rw[decide_eq_true h1];go_enter Tryz.func26,Tryz.ntmps26;go_wp2
  go_ret;exact⟨by simp,rfl⟩
 ·rw[decide_eq_false h1];go_enter Tryz.func26,Tryz.ntmps26;go_wp2
  go_ret;exact⟨rfl,rfl⟩
theorem iup_any (z:Int) (w:World):Calls Tryz.prog 27 #[.int .u8 z] w fun e w'=>e=.returned (.bool (up z))∧w'=w:=by
 unfold up;by_cases h1:65≤z
 ·rw[decide_eq_true h1];go_enter Tryz.func27,Tryz.ntmps27;go_wp2
  go_ret;exact⟨by simp,rfl⟩
 ·rw[decide_eq_false h1];go_enter Tryz.func27,Tryz.ntmps27;go_wp2
  go_ret;exact⟨rfl,rfl⟩
theorem idig_any (z:Int) (w:World):Calls Tryz.prog 15 #[.int .u8 z] w fun e w'=>e=.returned (.bool (dig z))∧w'=w:=by
 unfold dig;by_cases h1:48≤z
 ·rw[decide_eq_true h1];go_enter Tryz.func15,Tryz.ntmps15;go_wp2
  go_ret;exact⟨by simp,rfl⟩
 ·rw[decide_eq_false h1];go_enter Tryz.func15,Tryz.ntmps15;go_wp2
  go_ret;exact⟨rfl,rfl⟩
def ldB (z:Int):Bool:=low z||dig z
theorem irest_any (v:Value) (zs:List Int) (w:World) (h:RdB w v zs):Calls Tryz.prog 35 #[v] w fun e w'=>e=.returned (.bool (zs.all ldB))∧w'=w:=by
 obtain⟨a,cap,rfl,hl,hz,hc⟩:=h;go_enter Tryz.func35,Tryz.ntmps35;go_wp2_with fail
 go_loop [7] (fun i=>∃ k:Nat,i=.int .i64 (k:Int)∧k≤zs.length∧Hid (∀ j,j<k→ldB (zs.getD j 0)=true)) (fun i=>zs.length - (intOf i).toNat)
 case atStart=>exact⟨0,rfl,Nat.zero_le _,fun j hj=>absurd hj (Nat.not_lt_zero _)⟩
 case round =>
  obtain⟨k,rfl,hk,hall⟩:=hrel;by_cases hlt:k<zs.length
  ·obtain⟨g,off,rfl,_,hv⟩:=hc k hlt;have i1:(k:Int)<(zs.length:Int):=by omega
   have HZ:Hid (ldB (zs.getD k 0)=true→∀ j,j<k+1→ldB (zs.getD j 0)=true):=fun h j hj=>by
    rcases Nat.lt_or_ge j k with a|a
    ·exact hall.out j a
    ·have:j=k:=by omega
     rw[this];exact h
   have HF:Hid (ldB (zs.getD k 0)=false→zs.all ldB=false):=fun h=>by
    rw[←Bool.not_eq_true,List.all_eq_true];intro ha;have:=ha (zs.getD k 0) (by rw[List.getD_eq_getElem?_getD,List.getElem?_eq_getElem hlt];exact List.getElem_mem _);rw[this]at h
    cases h
   generalize zs.getD k 0=z at *
   have hlo:=ilow_any z w;have hdi:=idig_any z w;clear hc hall
   cases q:low z
   ·cases q':dig z
    ·rw[q]at hlo;rw[q']at hdi;have hf:=HF.out (by unfold ldB;rw[q,q'];rfl);go_wp2_with (first|(go_at_call 26;refine hlo.mono ?_;rintro e w' ⟨rfl,hww⟩;obtain rfl:=hww.symm)|(go_at_call 15;refine hdi.mono ?_;rintro e w' ⟨rfl,hww⟩;obtain rfl:=hww.symm))
     go_ret;exact⟨zaf hf.symm,rfl⟩
    ·rw[q]at hlo;rw[q']at hdi;have hn:=HZ.out (by unfold ldB;rw[q,q'];rfl);have HN:Hid _:=hn;clear hn;go_wp2_with (first|(go_at_call 26;refine hlo.mono ?_;rintro e w' ⟨rfl,hww⟩;obtain rfl:=hww.symm)|(go_at_call 15;refine hdi.mono ?_;rintro e w' ⟨rfl,hww⟩;obtain rfl:=hww.symm))
     go_round
     case rel=>exact⟨k+1,by go_num,by omega,HN⟩
     case measure=>simp[intOf];omega
   ·rw[q]at hlo;have hn:=HZ.out (by unfold ldB;rw[q];rfl);have HN:Hid _:=hn;clear hn;go_wp2_with (first|(go_at_call 26;refine hlo.mono ?_;rintro e w' ⟨rfl,hww⟩;obtain rfl:=hww.symm)|(go_at_call 15;refine hdi.mono ?_;rintro e w' ⟨rfl,hww⟩;obtain rfl:=hww.symm))
    go_round
    case rel=>exact⟨k+1,by go_num,by omega,HN⟩
    case measure=>simp[intOf];omega
  ·have i1:¬ (k:Int)<(zs.length:Int):=by omega
   have i2:decide ((k:Int)<(zs.length:Int))=false:=decide_eq_false i1
   have HA:Hid (zs.all ldB=true):=show _=_ by
    rw[List.all_eq_true];intro z hm;obtain⟨j,hj,rfl⟩:=List.mem_iff_getElem.1 hm;have:=hall.out j (by omega)
    rwa [List.getD_eq_getElem?_getD,List.getElem?_eq_getElem hj]at this
   clear hall hc;go_wp2_with fail
   go_ret;exact⟨zaf HA.out.symm,rfl⟩
theorem isize_any (a:Option Addr) (n cap:Nat) (w:World) (hn:(n:Int)≤9223372036854775807):Calls Tryz.prog 34 #[.slice a n cap] w fun e w'=>e=.returned (.bool (decide (1≤n)&&decide (n≤8)))∧w'=w:=by
 by_cases h1:1≤n
 ·have h1':(1:Int)≤(n:Int):=by omega
  by_cases h8:n≤8
  ·have h8':(n:Int)≤8:=by omega
   rw[decide_eq_true h1,decide_eq_true h8];go_enter Tryz.func34,Tryz.ntmps34;go_wp2
   go_ret;exact⟨by simp <;> omega,rfl⟩
  ·have h8':¬ (n:Int)≤8:=by omega
   rw[decide_eq_true h1,decide_eq_false h8];go_enter Tryz.func34,Tryz.ntmps34;go_wp2
   go_ret;exact⟨by simp <;> omega,rfl⟩
 ·have h1':¬ (1:Int)≤(n:Int):=by omega
  rw[decide_eq_false h1];go_enter Tryz.func34,Tryz.ntmps34;go_wp2
  go_ret;exact⟨by simp,rfl⟩
theorem RdB.tail {w:World}{g off n cap:Nat}{zs:List Int}{c:Nat}(h:RdB w (.slice (some ⟨g,off,none⟩) n cap) zs) (hn:1≤zs.length) (a:Option Addr) (ha:1<zs.length→a=some ⟨g,off+1,none⟩) (m:Nat) (hm:m=zs.length - 1):RdB w (.slice a m c) zs.tail:=by
 obtain⟨_,_,e,hl,hb,hc⟩:=h
 cases e
 subst hm;have ht:zs.tail.length=zs.length - 1:=List.length_tail;refine⟨a,c,by rw[ht],by rw[ht];omega,fun j=>?_,fun j hj=>?_⟩
 ·have:=hb (j+1);rw[List.getD_eq_getElem?_getD]at this ⊢
  rwa [List.getElem?_tail]
 ·rw[ht]at hj;obtain⟨_,_,e,hg,hv⟩:=hc (j+1) (by omega)
  cases e
  refine⟨g,off+1,ha (by omega),hg,?_⟩;rw[List.getD_eq_getElem?_getD,List.getElem?_tail,← List.getD_eq_getElem?_getD,← hv,show off+1+j=off+(j+1) by omega]
theorem ismall_any (v:Value) (zs:List Int) (w:World) (h:RdN w v zs):Calls Tryz.prog 18 #[v] w fun e w'=>e=.returned (.bool (wordL zs false))∧w'=w:=by
 obtain⟨a,cap,rfl,hl,hm⟩:=h.cap;have hb:=h.rd;unfold maxLen at hm;have hsz:=isize_any a zs.length cap w (by omega);by_cases h1:1≤zs.length∧zs.length≤8
 ·obtain⟨h1,h8⟩:=h1;rw[decide_eq_true h1,decide_eq_true h8]at hsz;obtain⟨_,_,e,_,_,hc⟩:=id hb
  cases e
  obtain⟨g,off,rfl,_,hv⟩:=hc 0 (by omega);rw[Nat.add_zero]at hv;have e:wordL zs false=(low (zs.getD 0 0)&&zs.tail.all ldB):=by unfold wordL;rw[decide_eq_true h1,decide_eq_true h8];rfl
  rw[e];have hlo:=ilow_any (zs.getD 0 0) w;have hre:=fun a c m ha hm=>irest_any _ zs.tail w (hb.tail (c:=c) h1 a ha m hm);have r1:(1:Int)≤(zs.length:Int):=by omega
  have r2:(zs.length:Int)≤(cap:Int):=by omega
  have r3:(0:Int)<(zs.length:Int):=by omega
  generalize zs.getD 0 0=z at *
  generalize zs.tail.all ldB=tb at *
  clear hc e hb h
  cases q:low z
  all_goals
   rw[q]at hlo;go_enter Tryz.func18,Tryz.ntmps18;go_wp2_with (first|(go_at_call 34;refine hsz.mono ?_;rintro e w' ⟨rfl,hww⟩;obtain rfl:=hww.symm)|(go_at_call 26;refine hlo.mono ?_;rintro e w' ⟨rfl,hww⟩;obtain rfl:=hww.symm)|(go_at_call 35;refine (hre _ _ _ (by first|exact fun _=>rfl|(intro hx;omega)) rfl).mono ?_;rintro e w' ⟨rfl,hww⟩;obtain rfl:=hww.symm))
   all_goals
    go_ret;exact⟨rfl,rfl⟩
 ·have e:wordL zs false=false:=by
   unfold wordL;by_cases h2:1≤zs.length
   ·rw[decide_eq_true h2,decide_eq_false (show ¬ zs.length≤8 by omega)];rfl
   ·rw[decide_eq_false h2];rfl
  have e2:(decide (1≤zs.length)&&decide (zs.length≤8))=false:=by
   by_cases h2:1≤zs.length
   ·rw[decide_eq_true h2,decide_eq_false (show ¬ zs.length≤8 by omega)];rfl
   ·rw[decide_eq_false h2];rfl
  rw[e];rw[e2]at hsz;clear e e2 h1 h hb;go_enter Tryz.func18,Tryz.ntmps18;go_wp2_with (go_at_call 34;refine hsz.mono ?_;rintro e w' ⟨rfl,hww⟩;obtain rfl:=hww.symm)
  go_ret;exact⟨rfl,rfl⟩
theorem igreat_any (v:Value) (zs:List Int) (w:World) (h:RdN w v zs):Calls Tryz.prog 19 #[v] w fun e w'=>e=.returned (.bool (wordL zs true))∧w'=w:=by
 obtain⟨a,cap,rfl,hl,hm⟩:=h.cap;have hb:=h.rd;unfold maxLen at hm;have hsz:=isize_any a zs.length cap w (by omega);by_cases h1:1≤zs.length∧zs.length≤8
 ·obtain⟨h1,h8⟩:=h1;rw[decide_eq_true h1,decide_eq_true h8]at hsz;obtain⟨_,_,e,_,_,hc⟩:=id hb
  cases e
  obtain⟨g,off,rfl,_,hv⟩:=hc 0 (by omega);rw[Nat.add_zero]at hv;have e:wordL zs true=(up (zs.getD 0 0)&&zs.tail.all ldB):=by unfold wordL;rw[decide_eq_true h1,decide_eq_true h8];rfl
  rw[e];have hlo:=iup_any (zs.getD 0 0) w;have hre:=fun a c m ha hm=>irest_any _ zs.tail w (hb.tail (c:=c) h1 a ha m hm);have r1:(1:Int)≤(zs.length:Int):=by omega
  have r2:(zs.length:Int)≤(cap:Int):=by omega
  have r3:(0:Int)<(zs.length:Int):=by omega
  generalize zs.getD 0 0=z at *
  generalize zs.tail.all ldB=tb at *
  clear hc e hb h
  cases q:up z
  all_goals
   rw[q]at hlo;go_enter Tryz.func19,Tryz.ntmps19;go_wp2_with (first|(go_at_call 34;refine hsz.mono ?_;rintro e w' ⟨rfl,hww⟩;obtain rfl:=hww.symm)|(go_at_call 27;refine hlo.mono ?_;rintro e w' ⟨rfl,hww⟩;obtain rfl:=hww.symm)|(go_at_call 35;refine (hre _ _ _ (by first|exact fun _=>rfl|(intro hx;omega)) rfl).mono ?_;rintro e w' ⟨rfl,hww⟩;obtain rfl:=hww.symm))
   all_goals
    go_ret;exact⟨rfl,rfl⟩
 ·have e:wordL zs true=false:=by
   unfold wordL;by_cases h2:1≤zs.length
   ·rw[decide_eq_true h2,decide_eq_false (show ¬ zs.length≤8 by omega)];rfl
   ·rw[decide_eq_false h2];rfl
  have e2:(decide (1≤zs.length)&&decide (zs.length≤8))=false:=by
   by_cases h2:1≤zs.length
   ·rw[decide_eq_true h2,decide_eq_false (show ¬ zs.length≤8 by omega)];rfl
   ·rw[decide_eq_false h2];rfl
  rw[e];rw[e2]at hsz;clear e e2 h1 h hb;go_enter Tryz.func19,Tryz.ntmps19;go_wp2_with (go_at_call 34;refine hsz.mono ?_;rintro e w' ⟨rfl,hww⟩;obtain rfl:=hww.symm)
  go_ret;exact⟨rfl,rfl⟩
def digF:Nat→Nat→List Int
 | 0,_=>[]
 | f+1,u=>if u<10 then [48+(u:Int)] else digF f (u / 10)++[48+((u % 10:Nat):Int)]
theorem own_new (w:World) (z:Int):(w.alloc (.cells #[.int .u8 z] 5)).ownsRow w.heap.size 5 1 (.slice (some ⟨w.heap.size,0,none⟩) 1 1) 1 [.int .u8 z] :=
 ⟨rfl,.inr ⟨w.heap.size,1,#[.int .u8 z],rfl,Nat.le_refl _,by show (w.heap.push _)[w.heap.size]?=_;simp,Nat.le_refl _,by unfold maxLen;omega,rfl,rfl⟩⟩
theorem zcl {w w':World}{b:Nat}{v:Value}{n:Nat}{xs:List Value}(h:w.ownsRow b 5 1 v n xs) (hb:Later w w'):w'.ownsRow b 5 1 v n xs :=
 h.kept (row:=none) ⟨hb.os,hb.tape,hb.output,hb.size,fun k hk _=>hb.block k hk⟩ (by cases h:v.ownBlock <;> simp)
theorem own_monob {w:World}{b B:Nat}{v:Value}{n:Nat}{xs:List Value}(h:w.ownsRow B 5 1 v n xs) (hb:b≤B):w.ownsRow b 5 1 v n xs:=by
 refine⟨h.1,?_⟩;rcases h.2 with h|⟨g,cap,cur,h1,h2,h3⟩
 ·exact .inl h
 ·exact .inr ⟨g,cap,cur,h1,Nat.le_trans hb h2,h3⟩
theorem zdv {w:World}{base n:Nat}{v:Value}{xs:List Value}(h:w.ownsRow base 5 1 v n xs):∀ g,v.ownBlock=some g→base≤g:=fun g hg=>(h.lt g hg).1
theorem Later.trans' {w w1 w2:World}{v:Value}(h:Later w w1) (g:w1.grownBy w2 v.ownBlock) (hb:∀ g,v.ownBlock=some g→w.heap.size≤g):Later w w2 :=
 Below.grown h g h.size hb
theorem zaq (w:World) (z:Int):∀ j u,[Value.int .u8 z][j]?=some u→(w.alloc (.cells #[.int .u8 z] 5)).cell? ((⟨w.heap.size,0,none⟩:Addr).add j)=some u:=by
 intro j u h
 match j with
 | 0 =>
  have:Value.int .u8 z=u:=by simpa using h
  rw[←this,Addr.add_zero'];simp
 | j+1=>simp at h
theorem zeb (k u:Nat):(digF k u).length≤k:=by
 induction k generalizing u with
 | zero=>simp[digF]
 | succ k ih =>
  unfold digF;split
  ·simp
  ·have:=ih (u / 10);simp;omega
theorem wrap8 {z:Int}(h0:0≤z) (h1:z≤255):IntKind.u8.wrap z=z:=by
 rw[IntKind.wrap_u8];omega
theorem digits_any (k:Nat):∀ (u:Nat) (w:World),k≤20→u<10 ^ k→0<k→u<18446744073709551616 →
  Calls Tryz.prog 64 #[.int .u64 (u:Int)] w fun e w'=>∃ v,e=.returned v∧w'.ownsRow w.heap.size 5 1 v (digF k u).length ((digF k u).map (Value.int .u8))∧Later w w':=by
 obtain⟨i0,hi,hz0,hz1,hz2⟩:=info_parts Tryz.info5
 induction k with
 | zero=>intro u w _ _ h _;exact absurd h (Nat.lt_irrefl _)
 | succ k ih =>
  intro u w hk hu _ hu64;by_cases hlt:u<10
  ·have e:digF (k+1) u=[48+(u:Int)]:=by unfold digF;rw[if_pos hlt]
   have h1:(u:Int)<10:=by omega
   have hw8:=wrap8 (z:=48+(u:Int)) (by omega) (by omega);have ho:=own_new w (48+(u:Int));rw[e];clear ih;go_enter Tryz.func64,Tryz.ntmps64;go_wp2_with fail
   go_ret;exact⟨_,rfl,ho,later1 _ _⟩
  ·have e:digF (k+1) u=digF k (u / 10)++[48+((u % 10:Nat):Int)]:=by rw[digF,if_neg hlt]
   have h1:¬ (u:Int)<10:=by omega
   have hk0:0<k:=by
    rcases Nat.eq_zero_or_pos k with h|h
    ·subst h;simp at hu;omega
    ·exact h
   have hq:(u:Int) / 10=((u / 10:Nat):Int):=by omega
   have hq':(u:Int) % 10=((u % 10:Nat):Int):=by omega
   have hI:=ih (u / 10) w (by omega) (by rw[Nat.pow_succ]at hu;omega) hk0 (by omega);have hl:=zeb k (u / 10);have hw8:=wrap8 (z:=48+((u % 10:Nat):Int)) (by omega) (by omega);rw[e]
   generalize digF k (u / 10)=ds at *
   have hm:u % 10<10:=Nat.mod_lt _ (by decide)
   generalize u % 10=m at *
   generalize u / 10=q at *
   clear ih e;go_enter Tryz.func64,Tryz.ntmps64;go_wp2_with fail
   refine hI.mono ?_;rintro e w1 ⟨v1,rfl,o1,l1⟩;have o2:=o1.alloc (.cells #[.int .u8 (48+(m:Int))] 5);have hs1:=l1.size
   obtain⟨a1,p1,rfl⟩:∃ a cap,v1=.slice a ds.length cap:=by
    rcases o1.2 with ⟨rfl,h0⟩|⟨g,cap,_,rfl,_⟩
    ·exact⟨_,_,by rw[h0]⟩
    ·exact⟨_,_,rfl⟩
   go_wp2_with (at_builtin;refine wpList_append_own _ rfl _ _ 22 rfl w.heap.size 5 i0 (.int .u8 0) 1 1 Tryz.underlying22 hi hz0 hz1 hz2 rfl (by decide) _ _ _ rfl o2 ⟨w1.heap.size,0,none⟩ 1 1 [.int .u8 (48+(m:Int))] rfl rfl (zaq _ _) (by simp[Value.oneCell']) (by unfold maxLen;omega) (by omega) (by simp;omega) ?_;intro v3 w3 o3 g3 _)
   go_ret;refine⟨_,rfl,?_,?_⟩
   ·rw[List.length_append,List.map_append];exact o3
   ·exact (l1.trans (later1 _ _)).trans' g3 (zdv o2)
def decL (n:Int):List Int:=if n<0 then 45::digF 20 (-n).toNat else digF 20 n.toNat
theorem zea (k u:Nat):0<(digF (k+1) u).length:=by
 unfold digF;split <;> simp
theorem dec_any (n:Int) (w:World) (hn:InR n):Calls Tryz.prog 41 #[.int .i64 n] w fun e w'=>∃ v,e=.returned v∧w'.ownsRow w.heap.size 5 1 v (decL n).length ((decL n).map (Value.int .u8))∧Later w w':=by
 obtain⟨i0,hi,hz0,hz1,hz2⟩:=info_parts Tryz.info5;unfold InR at hn;by_cases hneg:n<0
 ·have e:decL n=45::digF 20 (-n).toNat:=by unfold decL;rw[if_pos hneg]
  have e1:IntKind.u64.wrap n=n+18446744073709551616:=by rw[IntKind.wrap_u64];omega
  have e2:IntKind.u64.wrap (-(n+18446744073709551616))=((-n).toNat:Int):=by rw[IntKind.wrap_u64];omega
  have hI:=digits_any 20 (-n).toNat (w.alloc (.cells #[.int .u8 45] 5)) (Nat.le_refl _) (by omega) (by decide) (by omega);have hl:=zeb 20 (-n).toNat;have hp:=zea 19 (-n).toNat;rw[e]
  generalize digF 20 (-n).toNat=ds at *
  generalize (-n).toNat=m at *
  clear e;go_enter Tryz.func41,Tryz.ntmps41;go_wp2_with fail
  refine hI.mono ?_;rintro e w1 ⟨v1,rfl,o1,l1⟩;have hs1:=l1.size;have om:=zcl (own_new w 45) l1;have hal:w.heap.size<(w.alloc (.cells #[.int .u8 45] 5)).heap.size:=by simp
  rcases o1.2 with ⟨_,h0⟩|⟨g1,p1,cur1,hv1,hb1,_⟩
  ·omega
  subst hv1
  have hsrc:∀ j u,(ds.map (Value.int .u8))[j]?=some u→w1.cell? ((⟨g1,0,none⟩:Addr).add j)=some u:=fun j u hj=>by
   have hj':j<ds.length:=by
    rcases Nat.lt_or_ge j ds.length with h|h
    ·exact h
    ·rw[List.getElem?_eq_none (by simpa using h)]at hj;cases hj
   rw[Addr.add_lit,Nat.zero_add,o1.cellAt j (by omega)];exact hj
  have hone:∀ u∈ds.map (Value.int .u8),u.oneCell'=true:=fun u hu=>by
   obtain⟨z,_,rfl⟩:=List.mem_map.1 hu;rfl
  obtain⟨X,hX⟩:∃ X,Hid (X=ds.map (Value.int .u8)):=⟨_,rfl⟩
  have hXl:X.length=ds.length:=by rw[hX.out];simp
  rw[←hX.out]at hsrc hone;clear o1 hI;go_wp2_with (at_builtin;refine wpList_append_own _ rfl _ _ 22 rfl w.heap.size 5 i0 (.int .u8 0) 1 1 Tryz.underlying22 hi hz0 hz1 hz2 rfl (by decide) _ _ _ rfl om ⟨g1,0,none⟩ ds.length p1 X rfl (by rw[hXl,Nat.mul_one]) hsrc hone (by unfold maxLen;omega) (by omega) (by omega) ?_;intro v3 w3 o3 g3 _)
  go_ret;refine⟨_,rfl,?_,?_⟩
  ·rw[hX.out,Nat.add_comm]at o3;exact o3
  ·exact ((later1 _ _).trans l1).trans' g3 (zdv om)
 ·have e:decL n=digF 20 n.toNat:=by unfold decL;rw[if_neg hneg]
  have e1:IntKind.u64.wrap n=(n.toNat:Int):=by rw[IntKind.wrap_u64];omega
  have hI:=digits_any 20 n.toNat w (Nat.le_refl _) (by omega) (by decide) (by omega);rw[e]
  generalize digF 20 n.toNat=ds at *
  generalize n.toNat=m at *
  clear e;go_enter Tryz.func41,Tryz.ntmps41;go_wp2_with fail
  refine hI.mono ?_;rintro e w1 ⟨v1,rfl,o1,l1⟩;go_wp2_with fail
  go_ret;exact⟨_,rfl,o1,l1⟩
end Go.Proofs.YtgholpilmdebmaaGreatDoor
