import Derived.Test.YtgaddpkkjebekaaGreatDoorZ01
import Derived.Test.YtgaddpkkjebekaaGreatDoorZ02
import Derived.Laws.BytesArg
set_option maxHeartbeats 100000000
set_option maxRecDepth 100000
namespace Go.Proofs.YtgaddpkkjebekaaGreatDoor
open Go.RowKit
def low (z:Int):Bool:=decide (97<=z)&&decide (z<=122)
def up (z:Int):Bool:=decide (65<=z)&&decide (z<=90)
def dig (z:Int):Bool:=decide (48<=z)&&decide (z<=57)
def inner (z:Int):Bool:=low z||up z||dig z
def eU:List Int:=[40,41,123,125,91,93,44,59,46,42,61,43,47,37,60,45]
def sign (z:Int):Bool:=eU.contains z
theorem Le {z:Int}{k:Nat}(h:k<16) (e:eU.getD k 0=z):sign z=true:=by
 have:∀ k,k<16->sign (eU.getD k 0)=true:=by decide
 rw[<-e];exact this k h
theorem zN {z:Int}(h:∀ j,j<16->eU.getD j 0≠z):sign z=false:=by
 unfold sign;rw[<-Bool.not_eq_true,List.contains_iff_exists_mem_beq];rintro ⟨a,ha,hb⟩;obtain⟨j,hj,rfl⟩:=List.mem_iff_getElem.1 ha;have e:z=eU[j]:=by simpa using hb
 refine h j hj ?_;rw[List.getD_eq_getElem?_getD,List.getElem?_eq_getElem hj,e];rfl
def aY (zs:List Int) (great:Bool):Bool:=decide (1<=zs.length)&&decide (zs.length<=8)&&(if great then up (zs.getD 0 0) else low (zs.getD 0 0))&&zs.tail.all (fun z=>low z||dig z)
theorem GM {w:World}{v:Value}{zs:List Int}(h:RdB w v zs):∀ w',Later w w'->(convert 22 9 v).run Tryz.prog w'=.ok (.string (strOfNums zs)) w':=by
 intro w' hl;obtain⟨a,cap,rfl,_,_,hc⟩:=h.later hl;rcases Nat.eq_zero_or_pos zs.length with h0|h0
 ·have:zs=[]:=List.eq_nil_of_length_eq_zero h0;subst this
  cases a with
  | none=>exact run_convert_bytes_nil w' 22 5 Tryz.underlying22 Tryz.underlying5 0 cap 9 Tryz.underlying9
  | some x =>
   obtain⟨b,off,sp⟩:=x;rw[run_convert_bytes_string w' 22 9 5 _ _ cap Tryz.underlying22 Tryz.underlying5 Tryz.underlying9,run_bytesToString w' _ _ cap [] (by simpa using run_loadCells_list (P:=Tryz.prog) w' ⟨b,off,sp⟩ [] (fun j v h=>by simp at h))];rfl
 ·obtain⟨g,off,rfl,_,_⟩:=hc 0 h0;refine run_convert_bytes_arg w' 22 5 Tryz.underlying22 Tryz.underlying5 g off zs.length cap zs rfl (fun i hi=>?_) 9 Tryz.underlying9;obtain⟨_,_,he,_,hv⟩:=hc i hi
  cases he
  exact hv
theorem eH {w:World}{v:Value}{zs:List Int}(h:RdB w v zs):(convert 22 9 v).run Tryz.prog w=.ok (.string (strOfNums zs)) w:=GM h w (Later.refl _)
theorem lQ {xs ys:List Int}(hx:∀ j,isB (xs.getD j 0)) (hy:∀ j,isB (ys.getD j 0)):((strOfNums xs).toList==(strOfNums ys).toList)=decide (xs=ys):=by
 have e:∀ zs:List Int,(strOfNums zs).toList=zs.map fun n=>UInt8.ofNat n.toNat:=fun zs=>by
  rw[ByteArray.toList_eq];exact strOfNums_data zs
 rw[e,e,Bool.eq_iff_iff,beq_iff_eq,decide_eq_true_eq];constructor
 ·intro h;have hl:xs.length=ys.length:=by simpa using congrArg List.length h
  refine Bo hl (fun j hj=>?_);have h1:=congrArg (fun l=>l[j]?) h;simp only[List.getElem?_map,List.getElem?_eq_getElem hj,List.getElem?_eq_getElem (show j<ys.length by omega),Option.map_some,Option.some.injEq]at h1;have a:=hx j;have b:=hy j;rw[List.getD_eq_getElem?_getD,List.getElem?_eq_getElem hj]at a ⊢;rw[List.getD_eq_getElem?_getD,List.getElem?_eq_getElem (show j<ys.length by omega)]at b ⊢;simp only[Option.getD_some]at a b ⊢;unfold isB at a b;have h2:=congrArg UInt8.toNat h1;rw[UInt8.toNat_ofNat',UInt8.toNat_ofNat']at h2;omega
 ·intro h;rw[h]
def TU:List (List Int):=[[116,121,112,101],[115,116,114,117,99,116],[102,117,110,99],[118,97,114],[105,102],[101,108,115,101],[102,111,114],[114,101,116,117,114,110],[112,114,105,110,116],[112,97,110,105,99],[100,111],[105,110,116],[102,108,111,97,116],[110,105,108],[110,101,119],[109,97,107,101],[108,101,110],[114,101,97,100]]
def lL (zs:List Int):Bool:=TU.contains zs
def aQ (zs:List Int):Bool:=aY zs false&&!lL zs
theorem RdB.isB {w:World}{v:Value}{zs:List Int}(h:RdB w v zs):∀ j,Proofs.YtgaddpkkjebekaaGreatDoor.isB (zs.getD j 0):=by obtain⟨_,_,_,_,hb,_⟩:=h;exact hb
theorem dO {zs ys:List Int}{ls:List UInt8}(hx:∀ j,isB (zs.getD j 0)) (hy:∀ j,isB (ys.getD j 0)) (e:ys.map (fun n=>UInt8.ofNat n.toNat)=ls):((strOfNums zs).toList==ls)=decide (zs=ys):=by
 rw[<-lQ hx hy,<- e]
 congr 1
 rw[ByteArray.toList_eq];exact (strOfNums_data ys).symm
theorem eY {ys:List Int}(h:ys.all (fun z=>decide (0<=z)&&decide (z<=255))=true):∀ j,isB (ys.getD j 0):=by
 intro j;rcases Nat.lt_or_ge j ys.length with l|l
 ·rw[List.getD_eq_getElem?_getD,List.getElem?_eq_getElem l];have:=List.all_eq_true.1 h _ (List.getElem_mem l);rw[Bool.and_eq_true,decide_eq_true_eq,decide_eq_true_eq]at this;exact this
 ·rw[List.getD_eq_getElem?_getD,List.getElem?_eq_none l];exact⟨by simp,by simp⟩
theorem PK (v:Value) (zs:List Int) (w:World) (h:RdB w v zs):Calls Tryz.prog 83 #[v] w fun e w'=>e=.returned (.bool (lL zs))/\w'=w:=by
 have hc:=eH h;have hb:=h.isB;obtain⟨a,cap,rfl,_⟩:=h.slice;clear h;have t0:=dO (ls:=[116,121,112,101]) hb (eY (ys:=[116,121,112,101]) (by decide)) rfl;by_cases q0:zs=[116,121,112,101]
 ·have e0:=t0.trans (decide_eq_true q0);have ek:lL zs=true:=by rw[q0];decide
  rw[ek];clear t0 q0 hb ek;go_enter Tryz.func83,Tryz.ntmps83;go_wp2_with fail
  go_ret;exact⟨rfl,rfl⟩
 have e0:=t0.trans (decide_eq_false q0);clear t0;have t1:=dO (ls:=[115,116,114,117,99,116]) hb (eY (ys:=[115,116,114,117,99,116]) (by decide)) rfl;by_cases q1:zs=[115,116,114,117,99,116]
 ·have e1:=t1.trans (decide_eq_true q1);have ek:lL zs=true:=by rw[q1];decide
  rw[ek];clear t1 q1 hb ek;go_enter Tryz.func83,Tryz.ntmps83;go_wp2_with fail
  go_ret;exact⟨rfl,rfl⟩
 have e1:=t1.trans (decide_eq_false q1);clear t1;have t2:=dO (ls:=[102,117,110,99]) hb (eY (ys:=[102,117,110,99]) (by decide)) rfl;by_cases q2:zs=[102,117,110,99]
 ·have e2:=t2.trans (decide_eq_true q2);have ek:lL zs=true:=by rw[q2];decide
  rw[ek];clear t2 q2 hb ek;go_enter Tryz.func83,Tryz.ntmps83;go_wp2_with fail
  go_ret;exact⟨rfl,rfl⟩
 have e2:=t2.trans (decide_eq_false q2);clear t2;have t3:=dO (ls:=[118,97,114]) hb (eY (ys:=[118,97,114]) (by decide)) rfl;by_cases q3:zs=[118,97,114]
 ·have e3:=t3.trans (decide_eq_true q3);have ek:lL zs=true:=by rw[q3];decide
  rw[ek];clear t3 q3 hb ek;go_enter Tryz.func83,Tryz.ntmps83;go_wp2_with fail
  go_ret;exact⟨rfl,rfl⟩
 have e3:=t3.trans (decide_eq_false q3);clear t3;have t4:=dO (ls:=[105,102]) hb (eY (ys:=[105,102]) (by decide)) rfl;by_cases q4:zs=[105,102]
 ·have e4:=t4.trans (decide_eq_true q4);have ek:lL zs=true:=by rw[q4];decide
  rw[ek];clear t4 q4 hb ek;go_enter Tryz.func83,Tryz.ntmps83;go_wp2_with fail
  go_ret;exact⟨rfl,rfl⟩
 have e4:=t4.trans (decide_eq_false q4);clear t4;have t5:=dO (ls:=[101,108,115,101]) hb (eY (ys:=[101,108,115,101]) (by decide)) rfl;by_cases q5:zs=[101,108,115,101]
 ·have e5:=t5.trans (decide_eq_true q5);have ek:lL zs=true:=by rw[q5];decide
  rw[ek];clear t5 q5 hb ek;go_enter Tryz.func83,Tryz.ntmps83;go_wp2_with fail
  go_ret;exact⟨rfl,rfl⟩
 have e5:=t5.trans (decide_eq_false q5);clear t5;have t6:=dO (ls:=[102,111,114]) hb (eY (ys:=[102,111,114]) (by decide)) rfl;by_cases q6:zs=[102,111,114]
 ·have e6:=t6.trans (decide_eq_true q6);have ek:lL zs=true:=by rw[q6];decide
  rw[ek];clear t6 q6 hb ek;go_enter Tryz.func83,Tryz.ntmps83;go_wp2_with fail
  go_ret;exact⟨rfl,rfl⟩
 have e6:=t6.trans (decide_eq_false q6);clear t6;have t7:=dO (ls:=[114,101,116,117,114,110]) hb (eY (ys:=[114,101,116,117,114,110]) (by decide)) rfl;by_cases q7:zs=[114,101,116,117,114,110]
 ·have e7:=t7.trans (decide_eq_true q7);have ek:lL zs=true:=by rw[q7];decide
  rw[ek];clear t7 q7 hb ek;go_enter Tryz.func83,Tryz.ntmps83;go_wp2_with fail
  go_ret;exact⟨rfl,rfl⟩
 have e7:=t7.trans (decide_eq_false q7);clear t7;have t8:=dO (ls:=[112,114,105,110,116]) hb (eY (ys:=[112,114,105,110,116]) (by decide)) rfl;by_cases q8:zs=[112,114,105,110,116]
 ·have e8:=t8.trans (decide_eq_true q8);have ek:lL zs=true:=by rw[q8];decide
  rw[ek];clear t8 q8 hb ek;go_enter Tryz.func83,Tryz.ntmps83;go_wp2_with fail
  go_ret;exact⟨rfl,rfl⟩
 have e8:=t8.trans (decide_eq_false q8);clear t8;have t9:=dO (ls:=[112,97,110,105,99]) hb (eY (ys:=[112,97,110,105,99]) (by decide)) rfl;by_cases q9:zs=[112,97,110,105,99]
 ·have e9:=t9.trans (decide_eq_true q9);have ek:lL zs=true:=by rw[q9];decide
  rw[ek];clear t9 q9 hb ek;go_enter Tryz.func83,Tryz.ntmps83;go_wp2_with fail
  go_ret;exact⟨rfl,rfl⟩
 have e9:=t9.trans (decide_eq_false q9);clear t9;have t10:=dO (ls:=[100,111]) hb (eY (ys:=[100,111]) (by decide)) rfl;by_cases q10:zs=[100,111]
 ·have e10:=t10.trans (decide_eq_true q10);have ek:lL zs=true:=by rw[q10];decide
  rw[ek];clear t10 q10 hb ek;go_enter Tryz.func83,Tryz.ntmps83;go_wp2_with fail
  go_ret;exact⟨rfl,rfl⟩
 have e10:=t10.trans (decide_eq_false q10);clear t10;have t11:=dO (ls:=[105,110,116]) hb (eY (ys:=[105,110,116]) (by decide)) rfl;by_cases q11:zs=[105,110,116]
 ·have e11:=t11.trans (decide_eq_true q11);have ek:lL zs=true:=by rw[q11];decide
  rw[ek];clear t11 q11 hb ek;go_enter Tryz.func83,Tryz.ntmps83;go_wp2_with fail
  go_ret;exact⟨rfl,rfl⟩
 have e11:=t11.trans (decide_eq_false q11);clear t11;have t12:=dO (ls:=[102,108,111,97,116]) hb (eY (ys:=[102,108,111,97,116]) (by decide)) rfl;by_cases q12:zs=[102,108,111,97,116]
 ·have e12:=t12.trans (decide_eq_true q12);have ek:lL zs=true:=by rw[q12];decide
  rw[ek];clear t12 q12 hb ek;go_enter Tryz.func83,Tryz.ntmps83;go_wp2_with fail
  go_ret;exact⟨rfl,rfl⟩
 have e12:=t12.trans (decide_eq_false q12);clear t12;have t13:=dO (ls:=[110,105,108]) hb (eY (ys:=[110,105,108]) (by decide)) rfl;by_cases q13:zs=[110,105,108]
 ·have e13:=t13.trans (decide_eq_true q13);have ek:lL zs=true:=by rw[q13];decide
  rw[ek];clear t13 q13 hb ek;go_enter Tryz.func83,Tryz.ntmps83;go_wp2_with fail
  go_ret;exact⟨rfl,rfl⟩
 have e13:=t13.trans (decide_eq_false q13);clear t13;have t14:=dO (ls:=[110,101,119]) hb (eY (ys:=[110,101,119]) (by decide)) rfl;by_cases q14:zs=[110,101,119]
 ·have e14:=t14.trans (decide_eq_true q14);have ek:lL zs=true:=by rw[q14];decide
  rw[ek];clear t14 q14 hb ek;go_enter Tryz.func83,Tryz.ntmps83;go_wp2_with fail
  go_ret;exact⟨rfl,rfl⟩
 have e14:=t14.trans (decide_eq_false q14);clear t14;have t15:=dO (ls:=[109,97,107,101]) hb (eY (ys:=[109,97,107,101]) (by decide)) rfl;by_cases q15:zs=[109,97,107,101]
 ·have e15:=t15.trans (decide_eq_true q15);have ek:lL zs=true:=by rw[q15];decide
  rw[ek];clear t15 q15 hb ek;go_enter Tryz.func83,Tryz.ntmps83;go_wp2_with fail
  go_ret;exact⟨rfl,rfl⟩
 have e15:=t15.trans (decide_eq_false q15);clear t15;have t16:=dO (ls:=[108,101,110]) hb (eY (ys:=[108,101,110]) (by decide)) rfl;by_cases q16:zs=[108,101,110]
 ·have e16:=t16.trans (decide_eq_true q16);have ek:lL zs=true:=by rw[q16];decide
  rw[ek];clear t16 q16 hb ek;go_enter Tryz.func83,Tryz.ntmps83;go_wp2_with fail
  go_ret;exact⟨rfl,rfl⟩
 have e16:=t16.trans (decide_eq_false q16);clear t16;have t17:=dO (ls:=[114,101,97,100]) hb (eY (ys:=[114,101,97,100]) (by decide)) rfl;by_cases q17:zs=[114,101,97,100]
 ·have e17:=t17.trans (decide_eq_true q17);have ek:lL zs=true:=by rw[q17];decide
  rw[ek];clear t17 q17 hb ek;go_enter Tryz.func83,Tryz.ntmps83;go_wp2_with fail
  go_ret;exact⟨rfl,rfl⟩
 have e17:=t17.trans (decide_eq_false q17);clear t17
 have ek:lL zs=false:=by
  unfold lL;rw[<-Bool.not_eq_true,List.contains_iff_mem];unfold TU;simp only[List.mem_cons,List.not_mem_nil,or_false];rintro (h|h|h|h|h|h|h|h|h|h|h|h|h|h|h|h|h|h) <;> contradiction
 rw[ek];clear hb ek q0 q1 q2 q3 q4 q5 q6 q7 q8 q9 q10 q11 q12 q13 q14 q15 q16 q17;go_enter Tryz.func83,Tryz.ntmps83;go_wp2_with fail
 go_ret;exact⟨rfl,rfl⟩
theorem AV (z:Int) (w:World):Calls Tryz.prog 63 #[.int .u8 z] w fun e w'=>e=.returned (.bool (low z))/\w'=w:=by
 unfold low;by_cases h1:97<=z
 ·rw[decide_eq_true h1];go_enter Tryz.func63,Tryz.ntmps63;go_wp2
  go_ret;exact⟨by simp,rfl⟩
 ·rw[decide_eq_false h1];go_enter Tryz.func63,Tryz.ntmps63;go_wp2
  go_ret;exact⟨rfl,rfl⟩
theorem J4 (z:Int) (w:World):Calls Tryz.prog 64 #[.int .u8 z] w fun e w'=>e=.returned (.bool (up z))/\w'=w:=by
 unfold up;by_cases h1:65<=z
 ·rw[decide_eq_true h1];go_enter Tryz.func64,Tryz.ntmps64;go_wp2
  go_ret;exact⟨by simp,rfl⟩
 ·rw[decide_eq_false h1];go_enter Tryz.func64,Tryz.ntmps64;go_wp2
  go_ret;exact⟨rfl,rfl⟩
theorem AY (z:Int) (w:World):Calls Tryz.prog 34 #[.int .u8 z] w fun e w'=>e=.returned (.bool (dig z))/\w'=w:=by
 unfold dig;by_cases h1:48<=z
 ·rw[decide_eq_true h1];go_enter Tryz.func34,Tryz.ntmps34;go_wp2
  go_ret;exact⟨by simp,rfl⟩
 ·rw[decide_eq_false h1];go_enter Tryz.func34,Tryz.ntmps34;go_wp2
  go_ret;exact⟨rfl,rfl⟩
def ldB (z:Int):Bool:=low z||dig z
theorem CX (v:Value) (zs:List Int) (w:World) (h:RdB w v zs):Calls Tryz.prog 72 #[v] w fun e w'=>e=.returned (.bool (zs.all ldB))/\w'=w:=by
 obtain⟨a,cap,rfl,hl,hz,hc⟩:=h;go_enter Tryz.func72,Tryz.ntmps72;go_wp2_with fail
 go_loop [7] (fun i=>∃ k:Nat,i=.int .i64 (k:Int)/\k<=zs.length/\Hid (∀ j,j<k->ldB (zs.getD j 0)=true)) (fun i=>zs.length - (intOf i).toNat)
 case atStart=>exact⟨0,rfl,Nat.zero_le _,fun j hj=>absurd hj (Nat.not_lt_zero _)⟩
 case round =>
  obtain⟨k,rfl,hk,hall⟩:=hrel;by_cases hlt:k<zs.length
  ·obtain⟨g,off,rfl,_,hv⟩:=hc k hlt;have i1:(k:Int)<(zs.length:Int):=by omega
   have HZ:Hid (ldB (zs.getD k 0)=true->∀ j,j<k+1->ldB (zs.getD j 0)=true):=fun h j hj=>by
    rcases Nat.lt_or_ge j k with a|a
    ·exact hall.out j a
    ·have:j=k:=by omega
     rw[this];exact h
   have HF:Hid (ldB (zs.getD k 0)=false->zs.all ldB=false):=fun h=>by
    rw[<-Bool.not_eq_true,List.all_eq_true];intro ha;have:=ha (zs.getD k 0) (by rw[List.getD_eq_getElem?_getD,List.getElem?_eq_getElem hlt];exact List.getElem_mem _);rw[this]at h
    cases h
   generalize zs.getD k 0=z at *
   have hlo:=AV z w;have hdi:=AY z w;clear hc hall
   cases q:low z
   ·cases q':dig z
    ·rw[q]at hlo;rw[q']at hdi;have hf:=HF.out (by unfold ldB;rw[q,q'];rfl);go_wp2_with (first|(go_at_call 63;refine hlo.mono ?_;rintro e w' ⟨rfl,hww⟩;obtain rfl:=hww.symm)|(go_at_call 34;refine hdi.mono ?_;rintro e w' ⟨rfl,hww⟩;obtain rfl:=hww.symm))
     go_ret;exact⟨dh hf.symm,rfl⟩
    ·rw[q]at hlo;rw[q']at hdi;have hn:=HZ.out (by unfold ldB;rw[q,q'];rfl);have HN:Hid _:=hn;clear hn;go_wp2_with (first|(go_at_call 63;refine hlo.mono ?_;rintro e w' ⟨rfl,hww⟩;obtain rfl:=hww.symm)|(go_at_call 34;refine hdi.mono ?_;rintro e w' ⟨rfl,hww⟩;obtain rfl:=hww.symm))
     go_round
     case rel=>exact⟨k+1,by go_num,by omega,HN⟩
     case measure=>simp[intOf];omega
   ·rw[q]at hlo;have hn:=HZ.out (by unfold ldB;rw[q];rfl);have HN:Hid _:=hn;clear hn;go_wp2_with (first|(go_at_call 63;refine hlo.mono ?_;rintro e w' ⟨rfl,hww⟩;obtain rfl:=hww.symm)|(go_at_call 34;refine hdi.mono ?_;rintro e w' ⟨rfl,hww⟩;obtain rfl:=hww.symm))
    go_round
    case rel=>exact⟨k+1,by go_num,by omega,HN⟩
    case measure=>simp[intOf];omega
  ·have i1:¬ (k:Int)<(zs.length:Int):=by omega
   have i2:decide ((k:Int)<(zs.length:Int))=false:=decide_eq_false i1
   have HA:Hid (zs.all ldB=true):=show _=_ by
    rw[List.all_eq_true];intro z hm;obtain⟨j,hj,rfl⟩:=List.mem_iff_getElem.1 hm;have:=hall.out j (by omega)
    rwa [List.getD_eq_getElem?_getD,List.getElem?_eq_getElem hj]at this
   clear hall hc;go_wp2_with fail
   go_ret;exact⟨dh HA.out.symm,rfl⟩
theorem CW (a:Option Addr) (n cap:Nat) (w:World) (hn:(n:Int)<=9223372036854775807):Calls Tryz.prog 71 #[.slice a n cap] w fun e w'=>e=.returned (.bool (decide (1<=n)&&decide (n<=8)))/\w'=w:=by
 by_cases h1:1<=n
 ·have h1':(1:Int)<=(n:Int):=by omega
  by_cases h8:n<=8
  ·have h8':(n:Int)<=8:=by omega
   rw[decide_eq_true h1,decide_eq_true h8];go_enter Tryz.func71,Tryz.ntmps71;go_wp2
   go_ret;exact⟨by simp <;> omega,rfl⟩
  ·have h8':¬ (n:Int)<=8:=by omega
   rw[decide_eq_true h1,decide_eq_false h8];go_enter Tryz.func71,Tryz.ntmps71;go_wp2
   go_ret;exact⟨by simp <;> omega,rfl⟩
 ·have h1':¬ (1:Int)<=(n:Int):=by omega
  rw[decide_eq_false h1];go_enter Tryz.func71,Tryz.ntmps71;go_wp2
  go_ret;exact⟨by simp,rfl⟩
theorem RdB.tail {w:World}{g off n cap:Nat}{zs:List Int}{c:Nat}(h:RdB w (.slice (some ⟨g,off,none⟩) n cap) zs) (hn:1<=zs.length) (a:Option Addr) (ha:1<zs.length->a=some ⟨g,off+1,none⟩) (m:Nat) (hm:m=zs.length - 1):RdB w (.slice a m c) zs.tail:=by
 obtain⟨_,_,e,hl,hb,hc⟩:=h
 cases e
 subst hm;have ht:zs.tail.length=zs.length - 1:=List.length_tail;refine⟨a,c,by rw[ht],by rw[ht];omega,fun j=>?_,fun j hj=>?_⟩
 ·have:=hb (j+1);rw[List.getD_eq_getElem?_getD]at this ⊢
  rwa [List.getElem?_tail]
 ·rw[ht]at hj;obtain⟨_,_,e,hg,hv⟩:=hc (j+1) (by omega)
  cases e
  refine⟨g,off+1,ha (by omega),hg,?_⟩;rw[List.getD_eq_getElem?_getD,List.getElem?_tail,<- List.getD_eq_getElem?_getD,<- hv,show off+1+j=off+(j+1) by omega]
theorem Az (v:Value) (zs:List Int) (w:World) (h:RdN w v zs):Calls Tryz.prog 37 #[v] w fun e w'=>e=.returned (.bool (aY zs false))/\w'=w:=by
 obtain⟨a,cap,rfl,hl,hm⟩:=h.cap;have hb:=h.rd;unfold maxLen at hm;have hsz:=CW a zs.length cap w (by omega);by_cases h1:1<=zs.length/\zs.length<=8
 ·obtain⟨h1,h8⟩:=h1;rw[decide_eq_true h1,decide_eq_true h8]at hsz;obtain⟨_,_,e,_,_,hc⟩:=id hb
  cases e
  obtain⟨g,off,rfl,_,hv⟩:=hc 0 (by omega);rw[Nat.add_zero]at hv;have e:aY zs false=(low (zs.getD 0 0)&&zs.tail.all ldB):=by unfold aY;rw[decide_eq_true h1,decide_eq_true h8];rfl
  rw[e];have hlo:=AV (zs.getD 0 0) w;have hre:=fun a c m ha hm=>CX _ zs.tail w (hb.tail (c:=c) h1 a ha m hm);have r1:(1:Int)<=(zs.length:Int):=by omega
  have r2:(zs.length:Int)<=(cap:Int):=by omega
  have r3:(0:Int)<(zs.length:Int):=by omega
  generalize zs.getD 0 0=z at *
  generalize zs.tail.all ldB=tb at *
  clear hc e hb h
  cases q:low z
  all_goals
   rw[q]at hlo;go_enter Tryz.func37,Tryz.ntmps37;go_wp2_with (first|(go_at_call 71;refine hsz.mono ?_;rintro e w' ⟨rfl,hww⟩;obtain rfl:=hww.symm)|(go_at_call 63;refine hlo.mono ?_;rintro e w' ⟨rfl,hww⟩;obtain rfl:=hww.symm)|(go_at_call 72;refine (hre _ _ _ (by first|exact fun _=>rfl|(intro hx;omega)) rfl).mono ?_;rintro e w' ⟨rfl,hww⟩;obtain rfl:=hww.symm))
   all_goals
    go_ret;exact⟨rfl,rfl⟩
 ·have e:aY zs false=false:=by
   unfold aY;by_cases h2:1<=zs.length
   ·rw[decide_eq_true h2,decide_eq_false (show ¬ zs.length<=8 by omega)];rfl
   ·rw[decide_eq_false h2];rfl
  have e2:(decide (1<=zs.length)&&decide (zs.length<=8))=false:=by
   by_cases h2:1<=zs.length
   ·rw[decide_eq_true h2,decide_eq_false (show ¬ zs.length<=8 by omega)];rfl
   ·rw[decide_eq_false h2];rfl
  rw[e];rw[e2]at hsz;clear e e2 h1 h hb;go_enter Tryz.func37,Tryz.ntmps37;go_wp2_with (go_at_call 71;refine hsz.mono ?_;rintro e w' ⟨rfl,hww⟩;obtain rfl:=hww.symm)
  go_ret;exact⟨rfl,rfl⟩
theorem vg (v:Value) (zs:List Int) (w:World) (h:RdN w v zs):Calls Tryz.prog 38 #[v] w fun e w'=>e=.returned (.bool (aY zs true))/\w'=w:=by
 obtain⟨a,cap,rfl,hl,hm⟩:=h.cap;have hb:=h.rd;unfold maxLen at hm;have hsz:=CW a zs.length cap w (by omega);by_cases h1:1<=zs.length/\zs.length<=8
 ·obtain⟨h1,h8⟩:=h1;rw[decide_eq_true h1,decide_eq_true h8]at hsz;obtain⟨_,_,e,_,_,hc⟩:=id hb
  cases e
  obtain⟨g,off,rfl,_,hv⟩:=hc 0 (by omega);rw[Nat.add_zero]at hv;have e:aY zs true=(up (zs.getD 0 0)&&zs.tail.all ldB):=by unfold aY;rw[decide_eq_true h1,decide_eq_true h8];rfl
  rw[e];have hlo:=J4 (zs.getD 0 0) w;have hre:=fun a c m ha hm=>CX _ zs.tail w (hb.tail (c:=c) h1 a ha m hm);have r1:(1:Int)<=(zs.length:Int):=by omega
  have r2:(zs.length:Int)<=(cap:Int):=by omega
  have r3:(0:Int)<(zs.length:Int):=by omega
  generalize zs.getD 0 0=z at *
  generalize zs.tail.all ldB=tb at *
  clear hc e hb h
  cases q:up z
  all_goals
   rw[q]at hlo;go_enter Tryz.func38,Tryz.ntmps38;go_wp2_with (first|(go_at_call 71;refine hsz.mono ?_;rintro e w' ⟨rfl,hww⟩;obtain rfl:=hww.symm)|(go_at_call 64;refine hlo.mono ?_;rintro e w' ⟨rfl,hww⟩;obtain rfl:=hww.symm)|(go_at_call 72;refine (hre _ _ _ (by first|exact fun _=>rfl|(intro hx;omega)) rfl).mono ?_;rintro e w' ⟨rfl,hww⟩;obtain rfl:=hww.symm))
   all_goals
    go_ret;exact⟨rfl,rfl⟩
 ·have e:aY zs true=false:=by
   unfold aY;by_cases h2:1<=zs.length
   ·rw[decide_eq_true h2,decide_eq_false (show ¬ zs.length<=8 by omega)];rfl
   ·rw[decide_eq_false h2];rfl
  have e2:(decide (1<=zs.length)&&decide (zs.length<=8))=false:=by
   by_cases h2:1<=zs.length
   ·rw[decide_eq_true h2,decide_eq_false (show ¬ zs.length<=8 by omega)];rfl
   ·rw[decide_eq_false h2];rfl
  rw[e];rw[e2]at hsz;clear e e2 h1 h hb;go_enter Tryz.func38,Tryz.ntmps38;go_wp2_with (go_at_call 71;refine hsz.mono ?_;rintro e w' ⟨rfl,hww⟩;obtain rfl:=hww.symm)
  go_ret;exact⟨rfl,rfl⟩
theorem nU (v:Value) (zs:List Int) (w:World) (h:RdN w v zs):Calls Tryz.prog 54 #[v] w fun e w'=>e=.returned (.bool (aQ zs))/\w'=w:=by
 have hw:=Az v zs w h;have hk:=PK v zs w h.rd;obtain⟨a,cap,rfl,_⟩:=h.slice;unfold aQ
 cases q:aY zs false
 all_goals
  rw[q]at hw;go_enter Tryz.func54,Tryz.ntmps54;go_wp2_with (first|(go_at_call 37;refine hw.mono ?_;rintro e w1 ⟨rfl,hww⟩;obtain rfl:=hww.symm)|(go_at_call 83;refine hk.mono ?_;rintro e w1 ⟨rfl,hww⟩;obtain rfl:=hww.symm))
  go_ret;exact⟨rfl,rfl⟩
end Go.Proofs.YtgaddpkkjebekaaGreatDoor
