import Derived.Test.YtjnpncefkigcbaaGreatHa
import Derived.Deep.RegionWith
set_option maxHeartbeats 100000000
set_option maxRecDepth 100000
namespace Go.Proofs.YtjnpncefkigcbaaGreat
open Go.RowKit
def szR (left:Int) (s:Nat):Int:=if (s:Int)≤left then left - s else -1
theorem szR_pos {left:Int}{s:Nat}(h:(s:Int)≤left):szR left s=left - s:=if_pos h
theorem szR_neg {left:Int}{s:Nat}(h:¬ (s:Int)≤left):szR left s=-1:=if_neg h
theorem szIns_any (v:Value) (l:List In) (left:Int) (w:World) (h:RdL w 1 v (In.dats l)) (h0:0≤left) (h1:left≤1048576) :
  Calls Tryz.prog 19 #[v,.int .i64 left] w fun e w'=>e=.returned (.int .i64 (szR left (In.szs l)))∧Later w w':=by
 unfold In.szs;obtain⟨a,cap,rfl,hl⟩:=In.slice h;by_cases hc:(l.length:Int)≤left
 ·rw[szR_pos hc];have hn:¬ left - (l.length:Int)<0:=by omega
  have r1:-9223372036854775808≤left - (l.length:Int):=by omega
  have r2:left - (l.length:Int)≤9223372036854775807:=by omega
  go_enter Tryz.func19,Tryz.ntmps19;go_wp2
  go_ret;exact⟨rfl,Later.refl _⟩
 ·rw[szR_neg hc];have hn:left - (l.length:Int)<0:=by omega
  have r1:-9223372036854775808≤left - (l.length:Int):=by omega
  have r2:left - (l.length:Int)≤9223372036854775807:=by omega
  go_enter Tryz.func19,Tryz.ntmps19;go_wp2
  go_ret;exact⟨rfl,Later.refl _⟩
theorem szBos_any (v:Value) (l:List Bo) (left:Int) (w:World) (h:RdL w 1 v (Bo.dats l)) (h0:0≤left) (h1:left≤1048576) :
  Calls Tryz.prog 42 #[v,.int .i64 left] w fun e w'=>e=.returned (.int .i64 (szR left (Bo.szs l)))∧Later w w':=by
 unfold Bo.szs;obtain⟨a,cap,rfl,hl⟩:=Bo.slice h;by_cases hc:(l.length:Int)≤left
 ·rw[szR_pos hc];have hn:¬ left - (l.length:Int)<0:=by omega
  have r1:-9223372036854775808≤left - (l.length:Int):=by omega
  have r2:left - (l.length:Int)≤9223372036854775807:=by omega
  go_enter Tryz.func42,Tryz.ntmps42;go_wp2
  go_ret;exact⟨rfl,Later.refl _⟩
 ·rw[szR_neg hc];have hn:left - (l.length:Int)<0:=by omega
  have r1:-9223372036854775808≤left - (l.length:Int):=by omega
  have r2:left - (l.length:Int)≤9223372036854775807:=by omega
  go_enter Tryz.func42,Tryz.ntmps42;go_wp2
  go_ret;exact⟨rfl,Later.refl _⟩
theorem szIss_any (v:Value) (l:List Is) (left:Int) (w:World) (h:RdL w 5 v (Is.dats l)) (h0:0≤left) (h1:left≤1048576) :
  Calls Tryz.prog 73 #[v,.int .i64 left] w fun e w'=>e=.returned (.int .i64 (szR left (Is.szs l)))∧Later w w':=by
 unfold Is.szs;obtain⟨a,cap,rfl,hl⟩:=Is.slice h;by_cases hc:(l.length:Int)≤left
 ·rw[szR_pos hc];have hn:¬ left - (l.length:Int)<0:=by omega
  have r1:-9223372036854775808≤left - (l.length:Int):=by omega
  have r2:left - (l.length:Int)≤9223372036854775807:=by omega
  go_enter Tryz.func73,Tryz.ntmps73;go_wp2
  go_ret;exact⟨rfl,Later.refl _⟩
 ·rw[szR_neg hc];have hn:left - (l.length:Int)<0:=by omega
  have r1:-9223372036854775808≤left - (l.length:Int):=by omega
  have r2:left - (l.length:Int)≤9223372036854775807:=by omega
  go_enter Tryz.func73,Tryz.ntmps73;go_wp2
  go_ret;exact⟨rfl,Later.refl _⟩
theorem szBs_any (x:Bs) (v0:Value) (left:Int) (w:World) (h0:RdL w 1 v0 (Bo.dats x.l)) (hl0:0≤left) (hl1:left≤1048576) :
  Calls Tryz.prog 42 #[v0,.int .i64 left] w fun e w'=>e=.returned (.int .i64 (szR left x.sz))∧Later w w':=by
 obtain⟨l⟩:=x;exact szBos_any v0 l left w h0 hl0 hl1
theorem szBss_any (v:Value) (l:List Bs) (left:Int) (w:World) (h:RdL w 1 v (Bs.dats l)) (hl0:0≤left) (hl1:left≤1048576) :
  Calls Tryz.prog 17 #[v,.int .i64 left] w fun e w'=>e=.returned (.int .i64 (szR left (Bs.szs l)))∧Later w w':=by
 obtain⟨a,cap,rfl,hl⟩:=Bs.slice h;by_cases hc:(l.length:Int)≤left
 ·have hn:¬ left - (l.length:Int)<0:=by omega
  have r1:-9223372036854775808≤left - (l.length:Int):=by omega
  have r2:left - (l.length:Int)≤9223372036854775807:=by omega
  go_enter Tryz.func17,Tryz.ntmps17;go_wp2_with fail
  go_loopw [1,5] (fun lf i wr=>∃ k:Nat,lf=.int .i64 (left - (l.length:Int) - (Bs.pre l k:Nat))∧i=.int .i64 (k:Int)∧k≤l.length∧0≤left - (l.length:Int) - (Bs.pre l k:Nat)∧Later w wr) (fun _ i _=>l.length - (intOf i).toNat)
  case atStart=>exact⟨0,by rw[Bs.pre_zero];simp,rfl,Nat.zero_le _,by rw[Bs.pre_zero];simp;omega,Later.refl _⟩
  case round =>
   obtain⟨k,rfl,rfl,hk,hp,lr⟩:=hrel;by_cases hlt:k<l.length
   ·obtain⟨g,off,v0,rfl,hg,c0,r0⟩:=Bs.elem (RdL.later lr h) k hlt;have i1:(k:Int)<(l.length:Int):=by omega
    rw[Nat.mul_one]at c0;obtain⟨a0,p0,rfl,_⟩:=Bo.slice r0;have hE:=szBs_any l[k] _ (left - (l.length:Int) - (Bs.pre l k:Nat)) wr r0 hp (by omega);have hps:=Bs.pre_succ hlt;have HP:Hid (Bs.pre l (k+1)=Bs.pre l k+l[k].sz):=hps;have hall:=Bs.pre_le l (k+1) (by omega);clear hps r0
    generalize l[k].sz=S at *
    go_wp2_with fail
    refine hE.mono ?_;rintro e w1 ⟨rfl,l1⟩;by_cases q:((S:Nat):Int)≤left - (l.length:Int) - (Bs.pre l k:Nat)
    ·rw[szR_pos q];have n1:¬ left - (l.length:Int) - (Bs.pre l k:Nat) - (S:Nat)<0:=by omega
     go_wp2_with fail
     go_roundw
     case rel=>exact⟨k+1,by rw[HP.out];go_num,by go_num,by omega,by rw[HP.out];omega,lr.trans l1⟩
     case measure=>simp[intOf];omega
    ·rw[szR_neg q];go_wp2_with fail
     go_ret;exact⟨ret_int (by rw[szR_neg];rw[HP.out]at hall;omega),lr.trans l1⟩
   ·have i1:¬ (k:Int)<(l.length:Int):=by omega
    have i2:decide ((k:Int)<(l.length:Int))=false:=decide_eq_false i1;have hkk:k=l.length:=by omega
    have hall:=Bs.pre_all l;subst hkk;go_wp2_with fail
    go_ret;exact⟨ret_int (by rw[szR_pos (by omega)];first|done|omega),lr⟩
 ·have hn:left - (l.length:Int)<0:=by omega
  have r1:-9223372036854775808≤left - (l.length:Int):=by omega
  have r2:left - (l.length:Int)≤9223372036854775807:=by omega
  have hge:=Bs.szs_ge l;go_enter Tryz.func17,Tryz.ntmps17;go_wp2_with fail
  go_ret;exact⟨ret_int (by rw[szR_neg (by omega)]),Later.refl _⟩
theorem szMa_any (x:Ma) (v0:Value) (left:Int) (w:World) (h0:RdL w 1 v0 (In.dats x.slots)) (hl0:0≤left) (hl1:left≤1048576) :
  Calls Tryz.prog 118 #[.agg #[.int .i64 x.pc,v0],.int .i64 left] w fun e w'=>e=.returned (.int .i64 (szR left x.sz))∧Later w w':=by
 have L0:=later1 w (.cells #[.int .i64 x.pc,v0] 154);have hsz:x.sz=In.szs x.slots:=by obtain⟨pc,slots⟩:=x;rfl
 rw[hsz];obtain⟨a0,p0,rfl,_⟩:=In.slice h0;clear hsz
 generalize x.pc=z_pc at *
 go_enter Tryz.func118,Tryz.ntmps118;go_wp2_with fail
 refine (szIns_any _ _ (left) _ (RdL.later L0 h0) (by omega) (by omega)).mono ?_;rintro e w1 ⟨rfl,l1⟩;by_cases q0:((In.szs x.slots:Nat):Int)≤left
 ·rw[szR_pos q0];have n0:¬ left - ((In.szs x.slots:Nat):Int)<0:=by omega
  go_wp2_with fail
  go_ret;exact⟨ret_int (by rw[szR_pos (by omega)];first|done|omega),(L0.trans l1)⟩
 ·rw[szR_neg q0];go_wp2_with fail
  go_ret;exact⟨ret_int (by rw[szR_neg (by omega)]),(L0.trans l1)⟩
theorem szMas_any (v:Value) (l:List Ma) (left:Int) (w:World) (h:RdL w 2 v (Ma.dats l)) (hl0:0≤left) (hl1:left≤1048576) :
  Calls Tryz.prog 74 #[v,.int .i64 left] w fun e w'=>e=.returned (.int .i64 (szR left (Ma.szs l)))∧Later w w':=by
 obtain⟨a,cap,rfl,hl⟩:=Ma.slice h;by_cases hc:(l.length:Int)≤left
 ·have hn:¬ left - (l.length:Int)<0:=by omega
  have r1:-9223372036854775808≤left - (l.length:Int):=by omega
  have r2:left - (l.length:Int)≤9223372036854775807:=by omega
  go_enter Tryz.func74,Tryz.ntmps74;go_wp2_with fail
  go_loopw [1,5] (fun lf i wr=>∃ k:Nat,lf=.int .i64 (left - (l.length:Int) - (Ma.pre l k:Nat))∧i=.int .i64 (k:Int)∧k≤l.length∧0≤left - (l.length:Int) - (Ma.pre l k:Nat)∧Later w wr) (fun _ i _=>l.length - (intOf i).toNat)
  case atStart=>exact⟨0,by rw[Ma.pre_zero];simp,rfl,Nat.zero_le _,by rw[Ma.pre_zero];simp;omega,Later.refl _⟩
  case round =>
   obtain⟨k,rfl,rfl,hk,hp,lr⟩:=hrel;by_cases hlt:k<l.length
   ·obtain⟨g,off,v0,rfl,hg,c0,c1,r0⟩:=Ma.elem (RdL.later lr h) k hlt;have i1:(k:Int)<(l.length:Int):=by omega
    have hE:=szMa_any l[k] v0 (left - (l.length:Int) - (Ma.pre l k:Nat)) wr r0 hp (by omega);have hps:=Ma.pre_succ hlt;have HP:Hid (Ma.pre l (k+1)=Ma.pre l k+l[k].sz):=hps;have hall:=Ma.pre_le l (k+1) (by omega);clear hps r0
    generalize l[k].sz=S at *
    generalize l[k].pc=z_pc at *
    go_wp2_with fail
    refine hE.mono ?_;rintro e w1 ⟨rfl,l1⟩;by_cases q:((S:Nat):Int)≤left - (l.length:Int) - (Ma.pre l k:Nat)
    ·rw[szR_pos q];have n1:¬ left - (l.length:Int) - (Ma.pre l k:Nat) - (S:Nat)<0:=by omega
     go_wp2_with fail
     go_roundw
     case rel=>exact⟨k+1,by rw[HP.out];go_num,by go_num,by omega,by rw[HP.out];omega,lr.trans l1⟩
     case measure=>simp[intOf];omega
    ·rw[szR_neg q];go_wp2_with fail
     go_ret;exact⟨ret_int (by rw[szR_neg];rw[HP.out]at hall;omega),lr.trans l1⟩
   ·have i1:¬ (k:Int)<(l.length:Int):=by omega
    have i2:decide ((k:Int)<(l.length:Int))=false:=decide_eq_false i1;have hkk:k=l.length:=by omega
    have hall:=Ma.pre_all l;subst hkk;go_wp2_with fail
    go_ret;exact⟨ret_int (by rw[szR_pos (by omega)];first|done|omega),lr⟩
 ·have hn:left - (l.length:Int)<0:=by omega
  have r1:-9223372036854775808≤left - (l.length:Int):=by omega
  have r2:left - (l.length:Int)≤9223372036854775807:=by omega
  have hge:=Ma.szs_ge l;go_enter Tryz.func74,Tryz.ntmps74;go_wp2_with fail
  go_ret;exact⟨ret_int (by rw[szR_neg (by omega)]),Later.refl _⟩
theorem szCd_any (x:Cd) (v0 v1:Value) (left:Int) (w:World) (h0:RdL w 5 v0 (Is.dats x.ins)) (h1:RdL w 2 v1 (Ma.dats x.maps)) (hl0:0≤left) (hl1:left≤1048576) :
  Calls Tryz.prog 43 #[.agg #[.int .i64 x.frame,.int .i64 x.params,v0,v1],.int .i64 left] w fun e w'=>e=.returned (.int .i64 (szR left x.sz))∧Later w w':=by
 have L0:=later1 w (.cells #[.int .i64 x.frame,.int .i64 x.params,v0,v1] 92);have hsz:x.sz=Is.szs x.ins+Ma.szs x.maps:=by obtain⟨frame,params,ins,maps⟩:=x;rfl
 rw[hsz];obtain⟨a0,p0,rfl,_⟩:=Is.slice h0;obtain⟨a1,p1,rfl,_⟩:=Ma.slice h1;clear hsz
 generalize x.frame=z_frame at *
 generalize x.params=z_params at *
 go_enter Tryz.func43,Tryz.ntmps43;go_wp2_with fail
 refine (szIss_any _ _ (left) _ (RdL.later L0 h0) (by omega) (by omega)).mono ?_;rintro e w1 ⟨rfl,l1⟩;by_cases q0:((Is.szs x.ins:Nat):Int)≤left
 ·rw[szR_pos q0];have n0:¬ left - ((Is.szs x.ins:Nat):Int)<0:=by omega
  have bx1:w1.cell? ⟨w.heap.size,3,none⟩=some (.slice a1 x.maps.length p1):=by rw[Below.cell (l1) (p:=⟨w.heap.size,3,none⟩) (by simp)];simp
  go_wp2_with fail
  refine (szMas_any _ _ (left - ((Is.szs x.ins:Nat):Int)) _ (RdL.later (L0.trans l1) h1) (by omega) (by omega)).mono ?_;rintro e w2 ⟨rfl,l2⟩;by_cases q1:((Ma.szs x.maps:Nat):Int)≤left - ((Is.szs x.ins:Nat):Int)
  ·rw[szR_pos q1];have n1:¬ left - ((Is.szs x.ins:Nat):Int) - ((Ma.szs x.maps:Nat):Int)<0:=by omega
   go_wp2_with fail
   go_ret;exact⟨ret_int (by rw[szR_pos (by omega)];first|done|omega),((L0.trans l1).trans l2)⟩
  ·rw[szR_neg q1];go_wp2_with fail
   go_ret;exact⟨ret_int (by rw[szR_neg (by omega)]),((L0.trans l1).trans l2)⟩
 ·rw[szR_neg q0];go_wp2_with fail
  go_ret;exact⟨ret_int (by rw[szR_neg (by omega)]),(L0.trans l1)⟩
theorem szCds_any (v:Value) (l:List Cd) (left:Int) (w:World) (h:RdL w 4 v (Cd.dats l)) (hl0:0≤left) (hl1:left≤1048576) :
  Calls Tryz.prog 18 #[v,.int .i64 left] w fun e w'=>e=.returned (.int .i64 (szR left (Cd.szs l)))∧Later w w':=by
 obtain⟨a,cap,rfl,hl⟩:=Cd.slice h;by_cases hc:(l.length:Int)≤left
 ·have hn:¬ left - (l.length:Int)<0:=by omega
  have r1:-9223372036854775808≤left - (l.length:Int):=by omega
  have r2:left - (l.length:Int)≤9223372036854775807:=by omega
  go_enter Tryz.func18,Tryz.ntmps18;go_wp2_with fail
  go_loopw [1,5] (fun lf i wr=>∃ k:Nat,lf=.int .i64 (left - (l.length:Int) - (Cd.pre l k:Nat))∧i=.int .i64 (k:Int)∧k≤l.length∧0≤left - (l.length:Int) - (Cd.pre l k:Nat)∧Later w wr) (fun _ i _=>l.length - (intOf i).toNat)
  case atStart=>exact⟨0,by rw[Cd.pre_zero];simp,rfl,Nat.zero_le _,by rw[Cd.pre_zero];simp;omega,Later.refl _⟩
  case round =>
   obtain⟨k,rfl,rfl,hk,hp,lr⟩:=hrel;by_cases hlt:k<l.length
   ·obtain⟨g,off,v0,v1,rfl,hg,c0,c1,c2,c3,r0,r1⟩:=Cd.elem (RdL.later lr h) k hlt;have i1:(k:Int)<(l.length:Int):=by omega
    have hE:=szCd_any l[k] v0 v1 (left - (l.length:Int) - (Cd.pre l k:Nat)) wr r0 r1 hp (by omega);have hps:=Cd.pre_succ hlt;have HP:Hid (Cd.pre l (k+1)=Cd.pre l k+l[k].sz):=hps;have hall:=Cd.pre_le l (k+1) (by omega);clear hps r0 r1
    generalize l[k].sz=S at *
    generalize l[k].frame=z_frame at *
    generalize l[k].params=z_params at *
    go_wp2_with fail
    refine hE.mono ?_;rintro e w1 ⟨rfl,l1⟩;by_cases q:((S:Nat):Int)≤left - (l.length:Int) - (Cd.pre l k:Nat)
    ·rw[szR_pos q];have n1:¬ left - (l.length:Int) - (Cd.pre l k:Nat) - (S:Nat)<0:=by omega
     go_wp2_with fail
     go_roundw
     case rel=>exact⟨k+1,by rw[HP.out];go_num,by go_num,by omega,by rw[HP.out];omega,lr.trans l1⟩
     case measure=>simp[intOf];omega
    ·rw[szR_neg q];go_wp2_with fail
     go_ret;exact⟨ret_int (by rw[szR_neg];rw[HP.out]at hall;omega),lr.trans l1⟩
   ·have i1:¬ (k:Int)<(l.length:Int):=by omega
    have i2:decide ((k:Int)<(l.length:Int))=false:=decide_eq_false i1;have hkk:k=l.length:=by omega
    have hall:=Cd.pre_all l;subst hkk;go_wp2_with fail
    go_ret;exact⟨ret_int (by rw[szR_pos (by omega)];first|done|omega),lr⟩
 ·have hn:left - (l.length:Int)<0:=by omega
  have r1:-9223372036854775808≤left - (l.length:Int):=by omega
  have r2:left - (l.length:Int)≤9223372036854775807:=by omega
  have hge:=Cd.szs_ge l;go_enter Tryz.func18,Tryz.ntmps18;go_wp2_with fail
  go_ret;exact⟨ret_int (by rw[szR_neg (by omega)]),Later.refl _⟩
theorem szIm_any (x:Im) (v0 v1:Value) (left:Int) (w:World) (h0:RdL w 1 v0 (Bs.dats x.structs)) (h1:RdL w 4 v1 (Cd.dats x.codes)) (hl0:0≤left) (hl1:left≤1048576) :
  Calls Tryz.prog 4 #[.agg #[v0,v1,.int .i64 x.main],.int .i64 left] w fun e w'=>e=.returned (.int .i64 (szR left x.sz))∧Later w w':=by
 have L0:=later1 w (.cells #[v0,v1,.int .i64 x.main] 25);have hsz:x.sz=Bs.szs x.structs+Cd.szs x.codes:=by obtain⟨structs,codes,main⟩:=x;rfl
 rw[hsz];obtain⟨a0,p0,rfl,_⟩:=Bs.slice h0;obtain⟨a1,p1,rfl,_⟩:=Cd.slice h1;clear hsz
 generalize x.main=z_main at *
 go_enter Tryz.func4,Tryz.ntmps4;go_wp2_with fail
 refine (szBss_any _ _ (left) _ (RdL.later L0 h0) (by omega) (by omega)).mono ?_;rintro e w1 ⟨rfl,l1⟩;by_cases q0:((Bs.szs x.structs:Nat):Int)≤left
 ·rw[szR_pos q0];have n0:¬ left - ((Bs.szs x.structs:Nat):Int)<0:=by omega
  have bx1:w1.cell? ⟨w.heap.size,1,none⟩=some (.slice a1 x.codes.length p1):=by rw[Below.cell (l1) (p:=⟨w.heap.size,1,none⟩) (by simp)];simp
  go_wp2_with fail
  refine (szCds_any _ _ (left - ((Bs.szs x.structs:Nat):Int)) _ (RdL.later (L0.trans l1) h1) (by omega) (by omega)).mono ?_;rintro e w2 ⟨rfl,l2⟩;by_cases q1:((Cd.szs x.codes:Nat):Int)≤left - ((Bs.szs x.structs:Nat):Int)
  ·rw[szR_pos q1];have n1:¬ left - ((Bs.szs x.structs:Nat):Int) - ((Cd.szs x.codes:Nat):Int)<0:=by omega
   go_wp2_with fail
   go_ret;exact⟨ret_int (by rw[szR_pos (by omega)];first|done|omega),((L0.trans l1).trans l2)⟩
  ·rw[szR_neg q1];go_wp2_with fail
   go_ret;exact⟨ret_int (by rw[szR_neg (by omega)]),((L0.trans l1).trans l2)⟩
 ·rw[szR_neg q0];go_wp2_with fail
  go_ret;exact⟨ret_int (by rw[szR_neg (by omega)]),(L0.trans l1)⟩
theorem Bs.own {w:World}{x:Bs}{u0:Value}{F0:List Nat}(h0:OwnD w (.list 1 (Bo.dats x.l)) [u0] F0):OwnD w x.dat [u0] (F0):=by
 obtain⟨l⟩:=x;rw[Bs.dat,OwnD];rw[OwnAgg];refine⟨[_],_,F0,[],rfl,(List.append_nil _).symm,h0,?_⟩;rw[OwnAgg];exact⟨rfl,rfl⟩
theorem Tryz.info3:(Tryz.prog.info? 3).map (fun i=>(i.zero,i.size,i.bytes))=some (some (.int .i64 0),1,8):=by kernel_rfl
theorem toIns_any (v:Value) (l:List In) (w:World) (h:RdL w 1 v (In.dats l)) (hM:In.szs l≤1048576) :
  Calls Tryz.prog 27 #[v] w fun e w'=>∃ a c F,e=.returned (.slice a l.length c)∧Own w.heap.size w' (.list 1 (In.dats l)) [.slice a l.length c] F∧Later w w':=by
 obtain⟨a,cap,rfl,hl⟩:=In.slice h;have hln:l.length≤1048576:=hM;obtain⟨i0,hi,hz0,hz1,hz2⟩:=info_parts Tryz.info3;go_enter Tryz.func27,Tryz.ntmps27;go_wp2_with (at_make;refine wpList_make_full _ rfl _ _ 26 rfl w.heap.size 3 i0 (.int .i64 0) 1 Tryz.underlying26 hi hz0 hz1 .i64 .i64 _ _ l.length rfl rfl rfl rfl (by rw[hz2];omega) (by unfold maxLen;omega) (Nat.le_refl _) ?_;intro w1 hown hgr)
 have hlat1:Later w w1:=(Below.refl _ _).grown hgr (Nat.le_refl _) (fun k h=>by cases h);have hrow:Row w w1 1 l.length 0 (In.dats l) []:=Row.start hown hown.1 hlat1 _;clear hown hgr hi hz0 hz1 hz2;go_loopw [4] (fun i wr=>∃ (j:Nat) (F:List Nat),i=.int .i64 (j:Int)∧j≤l.length∧Row w wr 1 l.length j (In.dats l) F) (fun i _=>l.length - (intOf i).toNat)
 case atStart=>exact⟨0,[],rfl,Nat.zero_le _,hrow⟩
 case round =>
  obtain⟨k,F,rfl,hk,hR⟩:=hrel;by_cases hlt:k<l.length
  ·obtain⟨g,off,rfl,hg,c0⟩:=In.elem (RdL.later hR.later h) k hlt;have i1:(k:Int)<(l.length:Int):=by omega
   have HD:(In.dats l)[k]'(by rw[In.dats_len];exact hlt)=.int l[k]:=List.getElem_map ..
   obtain⟨F',hN'⟩:=Row.next hR (by rw[In.dats_len];exact hlt) (In.dats_len l) (cs:=[.int .i64 l[k]]) (G:=[]) rfl (by rw[HD];exact Own.mk' (by rw[OwnD];exact⟨rfl,rfl⟩) (Fr.nil _ _)) (Later.refl _)
   obtain⟨⟨y0,e0⟩,f0⟩:=hR.at hlt 0 (by decide);rw[Nat.mul_one]at hN' e0 f0;rw[Nat.add_zero]at e0 f0;have hN2:Row w (wr.setCell ⟨w.heap.size,k,none⟩ (.int .i64 l[k])) 1 l.length (k+1) (In.dats l) F':=hN'
   generalize l[k]=z at *
   clear hR h hrow HD hN';go_wp2_with fail
   go_roundw
   case rel=>exact⟨k+1,F',by go_num,by omega,hN2⟩
   case measure=>simp[intOf];omega
  ·have i1:¬ (k:Int)<(l.length:Int):=by omega
   have i2:decide ((k:Int)<(l.length:Int))=false:=decide_eq_false i1;have hkk:k=l.length:=by omega
   subst hkk;obtain⟨G,hG⟩:=hR.done (cap:=l.length) (In.dats_len l) hln ⟨Nat.le_refl _,by unfold maxLen;omega⟩;have lr:=hR.later;clear hR h hrow;go_wp2_with fail
   go_ret;exact⟨_,_,rfl,⟨G,hG⟩,lr⟩
theorem Tryz.info4:(Tryz.prog.info? 4).map (fun i=>(i.zero,i.size,i.bytes))=some (some (.bool false),1,1):=by kernel_rfl
theorem toBos_any (v:Value) (l:List Bo) (w:World) (h:RdL w 1 v (Bo.dats l)) (hM:Bo.szs l≤1048576) :
  Calls Tryz.prog 54 #[v] w fun e w'=>∃ a c F,e=.returned (.slice a l.length c)∧Own w.heap.size w' (.list 1 (Bo.dats l)) [.slice a l.length c] F∧Later w w':=by
 obtain⟨a,cap,rfl,hl⟩:=Bo.slice h;have hln:l.length≤1048576:=hM;obtain⟨i0,hi,hz0,hz1,hz2⟩:=info_parts Tryz.info4;go_enter Tryz.func54,Tryz.ntmps54;go_wp2_with (at_make;refine wpList_make_full _ rfl _ _ 54 rfl w.heap.size 4 i0 (.bool false) 1 Tryz.underlying54 hi hz0 hz1 .i64 .i64 _ _ l.length rfl rfl rfl rfl (by rw[hz2];omega) (by unfold maxLen;omega) (Nat.le_refl _) ?_;intro w1 hown hgr)
 have hlat1:Later w w1:=(Below.refl _ _).grown hgr (Nat.le_refl _) (fun k h=>by cases h);have hrow:Row w w1 1 l.length 0 (Bo.dats l) []:=Row.start hown hown.1 hlat1 _;clear hown hgr hi hz0 hz1 hz2;go_loopw [4] (fun i wr=>∃ (j:Nat) (F:List Nat),i=.int .i64 (j:Int)∧j≤l.length∧Row w wr 1 l.length j (Bo.dats l) F) (fun i _=>l.length - (intOf i).toNat)
 case atStart=>exact⟨0,[],rfl,Nat.zero_le _,hrow⟩
 case round =>
  obtain⟨k,F,rfl,hk,hR⟩:=hrel;by_cases hlt:k<l.length
  ·obtain⟨g,off,rfl,hg,c0⟩:=Bo.elem (RdL.later hR.later h) k hlt;have i1:(k:Int)<(l.length:Int):=by omega
   have HD:(Bo.dats l)[k]'(by rw[Bo.dats_len];exact hlt)=.bool l[k]:=List.getElem_map ..
   obtain⟨F',hN'⟩:=Row.next hR (by rw[Bo.dats_len];exact hlt) (Bo.dats_len l) (cs:=[.bool l[k]]) (G:=[]) rfl (by rw[HD];exact Own.mk' (by rw[OwnD];exact⟨rfl,rfl⟩) (Fr.nil _ _)) (Later.refl _)
   obtain⟨⟨y0,e0⟩,f0⟩:=hR.at hlt 0 (by decide);rw[Nat.mul_one]at hN' e0 f0;rw[Nat.add_zero]at e0 f0;have hN2:Row w (wr.setCell ⟨w.heap.size,k,none⟩ (.bool l[k])) 1 l.length (k+1) (Bo.dats l) F':=hN'
   generalize l[k]=z at *
   clear hR h hrow HD hN';go_wp2_with fail
   go_roundw
   case rel=>exact⟨k+1,F',by go_num,by omega,hN2⟩
   case measure=>simp[intOf];omega
  ·have i1:¬ (k:Int)<(l.length:Int):=by omega
   have i2:decide ((k:Int)<(l.length:Int))=false:=decide_eq_false i1;have hkk:k=l.length:=by omega
   subst hkk;obtain⟨G,hG⟩:=hR.done (cap:=l.length) (Bo.dats_len l) hln ⟨Nat.le_refl _,by unfold maxLen;omega⟩;have lr:=hR.later;clear hR h hrow;go_wp2_with fail
   go_ret;exact⟨_,_,rfl,⟨G,hG⟩,lr⟩
theorem Is.own (w:World) (p:Is):OwnD w (Is.dat p) [.int .i64 p.op,.int .i64 p.a,.int .i64 p.b,.int .i64 p.c,.int .i64 p.n] []:=by
 unfold Is.dat;rw[OwnD,OwnAgg];refine⟨[_],_,[],[],rfl,rfl,by rw[OwnD];exact⟨rfl,rfl⟩,?_⟩;rw[OwnAgg];refine⟨[_],_,[],[],rfl,rfl,by rw[OwnD];exact⟨rfl,rfl⟩,?_⟩;rw[OwnAgg];refine⟨[_],_,[],[],rfl,rfl,by rw[OwnD];exact⟨rfl,rfl⟩,?_⟩;rw[OwnAgg];refine⟨[_],_,[],[],rfl,rfl,by rw[OwnD];exact⟨rfl,rfl⟩,?_⟩;rw[OwnAgg];refine⟨[_],_,[],[],rfl,rfl,by rw[OwnD];exact⟨rfl,rfl⟩,?_⟩;rw[OwnAgg];exact⟨rfl,rfl⟩
theorem toIs_any (p:Is) (w:World):Calls Tryz.prog 124 #[.agg #[.int .i64 p.op,.int .i64 p.a,.int .i64 p.b,.int .i64 p.c,.int .i64 p.n]] w fun e w'=>e=.returned (.agg #[.int .i64 p.op,.int .i64 p.a,.int .i64 p.b,.int .i64 p.c,.int .i64 p.n])∧Later w w':=by
 obtain⟨p0,p1,p2,p3,p4⟩:=p;go_enter Tryz.func124,Tryz.ntmps124;go_wp2
 exact bodyPost_ret (v:=.agg #[.int .i64 p0,.int .i64 p1,.int .i64 p2,.int .i64 p3,.int .i64 p4]) (by simp[results,Tryz.results124,go_sem]) rfl ⟨rfl,later3 _ _ _ _⟩
theorem Tryz.info97:(Tryz.prog.info? 97).map (fun i=>(i.zero,i.size,i.bytes))=some (some (.agg #[.int .i64 0,.int .i64 0,.int .i64 0,.int .i64 0,.int .i64 0]),5,40):=by kernel_rfl
theorem toIss_any (v:Value) (l:List Is) (w:World) (h:RdL w 5 v (Is.dats l)) (hM:Is.szs l≤1048576) :
  Calls Tryz.prog 85 #[v] w fun e w'=>∃ a c F,e=.returned (.slice a l.length c)∧Own w.heap.size w' (.list 5 (Is.dats l)) [.slice a l.length c] F∧Later w w':=by
 obtain⟨a,cap,rfl,hl⟩:=Is.slice h;have hln:l.length≤1048576:=hM;obtain⟨i0,hi,hz0,hz1,hz2⟩:=info_parts Tryz.info97;go_enter Tryz.func85,Tryz.ntmps85;go_wp2_with (at_make;refine wpList_make_full _ rfl _ _ 58 rfl w.heap.size 97 i0 (.agg #[.int .i64 0,.int .i64 0,.int .i64 0,.int .i64 0,.int .i64 0]) 5 Tryz.underlying58 hi hz0 hz1 .i64 .i64 _ _ l.length rfl rfl rfl rfl (by rw[hz2];omega) (by unfold maxLen;omega) (Nat.le_refl _) ?_;intro w1 hown hgr)
 have hlat1:Later w w1:=(Below.refl _ _).grown hgr (Nat.le_refl _) (fun k h=>by cases h);have hrow:Row w w1 5 l.length 0 (Is.dats l) []:=Row.start hown hown.1 hlat1 _;clear hown hgr hi hz0 hz1 hz2;go_loopw [4] (fun i wr=>∃ (j:Nat) (F:List Nat),i=.int .i64 (j:Int)∧j≤l.length∧Row w wr 5 l.length j (Is.dats l) F) (fun i _=>l.length - (intOf i).toNat)
 case atStart=>exact⟨0,[],rfl,Nat.zero_le _,hrow⟩
 case round =>
  obtain⟨k,F,rfl,hk,hR⟩:=hrel;by_cases hlt:k<l.length
  ·obtain⟨g,off,rfl,hg,c0,c1,c2,c3,c4⟩:=Is.elem (RdL.later hR.later h) k hlt;have i1:(k:Int)<(l.length:Int):=by omega
   have HD:Hid ((Is.dats l)[k]'(by rw[Is.dats_len];exact hlt)=Is.dat l[k]):=List.getElem_map ..
   have hx:=toIs_any l[k] wr;have HO:Hid (∀ w2,OwnD w2 (Is.dat l[k]) [.int .i64 l[k].op,.int .i64 l[k].a,.int .i64 l[k].b,.int .i64 l[k].c,.int .i64 l[k].n] []):=fun w2=>Is.own w2 _;clear hrow hlat1
   generalize l[k].op=z_op at *
   generalize l[k].a=z_a at *
   generalize l[k].b=z_b at *
   generalize l[k].c=z_c at *
   generalize l[k].n=z_n at *
   go_wp2_with fail
   refine hx.mono ?_;rintro e w2 ⟨rfl,l2⟩;obtain⟨F',hN'⟩:=Row.next hR (by rw[Is.dats_len];exact hlt) (Is.dats_len l) (cs:=[.int .i64 z_op,.int .i64 z_a,.int .i64 z_b,.int .i64 z_c,.int .i64 z_n]) (G:=[]) rfl (by rw[HD.out];exact Own.mk' (HO.out _) (Fr.nil _ _)) l2
   have hlt2:=hR.lt;have e0:∃ u,w2.cell? ⟨w.heap.size,k*5,none⟩=some u:=by rw[Below.cell l2 (p:=⟨w.heap.size,k*5,none⟩) hlt2];exact (hR.at hlt 0 (by decide)).1
   obtain⟨y0,e0⟩:=e0;have f0:w2.frozen? ⟨w.heap.size,k*5,none⟩=false:=by rw[Below.frozen l2 (p:=⟨w.heap.size,k*5,none⟩) hlt2];exact (hR.at hlt 0 (by decide)).2
   have e1:∃ u,w2.cell? ⟨w.heap.size,k*5+1,none⟩=some u:=by rw[Below.cell l2 (p:=⟨w.heap.size,k*5+1,none⟩) hlt2];exact (hR.at hlt 1 (by decide)).1
   obtain⟨y1,e1⟩:=e1;have f1:w2.frozen? ⟨w.heap.size,k*5+1,none⟩=false:=by rw[Below.frozen l2 (p:=⟨w.heap.size,k*5+1,none⟩) hlt2];exact (hR.at hlt 1 (by decide)).2
   have e2:∃ u,w2.cell? ⟨w.heap.size,k*5+2,none⟩=some u:=by rw[Below.cell l2 (p:=⟨w.heap.size,k*5+2,none⟩) hlt2];exact (hR.at hlt 2 (by decide)).1
   obtain⟨y2,e2⟩:=e2;have f2:w2.frozen? ⟨w.heap.size,k*5+2,none⟩=false:=by rw[Below.frozen l2 (p:=⟨w.heap.size,k*5+2,none⟩) hlt2];exact (hR.at hlt 2 (by decide)).2
   have e3:∃ u,w2.cell? ⟨w.heap.size,k*5+3,none⟩=some u:=by rw[Below.cell l2 (p:=⟨w.heap.size,k*5+3,none⟩) hlt2];exact (hR.at hlt 3 (by decide)).1
   obtain⟨y3,e3⟩:=e3;have f3:w2.frozen? ⟨w.heap.size,k*5+3,none⟩=false:=by rw[Below.frozen l2 (p:=⟨w.heap.size,k*5+3,none⟩) hlt2];exact (hR.at hlt 3 (by decide)).2
   have e4:∃ u,w2.cell? ⟨w.heap.size,k*5+4,none⟩=some u:=by rw[Below.cell l2 (p:=⟨w.heap.size,k*5+4,none⟩) hlt2];exact (hR.at hlt 4 (by decide)).1
   obtain⟨y4,e4⟩:=e4;have f4:w2.frozen? ⟨w.heap.size,k*5+4,none⟩=false:=by rw[Below.frozen l2 (p:=⟨w.heap.size,k*5+4,none⟩) hlt2];exact (hR.at hlt 4 (by decide)).2
   clear hR h;go_wp2_with fail
   go_roundw
   case rel=>exact⟨k+1,F',by go_num,by omega,hN'⟩
   case measure=>simp[intOf];omega
  ·have i1:¬ (k:Int)<(l.length:Int):=by omega
   have i2:decide ((k:Int)<(l.length:Int))=false:=decide_eq_false i1;have hkk:k=l.length:=by omega
   subst hkk;obtain⟨G,hG⟩:=hR.done (cap:=l.length) (Is.dats_len l) hln ⟨Nat.le_refl _,by unfold maxLen;omega⟩;have lr:=hR.later;clear hR h hrow;go_wp2_with fail
   go_ret;exact⟨_,_,rfl,⟨G,hG⟩,lr⟩
theorem toBs_any (x:Bs) (v0:Value) (w:World) (h0:RdL w 1 v0 (Bo.dats x.l)) (hsz:x.sz≤1048576) :
  Calls Tryz.prog 54 #[v0] w fun e w'=>∃ b0 q0 F,e=.returned (.slice b0 x.l.length q0)∧Own w.heap.size w' x.dat [.slice b0 x.l.length q0] F∧Later w w':=by
 have hs:Bo.szs x.l≤1048576:=by obtain⟨l⟩:=x;exact hsz
 refine (toBos_any v0 x.l w h0 hs).mono ?_;rintro e w' ⟨a,c,F,rfl,hO,hl⟩;exact⟨a,c,F,rfl,Own.mk' (Bs.own hO.own) hO.fr,hl⟩
theorem Tryz.info54:(Tryz.prog.info? 54).map (fun i=>(i.zero,i.size,i.bytes))=some (some (.slice none 0 0),1,24):=by kernel_rfl
theorem toBss_any (v:Value) (l:List Bs) (w:World) (h:RdL w 1 v (Bs.dats l)) (hM:Bs.szs l≤1048576) :
  Calls Tryz.prog 25 #[v] w fun e w'=>∃ a c F,e=.returned (.slice a l.length c)∧Own w.heap.size w' (.list 1 (Bs.dats l)) [.slice a l.length c] F∧Later w w':=by
 obtain⟨a,cap,rfl,hl⟩:=Bs.slice h;have hge:=Bs.szs_ge l;have hln:l.length≤1048576:=by omega
 obtain⟨i0,hi,hz0,hz1,hz2⟩:=info_parts Tryz.info54;go_enter Tryz.func25,Tryz.ntmps25;go_wp2_with (at_make;refine wpList_make_full _ rfl _ _ 22 rfl w.heap.size 54 i0 (.slice none 0 0) 1 Tryz.underlying22 hi hz0 hz1 .i64 .i64 _ _ l.length rfl rfl rfl rfl (by rw[hz2];omega) (by unfold maxLen;omega) (Nat.le_refl _) ?_;intro w1 hown hgr)
 have hlat1:Later w w1:=(Below.refl _ _).grown hgr (Nat.le_refl _) (fun k h=>by cases h);have hrow:Row w w1 1 l.length 0 (Bs.dats l) []:=Row.start hown hown.1 hlat1 _;clear hown hgr hi hz0 hz1 hz2;go_loopw [4] (fun i wr=>∃ (j:Nat) (F:List Nat),i=.int .i64 (j:Int)∧j≤l.length∧Row w wr 1 l.length j (Bs.dats l) F) (fun i _=>l.length - (intOf i).toNat)
 case atStart=>exact⟨0,[],rfl,Nat.zero_le _,hrow⟩
 case round =>
  obtain⟨k,F,rfl,hk,hR⟩:=hrel;by_cases hlt:k<l.length
  ·obtain⟨g,off,v0,rfl,hg,c0,r0⟩:=Bs.elem (RdL.later hR.later h) k hlt;have i1:(k:Int)<(l.length:Int):=by omega
   rw[Nat.mul_one]at c0;obtain⟨a0,p0,rfl,_⟩:=Bo.slice r0;have hE:=toBs_any l[k] _ wr r0 (by have:=Bs.sz_at l k hlt;omega)
   have HD:Hid ((Bs.dats l)[k]'(by rw[Bs.dats_len];exact hlt)=l[k].dat):=Bs.dats_at l k hlt _
   clear r0 hrow hlat1;go_wp2_with fail
   refine hE.mono ?_;rintro e w2 ⟨b0,q0,G,rfl,hO,l2⟩;obtain⟨F',hN'⟩:=Row.next hR (by rw[Bs.dats_len];exact hlt) (Bs.dats_len l) rfl (by rw[HD.out];exact hO) l2
   have hlt2:=hR.lt;have e0:∃ u,w2.cell? ⟨w.heap.size,k*1,none⟩=some u:=by rw[Below.cell l2 (p:=⟨w.heap.size,k*1,none⟩) hlt2];exact (hR.at hlt 0 (by decide)).1
   obtain⟨y0,e0⟩:=e0;have f0:w2.frozen? ⟨w.heap.size,k*1,none⟩=false:=by rw[Below.frozen l2 (p:=⟨w.heap.size,k*1,none⟩) hlt2];exact (hR.at hlt 0 (by decide)).2
   rw[Nat.mul_one]at hN' e0 f0;clear hR hO hE h;go_wp2_with fail
   go_roundw
   case rel=>exact⟨k+1,F',by go_num,by omega,hN'⟩
   case measure=>simp[intOf];omega
  ·have i1:¬ (k:Int)<(l.length:Int):=by omega
   have i2:decide ((k:Int)<(l.length:Int))=false:=decide_eq_false i1;have hkk:k=l.length:=by omega
   subst hkk;obtain⟨G,hG⟩:=hR.done (cap:=l.length) (Bs.dats_len l) hln ⟨Nat.le_refl _,by unfold maxLen;omega⟩;have lr:=hR.later;clear hR h hrow;go_wp2_with fail
   go_ret;exact⟨_,_,rfl,⟨G,hG⟩,lr⟩
theorem Ma.own {w:World}{x:Ma}{u0:Value}{F0:List Nat}(h0:OwnD w (.list 1 (In.dats x.slots)) [u0] F0):OwnD w x.dat [.int .i64 x.pc,u0] (F0):=by
 obtain⟨pc,slots⟩:=x;rw[Ma.dat,OwnD];rw[OwnAgg];refine⟨[_],_,[],_,rfl,(List.nil_append _).symm,by rw[OwnD];exact⟨rfl,rfl⟩,?_⟩;rw[OwnAgg];refine⟨[_],_,F0,[],rfl,(List.append_nil _).symm,h0,?_⟩;rw[OwnAgg];exact⟨rfl,rfl⟩
theorem toMa_any (x:Ma) (v0:Value) (w:World) (h0:RdL w 1 v0 (In.dats x.slots)) (hsz:x.sz≤1048576) :
  Calls Tryz.prog 125 #[.agg #[.int .i64 x.pc,v0]] w fun e w'=>∃ b0 q0 F,e=.returned (.agg #[.int .i64 x.pc,.slice b0 x.slots.length q0])∧Own w.heap.size w' x.dat [.int .i64 x.pc,.slice b0 x.slots.length q0] F∧Later w w':=by
 have HO:Hid (∀ {w':World}{u0:Value}{F0:List Nat},OwnD w' (.list 1 (In.dats x.slots)) [u0] F0→OwnD w' x.dat [.int .i64 x.pc,u0] (F0)):=fun h0=>Ma.own h0;have hsum:x.sz=In.szs x.slots:=by obtain⟨pc,slots⟩:=x;rfl
 obtain⟨a0,p0,rfl,_⟩:=In.slice h0;have hs0:In.szs x.slots≤x.sz:=by rw[hsum];omega
 clear hsum
 generalize x.pc=z_pc at *
 go_enter Tryz.func125,Tryz.ntmps125;go_wp2_with fail
 refine (toIns_any _ _ _ (RdL.later (by repeat (first|with_reducible exact Later.refl _|refine Later.setAt ?_ (by omega) _ _|refine Later.alloc ?_ _)) h0) (by omega)).mono ?_;rintro e w1 ⟨b0,q0,G0,rfl,O0,l1⟩;have L1:Later w w1:=Later.trans (by repeat (first|with_reducible exact Later.refl _|refine Later.setAt ?_ (by omega) _ _|refine Later.alloc ?_ _)) l1;have z1:w.heap.size+1+1<w1.heap.size:=by have:=l1.size;simp at this;omega
 have y1:w.heap.size+1<w1.heap.size:=by omega
 have x1:w.heap.size<w1.heap.size:=by omega
 obtain⟨hc1,hf1⟩:=bcell l1;go_wp2_with fail
 refine bodyPost_ret (v:=.agg #[.int .i64 z_pc,.slice b0 x.slots.length q0]) (by simp[results,Tryz.results125,go_sem,hc1]) rfl ⟨b0,q0,_,rfl,Own.mk' (HO.out (O0.kept (by repeat (first|with_reducible exact Kept.refl _ _|refine Kept.setAt ?_ (by first|omega|(simp;done)|(simp;omega)) _ _)))) (O0.fr.mono (by first|omega|(simp;done)|(simp;omega)) (by first|omega|(simp;done)|(simp;omega))),(by repeat (first|with_reducible exact L1|refine Later.setAt ?_ (by omega) _ _|refine Later.alloc ?_ _))⟩
theorem Tryz.info136:(Tryz.prog.info? 136).map (fun i=>(i.zero,i.size,i.bytes))=some (some (.agg #[.int .i64 0,.slice none 0 0]),2,32):=by kernel_rfl
theorem toMas_any (v:Value) (l:List Ma) (w:World) (h:RdL w 2 v (Ma.dats l)) (hM:Ma.szs l≤1048576) :
  Calls Tryz.prog 86 #[v] w fun e w'=>∃ a c F,e=.returned (.slice a l.length c)∧Own w.heap.size w' (.list 2 (Ma.dats l)) [.slice a l.length c] F∧Later w w':=by
 obtain⟨a,cap,rfl,hl⟩:=Ma.slice h;have hge:=Ma.szs_ge l;have hln:l.length≤1048576:=by omega
 obtain⟨i0,hi,hz0,hz1,hz2⟩:=info_parts Tryz.info136;go_enter Tryz.func86,Tryz.ntmps86;go_wp2_with (at_make;refine wpList_make_full _ rfl _ _ 59 rfl w.heap.size 136 i0 (.agg #[.int .i64 0,.slice none 0 0]) 2 Tryz.underlying59 hi hz0 hz1 .i64 .i64 _ _ l.length rfl rfl rfl rfl (by rw[hz2];omega) (by unfold maxLen;omega) (Nat.le_refl _) ?_;intro w1 hown hgr)
 have hlat1:Later w w1:=(Below.refl _ _).grown hgr (Nat.le_refl _) (fun k h=>by cases h);have hrow:Row w w1 2 l.length 0 (Ma.dats l) []:=Row.start hown hown.1 hlat1 _;clear hown hgr hi hz0 hz1 hz2;go_loopw [4] (fun i wr=>∃ (j:Nat) (F:List Nat),i=.int .i64 (j:Int)∧j≤l.length∧Row w wr 2 l.length j (Ma.dats l) F) (fun i _=>l.length - (intOf i).toNat)
 case atStart=>exact⟨0,[],rfl,Nat.zero_le _,hrow⟩
 case round =>
  obtain⟨k,F,rfl,hk,hR⟩:=hrel;by_cases hlt:k<l.length
  ·obtain⟨g,off,v0,rfl,hg,c0,c1,r0⟩:=Ma.elem (RdL.later hR.later h) k hlt;have i1:(k:Int)<(l.length:Int):=by omega
   have hE:=toMa_any l[k] v0 wr r0 (by have:=Ma.sz_at l k hlt;omega)
   have HD:Hid ((Ma.dats l)[k]'(by rw[Ma.dats_len];exact hlt)=l[k].dat):=Ma.dats_at l k hlt _
   clear r0 hrow hlat1;go_wp2_with fail
   refine hE.mono ?_;rintro e w2 ⟨b0,q0,G,rfl,hO,l2⟩;obtain⟨F',hN'⟩:=Row.next hR (by rw[Ma.dats_len];exact hlt) (Ma.dats_len l) rfl (by rw[HD.out];exact hO) l2
   have hlt2:=hR.lt;have e0:∃ u,w2.cell? ⟨w.heap.size,k*2,none⟩=some u:=by rw[Below.cell l2 (p:=⟨w.heap.size,k*2,none⟩) hlt2];exact (hR.at hlt 0 (by decide)).1
   obtain⟨y0,e0⟩:=e0;have f0:w2.frozen? ⟨w.heap.size,k*2,none⟩=false:=by rw[Below.frozen l2 (p:=⟨w.heap.size,k*2,none⟩) hlt2];exact (hR.at hlt 0 (by decide)).2
   have e1:∃ u,w2.cell? ⟨w.heap.size,k*2+1,none⟩=some u:=by rw[Below.cell l2 (p:=⟨w.heap.size,k*2+1,none⟩) hlt2];exact (hR.at hlt 1 (by decide)).1
   obtain⟨y1,e1⟩:=e1;have f1:w2.frozen? ⟨w.heap.size,k*2+1,none⟩=false:=by rw[Below.frozen l2 (p:=⟨w.heap.size,k*2+1,none⟩) hlt2];exact (hR.at hlt 1 (by decide)).2
   clear hR hO hE h;go_wp2_with fail
   go_roundw
   case rel=>exact⟨k+1,F',by go_num,by omega,hN'⟩
   case measure=>simp[intOf];omega
  ·have i1:¬ (k:Int)<(l.length:Int):=by omega
   have i2:decide ((k:Int)<(l.length:Int))=false:=decide_eq_false i1;have hkk:k=l.length:=by omega
   subst hkk;obtain⟨G,hG⟩:=hR.done (cap:=l.length) (Ma.dats_len l) hln ⟨Nat.le_refl _,by unfold maxLen;omega⟩;have lr:=hR.later;clear hR h hrow;go_wp2_with fail
   go_ret;exact⟨_,_,rfl,⟨G,hG⟩,lr⟩
theorem Cd.own {w:World}{x:Cd}{u0 u1:Value}{F0 F1:List Nat}(h0:OwnD w (.list 5 (Is.dats x.ins)) [u0] F0) (h1:OwnD w (.list 2 (Ma.dats x.maps)) [u1] F1):OwnD w x.dat [.int .i64 x.frame,.int .i64 x.params,u0,u1] (F0++(F1)):=by
 obtain⟨frame,params,ins,maps⟩:=x;rw[Cd.dat,OwnD];rw[OwnAgg];refine⟨[_],_,[],_,rfl,(List.nil_append _).symm,by rw[OwnD];exact⟨rfl,rfl⟩,?_⟩;rw[OwnAgg];refine⟨[_],_,[],_,rfl,(List.nil_append _).symm,by rw[OwnD];exact⟨rfl,rfl⟩,?_⟩;rw[OwnAgg];refine⟨[_],_,F0,_,rfl,rfl,h0,?_⟩;rw[OwnAgg];refine⟨[_],_,F1,[],rfl,(List.append_nil _).symm,h1,?_⟩;rw[OwnAgg];exact⟨rfl,rfl⟩
theorem toCd_any (x:Cd) (v0 v1:Value) (w:World) (h0:RdL w 5 v0 (Is.dats x.ins)) (h1:RdL w 2 v1 (Ma.dats x.maps)) (hsz:x.sz≤1048576) :
  Calls Tryz.prog 55 #[.agg #[.int .i64 x.frame,.int .i64 x.params,v0,v1]] w fun e w'=>∃ b0 q0 b1 q1 F,e=.returned (.agg #[.int .i64 x.frame,.int .i64 x.params,.slice b0 x.ins.length q0,.slice b1 x.maps.length q1])∧Own w.heap.size w' x.dat [.int .i64 x.frame,.int .i64 x.params,.slice b0 x.ins.length q0,.slice b1 x.maps.length q1] F∧Later w w':=by
 have HO:Hid (∀ {w':World}{u0 u1:Value}{F0 F1:List Nat},OwnD w' (.list 5 (Is.dats x.ins)) [u0] F0→OwnD w' (.list 2 (Ma.dats x.maps)) [u1] F1→OwnD w' x.dat [.int .i64 x.frame,.int .i64 x.params,u0,u1] (F0++(F1))):=fun h0 h1=>Cd.own h0 h1;have hsum:x.sz=Is.szs x.ins+Ma.szs x.maps:=by obtain⟨frame,params,ins,maps⟩:=x;rfl
 obtain⟨a0,p0,rfl,_⟩:=Is.slice h0;have hs0:Is.szs x.ins≤x.sz:=by rw[hsum];omega
 obtain⟨a1,p1,rfl,_⟩:=Ma.slice h1;have hs1:Ma.szs x.maps≤x.sz:=by rw[hsum];omega
 clear hsum
 generalize x.frame=z_frame at *
 generalize x.params=z_params at *
 go_enter Tryz.func55,Tryz.ntmps55;go_wp2_with fail
 refine (toIss_any _ _ _ (RdL.later (by repeat (first|with_reducible exact Later.refl _|refine Later.setAt ?_ (by omega) _ _|refine Later.alloc ?_ _)) h0) (by omega)).mono ?_;rintro e w1 ⟨b0,q0,G0,rfl,O0,l1⟩;have L1:Later w w1:=Later.trans (by repeat (first|with_reducible exact Later.refl _|refine Later.setAt ?_ (by omega) _ _|refine Later.alloc ?_ _)) l1;have z1:w.heap.size+1+1<w1.heap.size:=by have:=l1.size;simp at this;omega
 have y1:w.heap.size+1<w1.heap.size:=by omega
 have x1:w.heap.size<w1.heap.size:=by omega
 obtain⟨hc1,hf1⟩:=bcell l1;go_wp2_with fail
 refine (toMas_any _ _ _ (RdL.later (by repeat (first|with_reducible exact L1|refine Later.setAt ?_ (by omega) _ _|refine Later.alloc ?_ _)) h1) (by omega)).mono ?_;rintro e w2 ⟨b1,q1,G1,rfl,O1,l2⟩;have L2:Later w w2:=Later.trans (by repeat (first|with_reducible exact L1|refine Later.setAt ?_ (by omega) _ _|refine Later.alloc ?_ _)) l2;have z2:w.heap.size+1+1<w2.heap.size:=by have:=l2.size;simp at this;omega
 have y2:w.heap.size+1<w2.heap.size:=by omega
 have x2:w.heap.size<w2.heap.size:=by omega
 obtain⟨hc2,hf2⟩:=bcell l2;have s2:w1.heap.size≤w2.heap.size:=by have:=l2.size;simp at this;omega
 go_wp2_with fail
 refine bodyPost_ret (v:=.agg #[.int .i64 z_frame,.int .i64 z_params,.slice b0 x.ins.length q0,.slice b1 x.maps.length q1]) (by simp[results,Tryz.results55,go_sem,hc1,y1,hc2]) rfl ⟨b0,q0,b1,q1,_,rfl,Own.mk' (HO.out (O0.kept (by repeat (first|with_reducible exact Kept.refl _ _|refine Kept.setAt ?_ (by first|omega|(simp;done)|(simp;omega)) _ _|refine Kept.later ?_ l2))) (O1.kept (by repeat (first|with_reducible exact Kept.refl _ _|refine Kept.setAt ?_ (by first|omega|(simp;done)|(simp;omega)) _ _)))) (Fr.app (mid:=w1.heap.size) (O0.fr.mono (by first|omega|(simp;done)|(simp;omega)) (by first|omega|(simp;done)|(simp;omega))) (O1.fr.mono (by first|omega|(simp;done)|(simp;omega)) (by first|omega|(simp;done)|(simp;omega))) (by first|omega|(simp;done)|(simp;omega)) (by first|omega|(simp;done)|(simp;omega))),(by repeat (first|with_reducible exact L2|refine Later.setAt ?_ (by omega) _ _|refine Later.alloc ?_ _))⟩
theorem Tryz.info61:(Tryz.prog.info? 61).map (fun i=>(i.zero,i.size,i.bytes))=some (some (.agg #[.int .i64 0,.int .i64 0,.slice none 0 0,.slice none 0 0]),4,64):=by kernel_rfl
theorem toCds_any (v:Value) (l:List Cd) (w:World) (h:RdL w 4 v (Cd.dats l)) (hM:Cd.szs l≤1048576) :
  Calls Tryz.prog 26 #[v] w fun e w'=>∃ a c F,e=.returned (.slice a l.length c)∧Own w.heap.size w' (.list 4 (Cd.dats l)) [.slice a l.length c] F∧Later w w':=by
 obtain⟨a,cap,rfl,hl⟩:=Cd.slice h;have hge:=Cd.szs_ge l;have hln:l.length≤1048576:=by omega
 obtain⟨i0,hi,hz0,hz1,hz2⟩:=info_parts Tryz.info61;go_enter Tryz.func26,Tryz.ntmps26;go_wp2_with (at_make;refine wpList_make_full _ rfl _ _ 35 rfl w.heap.size 61 i0 (.agg #[.int .i64 0,.int .i64 0,.slice none 0 0,.slice none 0 0]) 4 Tryz.underlying35 hi hz0 hz1 .i64 .i64 _ _ l.length rfl rfl rfl rfl (by rw[hz2];omega) (by unfold maxLen;omega) (Nat.le_refl _) ?_;intro w1 hown hgr)
 have hlat1:Later w w1:=(Below.refl _ _).grown hgr (Nat.le_refl _) (fun k h=>by cases h);have hrow:Row w w1 4 l.length 0 (Cd.dats l) []:=Row.start hown hown.1 hlat1 _;clear hown hgr hi hz0 hz1 hz2;go_loopw [4] (fun i wr=>∃ (j:Nat) (F:List Nat),i=.int .i64 (j:Int)∧j≤l.length∧Row w wr 4 l.length j (Cd.dats l) F) (fun i _=>l.length - (intOf i).toNat)
 case atStart=>exact⟨0,[],rfl,Nat.zero_le _,hrow⟩
 case round =>
  obtain⟨k,F,rfl,hk,hR⟩:=hrel;by_cases hlt:k<l.length
  ·obtain⟨g,off,v0,v1,rfl,hg,c0,c1,c2,c3,r0,r1⟩:=Cd.elem (RdL.later hR.later h) k hlt;have i1:(k:Int)<(l.length:Int):=by omega
   have hE:=toCd_any l[k] v0 v1 wr r0 r1 (by have:=Cd.sz_at l k hlt;omega)
   have HD:Hid ((Cd.dats l)[k]'(by rw[Cd.dats_len];exact hlt)=l[k].dat):=Cd.dats_at l k hlt _
   clear r0 r1 hrow hlat1;go_wp2_with fail
   refine hE.mono ?_;rintro e w2 ⟨b0,q0,b1,q1,G,rfl,hO,l2⟩;obtain⟨F',hN'⟩:=Row.next hR (by rw[Cd.dats_len];exact hlt) (Cd.dats_len l) rfl (by rw[HD.out];exact hO) l2
   have hlt2:=hR.lt;have e0:∃ u,w2.cell? ⟨w.heap.size,k*4,none⟩=some u:=by rw[Below.cell l2 (p:=⟨w.heap.size,k*4,none⟩) hlt2];exact (hR.at hlt 0 (by decide)).1
   obtain⟨y0,e0⟩:=e0;have f0:w2.frozen? ⟨w.heap.size,k*4,none⟩=false:=by rw[Below.frozen l2 (p:=⟨w.heap.size,k*4,none⟩) hlt2];exact (hR.at hlt 0 (by decide)).2
   have e1:∃ u,w2.cell? ⟨w.heap.size,k*4+1,none⟩=some u:=by rw[Below.cell l2 (p:=⟨w.heap.size,k*4+1,none⟩) hlt2];exact (hR.at hlt 1 (by decide)).1
   obtain⟨y1,e1⟩:=e1;have f1:w2.frozen? ⟨w.heap.size,k*4+1,none⟩=false:=by rw[Below.frozen l2 (p:=⟨w.heap.size,k*4+1,none⟩) hlt2];exact (hR.at hlt 1 (by decide)).2
   have e2:∃ u,w2.cell? ⟨w.heap.size,k*4+2,none⟩=some u:=by rw[Below.cell l2 (p:=⟨w.heap.size,k*4+2,none⟩) hlt2];exact (hR.at hlt 2 (by decide)).1
   obtain⟨y2,e2⟩:=e2;have f2:w2.frozen? ⟨w.heap.size,k*4+2,none⟩=false:=by rw[Below.frozen l2 (p:=⟨w.heap.size,k*4+2,none⟩) hlt2];exact (hR.at hlt 2 (by decide)).2
   have e3:∃ u,w2.cell? ⟨w.heap.size,k*4+3,none⟩=some u:=by rw[Below.cell l2 (p:=⟨w.heap.size,k*4+3,none⟩) hlt2];exact (hR.at hlt 3 (by decide)).1
   obtain⟨y3,e3⟩:=e3;have f3:w2.frozen? ⟨w.heap.size,k*4+3,none⟩=false:=by rw[Below.frozen l2 (p:=⟨w.heap.size,k*4+3,none⟩) hlt2];exact (hR.at hlt 3 (by decide)).2
   clear hR hO hE h;go_wp2_with fail
   go_roundw
   case rel=>exact⟨k+1,F',by go_num,by omega,hN'⟩
   case measure=>simp[intOf];omega
  ·have i1:¬ (k:Int)<(l.length:Int):=by omega
   have i2:decide ((k:Int)<(l.length:Int))=false:=decide_eq_false i1;have hkk:k=l.length:=by omega
   subst hkk;obtain⟨G,hG⟩:=hR.done (cap:=l.length) (Cd.dats_len l) hln ⟨Nat.le_refl _,by unfold maxLen;omega⟩;have lr:=hR.later;clear hR h hrow;go_wp2_with fail
   go_ret;exact⟨_,_,rfl,⟨G,hG⟩,lr⟩
theorem Im.own {w:World}{x:Im}{u0 u1:Value}{F0 F1:List Nat}(h0:OwnD w (.list 1 (Bs.dats x.structs)) [u0] F0) (h1:OwnD w (.list 4 (Cd.dats x.codes)) [u1] F1):OwnD w x.dat [u0,u1,.int .i64 x.main] (F0++(F1)):=by
 obtain⟨structs,codes,main⟩:=x;rw[Im.dat,OwnD];rw[OwnAgg];refine⟨[_],_,F0,_,rfl,rfl,h0,?_⟩;rw[OwnAgg];refine⟨[_],_,F1,[],rfl,(List.append_nil _).symm,h1,?_⟩;rw[OwnAgg];refine⟨[_],_,[],_,rfl,(List.nil_append _).symm,by rw[OwnD];exact⟨rfl,rfl⟩,?_⟩;rw[OwnAgg];exact⟨rfl,rfl⟩
theorem toIm_any (x:Im) (v0 v1:Value) (w:World) (h0:RdL w 1 v0 (Bs.dats x.structs)) (h1:RdL w 4 v1 (Cd.dats x.codes)) (hsz:x.sz≤1048576) :
  Calls Tryz.prog 7 #[.agg #[v0,v1,.int .i64 x.main]] w fun e w'=>∃ b0 q0 b1 q1 F,e=.returned (.agg #[.slice b0 x.structs.length q0,.slice b1 x.codes.length q1,.int .i64 x.main])∧Own w.heap.size w' x.dat [.slice b0 x.structs.length q0,.slice b1 x.codes.length q1,.int .i64 x.main] F∧Later w w':=by
 have HO:Hid (∀ {w':World}{u0 u1:Value}{F0 F1:List Nat},OwnD w' (.list 1 (Bs.dats x.structs)) [u0] F0→OwnD w' (.list 4 (Cd.dats x.codes)) [u1] F1→OwnD w' x.dat [u0,u1,.int .i64 x.main] (F0++(F1))):=fun h0 h1=>Im.own h0 h1;have hsum:x.sz=Bs.szs x.structs+Cd.szs x.codes:=by obtain⟨structs,codes,main⟩:=x;rfl
 obtain⟨a0,p0,rfl,_⟩:=Bs.slice h0;have hs0:Bs.szs x.structs≤x.sz:=by rw[hsum];omega
 obtain⟨a1,p1,rfl,_⟩:=Cd.slice h1;have hs1:Cd.szs x.codes≤x.sz:=by rw[hsum];omega
 clear hsum
 generalize x.main=z_main at *
 go_enter Tryz.func7,Tryz.ntmps7;go_wp2_with fail
 refine (toBss_any _ _ _ (RdL.later (by repeat (first|with_reducible exact Later.refl _|refine Later.setAt ?_ (by omega) _ _|refine Later.alloc ?_ _)) h0) (by omega)).mono ?_;rintro e w1 ⟨b0,q0,G0,rfl,O0,l1⟩;have L1:Later w w1:=Later.trans (by repeat (first|with_reducible exact Later.refl _|refine Later.setAt ?_ (by omega) _ _|refine Later.alloc ?_ _)) l1;have z1:w.heap.size+1+1<w1.heap.size:=by have:=l1.size;simp at this;omega
 have y1:w.heap.size+1<w1.heap.size:=by omega
 have x1:w.heap.size<w1.heap.size:=by omega
 obtain⟨hc1,hf1⟩:=bcell l1;go_wp2_with fail
 refine (toCds_any _ _ _ (RdL.later (by repeat (first|with_reducible exact L1|refine Later.setAt ?_ (by omega) _ _|refine Later.alloc ?_ _)) h1) (by omega)).mono ?_;rintro e w2 ⟨b1,q1,G1,rfl,O1,l2⟩;have L2:Later w w2:=Later.trans (by repeat (first|with_reducible exact L1|refine Later.setAt ?_ (by omega) _ _|refine Later.alloc ?_ _)) l2;have z2:w.heap.size+1+1<w2.heap.size:=by have:=l2.size;simp at this;omega
 have y2:w.heap.size+1<w2.heap.size:=by omega
 have x2:w.heap.size<w2.heap.size:=by omega
 obtain⟨hc2,hf2⟩:=bcell l2;have s2:w1.heap.size≤w2.heap.size:=by have:=l2.size;simp at this;omega
 go_wp2_with fail
 refine bodyPost_ret (v:=.agg #[.slice b0 x.structs.length q0,.slice b1 x.codes.length q1,.int .i64 z_main]) (by simp[results,Tryz.results7,go_sem,hc1,y1,hc2]) rfl ⟨b0,q0,b1,q1,_,rfl,Own.mk' (HO.out (O0.kept (by repeat (first|with_reducible exact Kept.refl _ _|refine Kept.setAt ?_ (by first|omega|(simp;done)|(simp;omega)) _ _|refine Kept.later ?_ l2))) (O1.kept (by repeat (first|with_reducible exact Kept.refl _ _|refine Kept.setAt ?_ (by first|omega|(simp;done)|(simp;omega)) _ _)))) (Fr.app (mid:=w1.heap.size) (O0.fr.mono (by first|omega|(simp;done)|(simp;omega)) (by first|omega|(simp;done)|(simp;omega))) (O1.fr.mono (by first|omega|(simp;done)|(simp;omega)) (by first|omega|(simp;done)|(simp;omega))) (by first|omega|(simp;done)|(simp;omega)) (by first|omega|(simp;done)|(simp;omega))),(by repeat (first|with_reducible exact L2|refine Later.setAt ?_ (by omega) _ _|refine Later.alloc ?_ _))⟩
end Go.Proofs.YtjnpncefkigcbaaGreat
