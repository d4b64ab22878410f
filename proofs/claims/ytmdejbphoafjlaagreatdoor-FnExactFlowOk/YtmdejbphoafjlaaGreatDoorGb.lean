/- My texts T3, T4 in one. -/
import Derived.Test.YtmdejbphoafjlaaGreatDoorGa
import Derived.Deep.RegionWith
import Derived.ProofKit
set_option maxHeartbeats 100000000
set_option maxRecDepth 100000
namespace Go.Proofs.YtmdejbphoafjlaaGreatDoor
open Go.RowKit
def szR (left:Int) (s:Nat):Int:=if (s:Int)≤left then left - s else -1
theorem szR_pos {left:Int}{s:Nat}(h:(s:Int)≤left):szR left s=left - s:=if_pos h
theorem szR_neg {left:Int}{s:Nat}(h:¬ (s:Int)≤left):szR left s=-1:=if_neg h
theorem szb_any (v:Value) (zs:List Int) (left:Int) (w:World) (h:RdB w v zs) (h0:0≤left) (h1:left≤1048576) :
  Calls Tryz.prog 89 #[v,.int .i64 left] w fun e w'=>e=.returned (.int .i64 (szR left zs.length))∧w'=w:=by
 obtain⟨a,cap,rfl,hl⟩:=h.slice
 by_cases hc:(zs.length:Int)≤left
 ·rw[szR_pos hc]
  have hn:¬ left - (zs.length:Int)<0:=by omega
  have r1:-9223372036854775808≤left - (zs.length:Int):=by omega
  have r2:left - (zs.length:Int)≤9223372036854775807:=by omega
  go_enter Tryz.func89,Tryz.ntmps89
  go_wp2
  go_ret
  exact⟨rfl,rfl⟩
 ·rw[szR_neg hc]
  have hn:left - (zs.length:Int)<0:=by omega
  have r1:-9223372036854775808≤left - (zs.length:Int):=by omega
  have r2:left - (zs.length:Int)≤9223372036854775807:=by omega
  go_enter Tryz.func89,Tryz.ntmps89
  go_wp2
  go_ret
  exact⟨rfl,rfl⟩
theorem szPa_any (x:Pa) (v0:Value) (left:Int) (w:World) (h0:RdN w v0 x.name) (hl0:0≤left) (hl1:left≤1048576) :
  Calls Tryz.prog 131 #[.agg #[v0,.int .i64 x.tk,.int .i64 x.tn],.int .i64 left] w fun e w'=>e=.returned (.int .i64 (szR left x.sz))∧Later w w':=by
 have L0:=later1 w (.cells #[v0,.int .i64 x.tk,.int .i64 x.tn] 172)
 have hsz:x.sz=x.name.length:=by obtain⟨name,tk,tn⟩:=x;rfl
 rw[hsz]
 obtain⟨a0,p0,rfl,_⟩:=h0.slice
 clear hsz
 generalize x.tk=z_tk at *
 generalize x.tn=z_tn at *
 go_enter Tryz.func131,Tryz.ntmps131
 go_wp2_with fail
 refine (szb_any _ _ (left) _ (h0.later L0).rd (by omega) (by omega)).mono ?_
 rintro e w1 ⟨rfl,hw1⟩
 obtain rfl:=hw1.symm
 by_cases q0:((x.name.length:Nat):Int)≤left
 ·rw[szR_pos q0]
  have n0:¬ left - ((x.name.length:Nat):Int)<0:=by omega
  go_wp2_with fail
  go_ret
  exact⟨ret_int (by rw[szR_pos (by omega)];first|done|omega),L0⟩
 ·rw[szR_neg q0]
  go_wp2_with fail
  go_ret
  exact⟨ret_int (by rw[szR_neg (by omega)]),L0⟩
theorem szPas_any (v:Value) (l:List Pa) (left:Int) (w:World) (h:RdL w 3 v (Pa.dats l)) (hl0:0≤left) (hl1:left≤1048576) :
  Calls Tryz.prog 90 #[v,.int .i64 left] w fun e w'=>e=.returned (.int .i64 (szR left (Pa.szs l)))∧Later w w':=by
 obtain⟨a,cap,rfl,hl⟩:=Pa.slice h
 by_cases hc:(l.length:Int)≤left
 ·have hn:¬ left - (l.length:Int)<0:=by omega
  have r1:-9223372036854775808≤left - (l.length:Int):=by omega
  have r2:left - (l.length:Int)≤9223372036854775807:=by omega
  go_enter Tryz.func90,Tryz.ntmps90
  go_wp2_with fail
  go_loopw [1,5] (fun lf i wr=>∃ k:Nat,lf=.int .i64 (left - (l.length:Int) - (Pa.pre l k:Nat))∧i=.int .i64 (k:Int)∧k≤l.length∧0≤left - (l.length:Int) - (Pa.pre l k:Nat)∧Later w wr) (fun _ i _=>l.length - (intOf i).toNat)
  case atStart=>exact⟨0,by rw[Pa.pre_zero];simp,rfl,Nat.zero_le _,by rw[Pa.pre_zero];simp;omega,Later.refl _⟩
  case round =>
   obtain⟨k,rfl,rfl,hk,hp,lr⟩:=hrel
   by_cases hlt:k<l.length
   ·obtain⟨g,off,v0,rfl,hg,c0,c1,c2,r0⟩:=Pa.elem (RdL.later lr h) k hlt
    have i1:(k:Int)<(l.length:Int):=by omega
    have hE:=szPa_any l[k] v0 (left - (l.length:Int) - (Pa.pre l k:Nat)) wr r0 hp (by omega)
    have hps:=Pa.pre_succ hlt
    have HP:Hid (Pa.pre l (k+1)=Pa.pre l k+l[k].sz):=hps
    have hall:=Pa.pre_le l (k+1) (by omega)
    clear hps r0
    generalize l[k].sz=S at *
    generalize l[k].tk=z_tk at *
    generalize l[k].tn=z_tn at *
    go_wp2_with fail
    refine hE.mono ?_
    rintro e w1 ⟨rfl,l1⟩
    by_cases q:((S:Nat):Int)≤left - (l.length:Int) - (Pa.pre l k:Nat)
    ·rw[szR_pos q]
     have n1:¬ left - (l.length:Int) - (Pa.pre l k:Nat) - (S:Nat)<0:=by omega
     go_wp2_with fail
     go_roundw
     case rel=>exact⟨k+1,by rw[HP.out];go_num,by go_num,by omega,by rw[HP.out];omega,lr.trans l1⟩
     case measure=>simp[intOf];omega
    ·rw[szR_neg q]
     go_wp2_with fail
     go_ret
     exact⟨ret_int (by rw[szR_neg];rw[HP.out]at hall;omega),lr.trans l1⟩
   ·have i1:¬ (k:Int)<(l.length:Int):=by omega
    have i2:decide ((k:Int)<(l.length:Int))=false:=decide_eq_false i1
    have hkk:k=l.length:=by omega
    have hall:=Pa.pre_all l
    subst hkk
    go_wp2_with fail
    go_ret
    exact⟨ret_int (by rw[szR_pos (by omega)];first|done|omega),lr⟩
 ·have hn:left - (l.length:Int)<0:=by omega
  have r1:-9223372036854775808≤left - (l.length:Int):=by omega
  have r2:left - (l.length:Int)≤9223372036854775807:=by omega
  have hge:=Pa.szs_ge l
  go_enter Tryz.func90,Tryz.ntmps90
  go_wp2_with fail
  go_ret
  exact⟨ret_int (by rw[szR_neg (by omega)]),Later.refl _⟩
theorem szSc_any (x:Sc) (v0 v1:Value) (left:Int) (w:World) (h0:RdN w v0 x.name) (h1:RdL w 3 v1 (Pa.dats x.fields)) (hl0:0≤left) (hl1:left≤1048576) :
  Calls Tryz.prog 49 #[.agg #[v0,v1],.int .i64 left] w fun e w'=>e=.returned (.int .i64 (szR left x.sz))∧Later w w':=by
 have L0:=later1 w (.cells #[v0,v1] 82)
 have hsz:x.sz=x.name.length+Pa.szs x.fields:=by obtain⟨name,fields⟩:=x;rfl
 rw[hsz]
 obtain⟨a0,p0,rfl,_⟩:=h0.slice
 obtain⟨a1,p1,rfl,_⟩:=Pa.slice h1
 clear hsz
 go_enter Tryz.func49,Tryz.ntmps49
 go_wp2_with fail
 refine (szb_any _ _ (left) _ (h0.later L0).rd (by omega) (by omega)).mono ?_
 rintro e w1 ⟨rfl,hw1⟩
 obtain rfl:=hw1.symm
 by_cases q0:((x.name.length:Nat):Int)≤left
 ·rw[szR_pos q0]
  have n0:¬ left - ((x.name.length:Nat):Int)<0:=by omega
  go_wp2_with fail
  refine (szPas_any _ _ (left - ((x.name.length:Nat):Int)) _ (RdL.later L0 h1) (by omega) (by omega)).mono ?_
  rintro e w2 ⟨rfl,l2⟩
  by_cases q1:((Pa.szs x.fields:Nat):Int)≤left - ((x.name.length:Nat):Int)
  ·rw[szR_pos q1]
   have n1:¬ left - ((x.name.length:Nat):Int) - ((Pa.szs x.fields:Nat):Int)<0:=by omega
   go_wp2_with fail
   go_ret
   exact⟨ret_int (by rw[szR_pos (by omega)];first|done|omega),(L0.trans l2)⟩
  ·rw[szR_neg q1]
   go_wp2_with fail
   go_ret
   exact⟨ret_int (by rw[szR_neg (by omega)]),(L0.trans l2)⟩
 ·rw[szR_neg q0]
  go_wp2_with fail
  go_ret
  exact⟨ret_int (by rw[szR_neg (by omega)]),L0⟩
theorem szScs_any (v:Value) (l:List Sc) (left:Int) (w:World) (h:RdL w 2 v (Sc.dats l)) (hl0:0≤left) (hl1:left≤1048576) :
  Calls Tryz.prog 20 #[v,.int .i64 left] w fun e w'=>e=.returned (.int .i64 (szR left (Sc.szs l)))∧Later w w':=by
 obtain⟨a,cap,rfl,hl⟩:=Sc.slice h
 by_cases hc:(l.length:Int)≤left
 ·have hn:¬ left - (l.length:Int)<0:=by omega
  have r1:-9223372036854775808≤left - (l.length:Int):=by omega
  have r2:left - (l.length:Int)≤9223372036854775807:=by omega
  go_enter Tryz.func20,Tryz.ntmps20
  go_wp2_with fail
  go_loopw [1,5] (fun lf i wr=>∃ k:Nat,lf=.int .i64 (left - (l.length:Int) - (Sc.pre l k:Nat))∧i=.int .i64 (k:Int)∧k≤l.length∧0≤left - (l.length:Int) - (Sc.pre l k:Nat)∧Later w wr) (fun _ i _=>l.length - (intOf i).toNat)
  case atStart=>exact⟨0,by rw[Sc.pre_zero];simp,rfl,Nat.zero_le _,by rw[Sc.pre_zero];simp;omega,Later.refl _⟩
  case round =>
   obtain⟨k,rfl,rfl,hk,hp,lr⟩:=hrel
   by_cases hlt:k<l.length
   ·obtain⟨g,off,v0,v1,rfl,hg,c0,c1,r0,r1⟩:=Sc.elem (RdL.later lr h) k hlt
    have i1:(k:Int)<(l.length:Int):=by omega
    have hE:=szSc_any l[k] v0 v1 (left - (l.length:Int) - (Sc.pre l k:Nat)) wr r0 r1 hp (by omega)
    have hps:=Sc.pre_succ hlt
    have HP:Hid (Sc.pre l (k+1)=Sc.pre l k+l[k].sz):=hps
    have hall:=Sc.pre_le l (k+1) (by omega)
    clear hps r0 r1
    generalize l[k].sz=S at *
    go_wp2_with fail
    refine hE.mono ?_
    rintro e w1 ⟨rfl,l1⟩
    by_cases q:((S:Nat):Int)≤left - (l.length:Int) - (Sc.pre l k:Nat)
    ·rw[szR_pos q]
     have n1:¬ left - (l.length:Int) - (Sc.pre l k:Nat) - (S:Nat)<0:=by omega
     go_wp2_with fail
     go_roundw
     case rel=>exact⟨k+1,by rw[HP.out];go_num,by go_num,by omega,by rw[HP.out];omega,lr.trans l1⟩
     case measure=>simp[intOf];omega
    ·rw[szR_neg q]
     go_wp2_with fail
     go_ret
     exact⟨ret_int (by rw[szR_neg];rw[HP.out]at hall;omega),lr.trans l1⟩
   ·have i1:¬ (k:Int)<(l.length:Int):=by omega
    have i2:decide ((k:Int)<(l.length:Int))=false:=decide_eq_false i1
    have hkk:k=l.length:=by omega
    have hall:=Sc.pre_all l
    subst hkk
    go_wp2_with fail
    go_ret
    exact⟨ret_int (by rw[szR_pos (by omega)];first|done|omega),lr⟩
 ·have hn:left - (l.length:Int)<0:=by omega
  have r1:-9223372036854775808≤left - (l.length:Int):=by omega
  have r2:left - (l.length:Int)≤9223372036854775807:=by omega
  have hge:=Sc.szs_ge l
  go_enter Tryz.func20,Tryz.ntmps20
  go_wp2_with fail
  go_ret
  exact⟨ret_int (by rw[szR_neg (by omega)]),Later.refl _⟩
theorem szEx_any (x:Ex) (v0 v1:Value) (left:Int) (w:World) (h0:RdN w v0 x.name) (h1:RdL w 6 v1 (Ex.dats x.kids)) (hl0:0≤left) (hl1:left≤1048576) (ih:∀ (v:Value) (l:List Ex) (left:Int) (w:World),RdL w 6 v (Ex.dats l)→Ex.szs l≤x.sz→0≤left→left≤1048576→Calls Tryz.prog 157 #[v,.int .i64 left] w fun e w'=>e=.returned (.int .i64 (szR left (Ex.szs l)))∧Later w w') :
  Calls Tryz.prog 174 #[.agg #[.int .i64 x.kind,.int .i64 x.n,.int .i64 x.tk,.int .i64 x.tn,v0,v1],.int .i64 left] w fun e w'=>e=.returned (.int .i64 (szR left x.sz))∧Later w w':=by
 have L0:=later1 w (.cells #[.int .i64 x.kind,.int .i64 x.n,.int .i64 x.tk,.int .i64 x.tn,v0,v1] 230)
 have hsz:x.sz=x.name.length+Ex.szs x.kids:=by obtain⟨kind,n,tk,tn,name,kids⟩:=x;rfl
 rw[hsz]
 obtain⟨a0,p0,rfl,_⟩:=h0.slice
 obtain⟨a1,p1,rfl,_⟩:=Ex.slice h1
 have hs1:Ex.szs x.kids≤x.sz:=by rw[hsz];omega
 clear hsz
 generalize x.kind=z_kind at *
 generalize x.n=z_n at *
 generalize x.tk=z_tk at *
 generalize x.tn=z_tn at *
 go_enter Tryz.func174,Tryz.ntmps174
 go_wp2_with fail
 refine (szb_any _ _ (left) _ (h0.later L0).rd (by omega) (by omega)).mono ?_
 rintro e w1 ⟨rfl,hw1⟩
 obtain rfl:=hw1.symm
 by_cases q0:((x.name.length:Nat):Int)≤left
 ·rw[szR_pos q0]
  have n0:¬ left - ((x.name.length:Nat):Int)<0:=by omega
  go_wp2_with fail
  refine (ih _ _ (left - ((x.name.length:Nat):Int)) _ (RdL.later L0 h1) hs1 (by omega) (by omega)).mono ?_
  rintro e w2 ⟨rfl,l2⟩
  by_cases q1:((Ex.szs x.kids:Nat):Int)≤left - ((x.name.length:Nat):Int)
  ·rw[szR_pos q1]
   have n1:¬ left - ((x.name.length:Nat):Int) - ((Ex.szs x.kids:Nat):Int)<0:=by omega
   go_wp2_with fail
   go_ret
   exact⟨ret_int (by rw[szR_pos (by omega)];first|done|omega),(L0.trans l2)⟩
  ·rw[szR_neg q1]
   go_wp2_with fail
   go_ret
   exact⟨ret_int (by rw[szR_neg (by omega)]),(L0.trans l2)⟩
 ·rw[szR_neg q0]
  go_wp2_with fail
  go_ret
  exact⟨ret_int (by rw[szR_neg (by omega)]),L0⟩
theorem szExs_all (N:Nat):∀ (v:Value) (l:List Ex) (left:Int) (w:World),Ex.szs l≤N→RdL w 6 v (Ex.dats l)→0≤left→left≤1048576 →
  Calls Tryz.prog 157 #[v,.int .i64 left] w fun e w'=>e=.returned (.int .i64 (szR left (Ex.szs l)))∧Later w w':=by
 induction N using Nat.strongRecOn with
 | _ N IH =>
 intro v l left w hN h hl0 hl1
 obtain⟨a,cap,rfl,hl⟩:=Ex.slice h
 by_cases hc:(l.length:Int)≤left
 ·have hn:¬ left - (l.length:Int)<0:=by omega
  have r1:-9223372036854775808≤left - (l.length:Int):=by omega
  have r2:left - (l.length:Int)≤9223372036854775807:=by omega
  go_enter Tryz.func157,Tryz.ntmps157
  go_wp2_with fail
  go_loopw [1,5] (fun lf i wr=>∃ k:Nat,lf=.int .i64 (left - (l.length:Int) - (Ex.pre l k:Nat))∧i=.int .i64 (k:Int)∧k≤l.length∧0≤left - (l.length:Int) - (Ex.pre l k:Nat)∧Later w wr) (fun _ i _=>l.length - (intOf i).toNat)
  case atStart=>exact⟨0,by rw[Ex.pre_zero];simp,rfl,Nat.zero_le _,by rw[Ex.pre_zero];simp;omega,Later.refl _⟩
  case round =>
   obtain⟨k,rfl,rfl,hk,hp,lr⟩:=hrel
   by_cases hlt:k<l.length
   ·obtain⟨g,off,v0,v1,rfl,hg,c0,c1,c2,c3,c4,c5,r0,r1⟩:=Ex.elem (RdL.later lr h) k hlt
    have i1:(k:Int)<(l.length:Int):=by omega
    have hE:=szEx_any l[k] v0 v1 (left - (l.length:Int) - (Ex.pre l k:Nat)) wr r0 r1 hp (by omega) (fun v' l' left' w' h' hs' a b=>IH (Ex.szs l') (by have:=Ex.sz_at l k hlt;omega) v' l' left' w' (Nat.le_refl _) h' a b)
    have hps:=Ex.pre_succ hlt
    have HP:Hid (Ex.pre l (k+1)=Ex.pre l k+l[k].sz):=hps
    have hall:=Ex.pre_le l (k+1) (by omega)
    clear hps r0 r1
    generalize l[k].sz=S at *
    generalize l[k].kind=z_kind at *
    generalize l[k].n=z_n at *
    generalize l[k].tk=z_tk at *
    generalize l[k].tn=z_tn at *
    go_wp2_with fail
    refine hE.mono ?_
    rintro e w1 ⟨rfl,l1⟩
    by_cases q:((S:Nat):Int)≤left - (l.length:Int) - (Ex.pre l k:Nat)
    ·rw[szR_pos q]
     have n1:¬ left - (l.length:Int) - (Ex.pre l k:Nat) - (S:Nat)<0:=by omega
     go_wp2_with fail
     go_roundw
     case rel=>exact⟨k+1,by rw[HP.out];go_num,by go_num,by omega,by rw[HP.out];omega,lr.trans l1⟩
     case measure=>simp[intOf];omega
    ·rw[szR_neg q]
     go_wp2_with fail
     go_ret
     exact⟨ret_int (by rw[szR_neg];rw[HP.out]at hall;omega),lr.trans l1⟩
   ·have i1:¬ (k:Int)<(l.length:Int):=by omega
    have i2:decide ((k:Int)<(l.length:Int))=false:=decide_eq_false i1
    have hkk:k=l.length:=by omega
    have hall:=Ex.pre_all l
    subst hkk
    go_wp2_with fail
    go_ret
    exact⟨ret_int (by rw[szR_pos (by omega)];first|done|omega),lr⟩
 ·have hn:left - (l.length:Int)<0:=by omega
  have r1:-9223372036854775808≤left - (l.length:Int):=by omega
  have r2:left - (l.length:Int)≤9223372036854775807:=by omega
  have hge:=Ex.szs_ge l
  go_enter Tryz.func157,Tryz.ntmps157
  go_wp2_with fail
  go_ret
  exact⟨ret_int (by rw[szR_neg (by omega)]),Later.refl _⟩
theorem szExs_any (v:Value) (l:List Ex) (left:Int) (w:World) (h:RdL w 6 v (Ex.dats l)) (hl0:0≤left) (hl1:left≤1048576) :
  Calls Tryz.prog 157 #[v,.int .i64 left] w fun e w'=>e=.returned (.int .i64 (szR left (Ex.szs l)))∧Later w w':=szExs_all _ v l left w (Nat.le_refl _) h hl0 hl1
theorem szSt_any (x:St) (v0 v1 v2 v3:Value) (left:Int) (w:World) (h0:RdN w v0 x.name) (h1:RdL w 6 v1 (Ex.dats x.kids)) (h2:RdL w 8 v2 (St.dats x.body)) (h3:RdL w 8 v3 (St.dats x.els)) (hl0:0≤left) (hl1:left≤1048576) (ih:∀ (v:Value) (l:List St) (left:Int) (w:World),RdL w 8 v (St.dats l)→St.szs l≤x.sz→0≤left→left≤1048576→Calls Tryz.prog 91 #[v,.int .i64 left] w fun e w'=>e=.returned (.int .i64 (szR left (St.szs l)))∧Later w w') :
  Calls Tryz.prog 132 #[.agg #[.int .i64 x.kind,.int .i64 x.n,.int .i64 x.tk,.int .i64 x.tn,v0,v1,v2,v3],.int .i64 left] w fun e w'=>e=.returned (.int .i64 (szR left x.sz))∧Later w w':=by
 have L0:=later1 w (.cells #[.int .i64 x.kind,.int .i64 x.n,.int .i64 x.tk,.int .i64 x.tn,v0,v1,v2,v3] 176)
 have hsz:x.sz=x.name.length+Ex.szs x.kids+St.szs x.body+St.szs x.els:=by obtain⟨kind,n,tk,tn,name,kids,body,els⟩:=x;rfl
 rw[hsz]
 obtain⟨a0,p0,rfl,_⟩:=h0.slice
 obtain⟨a1,p1,rfl,_⟩:=Ex.slice h1
 obtain⟨a2,p2,rfl,_⟩:=St.slice h2
 have hs2:St.szs x.body≤x.sz:=by rw[hsz];omega
 obtain⟨a3,p3,rfl,_⟩:=St.slice h3
 have hs3:St.szs x.els≤x.sz:=by rw[hsz];omega
 clear hsz
 generalize x.kind=z_kind at *
 generalize x.n=z_n at *
 generalize x.tk=z_tk at *
 generalize x.tn=z_tn at *
 go_enter Tryz.func132,Tryz.ntmps132
 go_wp2_with fail
 refine (szb_any _ _ (left) _ (h0.later L0).rd (by omega) (by omega)).mono ?_
 rintro e w1 ⟨rfl,hw1⟩
 obtain rfl:=hw1.symm
 by_cases q0:((x.name.length:Nat):Int)≤left
 ·rw[szR_pos q0]
  have n0:¬ left - ((x.name.length:Nat):Int)<0:=by omega
  go_wp2_with fail
  refine (szExs_any _ _ (left - ((x.name.length:Nat):Int)) _ (RdL.later L0 h1) (by omega) (by omega)).mono ?_
  rintro e w2 ⟨rfl,l2⟩
  by_cases q1:((Ex.szs x.kids:Nat):Int)≤left - ((x.name.length:Nat):Int)
  ·rw[szR_pos q1]
   have n1:¬ left - ((x.name.length:Nat):Int) - ((Ex.szs x.kids:Nat):Int)<0:=by omega
   have bx2:w2.cell? ⟨w.heap.size,6,none⟩=some (.slice a2 x.body.length p2):=by rw[Below.cell (l2) (p:=⟨w.heap.size,6,none⟩) (by simp)];simp
   go_wp2_with fail
   refine (ih _ _ (left - ((x.name.length:Nat):Int) - ((Ex.szs x.kids:Nat):Int)) _ (RdL.later (L0.trans l2) h2) hs2 (by omega) (by omega)).mono ?_
   rintro e w3 ⟨rfl,l3⟩
   by_cases q2:((St.szs x.body:Nat):Int)≤left - ((x.name.length:Nat):Int) - ((Ex.szs x.kids:Nat):Int)
   ·rw[szR_pos q2]
    have n2:¬ left - ((x.name.length:Nat):Int) - ((Ex.szs x.kids:Nat):Int) - ((St.szs x.body:Nat):Int)<0:=by omega
    have bx3:w3.cell? ⟨w.heap.size,7,none⟩=some (.slice a3 x.els.length p3):=by rw[Below.cell ((l2).trans l3) (p:=⟨w.heap.size,7,none⟩) (by simp)];simp
    go_wp2_with fail
    refine (ih _ _ (left - ((x.name.length:Nat):Int) - ((Ex.szs x.kids:Nat):Int) - ((St.szs x.body:Nat):Int)) _ (RdL.later ((L0.trans l2).trans l3) h3) hs3 (by omega) (by omega)).mono ?_
    rintro e w4 ⟨rfl,l4⟩
    by_cases q3:((St.szs x.els:Nat):Int)≤left - ((x.name.length:Nat):Int) - ((Ex.szs x.kids:Nat):Int) - ((St.szs x.body:Nat):Int)
    ·rw[szR_pos q3]
     have n3:¬ left - ((x.name.length:Nat):Int) - ((Ex.szs x.kids:Nat):Int) - ((St.szs x.body:Nat):Int) - ((St.szs x.els:Nat):Int)<0:=by omega
     go_wp2_with fail
     go_ret
     exact⟨ret_int (by rw[szR_pos (by omega)];first|done|omega),(((L0.trans l2).trans l3).trans l4)⟩
    ·rw[szR_neg q3]
     go_wp2_with fail
     go_ret
     exact⟨ret_int (by rw[szR_neg (by omega)]),(((L0.trans l2).trans l3).trans l4)⟩
   ·rw[szR_neg q2]
    go_wp2_with fail
    go_ret
    exact⟨ret_int (by rw[szR_neg (by omega)]),((L0.trans l2).trans l3)⟩
  ·rw[szR_neg q1]
   go_wp2_with fail
   go_ret
   exact⟨ret_int (by rw[szR_neg (by omega)]),(L0.trans l2)⟩
 ·rw[szR_neg q0]
  go_wp2_with fail
  go_ret
  exact⟨ret_int (by rw[szR_neg (by omega)]),L0⟩
theorem szSts_all (N:Nat):∀ (v:Value) (l:List St) (left:Int) (w:World),St.szs l≤N→RdL w 8 v (St.dats l)→0≤left→left≤1048576 →
  Calls Tryz.prog 91 #[v,.int .i64 left] w fun e w'=>e=.returned (.int .i64 (szR left (St.szs l)))∧Later w w':=by
 induction N using Nat.strongRecOn with
 | _ N IH =>
 intro v l left w hN h hl0 hl1
 obtain⟨a,cap,rfl,hl⟩:=St.slice h
 by_cases hc:(l.length:Int)≤left
 ·have hn:¬ left - (l.length:Int)<0:=by omega
  have r1:-9223372036854775808≤left - (l.length:Int):=by omega
  have r2:left - (l.length:Int)≤9223372036854775807:=by omega
  go_enter Tryz.func91,Tryz.ntmps91
  go_wp2_with fail
  go_loopw [1,5] (fun lf i wr=>∃ k:Nat,lf=.int .i64 (left - (l.length:Int) - (St.pre l k:Nat))∧i=.int .i64 (k:Int)∧k≤l.length∧0≤left - (l.length:Int) - (St.pre l k:Nat)∧Later w wr) (fun _ i _=>l.length - (intOf i).toNat)
  case atStart=>exact⟨0,by rw[St.pre_zero];simp,rfl,Nat.zero_le _,by rw[St.pre_zero];simp;omega,Later.refl _⟩
  case round =>
   obtain⟨k,rfl,rfl,hk,hp,lr⟩:=hrel
   by_cases hlt:k<l.length
   ·obtain⟨g,off,v0,v1,v2,v3,rfl,hg,c0,c1,c2,c3,c4,c5,c6,c7,r0,r1,r2,r3⟩:=St.elem (RdL.later lr h) k hlt
    have i1:(k:Int)<(l.length:Int):=by omega
    have hE:=szSt_any l[k] v0 v1 v2 v3 (left - (l.length:Int) - (St.pre l k:Nat)) wr r0 r1 r2 r3 hp (by omega) (fun v' l' left' w' h' hs' a b=>IH (St.szs l') (by have:=St.sz_at l k hlt;omega) v' l' left' w' (Nat.le_refl _) h' a b)
    have hps:=St.pre_succ hlt
    have HP:Hid (St.pre l (k+1)=St.pre l k+l[k].sz):=hps
    have hall:=St.pre_le l (k+1) (by omega)
    clear hps r0 r1 r2 r3
    generalize l[k].sz=S at *
    generalize l[k].kind=z_kind at *
    generalize l[k].n=z_n at *
    generalize l[k].tk=z_tk at *
    generalize l[k].tn=z_tn at *
    go_wp2_with fail
    refine hE.mono ?_
    rintro e w1 ⟨rfl,l1⟩
    by_cases q:((S:Nat):Int)≤left - (l.length:Int) - (St.pre l k:Nat)
    ·rw[szR_pos q]
     have n1:¬ left - (l.length:Int) - (St.pre l k:Nat) - (S:Nat)<0:=by omega
     go_wp2_with fail
     go_roundw
     case rel=>exact⟨k+1,by rw[HP.out];go_num,by go_num,by omega,by rw[HP.out];omega,lr.trans l1⟩
     case measure=>simp[intOf];omega
    ·rw[szR_neg q]
     go_wp2_with fail
     go_ret
     exact⟨ret_int (by rw[szR_neg];rw[HP.out]at hall;omega),lr.trans l1⟩
   ·have i1:¬ (k:Int)<(l.length:Int):=by omega
    have i2:decide ((k:Int)<(l.length:Int))=false:=decide_eq_false i1
    have hkk:k=l.length:=by omega
    have hall:=St.pre_all l
    subst hkk
    go_wp2_with fail
    go_ret
    exact⟨ret_int (by rw[szR_pos (by omega)];first|done|omega),lr⟩
 ·have hn:left - (l.length:Int)<0:=by omega
  have r1:-9223372036854775808≤left - (l.length:Int):=by omega
  have r2:left - (l.length:Int)≤9223372036854775807:=by omega
  have hge:=St.szs_ge l
  go_enter Tryz.func91,Tryz.ntmps91
  go_wp2_with fail
  go_ret
  exact⟨ret_int (by rw[szR_neg (by omega)]),Later.refl _⟩
theorem szSts_any (v:Value) (l:List St) (left:Int) (w:World) (h:RdL w 8 v (St.dats l)) (hl0:0≤left) (hl1:left≤1048576) :
  Calls Tryz.prog 91 #[v,.int .i64 left] w fun e w'=>e=.returned (.int .i64 (szR left (St.szs l)))∧Later w w':=szSts_all _ v l left w (Nat.le_refl _) h hl0 hl1
theorem szFu_any (x:Fu) (v0 v1 v2:Value) (left:Int) (w:World) (h0:RdN w v0 x.name) (h1:RdL w 3 v1 (Pa.dats x.params)) (h2:RdL w 8 v2 (St.dats x.body)) (hl0:0≤left) (hl1:left≤1048576) :
  Calls Tryz.prog 50 #[.agg #[v0,v1,.int .i64 x.rk,.int .i64 x.rn,v2],.int .i64 left] w fun e w'=>e=.returned (.int .i64 (szR left x.sz))∧Later w w':=by
 have L0:=later1 w (.cells #[v0,v1,.int .i64 x.rk,.int .i64 x.rn,v2] 87)
 have hsz:x.sz=x.name.length+Pa.szs x.params+St.szs x.body:=by obtain⟨name,params,rk,rn,body⟩:=x;rfl
 rw[hsz]
 obtain⟨a0,p0,rfl,_⟩:=h0.slice
 obtain⟨a1,p1,rfl,_⟩:=Pa.slice h1
 obtain⟨a2,p2,rfl,_⟩:=St.slice h2
 clear hsz
 generalize x.rk=z_rk at *
 generalize x.rn=z_rn at *
 go_enter Tryz.func50,Tryz.ntmps50
 go_wp2_with fail
 refine (szb_any _ _ (left) _ (h0.later L0).rd (by omega) (by omega)).mono ?_
 rintro e w1 ⟨rfl,hw1⟩
 obtain rfl:=hw1.symm
 by_cases q0:((x.name.length:Nat):Int)≤left
 ·rw[szR_pos q0]
  have n0:¬ left - ((x.name.length:Nat):Int)<0:=by omega
  go_wp2_with fail
  refine (szPas_any _ _ (left - ((x.name.length:Nat):Int)) _ (RdL.later L0 h1) (by omega) (by omega)).mono ?_
  rintro e w2 ⟨rfl,l2⟩
  by_cases q1:((Pa.szs x.params:Nat):Int)≤left - ((x.name.length:Nat):Int)
  ·rw[szR_pos q1]
   have n1:¬ left - ((x.name.length:Nat):Int) - ((Pa.szs x.params:Nat):Int)<0:=by omega
   have bx2:w2.cell? ⟨w.heap.size,4,none⟩=some (.slice a2 x.body.length p2):=by rw[Below.cell (l2) (p:=⟨w.heap.size,4,none⟩) (by simp)];simp
   go_wp2_with fail
   refine (szSts_any _ _ (left - ((x.name.length:Nat):Int) - ((Pa.szs x.params:Nat):Int)) _ (RdL.later (L0.trans l2) h2) (by omega) (by omega)).mono ?_
   rintro e w3 ⟨rfl,l3⟩
   by_cases q2:((St.szs x.body:Nat):Int)≤left - ((x.name.length:Nat):Int) - ((Pa.szs x.params:Nat):Int)
   ·rw[szR_pos q2]
    have n2:¬ left - ((x.name.length:Nat):Int) - ((Pa.szs x.params:Nat):Int) - ((St.szs x.body:Nat):Int)<0:=by omega
    go_wp2_with fail
    go_ret
    exact⟨ret_int (by rw[szR_pos (by omega)];first|done|omega),((L0.trans l2).trans l3)⟩
   ·rw[szR_neg q2]
    go_wp2_with fail
    go_ret
    exact⟨ret_int (by rw[szR_neg (by omega)]),((L0.trans l2).trans l3)⟩
  ·rw[szR_neg q1]
   go_wp2_with fail
   go_ret
   exact⟨ret_int (by rw[szR_neg (by omega)]),(L0.trans l2)⟩
 ·rw[szR_neg q0]
  go_wp2_with fail
  go_ret
  exact⟨ret_int (by rw[szR_neg (by omega)]),L0⟩
theorem szFus_any (v:Value) (l:List Fu) (left:Int) (w:World) (h:RdL w 5 v (Fu.dats l)) (hl0:0≤left) (hl1:left≤1048576) :
  Calls Tryz.prog 21 #[v,.int .i64 left] w fun e w'=>e=.returned (.int .i64 (szR left (Fu.szs l)))∧Later w w':=by
 obtain⟨a,cap,rfl,hl⟩:=Fu.slice h
 by_cases hc:(l.length:Int)≤left
 ·have hn:¬ left - (l.length:Int)<0:=by omega
  have r1:-9223372036854775808≤left - (l.length:Int):=by omega
  have r2:left - (l.length:Int)≤9223372036854775807:=by omega
  go_enter Tryz.func21,Tryz.ntmps21
  go_wp2_with fail
  go_loopw [1,5] (fun lf i wr=>∃ k:Nat,lf=.int .i64 (left - (l.length:Int) - (Fu.pre l k:Nat))∧i=.int .i64 (k:Int)∧k≤l.length∧0≤left - (l.length:Int) - (Fu.pre l k:Nat)∧Later w wr) (fun _ i _=>l.length - (intOf i).toNat)
  case atStart=>exact⟨0,by rw[Fu.pre_zero];simp,rfl,Nat.zero_le _,by rw[Fu.pre_zero];simp;omega,Later.refl _⟩
  case round =>
   obtain⟨k,rfl,rfl,hk,hp,lr⟩:=hrel
   by_cases hlt:k<l.length
   ·obtain⟨g,off,v0,v1,v2,rfl,hg,c0,c1,c2,c3,c4,r0,r1,r2⟩:=Fu.elem (RdL.later lr h) k hlt
    have i1:(k:Int)<(l.length:Int):=by omega
    have hE:=szFu_any l[k] v0 v1 v2 (left - (l.length:Int) - (Fu.pre l k:Nat)) wr r0 r1 r2 hp (by omega)
    have hps:=Fu.pre_succ hlt
    have HP:Hid (Fu.pre l (k+1)=Fu.pre l k+l[k].sz):=hps
    have hall:=Fu.pre_le l (k+1) (by omega)
    clear hps r0 r1 r2
    generalize l[k].sz=S at *
    generalize l[k].rk=z_rk at *
    generalize l[k].rn=z_rn at *
    go_wp2_with fail
    refine hE.mono ?_
    rintro e w1 ⟨rfl,l1⟩
    by_cases q:((S:Nat):Int)≤left - (l.length:Int) - (Fu.pre l k:Nat)
    ·rw[szR_pos q]
     have n1:¬ left - (l.length:Int) - (Fu.pre l k:Nat) - (S:Nat)<0:=by omega
     go_wp2_with fail
     go_roundw
     case rel=>exact⟨k+1,by rw[HP.out];go_num,by go_num,by omega,by rw[HP.out];omega,lr.trans l1⟩
     case measure=>simp[intOf];omega
    ·rw[szR_neg q]
     go_wp2_with fail
     go_ret
     exact⟨ret_int (by rw[szR_neg];rw[HP.out]at hall;omega),lr.trans l1⟩
   ·have i1:¬ (k:Int)<(l.length:Int):=by omega
    have i2:decide ((k:Int)<(l.length:Int))=false:=decide_eq_false i1
    have hkk:k=l.length:=by omega
    have hall:=Fu.pre_all l
    subst hkk
    go_wp2_with fail
    go_ret
    exact⟨ret_int (by rw[szR_pos (by omega)];first|done|omega),lr⟩
 ·have hn:left - (l.length:Int)<0:=by omega
  have r1:-9223372036854775808≤left - (l.length:Int):=by omega
  have r2:left - (l.length:Int)≤9223372036854775807:=by omega
  have hge:=Fu.szs_ge l
  go_enter Tryz.func21,Tryz.ntmps21
  go_wp2_with fail
  go_ret
  exact⟨ret_int (by rw[szR_neg (by omega)]),Later.refl _⟩
theorem szSo_any (x:So) (v0 v1:Value) (left:Int) (w:World) (h0:RdL w 2 v0 (Sc.dats x.structs)) (h1:RdL w 5 v1 (Fu.dats x.funcs)) (hl0:0≤left) (hl1:left≤1048576) :
  Calls Tryz.prog 7 #[.agg #[v0,v1],.int .i64 left] w fun e w'=>e=.returned (.int .i64 (szR left x.sz))∧Later w w':=by
 have L0:=later1 w (.cells #[v0,v1] 25)
 have hsz:x.sz=Sc.szs x.structs+Fu.szs x.funcs:=by obtain⟨structs,funcs⟩:=x;rfl
 rw[hsz]
 obtain⟨a0,p0,rfl,_⟩:=Sc.slice h0
 obtain⟨a1,p1,rfl,_⟩:=Fu.slice h1
 clear hsz
 go_enter Tryz.func7,Tryz.ntmps7
 go_wp2_with fail
 refine (szScs_any _ _ (left) _ (RdL.later L0 h0) (by omega) (by omega)).mono ?_
 rintro e w1 ⟨rfl,l1⟩
 by_cases q0:((Sc.szs x.structs:Nat):Int)≤left
 ·rw[szR_pos q0]
  have n0:¬ left - ((Sc.szs x.structs:Nat):Int)<0:=by omega
  have bx1:w1.cell? ⟨w.heap.size,1,none⟩=some (.slice a1 x.funcs.length p1):=by rw[Below.cell (l1) (p:=⟨w.heap.size,1,none⟩) (by simp)];simp
  go_wp2_with fail
  refine (szFus_any _ _ (left - ((Sc.szs x.structs:Nat):Int)) _ (RdL.later (L0.trans l1) h1) (by omega) (by omega)).mono ?_
  rintro e w2 ⟨rfl,l2⟩
  by_cases q1:((Fu.szs x.funcs:Nat):Int)≤left - ((Sc.szs x.structs:Nat):Int)
  ·rw[szR_pos q1]
   have n1:¬ left - ((Sc.szs x.structs:Nat):Int) - ((Fu.szs x.funcs:Nat):Int)<0:=by omega
   go_wp2_with fail
   go_ret
   exact⟨ret_int (by rw[szR_pos (by omega)];first|done|omega),((L0.trans l1).trans l2)⟩
  ·rw[szR_neg q1]
   go_wp2_with fail
   go_ret
   exact⟨ret_int (by rw[szR_neg (by omega)]),((L0.trans l1).trans l2)⟩
 ·rw[szR_neg q0]
  go_wp2_with fail
  go_ret
  exact⟨ret_int (by rw[szR_neg (by omega)]),(L0.trans l1)⟩
theorem bcell {W w1:World}(hb:Later W w1):(∀ b o,b<W.heap.size→w1.cell? ⟨b,o,none⟩=W.cell? ⟨b,o,none⟩)∧(∀ b o,b<W.heap.size→w1.frozen? ⟨b,o,none⟩=W.frozen? ⟨b,o,none⟩) :=
 ⟨fun b o h=>Below.cell hb (p:=⟨b,o,none⟩) h,fun b o h=>Below.frozen hb (p:=⟨b,o,none⟩) h⟩
theorem later3 (w:World) (o o' o'':Obj):Later w (((w.alloc o).alloc o').alloc o''):=(((Below.refl _ _).alloc (Nat.le_refl _) _).alloc (by simp) _).alloc (by simp;omega) _
theorem Later.set {w w':World}(h:Later w w') {a:Addr}(ha:w.heap.size≤a.block) (v:Value):Later w (w'.setCell a v):=Below.setCell h ha v
theorem Later.setAt {w w':World}(h:Later w w') {b:Nat}(hb:w.heap.size≤b) (o:Nat) (v:Value):Later w (w'.setCell ⟨b,o,none⟩ v):=Below.setCell h hb v
theorem Later.alloc {w w':World}(h:Later w w') (o:Obj):Later w (w'.alloc o):=h.trans (later1 _ _)
structure Kept (lo:Nat) (w w':World):Prop where
 size:w.heap.size≤w'.heap.size
 block:∀ b,lo≤b→b<w.heap.size→w'.heap[b]?=w.heap[b]?
theorem Kept.refl (lo:Nat) (w:World):Kept lo w w:=⟨Nat.le_refl _,fun _ _ _=>rfl⟩
theorem Kept.set {lo:Nat}{w w':World}(h:Kept lo w w') {a:Addr}(ha:a.block<lo) (v:Value):Kept lo w (w'.setCell a v) :=
 ⟨by rw[World.size_setCell];exact h.size,fun b hb hw=>by rw[Below.heap_setCell _ _ _ _ (by omega)];exact h.block b hb hw⟩
theorem Kept.setAt {lo:Nat}{w w':World}(h:Kept lo w w') {b:Nat}(hb:b<lo) (o:Nat) (v:Value):Kept lo w (w'.setCell ⟨b,o,none⟩ v):=h.set hb v
theorem Kept.later {lo:Nat}{w w' w'':World}(h:Kept lo w w') (hl:Later w' w''):Kept lo w w'' :=
 ⟨Nat.le_trans h.size hl.size,fun b hb hw=>by rw[hl.block b (Nat.lt_of_lt_of_le hw h.size)];exact h.block b hb hw⟩
def Fr (lo hi:Nat) (F:List Nat):Prop:=F.Nodup∧∀ b∈F,lo≤b∧b<hi
theorem Fr.nil (lo hi:Nat):Fr lo hi []:=⟨List.nodup_nil,fun b hb=>by cases hb⟩
theorem Fr.one {lo hi g:Nat}(h:lo≤g) (h':g<hi):Fr lo hi [g]:=⟨by simp,fun b hb=>by rw[List.mem_singleton.1 hb];exact⟨h,h'⟩⟩
theorem Fr.mono {lo hi lo' hi':Nat}{F:List Nat}(h:Fr lo hi F) (h1:lo'≤lo) (h2:hi≤hi'):Fr lo' hi' F:=⟨h.1,fun b hb=>by have:=h.2 b hb;omega⟩
theorem Fr.app {lo mid hi:Nat}{F G:List Nat}(h:Fr lo mid F) (k:Fr mid hi G) (h1:lo≤mid) (h2:mid≤hi):Fr lo hi (F++G):=by
 refine⟨List.nodup_append.2 ⟨h.1,k.1,fun a ha b hb e=>?_⟩,fun b hb=>?_⟩
 ·have x:=h.2 a ha
  have y:=k.2 b hb
  omega
 ·rcases List.mem_append.1 hb with hb|hb
  ·have:=h.2 b hb;omega
  ·have:=k.2 b hb;omega
theorem Own.mk' {base:Nat}{w:World}{d:Dat}{cs:List Value}{F:List Nat}(h:OwnD w d cs F) (f:Fr base w.heap.size F):Own base w d cs F:=⟨h,f.1,f.2⟩
theorem Own.fr {base:Nat}{w:World}{d:Dat}{cs:List Value}{F:List Nat}(h:Own base w d cs F):Fr base w.heap.size F:=⟨h.nodup,h.fresh⟩
theorem Own.kept {base:Nat}{w w':World}{d:Dat}{cs:List Value}{F:List Nat}(h:Own base w d cs F) (hk:Kept base w w'):OwnD w' d cs F:=(h.agree hk.size hk.block).own
theorem toTy_any (tk tn:Int) (w:World):Calls Tryz.prog 102 #[.agg #[.int .i64 tk,.int .i64 tn]] w fun e w'=>e=.returned (.agg #[.int .i64 tk,.int .i64 tn])∧Later w w':=by
 go_enter Tryz.func102,Tryz.ntmps102
 go_wp2
 exact bodyPost_ret (v:=.agg #[.int .i64 tk,.int .i64 tn]) (by simp[results,Tryz.results102,go_sem]) rfl ⟨rfl,later3 _ _ _ _⟩
theorem tob_own (v:Value) (zs:List Int) (w:World) (hs:zs.length≤1048576) (h:RdB w v zs) :
  Calls Tryz.prog 100 #[v] w fun e w'=>∃ a c F,e=.returned (.slice a zs.length c)∧Own w.heap.size w' (.bytes zs) [.slice a zs.length c] F∧Later w w':=by
 have hb:∀ j,isB (zs.getD j 0):=by obtain⟨_,_,_,_,hb,_⟩:=h;exact hb
 refine (tob_any v zs w hs h).mono ?_
 rintro e w' ⟨rfl,o,l⟩
 have hlt:=(o.lt w.heap.size rfl).2
 rcases Nat.eq_zero_or_pos zs.length with h0|h0
 ·refine⟨_,_,[],rfl,Own.mk' ?_ (Fr.nil _ _),l⟩
  rw[OwnD]
  exact⟨_,_,rfl,⟨hs,Nat.le_refl _,by unfold maxLen;omega⟩,hb,fun hp=>by omega,fun _=>rfl⟩
 ·refine⟨_,_,[w.heap.size],rfl,Own.mk' ?_ (Fr.one (Nat.le_refl _) hlt),l⟩
  rw[OwnD]
  refine⟨_,_,rfl,⟨hs,Nat.le_refl _,by unfold maxLen;omega⟩,hb,fun _=>⟨w.heap.size,rfl,rfl,hlt,fun j hj=>⟨?_,o.frozenAt j⟩⟩,fun hp=>by omega⟩
  rw[o.cellAt j (by omega),List.getElem?_map,List.getElem?_eq_getElem hj,List.getD_eq_getElem?_getD,List.getElem?_eq_getElem hj]
  rfl
def puts (w:World) (g o:Nat):List Value→World
 | []=>w
 | c::r=>puts (w.setCell ⟨g,o,none⟩ c) g (o+1) r
theorem puts_size (g:Nat):∀ (cs:List Value) (w:World) (o:Nat),(puts w g o cs).heap.size=w.heap.size
 | [],_,_=>rfl
 | c::r,w,o=>by rw[puts,puts_size g r,World.size_setCell]
theorem puts_frozen (g:Nat) (a:Addr):∀ (cs:List Value) (w:World) (o:Nat),(puts w g o cs).frozen? a=w.frozen? a
 | [],_,_=>rfl
 | c::r,w,o=>by rw[puts,puts_frozen g a r,World.frozen?_setCell]
theorem puts_block (g b:Nat) (hb:b≠g):∀ (cs:List Value) (w:World) (o:Nat),(puts w g o cs).heap[b]?=w.heap[b]?
 | [],_,_=>rfl
 | c::r,w,o=>by rw[puts,puts_block g b hb r,Below.heap_setCell _ _ _ _ hb]
theorem puts_other (g o':Nat):∀ (cs:List Value) (w:World) (o:Nat),(o'<o∨o+cs.length≤o')→(puts w g o cs).cell? ⟨g,o',none⟩=w.cell? ⟨g,o',none⟩
 | [],_,_,_=>rfl
 | c::r,w,o,h=>by
  rw[List.length_cons]at h
  rw[puts,puts_other g o' r _ _ (by omega),set_off _ _ _ (by omega)]
theorem puts_at (g:Nat):∀ (cs:List Value) (w:World) (o:Nat),(∀ m,m<cs.length→∃ u,w.cell? ⟨g,o+m,none⟩=some u)→∀ m u,cs[m]?=some u→(puts w g o cs).cell? ⟨g,o+m,none⟩=some u
 | [],_,_,_,m,u,h=>by simp at h
 | c::r,w,o,he,0,u,h=>by
  have hu:c=u:=by simpa using h
  obtain⟨x,hx⟩:=he 0 (by simp)
  rw[puts,puts_other g _ r _ _ (by omega),hu]
  exact set_same hx
 | c::r,w,o,he,m+1,u,h=>by
  rw[puts,show o+(m+1)=o+1+m by omega]
  refine puts_at g r _ _ (fun m' hm'=>?_) m u (by simpa using h)
  obtain⟨x,hx⟩:=he (m'+1) (by rw[List.length_cons];omega)
  refine⟨x,?_⟩
  rw[set_off _ _ _ (by omega),← hx,show o+1+m'=o+(m'+1) by omega]
theorem puts_later {w0 w:World}(h:Later w0 w) {g:Nat}(hg:w0.heap.size≤g):∀ (cs:List Value) (o:Nat),Later w0 (puts w g o cs):=by
 intro cs
 induction cs generalizing w with
 | nil=>intro _;exact h
 | cons c r ih=>intro o;rw[puts];exact ih (h.set hg c) _
theorem OwnAll.snoc {w:World}{k g:Nat}{d:Dat}{cs:List Value}{G:List Nat}:∀ (l:List Dat) {i:Nat}{F:List Nat},OwnAll w k g i l F→cs.length=k→(∀ m u,cs[m]?=some u→w.cell? ⟨g,(i+l.length)*k+m,none⟩=some u∧w.frozen? ⟨g,(i+l.length)*k+m,none⟩=false)→OwnD w d cs G→OwnAll w k g i (l++[d]) (F++G)
 | [],i,F,h,hk,hc,hd=>by
  rw[OwnAll]at h
  subst h
  rw[List.nil_append,List.nil_append,OwnAll]
  exact⟨cs,G,[],by rw[List.append_nil],hk,hc,hd,by rw[OwnAll]⟩
 | x::r,i,F,h,hk,hc,hd=>by
  rw[OwnAll]at h
  obtain⟨c1,F1,F2,rfl,hk1,hc1,hd1,hr⟩:=h
  rw[List.cons_append,OwnAll]
  refine⟨c1,F1,F2++G,by rw[List.append_assoc],hk1,hc1,hd1,OwnAll.snoc r hr hk ?_ hd⟩
  rw[List.length_cons]at hc
  rw[show i+1+r.length=i+(r.length+1) by omega]
  exact hc
theorem OwnAll.agree' {w w':World}(hs:w.heap.size≤w'.heap.size) {k g:Nat}:∀ (l:List Dat) {i:Nat}{F:List Nat},OwnAll w k g i l F→(∀ o,i*k≤o→o<(i+l.length)*k→w'.cell? ⟨g,o,none⟩=w.cell? ⟨g,o,none⟩∧w'.frozen? ⟨g,o,none⟩=w.frozen? ⟨g,o,none⟩)→(∀ b∈F,w'.heap[b]?=w.heap[b]?)→OwnAll w' k g i l F
 | [],i,F,h,_,_=>by rw[OwnAll]at h ⊢;exact h
 | d::r,i,F,h,hg,ha=>by
  rw[OwnAll]at h ⊢
  obtain⟨cs,F1,F2,rfl,hk,hc,hd,hr⟩:=h
  rw[List.length_cons]at hg
  have e1:(i+1)*k=i*k+k:=Nat.succ_mul i k
  have e2:(i+(r.length+1))*k=(i+1+r.length)*k:=by rw[show i+(r.length+1)=i+1+r.length by omega]
  have e3:(i+1)*k≤(i+1+r.length)*k:=Nat.mul_le_mul_right _ (by omega)
  refine⟨cs,F1,F2,rfl,hk,fun m u hm=>?_,OwnD.agree hs d hd (fun b hb=>ha b (List.mem_append_left _ hb)),OwnAll.agree' hs r hr (fun o h1 h2=>hg o (by omega) (by omega)) (fun b hb=>ha b (List.mem_append_right _ hb))⟩
  have hml:m<k:=by
   rw[←hk]
   rcases Nat.lt_or_ge m cs.length with h|h
   ·exact h
   ·rw[List.getElem?_eq_none h]at hm;cases hm
  have:=hc m u hm
  obtain⟨x,y⟩:=hg (i*k+m) (by omega) (by omega)
  exact⟨by rw[x];exact this.1,by rw[y];exact this.2⟩
structure Row (w wr:World) (k n j:Nat) (l:List Dat) (F:List Nat):Prop where
 all:OwnAll wr k w.heap.size 0 (l.take j) F
 fr:Fr (w.heap.size+1) wr.heap.size F
 cell:∀ o,o<n*k→(∃ u,wr.cell? ⟨w.heap.size,o,none⟩=some u)∧wr.frozen? ⟨w.heap.size,o,none⟩=false
 lt:w.heap.size<wr.heap.size
 later:Later w wr
theorem Row.at {w wr:World}{k n j:Nat}{l:List Dat}{F:List Nat}(h:Row w wr k n j l F) (hj:j<n) (m:Nat) (hm:m<k):(∃ u,wr.cell? ⟨w.heap.size,j*k+m,none⟩=some u)∧wr.frozen? ⟨w.heap.size,j*k+m,none⟩=false:=by
 refine h.cell _ ?_
 have:(j+1)*k≤n*k:=Nat.mul_le_mul_right _ hj
 rw[Nat.succ_mul]at this
 omega
theorem Row.start {w w1:World}{t:TypeId}{k n cap:Nat}{xs:List Value}(ho:w1.ownsRow w.heap.size t k (.slice (some ⟨w.heap.size,0,none⟩) n cap) n xs) (hx:xs.length=n*k) (hl:Later w w1) (l:List Dat):Row w w1 k n 0 l []:=by
 refine⟨by rw[List.take_zero,OwnAll],Fr.nil _ _,fun o h=>⟨⟨xs[o]'(by omega),?_⟩,ho.frozenAt o⟩,(ho.lt w.heap.size rfl).2,hl⟩
 rw[ho.cellAt o (by omega),List.getElem?_eq_getElem (by omega)]
theorem Row.next {w wr w1:World}{k n j:Nat}{l:List Dat}{F:List Nat}(h:Row w wr k n j l F) (hj:j<l.length) (hn:l.length=n) {cs:List Value}{G:List Nat}(hk:cs.length=k) (hd:Own wr.heap.size w1 l[j] cs G) (hl:Later wr w1) :
  ∃ F',Row w (puts w1 w.heap.size (j*k) cs) k n (j+1) l F':=by
 have hlt:=h.lt
 have hs:=hl.size
 have hcell:∀ o,o<n*k→(∃ u,w1.cell? ⟨w.heap.size,o,none⟩=some u)∧w1.frozen? ⟨w.heap.size,o,none⟩=false:=fun o ho=>by
  obtain⟨⟨u,hu⟩,hf⟩:=h.cell o ho
  exact⟨⟨u,by rw[Below.cell hl (p:=⟨w.heap.size,o,none⟩) hlt];exact hu⟩,by rw[Below.frozen hl (p:=⟨w.heap.size,o,none⟩) hlt];exact hf⟩
 have hjn:(j+1)*k≤n*k:=Nat.mul_le_mul_right _ (by omega)
 rw[Nat.succ_mul]at hjn
 have htl:(l.take j).length=j:=by rw[List.length_take];omega
 refine⟨F++G,⟨?_,?_,fun o ho=>?_,by rw[puts_size];omega,puts_later (h.later.trans hl) (Nat.le_refl _) _ _⟩⟩
 ·rw[List.take_succ_eq_append_getElem hj]
  refine OwnAll.snoc _ (OwnAll.agree' (by rw[puts_size];exact hs) _ h.all (fun o h1 h2=>?_) (fun b hb=>?_)) hk (fun m u hm=>?_) (OwnD.agree (by rw[puts_size];exact Nat.le_refl _) _ hd.own (fun b hb=>?_))
  ·rw[htl,Nat.zero_add]at h2
   refine⟨?_,?_⟩
   ·rw[puts_other _ _ _ _ _ (by omega),Below.cell hl (p:=⟨w.heap.size,o,none⟩) hlt]
   ·rw[puts_frozen,Below.frozen hl (p:=⟨w.heap.size,o,none⟩) hlt]
  ·have:=h.fr.2 b hb
   rw[puts_block _ _ (by omega),hl.block b this.2]
  ·rw[htl,Nat.zero_add]
   have hml:m<k:=by
    rw[←hk]
    rcases Nat.lt_or_ge m cs.length with h|h
    ·exact h
    ·rw[List.getElem?_eq_none h]at hm;cases hm
   refine⟨puts_at _ _ _ _ (fun m' hm'=>(hcell _ (by omega)).1) m u hm,?_⟩
   rw[puts_frozen]
   exact (hcell _ (by omega)).2
  ·have:=hd.fresh b hb
   rw[puts_block _ _ (by omega)]
 ·rw[puts_size]
  exact h.fr.app hd.fr (by omega) hs
 ·obtain⟨⟨u,hu⟩,hf⟩:=hcell o ho
  refine⟨?_,by rw[puts_frozen];exact hf⟩
  rcases Nat.lt_or_ge o (j*k) with a|a
  ·exact⟨u,by rw[puts_other _ _ _ _ _ (by omega)];exact hu⟩
  ·rcases Nat.lt_or_ge o (j*k+k) with b|b
   ·have hm:o - j*k<cs.length:=by omega
    have:=puts_at w.heap.size cs w1 (j*k) (fun m' hm'=>(hcell _ (by omega)).1) (o - j*k) _ (List.getElem?_eq_getElem hm)
    rw[show j*k+(o - j*k)=o by omega]at this
    exact⟨_,this⟩
   ·exact⟨u,by rw[puts_other _ _ _ _ _ (by omega)];exact hu⟩
theorem Row.done {w wr:World}{k n cap:Nat}{l:List Dat}{F:List Nat}(h:Row w wr k n n l F) (hn:l.length=n) (hs:n≤1048576) (hcap:n≤cap∧cap≤maxLen):∃ G,Own w.heap.size wr (.list k l) [.slice (some ⟨w.heap.size,0,none⟩) n cap] G:=by
 have hlt:=h.lt
 have e:l.take n=l:=List.take_of_length_le (by omega)
 have ha:=h.all
 rw[e]at ha
 rcases Nat.eq_zero_or_pos n with h0|h0
 ·refine⟨[],Own.mk' ?_ (Fr.nil _ _)⟩
  rw[OwnD,hn]
  exact⟨_,cap,rfl,⟨hs,hcap⟩,fun hp=>by omega,fun _=>rfl⟩
 ·refine⟨w.heap.size::F,Own.mk' ?_ ((Fr.one (Nat.le_refl _) (Nat.lt_succ_self _)).app h.fr (by omega) (by omega))⟩
  rw[OwnD,hn]
  exact⟨_,cap,rfl,⟨hs,hcap⟩,fun _=>⟨_,F,rfl,rfl,hlt,ha⟩,fun hp=>by omega⟩
end Go.Proofs.YtmdejbphoafjlaaGreatDoor
