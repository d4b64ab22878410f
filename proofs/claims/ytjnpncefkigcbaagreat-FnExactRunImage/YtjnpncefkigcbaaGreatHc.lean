import Derived.Test.YtjnpncefkigcbaaGreatHb
import Derived.Deep.RegionWith
set_option maxHeartbeats 100000000
set_option maxRecDepth 100000
namespace Go.Proofs.YtjnpncefkigcbaaGreat
open Go.RowKit
theorem eqIns_true (v u:Value) (l:List In) (w:World) (h:RdL w 1 v (In.dats l)) (k:RdL w 1 u (In.dats l)) :
  Calls Tryz.prog 36 #[v,u] w fun e w'=>e=.returned (.bool true)∧Later w w':=by
 obtain⟨a,cap,rfl,hl⟩:=In.slice h;obtain⟨b,cap',rfl,_⟩:=In.slice k;have hle:((l.length:Int) != (l.length:Int))=false:=by simp
 go_enter Tryz.func36,Tryz.ntmps36;go_wp2_with fail
 go_loopw [5] (fun i wr=>∃ (j n:Nat),i=.int .i64 (j:Int)∧j≤l.length∧wr=w.drewN n) (fun i _=>l.length - (intOf i).toNat)
 case atStart=>exact⟨0,0,rfl,Nat.zero_le _,rfl⟩
 case round =>
  obtain⟨j,n,rfl,hj,rfl⟩:=hrel;by_cases hlt:j<l.length
  ·obtain⟨g,off,rfl,hg,c0⟩:=In.elem h j hlt;obtain⟨g',off',rfl,hg',d0⟩:=In.elem k j hlt;have i1:(j:Int)<(l.length:Int):=by omega
   generalize l[j]=z at *
   have hne:(z != z)=false:=by simp
   clear h k;go_wp2
   go_quiet (fail)
   go_wp2
   go_roundw
   case rel=>exact⟨j+1,_,by go_num,by omega,rfl⟩
   case measure=>simp[intOf];omega
  ·have i1:¬ (j:Int)<(l.length:Int):=by omega
   have i2:decide ((j:Int)<(l.length:Int))=false:=decide_eq_false i1;go_wp2_with fail
   go_ret;exact⟨rfl,later_drewN (Later.refl _) _⟩
theorem eqBos_true (v u:Value) (l:List Bo) (w:World) (h:RdL w 1 v (Bo.dats l)) (k:RdL w 1 u (Bo.dats l)) :
  Calls Tryz.prog 68 #[v,u] w fun e w'=>e=.returned (.bool true)∧Later w w':=by
 obtain⟨a,cap,rfl,hl⟩:=Bo.slice h;obtain⟨b,cap',rfl,_⟩:=Bo.slice k;have hle:((l.length:Int) != (l.length:Int))=false:=by simp
 go_enter Tryz.func68,Tryz.ntmps68;go_wp2_with fail
 go_loopw [5] (fun i wr=>∃ (j n:Nat),i=.int .i64 (j:Int)∧j≤l.length∧wr=w.drewN n) (fun i _=>l.length - (intOf i).toNat)
 case atStart=>exact⟨0,0,rfl,Nat.zero_le _,rfl⟩
 case round =>
  obtain⟨j,n,rfl,hj,rfl⟩:=hrel;by_cases hlt:j<l.length
  ·obtain⟨g,off,rfl,hg,c0⟩:=Bo.elem h j hlt;obtain⟨g',off',rfl,hg',d0⟩:=Bo.elem k j hlt;have i1:(j:Int)<(l.length:Int):=by omega
   generalize l[j]=z at *
   have hne:(z != z)=false:=by simp
   clear h k;go_wp2
   go_quiet (fail)
   go_wp2
   go_roundw
   case rel=>exact⟨j+1,_,by go_num,by omega,rfl⟩
   case measure=>simp[intOf];omega
  ·have i1:¬ (j:Int)<(l.length:Int):=by omega
   have i2:decide ((j:Int)<(l.length:Int))=false:=decide_eq_false i1;go_wp2_with fail
   go_ret;exact⟨rfl,later_drewN (Later.refl _) _⟩
theorem eqIs_true (p:Is) (w:World):Calls Tryz.prog 144 #[.agg #[.int .i64 p.op,.int .i64 p.a,.int .i64 p.b,.int .i64 p.c,.int .i64 p.n],.agg #[.int .i64 p.op,.int .i64 p.a,.int .i64 p.b,.int .i64 p.c,.int .i64 p.n]] w fun e w'=>e=.returned (.bool true)∧Later w w':=by
 obtain⟨p0,p1,p2,p3,p4⟩:=p;go_enter Tryz.func144,Tryz.ntmps144;go_wp2
 go_ret;exact⟨rfl,later2 _ _ _⟩
theorem eqIss_true (v u:Value) (l:List Is) (w:World) (h:RdL w 5 v (Is.dats l)) (k:RdL w 5 u (Is.dats l)) :
  Calls Tryz.prog 116 #[v,u] w fun e w'=>e=.returned (.bool true)∧Later w w':=by
 obtain⟨a,cap,rfl,hl⟩:=Is.slice h;obtain⟨b,cap',rfl,_⟩:=Is.slice k;have hle:((l.length:Int) != (l.length:Int))=false:=by simp
 go_enter Tryz.func116,Tryz.ntmps116;go_wp2_with fail
 go_loopw [5] (fun i wr=>∃ (j:Nat),i=.int .i64 (j:Int)∧j≤l.length∧Later w wr) (fun i _=>l.length - (intOf i).toNat)
 case atStart=>exact⟨0,rfl,Nat.zero_le _,Later.refl _⟩
 case round =>
  obtain⟨j,rfl,hj,lr⟩:=hrel;by_cases hlt:j<l.length
  ·obtain⟨g,off,rfl,hg,c0,c1,c2,c3,c4⟩:=Is.elem (RdL.later lr h) j hlt;obtain⟨g',off',rfl,hg',d0,d1,d2,d3,d4⟩:=Is.elem (RdL.later lr k) j hlt;have i1:(j:Int)<(l.length:Int):=by omega
   have hE:=fun w'=>eqIs_true l[j] w';clear h k
   generalize l[j].op=z_op at *
   generalize l[j].a=z_a at *
   generalize l[j].b=z_b at *
   generalize l[j].c=z_c at *
   generalize l[j].n=z_n at *
   go_wp2_with fail
   go_region_with (go_at_call 144;refine (hE _).mono ?_;rintro e w1 ⟨rfl,l1⟩)
   all_goals
    go_wp2_with fail
    go_roundw
    case rel=>exact⟨j+1,by go_num,by omega,lr.trans ((Later.drew _).trans l1)⟩
    case measure=>simp[intOf];omega
  ·have i1:¬ (j:Int)<(l.length:Int):=by omega
   have i2:decide ((j:Int)<(l.length:Int))=false:=decide_eq_false i1;go_wp2_with fail
   go_ret;exact⟨rfl,lr⟩
theorem eqBs_true (x:Bs) (v0 u0:Value) (w:World) (h0:RdL w 1 v0 (Bo.dats x.l)) (k0:RdL w 1 u0 (Bo.dats x.l)) :
  Calls Tryz.prog 68 #[v0,u0] w fun e w'=>e=.returned (.bool true)∧Later w w':=eqBos_true v0 u0 x.l w h0 k0
theorem eqBss_true (v u:Value) (l:List Bs) (w:World) (h:RdL w 1 v (Bs.dats l)) (k:RdL w 1 u (Bs.dats l)) :
  Calls Tryz.prog 34 #[v,u] w fun e w'=>e=.returned (.bool true)∧Later w w':=by
 obtain⟨a,cap,rfl,hl⟩:=Bs.slice h;obtain⟨b,cap',rfl,_⟩:=Bs.slice k;have hle:((l.length:Int) != (l.length:Int))=false:=by simp
 go_enter Tryz.func34,Tryz.ntmps34;go_wp2_with fail
 go_loopw [5] (fun i wr=>∃ (j:Nat),i=.int .i64 (j:Int)∧j≤l.length∧Later w wr) (fun i _=>l.length - (intOf i).toNat)
 case atStart=>exact⟨0,rfl,Nat.zero_le _,Later.refl _⟩
 case round =>
  obtain⟨j,rfl,hj,lr⟩:=hrel;by_cases hlt:j<l.length
  ·obtain⟨g,off,v0,rfl,hg,c0,r0⟩:=Bs.elem (RdL.later lr h) j hlt;obtain⟨g',off',u0,rfl,hg',d0,s0⟩:=Bs.elem (RdL.later lr k) j hlt;have i1:(j:Int)<(l.length:Int):=by omega
   rw[Nat.mul_one]at c0 d0;obtain⟨a0,p0,rfl,_⟩:=Bo.slice r0;obtain⟨b0,q0,rfl,_⟩:=Bo.slice s0;have hE:=fun w' (ll:Later wr w')=>eqBs_true l[j] _ _ w' (RdL.later ll r0) (RdL.later ll s0);clear r0 s0 h k;go_wp2_with fail
   go_region_with (go_at_call 68;refine (hE _ (Later.drew _)).mono ?_;rintro e w1 ⟨rfl,l1⟩)
   all_goals
    go_wp2_with fail
    go_roundw
    case rel=>exact⟨j+1,by go_num,by omega,lr.trans ((Later.drew _).trans l1)⟩
    case measure=>simp[intOf];omega
  ·have i1:¬ (j:Int)<(l.length:Int):=by omega
   have i2:decide ((j:Int)<(l.length:Int))=false:=decide_eq_false i1;go_wp2_with fail
   go_ret;exact⟨rfl,lr⟩
theorem eqMa_true (x:Ma) (v0 u0:Value) (w:World) (h0:RdL w 1 v0 (In.dats x.slots)) (k0:RdL w 1 u0 (In.dats x.slots)) :
  Calls Tryz.prog 145 #[.agg #[.int .i64 x.pc,v0],.agg #[.int .i64 x.pc,u0]] w fun e w'=>e=.returned (.bool true)∧Later w w':=by
 obtain⟨a0,p0,rfl,_⟩:=In.slice h0;obtain⟨b0,q0,rfl,_⟩:=In.slice k0
 generalize x.pc=z_pc at *
 go_enter Tryz.func145,Tryz.ntmps145;go_wp2_with fail
 refine (eqIns_true _ _ _ _ (RdL.later (later2 _ _ _) h0) (RdL.later (later2 _ _ _) k0)).mono ?_;rintro e w1 ⟨rfl,l1⟩;have L1:Later w w1:=Later.trans (later2 _ _ _) l1;obtain⟨hc1,_⟩:=bcell l1;have y1:w.heap.size+1<w1.heap.size:=by have:=l1.size;simp at this;omega
 have x1:w.heap.size<w1.heap.size:=by omega
 go_wp2_with fail
 go_ret;exact⟨rfl,L1⟩
theorem eqMas_true (v u:Value) (l:List Ma) (w:World) (h:RdL w 2 v (Ma.dats l)) (k:RdL w 2 u (Ma.dats l)) :
  Calls Tryz.prog 117 #[v,u] w fun e w'=>e=.returned (.bool true)∧Later w w':=by
 obtain⟨a,cap,rfl,hl⟩:=Ma.slice h;obtain⟨b,cap',rfl,_⟩:=Ma.slice k;have hle:((l.length:Int) != (l.length:Int))=false:=by simp
 go_enter Tryz.func117,Tryz.ntmps117;go_wp2_with fail
 go_loopw [5] (fun i wr=>∃ (j:Nat),i=.int .i64 (j:Int)∧j≤l.length∧Later w wr) (fun i _=>l.length - (intOf i).toNat)
 case atStart=>exact⟨0,rfl,Nat.zero_le _,Later.refl _⟩
 case round =>
  obtain⟨j,rfl,hj,lr⟩:=hrel;by_cases hlt:j<l.length
  ·obtain⟨g,off,v0,rfl,hg,c0,c1,r0⟩:=Ma.elem (RdL.later lr h) j hlt;obtain⟨g',off',u0,rfl,hg',d0,d1,s0⟩:=Ma.elem (RdL.later lr k) j hlt;have i1:(j:Int)<(l.length:Int):=by omega
   have hE:=fun w' (ll:Later wr w')=>eqMa_true l[j] v0 u0 w' (RdL.later ll r0) (RdL.later ll s0);clear r0 s0 h k
   generalize l[j].pc=z_pc at *
   go_wp2_with fail
   go_region_with (go_at_call 145;refine (hE _ (Later.drew _)).mono ?_;rintro e w1 ⟨rfl,l1⟩)
   all_goals
    go_wp2_with fail
    go_roundw
    case rel=>exact⟨j+1,by go_num,by omega,lr.trans ((Later.drew _).trans l1)⟩
    case measure=>simp[intOf];omega
  ·have i1:¬ (j:Int)<(l.length:Int):=by omega
   have i2:decide ((j:Int)<(l.length:Int))=false:=decide_eq_false i1;go_wp2_with fail
   go_ret;exact⟨rfl,lr⟩
theorem eqCd_true (x:Cd) (v0 v1 u0 u1:Value) (w:World) (h0:RdL w 5 v0 (Is.dats x.ins)) (h1:RdL w 2 v1 (Ma.dats x.maps)) (k0:RdL w 5 u0 (Is.dats x.ins)) (k1:RdL w 2 u1 (Ma.dats x.maps)) :
  Calls Tryz.prog 69 #[.agg #[.int .i64 x.frame,.int .i64 x.params,v0,v1],.agg #[.int .i64 x.frame,.int .i64 x.params,u0,u1]] w fun e w'=>e=.returned (.bool true)∧Later w w':=by
 obtain⟨a0,p0,rfl,_⟩:=Is.slice h0;obtain⟨b0,q0,rfl,_⟩:=Is.slice k0;obtain⟨a1,p1,rfl,_⟩:=Ma.slice h1;obtain⟨b1,q1,rfl,_⟩:=Ma.slice k1
 generalize x.frame=z_frame at *
 generalize x.params=z_params at *
 go_enter Tryz.func69,Tryz.ntmps69;go_wp2_with fail
 refine (eqIss_true _ _ _ _ (RdL.later (later2 _ _ _) h0) (RdL.later (later2 _ _ _) k0)).mono ?_;rintro e w1 ⟨rfl,l1⟩;have L1:Later w w1:=Later.trans (later2 _ _ _) l1;obtain⟨hc1,_⟩:=bcell l1;have y1:w.heap.size+1<w1.heap.size:=by have:=l1.size;simp at this;omega
 have x1:w.heap.size<w1.heap.size:=by omega
 go_wp2_with fail
 refine (eqMas_true _ _ _ _ (RdL.later L1 h1) (RdL.later L1 k1)).mono ?_;rintro e w2 ⟨rfl,l2⟩;have L2:Later w w2:=Later.trans L1 l2;obtain⟨hc2,_⟩:=bcell l2;have y2:w.heap.size+1<w2.heap.size:=by have:=l2.size;omega
 have x2:w.heap.size<w2.heap.size:=by omega
 go_wp2_with fail
 go_ret;exact⟨rfl,L2⟩
theorem eqCds_true (v u:Value) (l:List Cd) (w:World) (h:RdL w 4 v (Cd.dats l)) (k:RdL w 4 u (Cd.dats l)) :
  Calls Tryz.prog 35 #[v,u] w fun e w'=>e=.returned (.bool true)∧Later w w':=by
 obtain⟨a,cap,rfl,hl⟩:=Cd.slice h;obtain⟨b,cap',rfl,_⟩:=Cd.slice k;have hle:((l.length:Int) != (l.length:Int))=false:=by simp
 go_enter Tryz.func35,Tryz.ntmps35;go_wp2_with fail
 go_loopw [5] (fun i wr=>∃ (j:Nat),i=.int .i64 (j:Int)∧j≤l.length∧Later w wr) (fun i _=>l.length - (intOf i).toNat)
 case atStart=>exact⟨0,rfl,Nat.zero_le _,Later.refl _⟩
 case round =>
  obtain⟨j,rfl,hj,lr⟩:=hrel;by_cases hlt:j<l.length
  ·obtain⟨g,off,v0,v1,rfl,hg,c0,c1,c2,c3,r0,r1⟩:=Cd.elem (RdL.later lr h) j hlt;obtain⟨g',off',u0,u1,rfl,hg',d0,d1,d2,d3,s0,s1⟩:=Cd.elem (RdL.later lr k) j hlt;have i1:(j:Int)<(l.length:Int):=by omega
   have hE:=fun w' (ll:Later wr w')=>eqCd_true l[j] v0 v1 u0 u1 w' (RdL.later ll r0) (RdL.later ll r1) (RdL.later ll s0) (RdL.later ll s1);clear r0 r1 s0 s1 h k
   generalize l[j].frame=z_frame at *
   generalize l[j].params=z_params at *
   go_wp2_with fail
   go_region_with (go_at_call 69;refine (hE _ (Later.drew _)).mono ?_;rintro e w1 ⟨rfl,l1⟩)
   all_goals
    go_wp2_with fail
    go_roundw
    case rel=>exact⟨j+1,by go_num,by omega,lr.trans ((Later.drew _).trans l1)⟩
    case measure=>simp[intOf];omega
  ·have i1:¬ (j:Int)<(l.length:Int):=by omega
   have i2:decide ((j:Int)<(l.length:Int))=false:=decide_eq_false i1;go_wp2_with fail
   go_ret;exact⟨rfl,lr⟩
theorem eqIm_true (x:Im) (v0 v1 u0 u1:Value) (w:World) (h0:RdL w 1 v0 (Bs.dats x.structs)) (h1:RdL w 4 v1 (Cd.dats x.codes)) (k0:RdL w 1 u0 (Bs.dats x.structs)) (k1:RdL w 4 u1 (Cd.dats x.codes)) :
  Calls Tryz.prog 11 #[.agg #[v0,v1,.int .i64 x.main],.agg #[u0,u1,.int .i64 x.main]] w fun e w'=>e=.returned (.bool true)∧Later w w':=by
 obtain⟨a0,p0,rfl,_⟩:=Bs.slice h0;obtain⟨b0,q0,rfl,_⟩:=Bs.slice k0;obtain⟨a1,p1,rfl,_⟩:=Cd.slice h1;obtain⟨b1,q1,rfl,_⟩:=Cd.slice k1
 generalize x.main=z_main at *
 go_enter Tryz.func11,Tryz.ntmps11;go_wp2_with fail
 refine (eqBss_true _ _ _ _ (RdL.later (later2 _ _ _) h0) (RdL.later (later2 _ _ _) k0)).mono ?_;rintro e w1 ⟨rfl,l1⟩;have L1:Later w w1:=Later.trans (later2 _ _ _) l1;obtain⟨hc1,_⟩:=bcell l1;have y1:w.heap.size+1<w1.heap.size:=by have:=l1.size;simp at this;omega
 have x1:w.heap.size<w1.heap.size:=by omega
 go_wp2_with fail
 refine (eqCds_true _ _ _ _ (RdL.later L1 h1) (RdL.later L1 k1)).mono ?_;rintro e w2 ⟨rfl,l2⟩;have L2:Later w w2:=Later.trans L1 l2;obtain⟨hc2,_⟩:=bcell l2;have y2:w.heap.size+1<w2.heap.size:=by have:=l2.size;omega
 have x2:w.heap.size<w2.heap.size:=by omega
 go_wp2_with fail
 go_ret;exact⟨rfl,L2⟩
inductive Se where
 | mk (half:Int) (stack:Int) (input:List In) (fuel:Int) (oracle:List In)
def Se.half:Se→Int|.mk x _ _ _ _=>x
def Se.stack:Se→Int|.mk _ x _ _ _=>x
def Se.input:Se→List In|.mk _ _ x _ _=>x
def Se.fuel:Se→Int|.mk _ _ _ x _=>x
def Se.oracle:Se→List In|.mk _ _ _ _ x=>x
def Se.dat:Se→Dat
 | .mk half stack input fuel oracle=>.agg [.int half,.int stack,.list 1 (In.dats input),.int fuel,.list 1 (In.dats oracle)]
def Se.sz:Se→Nat
 | .mk _ _ input _ oracle=>In.szs input+In.szs oracle
theorem Se.view {w:World}{x:Se}{cs:List Value}(h:RdD w x.dat cs):∃ v0 v1,cs=[.int .i64 x.half,.int .i64 x.stack,v0,.int .i64 x.fuel,v1]∧RdL w 1 v0 (In.dats x.input)∧RdL w 1 v1 (In.dats x.oracle):=by
 obtain⟨half,stack,input,fuel,oracle⟩:=x;rw[Se.dat,RdD]at h;rw[RdAgg]at h;obtain⟨c0,d0,rfl,h0,h⟩:=h;rw[RdD]at h0;subst h0;rw[RdAgg]at h;obtain⟨c1,d1,rfl,h1,h⟩:=h;rw[RdD]at h1;subst h1;rw[RdAgg]at h;obtain⟨c2,d2,rfl,h2,h⟩:=h;obtain⟨u2,rfl,k2⟩:=RdL.iff.1 h2;rw[RdAgg]at h;obtain⟨c3,d3,rfl,h3,h⟩:=h;rw[RdD]at h3;subst h3;rw[RdAgg]at h;obtain⟨c4,d4,rfl,h4,h⟩:=h;obtain⟨u4,rfl,k4⟩:=RdL.iff.1 h4;rw[RdAgg]at h;subst h;exact⟨u2,u4,rfl,k2,k4⟩
theorem szSe_any (x:Se) (v0 v1:Value) (left:Int) (w:World) (h0:RdL w 1 v0 (In.dats x.input)) (h1:RdL w 1 v1 (In.dats x.oracle)) (hl0:0≤left) (hl1:left≤1048576) :
  Calls Tryz.prog 5 #[.agg #[.int .i64 x.half,.int .i64 x.stack,v0,.int .i64 x.fuel,v1],.int .i64 left] w fun e w'=>e=.returned (.int .i64 (szR left x.sz))∧Later w w':=by
 have L0:=later1 w (.cells #[.int .i64 x.half,.int .i64 x.stack,v0,.int .i64 x.fuel,v1] 28);have hsz:x.sz=In.szs x.input+In.szs x.oracle:=by obtain⟨half,stack,input,fuel,oracle⟩:=x;rfl
 rw[hsz];obtain⟨a0,p0,rfl,_⟩:=In.slice h0;obtain⟨a1,p1,rfl,_⟩:=In.slice h1;clear hsz
 generalize x.half=z_half at *
 generalize x.stack=z_stack at *
 generalize x.fuel=z_fuel at *
 go_enter Tryz.func5,Tryz.ntmps5;go_wp2_with fail
 refine (szIns_any _ _ (left) _ (RdL.later L0 h0) (by omega) (by omega)).mono ?_;rintro e w1 ⟨rfl,l1⟩;by_cases q0:((In.szs x.input:Nat):Int)≤left
 ·rw[szR_pos q0];have n0:¬ left - ((In.szs x.input:Nat):Int)<0:=by omega
  have bx1:w1.cell? ⟨w.heap.size,4,none⟩=some (.slice a1 x.oracle.length p1):=by rw[Below.cell (l1) (p:=⟨w.heap.size,4,none⟩) (by simp)];simp
  go_wp2_with fail
  refine (szIns_any _ _ (left - ((In.szs x.input:Nat):Int)) _ (RdL.later (L0.trans l1) h1) (by omega) (by omega)).mono ?_;rintro e w2 ⟨rfl,l2⟩;by_cases q1:((In.szs x.oracle:Nat):Int)≤left - ((In.szs x.input:Nat):Int)
  ·rw[szR_pos q1];have n1:¬ left - ((In.szs x.input:Nat):Int) - ((In.szs x.oracle:Nat):Int)<0:=by omega
   go_wp2_with fail
   go_ret;exact⟨ret_int (by rw[szR_pos (by omega)];first|done|omega),((L0.trans l1).trans l2)⟩
  ·rw[szR_neg q1];go_wp2_with fail
   go_ret;exact⟨ret_int (by rw[szR_neg (by omega)]),((L0.trans l1).trans l2)⟩
 ·rw[szR_neg q0];go_wp2_with fail
  go_ret;exact⟨ret_int (by rw[szR_neg (by omega)]),(L0.trans l1)⟩
end Go.Proofs.YtjnpncefkigcbaaGreat
