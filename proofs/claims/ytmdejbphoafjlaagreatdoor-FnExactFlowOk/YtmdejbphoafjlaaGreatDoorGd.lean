import Derived.Test.YtmdejbphoafjlaaGreatDoorGc
set_option maxHeartbeats 100000000
set_option maxRecDepth 100000
namespace Go.Proofs.YtmdejbphoafjlaaGreatDoor
open Go.RowKit
theorem eqb_true {v1 v2:Value}{zs:List Int}{w:World}(h1:RdB w v1 zs) (h2:RdB w v2 zs):Calls Tryz.prog 110 #[v1,v2] w fun e w'=>e=.returned (.bool true)∧Later w w' :=
 eqb_b (b:=true) (show _=_ from decide_eq_true rfl) h1 h2
theorem eqTy_true (tk tn:Int) (w:World):Calls Tryz.prog 112 #[.agg #[.int .i64 tk,.int .i64 tn],.agg #[.int .i64 tk,.int .i64 tn]] w fun e w'=>e=.returned (.bool true)∧Later w w':=by
 go_enter Tryz.func112,Tryz.ntmps112
 go_wp2
 go_ret
 exact⟨rfl,later2 _ _ _⟩
theorem eqPa_true (x:Pa) (v0 u0:Value) (w:World) (h0:RdN w v0 x.name) (k0:RdN w u0 x.name) :
  Calls Tryz.prog 146 #[.agg #[v0,.int .i64 x.tk,.int .i64 x.tn],.agg #[u0,.int .i64 x.tk,.int .i64 x.tn]] w fun e w'=>e=.returned (.bool true)∧Later w w':=by
 obtain⟨a0,p0,rfl,_⟩:=h0.slice
 obtain⟨b0,q0,rfl,_⟩:=k0.slice
 generalize x.tk=z_tk at *
 generalize x.tn=z_tn at *
 go_enter Tryz.func146,Tryz.ntmps146
 go_wp2_with fail
 refine (eqb_true (h0.later (later2 _ _ _)).rd (k0.later (later2 _ _ _)).rd).mono ?_
 rintro e w1 ⟨rfl,l1⟩
 have L1:Later w w1:=Later.trans (later2 _ _ _) l1
 obtain⟨hc1,_⟩:=bcell l1
 have y1:w.heap.size+1<w1.heap.size:=by have:=l1.size;simp at this;omega
 have x1:w.heap.size<w1.heap.size:=by omega
 go_wp2_with fail
 refine (eqTy_true _ _ _).mono ?_
 rintro e w2 ⟨rfl,l2⟩
 have L2:Later w w2:=Later.trans L1 l2
 obtain⟨hc2,_⟩:=bcell l2
 have y2:w.heap.size+1<w2.heap.size:=by have:=l2.size;omega
 have x2:w.heap.size<w2.heap.size:=by omega
 go_wp2_with fail
 go_ret
 exact⟨rfl,L2⟩
theorem eqPas_true (v u:Value) (l:List Pa) (w:World) (h:RdL w 3 v (Pa.dats l)) (k:RdL w 3 u (Pa.dats l)) :
  Calls Tryz.prog 111 #[v,u] w fun e w'=>e=.returned (.bool true)∧Later w w':=by
 obtain⟨a,cap,rfl,hl⟩:=Pa.slice h
 obtain⟨b,cap',rfl,_⟩:=Pa.slice k
 have hle:((l.length:Int) != (l.length:Int))=false:=by simp
 go_enter Tryz.func111,Tryz.ntmps111
 go_wp2_with fail
 go_loopw [5] (fun i wr=>∃ (j:Nat),i=.int .i64 (j:Int)∧j≤l.length∧Later w wr) (fun i _=>l.length - (intOf i).toNat)
 case atStart=>exact⟨0,rfl,Nat.zero_le _,Later.refl _⟩
 case round =>
  obtain⟨j,rfl,hj,lr⟩:=hrel
  by_cases hlt:j<l.length
  ·obtain⟨g,off,v0,rfl,hg,c0,c1,c2,r0⟩:=Pa.elem (RdL.later lr h) j hlt
   obtain⟨g',off',u0,rfl,hg',d0,d1,d2,s0⟩:=Pa.elem (RdL.later lr k) j hlt
   have i1:(j:Int)<(l.length:Int):=by omega
   have hE:=fun w' (ll:Later wr w')=>eqPa_true l[j] v0 u0 w' (r0.later ll) (s0.later ll)
   clear r0 s0 h k
   generalize l[j].tk=z_tk at *
   generalize l[j].tn=z_tn at *
   go_wp2_with fail
   go_region_with (go_at_call 146;refine (hE _ (Later.drew _)).mono ?_;rintro e w1 ⟨rfl,l1⟩)
   all_goals
    go_wp2_with fail
    go_roundw
    case rel=>exact⟨j+1,by go_num,by omega,lr.trans ((Later.drew _).trans l1)⟩
    case measure=>simp[intOf];omega
  ·have i1:¬ (j:Int)<(l.length:Int):=by omega
   have i2:decide ((j:Int)<(l.length:Int))=false:=decide_eq_false i1
   go_wp2_with fail
   go_ret
   exact⟨rfl,lr⟩
theorem eqSc_true (x:Sc) (v0 v1 u0 u1:Value) (w:World) (h0:RdN w v0 x.name) (h1:RdL w 3 v1 (Pa.dats x.fields)) (k0:RdN w u0 x.name) (k1:RdL w 3 u1 (Pa.dats x.fields)) :
  Calls Tryz.prog 64 #[.agg #[v0,v1],.agg #[u0,u1]] w fun e w'=>e=.returned (.bool true)∧Later w w':=by
 obtain⟨a0,p0,rfl,_⟩:=h0.slice
 obtain⟨b0,q0,rfl,_⟩:=k0.slice
 obtain⟨a1,p1,rfl,_⟩:=Pa.slice h1
 obtain⟨b1,q1,rfl,_⟩:=Pa.slice k1
 go_enter Tryz.func64,Tryz.ntmps64
 go_wp2_with fail
 refine (eqb_true (h0.later (later2 _ _ _)).rd (k0.later (later2 _ _ _)).rd).mono ?_
 rintro e w1 ⟨rfl,l1⟩
 have L1:Later w w1:=Later.trans (later2 _ _ _) l1
 obtain⟨hc1,_⟩:=bcell l1
 have y1:w.heap.size+1<w1.heap.size:=by have:=l1.size;simp at this;omega
 have x1:w.heap.size<w1.heap.size:=by omega
 go_wp2_with fail
 refine (eqPas_true _ _ _ _ (RdL.later L1 h1) (RdL.later L1 k1)).mono ?_
 rintro e w2 ⟨rfl,l2⟩
 have L2:Later w w2:=Later.trans L1 l2
 obtain⟨hc2,_⟩:=bcell l2
 have y2:w.heap.size+1<w2.heap.size:=by have:=l2.size;omega
 have x2:w.heap.size<w2.heap.size:=by omega
 go_wp2_with fail
 go_ret
 exact⟨rfl,L2⟩
theorem eqScs_true (v u:Value) (l:List Sc) (w:World) (h:RdL w 2 v (Sc.dats l)) (k:RdL w 2 u (Sc.dats l)) :
  Calls Tryz.prog 31 #[v,u] w fun e w'=>e=.returned (.bool true)∧Later w w':=by
 obtain⟨a,cap,rfl,hl⟩:=Sc.slice h
 obtain⟨b,cap',rfl,_⟩:=Sc.slice k
 have hle:((l.length:Int) != (l.length:Int))=false:=by simp
 go_enter Tryz.func31,Tryz.ntmps31
 go_wp2_with fail
 go_loopw [5] (fun i wr=>∃ (j:Nat),i=.int .i64 (j:Int)∧j≤l.length∧Later w wr) (fun i _=>l.length - (intOf i).toNat)
 case atStart=>exact⟨0,rfl,Nat.zero_le _,Later.refl _⟩
 case round =>
  obtain⟨j,rfl,hj,lr⟩:=hrel
  by_cases hlt:j<l.length
  ·obtain⟨g,off,v0,v1,rfl,hg,c0,c1,r0,r1⟩:=Sc.elem (RdL.later lr h) j hlt
   obtain⟨g',off',u0,u1,rfl,hg',d0,d1,s0,s1⟩:=Sc.elem (RdL.later lr k) j hlt
   have i1:(j:Int)<(l.length:Int):=by omega
   have hE:=fun w' (ll:Later wr w')=>eqSc_true l[j] v0 v1 u0 u1 w' (r0.later ll) (RdL.later ll r1) (s0.later ll) (RdL.later ll s1)
   clear r0 r1 s0 s1 h k
   go_wp2_with fail
   go_region_with (go_at_call 64;refine (hE _ (Later.drew _)).mono ?_;rintro e w1 ⟨rfl,l1⟩)
   all_goals
    go_wp2_with fail
    go_roundw
    case rel=>exact⟨j+1,by go_num,by omega,lr.trans ((Later.drew _).trans l1)⟩
    case measure=>simp[intOf];omega
  ·have i1:¬ (j:Int)<(l.length:Int):=by omega
   have i2:decide ((j:Int)<(l.length:Int))=false:=decide_eq_false i1
   go_wp2_with fail
   go_ret
   exact⟨rfl,lr⟩
theorem eqEx_true (x:Ex) (v0 v1 u0 u1:Value) (w:World) (h0:RdN w v0 x.name) (h1:RdL w 6 v1 (Ex.dats x.kids)) (k0:RdN w u0 x.name) (k1:RdL w 6 u1 (Ex.dats x.kids)) (ih:∀ (v u:Value) (l:List Ex) (w:World),RdL w 6 v (Ex.dats l)→RdL w 6 u (Ex.dats l)→Ex.szs l≤x.sz→Calls Tryz.prog 170 #[v,u] w fun e w'=>e=.returned (.bool true)∧Later w w') :
  Calls Tryz.prog 184 #[.agg #[.int .i64 x.kind,.int .i64 x.n,.int .i64 x.tk,.int .i64 x.tn,v0,v1],.agg #[.int .i64 x.kind,.int .i64 x.n,.int .i64 x.tk,.int .i64 x.tn,u0,u1]] w fun e w'=>e=.returned (.bool true)∧Later w w':=by
 have hsum:x.sz=x.name.length+Ex.szs x.kids:=by obtain⟨kind,n,tk,tn,name,kids⟩:=x;rfl
 obtain⟨a0,p0,rfl,_⟩:=h0.slice
 obtain⟨b0,q0,rfl,_⟩:=k0.slice
 obtain⟨a1,p1,rfl,_⟩:=Ex.slice h1
 obtain⟨b1,q1,rfl,_⟩:=Ex.slice k1
 have hs1:Ex.szs x.kids≤x.sz:=by rw[hsum];omega
 clear hsum
 generalize x.kind=z_kind at *
 generalize x.n=z_n at *
 generalize x.tk=z_tk at *
 generalize x.tn=z_tn at *
 go_enter Tryz.func184,Tryz.ntmps184
 go_wp2_with fail
 refine (eqTy_true _ _ _).mono ?_
 rintro e w1 ⟨rfl,l1⟩
 have L1:Later w w1:=Later.trans (later2 _ _ _) l1
 obtain⟨hc1,_⟩:=bcell l1
 have y1:w.heap.size+1<w1.heap.size:=by have:=l1.size;simp at this;omega
 have x1:w.heap.size<w1.heap.size:=by omega
 go_wp2_with fail
 refine (eqb_true (h0.later L1).rd (k0.later L1).rd).mono ?_
 rintro e w2 ⟨rfl,l2⟩
 have L2:Later w w2:=Later.trans L1 l2
 obtain⟨hc2,_⟩:=bcell l2
 have y2:w.heap.size+1<w2.heap.size:=by have:=l2.size;omega
 have x2:w.heap.size<w2.heap.size:=by omega
 go_wp2_with fail
 refine (ih _ _ _ _ (RdL.later L2 h1) (RdL.later L2 k1) hs1).mono ?_
 rintro e w3 ⟨rfl,l3⟩
 have L3:Later w w3:=Later.trans L2 l3
 obtain⟨hc3,_⟩:=bcell l3
 have y3:w.heap.size+1<w3.heap.size:=by have:=l3.size;omega
 have x3:w.heap.size<w3.heap.size:=by omega
 go_wp2_with fail
 go_ret
 exact⟨rfl,L3⟩
theorem eqExs_all (N:Nat):∀ (v u:Value) (l:List Ex) (w:World),Ex.szs l≤N→RdL w 6 v (Ex.dats l)→RdL w 6 u (Ex.dats l) →
  Calls Tryz.prog 170 #[v,u] w fun e w'=>e=.returned (.bool true)∧Later w w':=by
 induction N using Nat.strongRecOn with
 | _ N IH =>
 intro v u l w hN h k
 obtain⟨a,cap,rfl,hl⟩:=Ex.slice h
 obtain⟨b,cap',rfl,_⟩:=Ex.slice k
 have hle:((l.length:Int) != (l.length:Int))=false:=by simp
 go_enter Tryz.func170,Tryz.ntmps170
 go_wp2_with fail
 go_loopw [5] (fun i wr=>∃ (j:Nat),i=.int .i64 (j:Int)∧j≤l.length∧Later w wr) (fun i _=>l.length - (intOf i).toNat)
 case atStart=>exact⟨0,rfl,Nat.zero_le _,Later.refl _⟩
 case round =>
  obtain⟨j,rfl,hj,lr⟩:=hrel
  by_cases hlt:j<l.length
  ·obtain⟨g,off,v0,v1,rfl,hg,c0,c1,c2,c3,c4,c5,r0,r1⟩:=Ex.elem (RdL.later lr h) j hlt
   obtain⟨g',off',u0,u1,rfl,hg',d0,d1,d2,d3,d4,d5,s0,s1⟩:=Ex.elem (RdL.later lr k) j hlt
   have i1:(j:Int)<(l.length:Int):=by omega
   have hE:=fun w' (ll:Later wr w')=>eqEx_true l[j] v0 v1 u0 u1 w' (r0.later ll) (RdL.later ll r1) (s0.later ll) (RdL.later ll s1) (fun v' u' l' w' h' k' hs'=>IH (Ex.szs l') (by have:=Ex.sz_at l j hlt;omega) v' u' l' w' (Nat.le_refl _) h' k')
   clear r0 r1 s0 s1 h k
   generalize l[j].kind=z_kind at *
   generalize l[j].n=z_n at *
   generalize l[j].tk=z_tk at *
   generalize l[j].tn=z_tn at *
   go_wp2_with fail
   go_region_with (go_at_call 184;refine (hE _ (Later.drew _)).mono ?_;rintro e w1 ⟨rfl,l1⟩)
   all_goals
    go_wp2_with fail
    go_roundw
    case rel=>exact⟨j+1,by go_num,by omega,lr.trans ((Later.drew _).trans l1)⟩
    case measure=>simp[intOf];omega
  ·have i1:¬ (j:Int)<(l.length:Int):=by omega
   have i2:decide ((j:Int)<(l.length:Int))=false:=decide_eq_false i1
   go_wp2_with fail
   go_ret
   exact⟨rfl,lr⟩
theorem eqExs_true (v u:Value) (l:List Ex) (w:World) (h:RdL w 6 v (Ex.dats l)) (k:RdL w 6 u (Ex.dats l)) :
  Calls Tryz.prog 170 #[v,u] w fun e w'=>e=.returned (.bool true)∧Later w w':=eqExs_all _ v u l w (Nat.le_refl _) h k
theorem eqSt_true (x:St) (v0 v1 v2 v3 u0 u1 u2 u3:Value) (w:World) (h0:RdN w v0 x.name) (h1:RdL w 6 v1 (Ex.dats x.kids)) (h2:RdL w 8 v2 (St.dats x.body)) (h3:RdL w 8 v3 (St.dats x.els)) (k0:RdN w u0 x.name) (k1:RdL w 6 u1 (Ex.dats x.kids)) (k2:RdL w 8 u2 (St.dats x.body)) (k3:RdL w 8 u3 (St.dats x.els)) (ih:∀ (v u:Value) (l:List St) (w:World),RdL w 8 v (St.dats l)→RdL w 8 u (St.dats l)→St.szs l≤x.sz→Calls Tryz.prog 113 #[v,u] w fun e w'=>e=.returned (.bool true)∧Later w w') :
  Calls Tryz.prog 147 #[.agg #[.int .i64 x.kind,.int .i64 x.n,.int .i64 x.tk,.int .i64 x.tn,v0,v1,v2,v3],.agg #[.int .i64 x.kind,.int .i64 x.n,.int .i64 x.tk,.int .i64 x.tn,u0,u1,u2,u3]] w fun e w'=>e=.returned (.bool true)∧Later w w':=by
 have hsum:x.sz=x.name.length+Ex.szs x.kids+St.szs x.body+St.szs x.els:=by obtain⟨kind,n,tk,tn,name,kids,body,els⟩:=x;rfl
 obtain⟨a0,p0,rfl,_⟩:=h0.slice
 obtain⟨b0,q0,rfl,_⟩:=k0.slice
 obtain⟨a1,p1,rfl,_⟩:=Ex.slice h1
 obtain⟨b1,q1,rfl,_⟩:=Ex.slice k1
 obtain⟨a2,p2,rfl,_⟩:=St.slice h2
 obtain⟨b2,q2,rfl,_⟩:=St.slice k2
 have hs2:St.szs x.body≤x.sz:=by rw[hsum];omega
 obtain⟨a3,p3,rfl,_⟩:=St.slice h3
 obtain⟨b3,q3,rfl,_⟩:=St.slice k3
 have hs3:St.szs x.els≤x.sz:=by rw[hsum];omega
 clear hsum
 generalize x.kind=z_kind at *
 generalize x.n=z_n at *
 generalize x.tk=z_tk at *
 generalize x.tn=z_tn at *
 go_enter Tryz.func147,Tryz.ntmps147
 go_wp2_with fail
 refine (eqTy_true _ _ _).mono ?_
 rintro e w1 ⟨rfl,l1⟩
 have L1:Later w w1:=Later.trans (later2 _ _ _) l1
 obtain⟨hc1,_⟩:=bcell l1
 have y1:w.heap.size+1<w1.heap.size:=by have:=l1.size;simp at this;omega
 have x1:w.heap.size<w1.heap.size:=by omega
 go_wp2_with fail
 refine (eqb_true (h0.later L1).rd (k0.later L1).rd).mono ?_
 rintro e w2 ⟨rfl,l2⟩
 have L2:Later w w2:=Later.trans L1 l2
 obtain⟨hc2,_⟩:=bcell l2
 have y2:w.heap.size+1<w2.heap.size:=by have:=l2.size;omega
 have x2:w.heap.size<w2.heap.size:=by omega
 go_wp2_with fail
 refine (eqExs_true _ _ _ _ (RdL.later L2 h1) (RdL.later L2 k1)).mono ?_
 rintro e w3 ⟨rfl,l3⟩
 have L3:Later w w3:=Later.trans L2 l3
 obtain⟨hc3,_⟩:=bcell l3
 have y3:w.heap.size+1<w3.heap.size:=by have:=l3.size;omega
 have x3:w.heap.size<w3.heap.size:=by omega
 go_wp2_with fail
 refine (ih _ _ _ _ (RdL.later L3 h2) (RdL.later L3 k2) hs2).mono ?_
 rintro e w4 ⟨rfl,l4⟩
 have L4:Later w w4:=Later.trans L3 l4
 obtain⟨hc4,_⟩:=bcell l4
 have y4:w.heap.size+1<w4.heap.size:=by have:=l4.size;omega
 have x4:w.heap.size<w4.heap.size:=by omega
 go_wp2_with fail
 refine (ih _ _ _ _ (RdL.later L4 h3) (RdL.later L4 k3) hs3).mono ?_
 rintro e w5 ⟨rfl,l5⟩
 have L5:Later w w5:=Later.trans L4 l5
 obtain⟨hc5,_⟩:=bcell l5
 have y5:w.heap.size+1<w5.heap.size:=by have:=l5.size;omega
 have x5:w.heap.size<w5.heap.size:=by omega
 go_wp2_with fail
 go_ret
 exact⟨rfl,L5⟩
theorem eqSts_all (N:Nat):∀ (v u:Value) (l:List St) (w:World),St.szs l≤N→RdL w 8 v (St.dats l)→RdL w 8 u (St.dats l) →
  Calls Tryz.prog 113 #[v,u] w fun e w'=>e=.returned (.bool true)∧Later w w':=by
 induction N using Nat.strongRecOn with
 | _ N IH =>
 intro v u l w hN h k
 obtain⟨a,cap,rfl,hl⟩:=St.slice h
 obtain⟨b,cap',rfl,_⟩:=St.slice k
 have hle:((l.length:Int) != (l.length:Int))=false:=by simp
 go_enter Tryz.func113,Tryz.ntmps113
 go_wp2_with fail
 go_loopw [5] (fun i wr=>∃ (j:Nat),i=.int .i64 (j:Int)∧j≤l.length∧Later w wr) (fun i _=>l.length - (intOf i).toNat)
 case atStart=>exact⟨0,rfl,Nat.zero_le _,Later.refl _⟩
 case round =>
  obtain⟨j,rfl,hj,lr⟩:=hrel
  by_cases hlt:j<l.length
  ·obtain⟨g,off,v0,v1,v2,v3,rfl,hg,c0,c1,c2,c3,c4,c5,c6,c7,r0,r1,r2,r3⟩:=St.elem (RdL.later lr h) j hlt
   obtain⟨g',off',u0,u1,u2,u3,rfl,hg',d0,d1,d2,d3,d4,d5,d6,d7,s0,s1,s2,s3⟩:=St.elem (RdL.later lr k) j hlt
   have i1:(j:Int)<(l.length:Int):=by omega
   have hE:=fun w' (ll:Later wr w')=>eqSt_true l[j] v0 v1 v2 v3 u0 u1 u2 u3 w' (r0.later ll) (RdL.later ll r1) (RdL.later ll r2) (RdL.later ll r3) (s0.later ll) (RdL.later ll s1) (RdL.later ll s2) (RdL.later ll s3) (fun v' u' l' w' h' k' hs'=>IH (St.szs l') (by have:=St.sz_at l j hlt;omega) v' u' l' w' (Nat.le_refl _) h' k')
   clear r0 r1 r2 r3 s0 s1 s2 s3 h k
   generalize l[j].kind=z_kind at *
   generalize l[j].n=z_n at *
   generalize l[j].tk=z_tk at *
   generalize l[j].tn=z_tn at *
   go_wp2_with fail
   go_region_with (go_at_call 147;refine (hE _ (Later.drew _)).mono ?_;rintro e w1 ⟨rfl,l1⟩)
   all_goals
    go_wp2_with fail
    go_roundw
    case rel=>exact⟨j+1,by go_num,by omega,lr.trans ((Later.drew _).trans l1)⟩
    case measure=>simp[intOf];omega
  ·have i1:¬ (j:Int)<(l.length:Int):=by omega
   have i2:decide ((j:Int)<(l.length:Int))=false:=decide_eq_false i1
   go_wp2_with fail
   go_ret
   exact⟨rfl,lr⟩
theorem eqSts_true (v u:Value) (l:List St) (w:World) (h:RdL w 8 v (St.dats l)) (k:RdL w 8 u (St.dats l)) :
  Calls Tryz.prog 113 #[v,u] w fun e w'=>e=.returned (.bool true)∧Later w w':=eqSts_all _ v u l w (Nat.le_refl _) h k
theorem eqFu_true (x:Fu) (v0 v1 v2 u0 u1 u2:Value) (w:World) (h0:RdN w v0 x.name) (h1:RdL w 3 v1 (Pa.dats x.params)) (h2:RdL w 8 v2 (St.dats x.body)) (k0:RdN w u0 x.name) (k1:RdL w 3 u1 (Pa.dats x.params)) (k2:RdL w 8 u2 (St.dats x.body)) :
  Calls Tryz.prog 65 #[.agg #[v0,v1,.int .i64 x.rk,.int .i64 x.rn,v2],.agg #[u0,u1,.int .i64 x.rk,.int .i64 x.rn,u2]] w fun e w'=>e=.returned (.bool true)∧Later w w':=by
 obtain⟨a0,p0,rfl,_⟩:=h0.slice
 obtain⟨b0,q0,rfl,_⟩:=k0.slice
 obtain⟨a1,p1,rfl,_⟩:=Pa.slice h1
 obtain⟨b1,q1,rfl,_⟩:=Pa.slice k1
 obtain⟨a2,p2,rfl,_⟩:=St.slice h2
 obtain⟨b2,q2,rfl,_⟩:=St.slice k2
 generalize x.rk=z_rk at *
 generalize x.rn=z_rn at *
 go_enter Tryz.func65,Tryz.ntmps65
 go_wp2_with fail
 refine (eqb_true (h0.later (later2 _ _ _)).rd (k0.later (later2 _ _ _)).rd).mono ?_
 rintro e w1 ⟨rfl,l1⟩
 have L1:Later w w1:=Later.trans (later2 _ _ _) l1
 obtain⟨hc1,_⟩:=bcell l1
 have y1:w.heap.size+1<w1.heap.size:=by have:=l1.size;simp at this;omega
 have x1:w.heap.size<w1.heap.size:=by omega
 go_wp2_with fail
 refine (eqPas_true _ _ _ _ (RdL.later L1 h1) (RdL.later L1 k1)).mono ?_
 rintro e w2 ⟨rfl,l2⟩
 have L2:Later w w2:=Later.trans L1 l2
 obtain⟨hc2,_⟩:=bcell l2
 have y2:w.heap.size+1<w2.heap.size:=by have:=l2.size;omega
 have x2:w.heap.size<w2.heap.size:=by omega
 go_wp2_with fail
 refine (eqTy_true _ _ _).mono ?_
 rintro e w3 ⟨rfl,l3⟩
 have L3:Later w w3:=Later.trans L2 l3
 obtain⟨hc3,_⟩:=bcell l3
 have y3:w.heap.size+1<w3.heap.size:=by have:=l3.size;omega
 have x3:w.heap.size<w3.heap.size:=by omega
 go_wp2_with fail
 refine (eqSts_true _ _ _ _ (RdL.later L3 h2) (RdL.later L3 k2)).mono ?_
 rintro e w4 ⟨rfl,l4⟩
 have L4:Later w w4:=Later.trans L3 l4
 obtain⟨hc4,_⟩:=bcell l4
 have y4:w.heap.size+1<w4.heap.size:=by have:=l4.size;omega
 have x4:w.heap.size<w4.heap.size:=by omega
 go_wp2_with fail
 go_ret
 exact⟨rfl,L4⟩
theorem eqFus_true (v u:Value) (l:List Fu) (w:World) (h:RdL w 5 v (Fu.dats l)) (k:RdL w 5 u (Fu.dats l)) :
  Calls Tryz.prog 32 #[v,u] w fun e w'=>e=.returned (.bool true)∧Later w w':=by
 obtain⟨a,cap,rfl,hl⟩:=Fu.slice h
 obtain⟨b,cap',rfl,_⟩:=Fu.slice k
 have hle:((l.length:Int) != (l.length:Int))=false:=by simp
 go_enter Tryz.func32,Tryz.ntmps32
 go_wp2_with fail
 go_loopw [5] (fun i wr=>∃ (j:Nat),i=.int .i64 (j:Int)∧j≤l.length∧Later w wr) (fun i _=>l.length - (intOf i).toNat)
 case atStart=>exact⟨0,rfl,Nat.zero_le _,Later.refl _⟩
 case round =>
  obtain⟨j,rfl,hj,lr⟩:=hrel
  by_cases hlt:j<l.length
  ·obtain⟨g,off,v0,v1,v2,rfl,hg,c0,c1,c2,c3,c4,r0,r1,r2⟩:=Fu.elem (RdL.later lr h) j hlt
   obtain⟨g',off',u0,u1,u2,rfl,hg',d0,d1,d2,d3,d4,s0,s1,s2⟩:=Fu.elem (RdL.later lr k) j hlt
   have i1:(j:Int)<(l.length:Int):=by omega
   have hE:=fun w' (ll:Later wr w')=>eqFu_true l[j] v0 v1 v2 u0 u1 u2 w' (r0.later ll) (RdL.later ll r1) (RdL.later ll r2) (s0.later ll) (RdL.later ll s1) (RdL.later ll s2)
   clear r0 r1 r2 s0 s1 s2 h k
   generalize l[j].rk=z_rk at *
   generalize l[j].rn=z_rn at *
   go_wp2_with fail
   go_region_with (go_at_call 65;refine (hE _ (Later.drew _)).mono ?_;rintro e w1 ⟨rfl,l1⟩)
   all_goals
    go_wp2_with fail
    go_roundw
    case rel=>exact⟨j+1,by go_num,by omega,lr.trans ((Later.drew _).trans l1)⟩
    case measure=>simp[intOf];omega
  ·have i1:¬ (j:Int)<(l.length:Int):=by omega
   have i2:decide ((j:Int)<(l.length:Int))=false:=decide_eq_false i1
   go_wp2_with fail
   go_ret
   exact⟨rfl,lr⟩
theorem eqSo_true (x:So) (v0 v1 u0 u1:Value) (w:World) (h0:RdL w 2 v0 (Sc.dats x.structs)) (h1:RdL w 5 v1 (Fu.dats x.funcs)) (k0:RdL w 2 u0 (Sc.dats x.structs)) (k1:RdL w 5 u1 (Fu.dats x.funcs)) :
  Calls Tryz.prog 11 #[.agg #[v0,v1],.agg #[u0,u1]] w fun e w'=>e=.returned (.bool true)∧Later w w':=by
 obtain⟨a0,p0,rfl,_⟩:=Sc.slice h0
 obtain⟨b0,q0,rfl,_⟩:=Sc.slice k0
 obtain⟨a1,p1,rfl,_⟩:=Fu.slice h1
 obtain⟨b1,q1,rfl,_⟩:=Fu.slice k1
 go_enter Tryz.func11,Tryz.ntmps11
 go_wp2_with fail
 refine (eqScs_true _ _ _ _ (RdL.later (later2 _ _ _) h0) (RdL.later (later2 _ _ _) k0)).mono ?_
 rintro e w1 ⟨rfl,l1⟩
 have L1:Later w w1:=Later.trans (later2 _ _ _) l1
 obtain⟨hc1,_⟩:=bcell l1
 have y1:w.heap.size+1<w1.heap.size:=by have:=l1.size;simp at this;omega
 have x1:w.heap.size<w1.heap.size:=by omega
 go_wp2_with fail
 refine (eqFus_true _ _ _ _ (RdL.later L1 h1) (RdL.later L1 k1)).mono ?_
 rintro e w2 ⟨rfl,l2⟩
 have L2:Later w w2:=Later.trans L1 l2
 obtain⟨hc2,_⟩:=bcell l2
 have y2:w.heap.size+1<w2.heap.size:=by have:=l2.size;omega
 have x2:w.heap.size<w2.heap.size:=by omega
 go_wp2_with fail
 go_ret
 exact⟨rfl,L2⟩
end Go.Proofs.YtmdejbphoafjlaaGreatDoor
