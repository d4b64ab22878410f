/- My texts LNa, MNa in one. -/
import Derived.Test.YtmdejbphoafjlaaGreatDoorHo
import Derived.Test.YtmdejbphoafjlaaGreatDoorGd
import Derived.Test.YtmdejbphoafjlaaGreatDoorHq
import Derived.Deep.RegionHeld3
set_option maxHeartbeats 100000000
set_option maxRecDepth 100000
namespace Go.Proofs.YtmdejbphoafjlaaGreatDoor
open Go.RowKit
theorem lawna_any (x:So) (v0 v1:Value) (w:World) (hEn:Env w) (hTy:TyE w) (hg:Fu.goods x.funcs) (h0:RdL w 2 v0 (Sc.dats x.structs)) (h1:RdL w 5 v1 (Fu.dats x.funcs)) :
  Calls Tryz.prog 3 #[.agg #[v0,v1]] w fun e w'=>e=.returned (.bool true)∧Later w w':=by
 have hsz:=fun w' (l:Later w w')=>szSo_any x v0 v1 1048576 w' (RdL.later l h0) (RdL.later l h1) (by decide) (by decide)
 have hto:=fun (hs:x.sz≤1048576) w' (l:Later w w')=>toSo_any x v0 v1 w' (RdL.later l h0) (RdL.later l h1) hs
 obtain⟨a0,p0,rfl,_⟩:=Sc.slice h0
 obtain⟨a1,p1,rfl,_⟩:=Fu.slice h1
 have hB0:∀ o,Later w (w.alloc o):=fun o=>later1 w o
 clear h0 h1
 by_cases hs:x.sz≤1048576
 ·have hs':((x.sz:Nat):Int)≤1048576:=by omega
  rw[szR_pos hs']at hsz
  have hto':=hto hs
  have n0:¬ (1048576:Int) - ((x.sz:Nat):Int)<0:=by omega
  clear hto
  go_enter Tryz.func3,Tryz.ntmps3
  go_wp2_with fail
  refine (hsz _ (later1 _ _)).mono ?_
  rintro e w1 ⟨rfl,l1⟩
  have L1:Later w w1:=(later1 _ _).trans l1
  have y0:w1.cell? ⟨w.heap.size,0,none⟩=some (.slice a0 x.structs.length p0):=by rw[Below.cell l1 (p:=⟨w.heap.size,0,none⟩) (by simp)];simp
  have y1:w1.cell? ⟨w.heap.size,1,none⟩=some (.slice a1 x.funcs.length p1):=by rw[Below.cell l1 (p:=⟨w.heap.size,1,none⟩) (by simp)];simp
  have z1:w.heap.size<w1.heap.size:=by have:=l1.size;simp at this;omega
  clear l1
  go_wp2_with fail
  refine (hto' _ L1).mono ?_
  rintro e w2 ⟨b0,q0,b1,q1,F2,rfl,O2,l2⟩
  obtain⟨_,_,e2,r20,r21⟩:=So.view O2.rd
  cases e2
  have y0:w2.cell? ⟨w.heap.size,0,none⟩=some (.slice a0 x.structs.length p0):=by rw[Below.cell l2 (p:=⟨w.heap.size,0,none⟩) z1];exact y0
  have y1:w2.cell? ⟨w.heap.size,1,none⟩=some (.slice a1 x.funcs.length p1):=by rw[Below.cell l2 (p:=⟨w.heap.size,1,none⟩) z1];exact y1
  have z2:w.heap.size<w2.heap.size:=by have:=l2.size;omega
  have L2:=L1.trans l2
  clear l2
  go_wp2_with fail
  refine (snames_any x _ _ w2 hg r20 r21).mono ?_
  rintro e w3 ⟨rfl,l3⟩
  have y0:w3.cell? ⟨w.heap.size,0,none⟩=some (.slice a0 x.structs.length p0):=by rw[Below.cell l3 (p:=⟨w.heap.size,0,none⟩) z2];exact y0
  have y1:w3.cell? ⟨w.heap.size,1,none⟩=some (.slice a1 x.funcs.length p1):=by rw[Below.cell l3 (p:=⟨w.heap.size,1,none⟩) z2];exact y1
  have z3:w.heap.size<w3.heap.size:=by have:=l3.size;omega
  have L3:=L2.trans l3
  clear l3 r20 r21 O2
  go_wp2_with fail
  refine (hto' _ L3).mono ?_
  rintro e w4 ⟨b4,q4,b5,q5,F4,rfl,O4,l4⟩
  obtain⟨_,_,e4,r40,r41⟩:=So.view O4.rd
  cases e4
  have y0:w4.cell? ⟨w.heap.size,0,none⟩=some (.slice a0 x.structs.length p0):=by rw[Below.cell l4 (p:=⟨w.heap.size,0,none⟩) z3];exact y0
  have y1:w4.cell? ⟨w.heap.size,1,none⟩=some (.slice a1 x.funcs.length p1):=by rw[Below.cell l4 (p:=⟨w.heap.size,1,none⟩) z3];exact y1
  have z4:w.heap.size<w4.heap.size:=by have:=l4.size;omega
  have L4:=L3.trans l4
  have hI:=fun w' (l:Later w4 w')=>inames_any x _ _ w' (hEn.later (L4.trans l)) (hTy.later (L4.trans l)) hs hg (RdL.later l r40) (RdL.later l r41)
  clear l4 O4
  go_wp2_with fail
  refine (hI _ (later1 _ _)).mono ?_
  rintro e w5 ⟨rfl,l5⟩
  have L5:=(L4.alloc _).trans l5
  have M5:=(later1 w4 _).trans l5
  have y0:w5.cell? ⟨w.heap.size,0,none⟩=some (.slice a0 x.structs.length p0):=by rw[Below.cell M5 (p:=⟨w.heap.size,0,none⟩) z4];exact y0
  have y1:w5.cell? ⟨w.heap.size,1,none⟩=some (.slice a1 x.funcs.length p1):=by rw[Below.cell M5 (p:=⟨w.heap.size,1,none⟩) z4];exact y1
  have x0:w5.cell? ⟨w4.heap.size,0,none⟩=some (.slice b4 x.structs.length q4):=by rw[Below.cell l5 (p:=⟨w4.heap.size,0,none⟩) (by simp)];simp
  have x1:w5.cell? ⟨w4.heap.size,1,none⟩=some (.slice b5 x.funcs.length q5):=by rw[Below.cell l5 (p:=⟨w4.heap.size,1,none⟩) (by simp)];simp
  have z5:w.heap.size<w5.heap.size:=by have:=l5.size;simp at this;omega
  have zz5:w4.heap.size<w5.heap.size:=by have:=l5.size;simp at this;omega
  have hE:=fun w' v0 v1 (l:Later w5 w') (k0:RdL w' 2 v0 (Sc.dats x.structs)) (k1:RdL w' 5 v1 (Fu.dats x.funcs))=>eqSo_true x _ _ v0 v1 w' (RdL.later (M5.trans l) r40) (RdL.later (M5.trans l) r41) k0 k1
  have HS:Hid (∀ w',Later w5 w'→(Later w5 w'∧w'.cell? ⟨w.heap.size,0,none⟩=some (.slice a0 x.structs.length p0)∧w'.cell? ⟨w.heap.size,1,none⟩=some (.slice a1 x.funcs.length p1)∧w'.cell? ⟨w4.heap.size,0,none⟩=some (.slice b4 x.structs.length q4)∧w'.cell? ⟨w4.heap.size,1,none⟩=some (.slice b5 x.funcs.length q5))):=fun w' ll=>⟨ll,by rw[Below.cell ll (p:=⟨w.heap.size,0,none⟩) z5];exact y0,by rw[Below.cell ll (p:=⟨w.heap.size,1,none⟩) z5];exact y1,by rw[Below.cell ll (p:=⟨w4.heap.size,0,none⟩) zz5];exact x0,by rw[Below.cell ll (p:=⟨w4.heap.size,1,none⟩) zz5];exact x1⟩
  clear r40 r41 hI hsz l5 M5
  go_wp2_with fail
  go_region_held3 (fun w'=>Later w5 w'∧w'.cell? ⟨w.heap.size,0,none⟩=some (.slice a0 x.structs.length p0)∧w'.cell? ⟨w.heap.size,1,none⟩=some (.slice a1 x.funcs.length p1)∧w'.cell? ⟨w4.heap.size,0,none⟩=some (.slice b4 x.structs.length q4)∧w'.cell? ⟨w4.heap.size,1,none⟩=some (.slice b5 x.funcs.length q5)) (first|exact HS.out _ (Later.drew _)|exact HS.out _ ((Later.drew _).trans l6)|exact HS.out _ (((Later.drew _).trans l6).trans l7)) (first|(go_at_call 9;refine (hto' _ (L5.trans (Later.drew _))).mono ?_;rintro e w6 ⟨b6,q6,b7,q7,F6,rfl,O6,l6⟩;obtain⟨_,_,e6,r60,r61⟩:=So.view O6.rd;cases e6)|(go_at_call 11;refine (hE _ _ _ ((Later.drew _).trans l6) r60 r61).mono ?_;rintro e w7 ⟨rfl,l7⟩))
  all_goals
   go_wp2_with fail
   go_ret
   exact⟨rfl,L5.trans (((Later.drew _).trans l6).trans l7)⟩
 ·have hs':¬ ((x.sz:Nat):Int)≤1048576:=by omega
  rw[szR_neg hs']at hsz
  clear hto
  go_enter Tryz.func3,Tryz.ntmps3
  go_wp2_with fail
  refine (hsz _ (later1 _ _)).mono ?_
  rintro e w1 ⟨rfl,l1⟩
  go_wp2_with fail
  go_ret
  exact⟨rfl,(later1 _ _).trans l1⟩
end Go.Proofs.YtmdejbphoafjlaaGreatDoor
namespace Go.Proofs.YtmdejbphoafjlaaGreatDoor
open Go.ChangeShapes Go.WideShapes Go.ChangeAt Go.RowKit
theorem xna_lifted (os:Os) (started:os.Started) (H:Type) (enc:TypeId × Value→H) :
  ReturnsInHanded {} Tryz.checked os 3 .any (fun w args=>(Rows.fnExactNamesOkSpec.pre enc Tryz.prog Tryz.f3 [] false w args∧laidMetH Tryz.prog laid6 w)∧sizedMet enc Tryz.prog Tryz.f3 (OpenSpec.ofChange Rows.fnExactNamesOkSpec) false w args)
   (Rows.fnExactNamesOkSpec.post enc Tryz.prog Tryz.f3 false true false false):=by
 refine returnsInHanded_of_change_and (C:=Tryz.checked) (X:=fun w _=>laidMetH Tryz.prog laid6 w) (fun _ _ _ hh h=>h.of_heap hh) own started (by kernel_rfl) Tryz.func3
  (ChangeSpec.witness_shaped (enc:=enc) (C:=Tryz.checked) (os:=os) (X:=fun w _=>laidMetH Tryz.prog laid6 w) false (World.doorLaid Tryz.prog 400 os) #[.agg #[.slice none 0 0,.slice none 0 0]] 8 rfl (World.shaped_of_RefB (by kernel_rfl) (by kernel_rfl)) (by kernel_rfl) (by kernel_rfl) (by kernel_rfl) (door_met os _)) ?_
 intro W base args ds gs before hval0 hW _ _ hL _
 have hval:∀ (j:Nat) t v,Tryz.f3.params[j]?=some t→args[j]?=some v→Value.okWide Tryz.prog W .any base t v:=hval0
 have hW':=hW
 obtain⟨p,q,hA0,hV0,rfl,hfz,hnd⟩:=hW
 have hA:DataW.TrodAll enc Tryz.prog W 0 (fun _=>true) true Tryz.f3.params.toList args.toList ds p:=hA0
 have hV:DataW.TrodVars enc Tryz.prog W (fun _=>true) ["loop.example/g00306/impl.opSigns","loop.example/g00306/impl.intTy","loop.example/g00306/impl.floatTy"] gs q:=hV0
 rw[Tryz.params3]at hA hval
 obtain⟨v0,vs0,d0,ds0,p0,q0,hargs,rfl,rfl,h0,r0⟩:=trodAll_cons hA
 obtain⟨rfl,rfl,rfl⟩:=trodAll_nil r0
 obtain rfl:args=#[v0]:=by cases args;simp_all
 obtain⟨hE,hTy⟩:=env_laid hL
 obtain⟨cs,rfl,hsz⟩:=okWide_struct Tryz.underlying25 (hval 0 25 v0 rfl rfl)
 have k0:=h0
 have lt0:∀ x∈p0,x.block<W.heap.size:=by obtain⟨m,hm⟩:=k0;exact DataW.trod_lt m _ _ _ hm
 obtain⟨fuel,hf⟩:=h0
 obtain⟨x,u0,u1,hcs,hg,w0,w1⟩:=openSo hf
 obtain rfl:cs=#[u0,u1]:=by cases cs;simpa[Value.cells] using hcs
 obtain⟨g1,g2,g3,rfl⟩:∃ a b c,gs=[a,b,c]:=by
  cases gs with
  | nil=>exact hV.elim
  | cons a r =>
   obtain⟨_,_,_,_,_,_,_,_,_,_,hr,_⟩:=hV
   cases r with
   | nil=>exact hr.elim
   | cons b r =>
    obtain⟨_,_,_,_,_,_,_,_,_,_,hr2,_⟩:=hr
    cases r with
    | nil=>exact hr2.elim
    | cons c r =>
     obtain⟨_,_,_,_,_,_,_,_,_,_,hr3,_⟩:=hr2
     cases r with
     | nil=>exact⟨a,b,c,rfl⟩
     | cons d r=>exact hr3.elim
 clear hA0 hV0 hval0
 refine (lawna_any x u0 u1 W hE hTy hg w0 w1).mono fun e W' ⟨he,bel⟩=>?_
 subst he
 exact⟨_,rfl,_,_,_,[],_,_,hW',trodAll_mk1 (shut_bool Tryz.underlying4 _),(trodAll_cons_mk (Below.trod laidOut (by kernel_rfl) (of_decide_eq_true (by kernel_rfl)) k0 bel lt0) trodAll_mk0),Below.trodVars laidOut bel (by kernel_rfl) hV,Below.frame bel _,fun h=>by cases h⟩
end Go.Proofs.YtmdejbphoafjlaaGreatDoor
