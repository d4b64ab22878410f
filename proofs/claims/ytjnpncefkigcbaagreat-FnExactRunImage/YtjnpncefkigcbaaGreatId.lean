import Derived.Test.YtjnpncefkigcbaaGreatIc
set_option maxHeartbeats 100000000
set_option maxRecDepth 100000
namespace Go.Proofs.YtjnpncefkigcbaaGreat
open Go.RowKit
theorem lawrun_of (x:Im) (e:Se) (E c st mv cp:Int) (n:Nat) (zs:List Int) (hn:n≤200000) (v0 v1 v2 v3:Value) (w:World)
  (hI:x.sz≤1048576→(∀ w' sv cv iv rv,RdL w' 1 sv (Bs.dats x.structs)→RdL w' 4 cv (Cd.dats x.codes)→RdL w' 1 iv (In.dats e.input)→RdL w' 1 rv (In.dats e.oracle)→Calls Tryz.prog 9 #[.agg #[sv,cv,.int .i64 x.main],.agg #[.int .i64 e.half,.int .i64 e.stack,iv,.int .i64 e.fuel,rv]] w' fun e1 w''=>∃ v,e1=.returned v∧ResQ E c st mv cp n zs w' v w''))
  (hS:x.sz≤1048576→(∀ w' sv cv iv rv,RdL w' 1 sv (Bs.dats x.structs)→RdL w' 4 cv (Cd.dats x.codes)→RdL w' 1 iv (In.dats e.input)→RdL w' 1 rv (In.dats e.oracle)→Calls Tryz.prog 6 #[.agg #[sv,cv,.int .i64 x.main],.agg #[.int .i64 e.half,.int .i64 e.stack,iv,.int .i64 e.fuel,rv]] w' fun e1 w''=>∃ v,e1=.returned v∧ResQ E c st mv cp n zs w' v w''))
  (h0:RdL w 1 v0 (Bs.dats x.structs)) (h1:RdL w 4 v1 (Cd.dats x.codes)) (h2:RdL w 1 v2 (In.dats e.input)) (h3:RdL w 1 v3 (In.dats e.oracle)) :
  Calls Tryz.prog 3 #[.agg #[v0,v1,.int .i64 x.main],.agg #[.int .i64 e.half,.int .i64 e.stack,v2,.int .i64 e.fuel,v3]] w fun e1 w'=>e1=.returned (.bool true)∧Later w w':=by
 obtain⟨a0,p0,rfl,_⟩:=Bs.slice h0;obtain⟨a1,p1,rfl,_⟩:=Cd.slice h1;obtain⟨a2,p2,rfl,_⟩:=In.slice h2;obtain⟨a3,p3,rfl,_⟩:=In.slice h3;obtain⟨wB,hwB⟩:=hidx ((w.alloc (Obj.cells #[.slice a0 x.structs.length p0,.slice a1 x.codes.length p1,.int .i64 x.main] 25)).alloc (Obj.cells #[.int .i64 e.half,.int .i64 e.stack,.slice a2 e.input.length p2,.int .i64 e.fuel,.slice a3 e.oracle.length p3] 28));have lB:Later w wB:=by rw[hwB.out];exact (later_a _ _).trans (later_a _ _)
 have sB:wB.heap.size=w.heap.size+2:=by rw[hwB.out];simp
 have HY:Hid (∀ w',Later wB w'→((w'.cell? ⟨w.heap.size,0,none⟩=some (.slice a0 x.structs.length p0)∧w'.cell? ⟨w.heap.size,1,none⟩=some (.slice a1 x.codes.length p1)∧w'.cell? ⟨w.heap.size,2,none⟩=some (.int .i64 x.main))∧(w'.cell? ⟨w.heap.size+1,0,none⟩=some (.int .i64 e.half)∧w'.cell? ⟨w.heap.size+1,1,none⟩=some (.int .i64 e.stack)∧w'.cell? ⟨w.heap.size+1,2,none⟩=some (.slice a2 e.input.length p2)∧w'.cell? ⟨w.heap.size+1,3,none⟩=some (.int .i64 e.fuel)∧w'.cell? ⟨w.heap.size+1,4,none⟩=some (.slice a3 e.oracle.length p3)))∧w.heap.size<w'.heap.size∧w.heap.size+1<w'.heap.size):=fun w' l=>by
  have k0:∀ k v,(#[.slice a0 x.structs.length p0,.slice a1 x.codes.length p1,.int .i64 x.main]:Array Value)[k]?=some v→w'.cell? ⟨w.heap.size,k,none⟩=some v:=fun k v hv=>by
   rw[Below.cell l (p:=⟨w.heap.size,k,none⟩) (show w.heap.size<wB.heap.size by omega),hwB.out,Below.cell (later_a _ _) (p:=⟨w.heap.size,k,none⟩) (box_lt' w _)];exact box_at' w _ hv
  have k1:∀ k v,(#[.int .i64 e.half,.int .i64 e.stack,.slice a2 e.input.length p2,.int .i64 e.fuel,.slice a3 e.oracle.length p3]:Array Value)[k]?=some v→w'.cell? ⟨w.heap.size+1,k,none⟩=some v:=fun k v hv=>by
   rw[Below.cell l (p:=⟨w.heap.size+1,k,none⟩) (show w.heap.size+1<wB.heap.size by omega),hwB.out];have:=box_at' (w.alloc (Obj.cells #[.slice a0 x.structs.length p0,.slice a1 x.codes.length p1,.int .i64 x.main] 25)) 28 hv;simpa using this
  have hsz:=l.size;exact⟨⟨⟨k0 0 _ rfl,k0 1 _ rfl,k0 2 _ rfl⟩,k1 0 _ rfl,k1 1 _ rfl,k1 2 _ rfl,k1 3 _ rfl,k1 4 _ rfl⟩,by omega,by omega⟩
 have hszI:=fun w' (l:Later w w')=>szIm_any x _ _ 1048576 w' (RdL.later l h0) (RdL.later l h1) (by decide) (by decide);obtain⟨⟨⟨y0,y1,y2⟩,⟨y3,y4,y5,y6,y7⟩⟩,z0,z1⟩:=HY.out wB (Later.refl _);by_cases hs:x.sz≤1048576
 ·have hs':((x.sz:Nat):Int)≤1048576:=by omega
  rw[szR_pos hs']at hszI;have n0:¬ (1048576:Int) - ((x.sz:Nat):Int)<0:=by omega
  have n0':decide ((1048576:Int) - ((x.sz:Nat):Int)<0)=false:=decide_eq_false n0;have hszS:=fun w' (l:Later w w')=>szSe_any e _ _ ((1048576:Int) - ((x.sz:Nat):Int)) w' (RdL.later l h2) (RdL.later l h3) (by omega) (by omega);by_cases ht:((e.sz:Nat):Int)≤(1048576:Int) - ((x.sz:Nat):Int)
  ·rw[szR_pos ht]at hszS;have ht1:e.sz≤1048576:=by omega
   have n1:¬ (1048576:Int) - ((x.sz:Nat):Int) - ((e.sz:Nat):Int)<0:=by omega
   have n1':decide ((1048576:Int) - ((x.sz:Nat):Int) - ((e.sz:Nat):Int)<0)=false:=decide_eq_false n1;have hI:=hI hs;have hS:=hS hs
   have HNz:Hid (x.sz≤1048576∧e.sz≤1048576∧n≤200000):=⟨hs,ht1,hn⟩
   go_enter Tryz.func3,Tryz.ntmps3;go_wp2_with fail
   rw[←hwB.out];refine (hszI wB lB).mono ?_;rintro e1 w1 ⟨rfl,l1⟩;clear y0 y1 y2 y3 y4 y5 y6 y7 z0 z1;obtain⟨⟨⟨y0,y1,y2⟩,⟨y3,y4,y5,y6,y7⟩⟩,z0,z1⟩:=HY.out w1 l1;go_wp2_with fail
   refine (hszS w1 (lB.trans l1)).mono ?_;rintro e2 w2 ⟨rfl,l2⟩;have Mw2:=l1.trans l2;have Lw2:=lB.trans Mw2;clear y0 y1 y2 y3 y4 y5 y6 y7 z0 z1 hszI hszS l1 l2 n0 n0';obtain⟨⟨⟨y0,y1,y2⟩,⟨y3,y4,y5,y6,y7⟩⟩,z0,z1⟩:=HY.out w2 Mw2;go_upto_region 8 with fail
   go_cut [6] from 24 (fun s6 wc=>∃ (B6:Nat) (oa:Option Addr) (oc:Nat),s6=.pointer (some ⟨B6,0,none⟩)∧Hid (Lf w2 wc B6 E c st mv cp oa oc n zs))
   case first =>
    clear hI n1 n1' HNz hn;have HYW:Hid (∀ w',Later w2 w'→(w'.cell? ⟨w.heap.size,0,none⟩=some (.slice a0 x.structs.length p0)∧w'.cell? ⟨w.heap.size,1,none⟩=some (.slice a1 x.codes.length p1)∧w'.cell? ⟨w.heap.size,2,none⟩=some (.int .i64 x.main))∧(w'.cell? ⟨w.heap.size+1,0,none⟩=some (.int .i64 e.half)∧w'.cell? ⟨w.heap.size+1,1,none⟩=some (.int .i64 e.stack)∧w'.cell? ⟨w.heap.size+1,2,none⟩=some (.slice a2 e.input.length p2)∧w'.cell? ⟨w.heap.size+1,3,none⟩=some (.int .i64 e.fuel)∧w'.cell? ⟨w.heap.size+1,4,none⟩=some (.slice a3 e.oracle.length p3))):=fun w' l=>(HY.out w' (Mw2.trans l)).1;have A:=Lg.start x e w2 n zs;refine wp_region_held_drew (S:=fun w'=>(w'.cell? ⟨w.heap.size,0,none⟩=some (.slice a0 x.structs.length p0)∧w'.cell? ⟨w.heap.size,1,none⟩=some (.slice a1 x.codes.length p1)∧w'.cell? ⟨w.heap.size,2,none⟩=some (.int .i64 x.main))∧(w'.cell? ⟨w.heap.size+1,0,none⟩=some (.int .i64 e.half)∧w'.cell? ⟨w.heap.size+1,1,none⟩=some (.int .i64 e.stack)∧w'.cell? ⟨w.heap.size+1,2,none⟩=some (.slice a2 e.input.length p2)∧w'.cell? ⟨w.heap.size+1,3,none⟩=some (.int .i64 e.fuel)∧w'.cell? ⟨w.heap.size+1,4,none⟩=some (.slice a3 e.oracle.length p3))) (by kernel_rfl) (HYW.out _ (Later.drew _)) (fun hHeld=>?_);refine tk 0 (.agg #[.slice a0 x.structs.length p0,.slice a1 x.codes.length p1,.int .i64 x.main]) rfl ?_;(try go_simp);refine tk 2 (.agg #[.int .i64 e.half,.int .i64 e.stack,.slice a2 e.input.length p2,.int .i64 e.fuel,.slice a3 e.oracle.length p3]) rfl ?_;(try go_simp);refine wpAnyH_ready (rs:=[1,5]) (by kernel_rfl) (by simp) ?_;refine (AllReadyH.cons rfl (fun K hK=>?q1) (AllReadyH.cons rfl (fun K hK=>?q2) AllReadyH.nil))
    case' q1 =>
     refine step_call rfl 7 en_toI _ _ rfl [.agg #[.slice a0 x.structs.length p0,.slice a1 x.codes.length p1,.int .i64 x.main]] rfl _ (A.toI (RdL.later Lw2 h0) (RdL.later Lw2 h1) hs) ?_;intro u5 w5 hc5;obtain⟨b0,q0,b1,q1,rfl,A⟩:=hc5;refine hK.out _ _ ?_ (fun hHeld=>?_)
     ·exact HYW.out _ A.lat
     clear hK K;(try go_simp);refine wpAnyH_ready (rs:=[3,5]) (by kernel_rfl) (by simp) ?_;refine (AllReadyH.cons rfl (fun K hK=>?q3) (AllReadyH.cons rfl (fun K hK=>?q4) AllReadyH.nil))
     case' q3 =>
      refine step_call rfl 8 en_toS _ _ rfl [.agg #[.int .i64 e.half,.int .i64 e.stack,.slice a2 e.input.length p2,.int .i64 e.fuel,.slice a3 e.oracle.length p3]] rfl _ (A.toS (RdL.later Lw2 h2) (RdL.later Lw2 h3) ht1) ?_;intro u5 w5 hc5;obtain⟨b2,q2,b3,q3,rfl,A⟩:=hc5;refine hK.out _ _ ?_ (fun hHeld=>?_)
      ·exact HYW.out _ A.lat
      clear hK K;(try go_simp);refine wpAnyH_ready (rs:=[4,5]) (by kernel_rfl) (by simp) ?_;refine (AllReadyH.cons rfl (fun K hK=>?q5) (AllReadyH.cons rfl (fun K hK=>?q6) AllReadyH.nil))
      case' q5 =>
       refine step_call rfl 6 en_spR _ _ rfl [.agg #[.slice b0 x.structs.length q0,.slice b1 x.codes.length q1,.int .i64 x.main],.agg #[.int .i64 e.half,.int .i64 e.stack,.slice b2 e.input.length q2,.int .i64 e.fuel,.slice b3 e.oracle.length q3]] rfl _ (A.run (fun w' sv cv iv rv _=>hS w' sv cv iv rv)) ?_;intro u5 w5 hc5;obtain⟨oa,oc,rfl,A⟩:=hc5;unfold rsV;refine hK.out _ _ ?_ (fun hHeld=>?_)
       ·exact HYW.out _ A.lat
       clear hK K;(try go_simp);refine rd1 5 rfl fun K hK=>?_;have Ab:=A;go_simp;first|(have A:Lg x e w2 _ _ _ (some w2.heap.size) n zs _:=A.box)|have A:=A.box
       refine hK.out _ _ ?_ (fun hHeld=>?_)
       ·exact HYW.out _ A.lat
       clear hK K;(try go_simp);have hA:=Ab.fresh E c st mv cp;obtain⟨hb1,hb2,hb3⟩:=A.rb _ rfl;obtain⟨⟨uu0,ff0⟩,zz0⟩:=hb3 0 (by decide);obtain⟨⟨uu1,ff1⟩,zz1⟩:=hb3 1 (by decide);obtain⟨⟨uu2,ff2⟩,zz2⟩:=hb3 2 (by decide);obtain⟨⟨uu3,ff3⟩,zz3⟩:=hb3 3 (by decide);obtain⟨⟨uu4,ff4⟩,zz4⟩:=hb3 4 (by decide);obtain⟨⟨uu5,ff5⟩,zz5⟩:=hb3 5 (by decide);clear hb3;refine rd1 6 rfl fun K hK=>?_;go_simp;have hsv:=HYW.out _ hA.lat;have hsw:Hid _:=hA;refine hK.out _ _ hsv (fun hHeld=>?_);clear hK K hsv ff0 ff1 ff2 ff3 ff4 ff5 zz0 zz1 zz2 zz3 zz4 zz5;(try go_simp);refine wpAnyH_done (by kernel_rfl) ?_ _;go_wp2_with fail
       go_meet
       case rel=>exact⟨_,_,_,rfl,hsw⟩
      case' q6 =>
       have Ab:=A;go_simp;first|(have A:Lg x e w2 _ _ _ (some w2.heap.size) n zs _:=A.box)|have A:=A.box
       refine hK.out _ _ ?_ (fun hHeld=>?_)
       ·exact HYW.out _ A.lat
       clear hK K;(try go_simp);refine rd1 4 rfl fun K hK=>?_;refine step_call rfl 6 en_spR _ _ rfl [.agg #[.slice b0 x.structs.length q0,.slice b1 x.codes.length q1,.int .i64 x.main],.agg #[.int .i64 e.half,.int .i64 e.stack,.slice b2 e.input.length q2,.int .i64 e.fuel,.slice b3 e.oracle.length q3]] rfl _ (A.run (fun w' sv cv iv rv _=>hS w' sv cv iv rv)) ?_;intro u5 w5 hc5;obtain⟨oa,oc,rfl,A⟩:=hc5;unfold rsV;refine hK.out _ _ ?_ (fun hHeld=>?_)
       ·exact HYW.out _ A.lat
       clear hK K;(try go_simp);have hA:=A.store E c st mv cp;unfold put6 at hA;obtain⟨hb1,hb2,hb3⟩:=A.rb _ rfl;obtain⟨⟨uu0,ff0⟩,zz0⟩:=hb3 0 (by decide);obtain⟨⟨uu1,ff1⟩,zz1⟩:=hb3 1 (by decide);obtain⟨⟨uu2,ff2⟩,zz2⟩:=hb3 2 (by decide);obtain⟨⟨uu3,ff3⟩,zz3⟩:=hb3 3 (by decide);obtain⟨⟨uu4,ff4⟩,zz4⟩:=hb3 4 (by decide);obtain⟨⟨uu5,ff5⟩,zz5⟩:=hb3 5 (by decide);clear hb3;refine rd1 6 rfl fun K hK=>?_;go_simp;have hsv:=HYW.out _ hA.lat;have hsw:Hid _:=hA;refine hK.out _ _ hsv (fun hHeld=>?_);clear hK K hsv ff0 ff1 ff2 ff3 ff4 ff5 zz0 zz1 zz2 zz3 zz4 zz5;(try go_simp);refine wpAnyH_done (by kernel_rfl) ?_ _;go_wp2_with fail
       go_meet
       case rel=>exact⟨_,_,_,rfl,hsw⟩
     case' q4 =>
      have Ab:=A;go_simp;first|(have A:Lg x e w2 _ _ _ (some w2.heap.size) n zs _:=A.box)|have A:=A.box
      refine hK.out _ _ ?_ (fun hHeld=>?_)
      ·exact HYW.out _ A.lat
      clear hK K;(try go_simp);refine rd1 3 rfl fun K hK=>?_;refine step_call rfl 8 en_toS _ _ rfl [.agg #[.int .i64 e.half,.int .i64 e.stack,.slice a2 e.input.length p2,.int .i64 e.fuel,.slice a3 e.oracle.length p3]] rfl _ (A.toS (RdL.later Lw2 h2) (RdL.later Lw2 h3) ht1) ?_;intro u5 w5 hc5;obtain⟨b2,q2,b3,q3,rfl,A⟩:=hc5;refine hK.out _ _ ?_ (fun hHeld=>?_)
      ·exact HYW.out _ A.lat
      clear hK K;(try go_simp);refine rd1 4 rfl fun K hK=>?_;refine step_call rfl 6 en_spR _ _ rfl [.agg #[.slice b0 x.structs.length q0,.slice b1 x.codes.length q1,.int .i64 x.main],.agg #[.int .i64 e.half,.int .i64 e.stack,.slice b2 e.input.length q2,.int .i64 e.fuel,.slice b3 e.oracle.length q3]] rfl _ (A.run (fun w' sv cv iv rv _=>hS w' sv cv iv rv)) ?_;intro u5 w5 hc5;obtain⟨oa,oc,rfl,A⟩:=hc5;unfold rsV;refine hK.out _ _ ?_ (fun hHeld=>?_)
      ·exact HYW.out _ A.lat
      clear hK K;(try go_simp);have hA:=A.store E c st mv cp;unfold put6 at hA;obtain⟨hb1,hb2,hb3⟩:=A.rb _ rfl;obtain⟨⟨uu0,ff0⟩,zz0⟩:=hb3 0 (by decide);obtain⟨⟨uu1,ff1⟩,zz1⟩:=hb3 1 (by decide);obtain⟨⟨uu2,ff2⟩,zz2⟩:=hb3 2 (by decide);obtain⟨⟨uu3,ff3⟩,zz3⟩:=hb3 3 (by decide);obtain⟨⟨uu4,ff4⟩,zz4⟩:=hb3 4 (by decide);obtain⟨⟨uu5,ff5⟩,zz5⟩:=hb3 5 (by decide);clear hb3;refine rd1 6 rfl fun K hK=>?_;go_simp;have hsv:=HYW.out _ hA.lat;have hsw:Hid _:=hA;refine hK.out _ _ hsv (fun hHeld=>?_);clear hK K hsv ff0 ff1 ff2 ff3 ff4 ff5 zz0 zz1 zz2 zz3 zz4 zz5;(try go_simp);refine wpAnyH_done (by kernel_rfl) ?_ _;go_wp2_with fail
      go_meet
      case rel=>exact⟨_,_,_,rfl,hsw⟩
    case' q2 =>
     have Ab:=A;go_simp;first|(have A:Lg x e w2 _ _ _ (some w2.heap.size) n zs _:=A.box)|have A:=A.box
     refine hK.out _ _ ?_ (fun hHeld=>?_)
     ·exact HYW.out _ A.lat
     clear hK K;(try go_simp);refine rd1 1 rfl fun K hK=>?_;refine step_call rfl 7 en_toI _ _ rfl [.agg #[.slice a0 x.structs.length p0,.slice a1 x.codes.length p1,.int .i64 x.main]] rfl _ (A.toI (RdL.later Lw2 h0) (RdL.later Lw2 h1) hs) ?_;intro u5 w5 hc5;obtain⟨b0,q0,b1,q1,rfl,A⟩:=hc5;refine hK.out _ _ ?_ (fun hHeld=>?_)
     ·exact HYW.out _ A.lat
     clear hK K;(try go_simp);refine rd1 3 rfl fun K hK=>?_;refine step_call rfl 8 en_toS _ _ rfl [.agg #[.int .i64 e.half,.int .i64 e.stack,.slice a2 e.input.length p2,.int .i64 e.fuel,.slice a3 e.oracle.length p3]] rfl _ (A.toS (RdL.later Lw2 h2) (RdL.later Lw2 h3) ht1) ?_;intro u5 w5 hc5;obtain⟨b2,q2,b3,q3,rfl,A⟩:=hc5;refine hK.out _ _ ?_ (fun hHeld=>?_)
     ·exact HYW.out _ A.lat
     clear hK K;(try go_simp);refine rd1 4 rfl fun K hK=>?_;refine step_call rfl 6 en_spR _ _ rfl [.agg #[.slice b0 x.structs.length q0,.slice b1 x.codes.length q1,.int .i64 x.main],.agg #[.int .i64 e.half,.int .i64 e.stack,.slice b2 e.input.length q2,.int .i64 e.fuel,.slice b3 e.oracle.length q3]] rfl _ (A.run (fun w' sv cv iv rv _=>hS w' sv cv iv rv)) ?_;intro u5 w5 hc5;obtain⟨oa,oc,rfl,A⟩:=hc5;unfold rsV;refine hK.out _ _ ?_ (fun hHeld=>?_)
     ·exact HYW.out _ A.lat
     clear hK K;(try go_simp);have hA:=A.store E c st mv cp;unfold put6 at hA;obtain⟨hb1,hb2,hb3⟩:=A.rb _ rfl;obtain⟨⟨uu0,ff0⟩,zz0⟩:=hb3 0 (by decide);obtain⟨⟨uu1,ff1⟩,zz1⟩:=hb3 1 (by decide);obtain⟨⟨uu2,ff2⟩,zz2⟩:=hb3 2 (by decide);obtain⟨⟨uu3,ff3⟩,zz3⟩:=hb3 3 (by decide);obtain⟨⟨uu4,ff4⟩,zz4⟩:=hb3 4 (by decide);obtain⟨⟨uu5,ff5⟩,zz5⟩:=hb3 5 (by decide);clear hb3;refine rd1 6 rfl fun K hK=>?_;go_simp;have hsv:=HYW.out _ hA.lat;have hsw:Hid _:=hA;refine hK.out _ _ hsv (fun hHeld=>?_);clear hK K hsv ff0 ff1 ff2 ff3 ff4 ff5 zz0 zz1 zz2 zz3 zz4 zz5;(try go_simp);refine wpAnyH_done (by kernel_rfl) ?_ _;go_wp2_with fail
     go_meet
     case rel=>exact⟨_,_,_,rfl,hsw⟩
   case rest =>
    obtain⟨B6,oa0,oc0,rfl,hcut⟩:=hcut;have F8:=hcut.out;clear hcut y0 y1 y2 y3 y4 y5 y6 y7 z0 z1 hS n1 n1'
    generalize wc=w8 at *
    have Mw8:=Mw2.trans F8.lat;have Lw8:=lB.trans Mw8;obtain⟨⟨⟨y0,y1,y2⟩,⟨y3,y4,y5,y6,y7⟩⟩,z0,z1⟩:=HY.out w8 Mw8;go_wp2_with fail
    refine (toIm_any x _ _ w8 (RdL.later Lw8 h0) (RdL.later Lw8 h1) hs).mono ?_;rintro e9 w9 ⟨b4,q4,b5,q5,F9,rfl,O9,l9⟩;obtain⟨_,_,e9',r90,r91⟩:=Im.view O9.rd
    cases e9'
    clear y0 y1 y2 y3 y4 y5 y6 y7 z0 z1;obtain⟨⟨⟨y0,y1,y2⟩,⟨y3,y4,y5,y6,y7⟩⟩,z0,z1⟩:=HY.out w9 (Mw8.trans l9);obtain⟨w9b,hw9b⟩:=hidx (w9.alloc (Obj.cells #[.slice b4 x.structs.length q4,.slice b5 x.codes.length q5,.int .i64 x.main] 37));have l9b:Later w9 w9b:=by rw[hw9b.out];exact later_a _ _
    have s9b:w9b.heap.size=w9.heap.size+1:=by rw[hw9b.out];simp
    have L9b:Later w w9b:=Lw8.trans (l9.trans l9b)
    have HX7:Hid (∀ w':World,w'.heap[w9.heap.size]?=w9b.heap[w9.heap.size]?→w'.cell? ⟨w9.heap.size,0,none⟩=some (.slice b4 x.structs.length q4)∧w'.cell? ⟨w9.heap.size,1,none⟩=some (.slice b5 x.codes.length q5)∧w'.cell? ⟨w9.heap.size,2,none⟩=some (.int .i64 x.main)):=fun w' q=>by
     have k:∀ k v,(#[.slice b4 x.structs.length q4,.slice b5 x.codes.length q5,.int .i64 x.main]:Array Value)[k]?=some v→w'.cell? ⟨w9.heap.size,k,none⟩=some v:=fun k v hv=>by rw[World.cell?_of_block q,hw9b.out];exact box_at' w9 _ hv
     exact⟨k 0 _ rfl,k 1 _ rfl,k 2 _ rfl⟩
    go_wp2_with fail
    rw[←hw9b.out];refine (toSe_any e _ _ w9b (RdL.later L9b h2) (RdL.later L9b h3) ht1).mono ?_;rintro e10 w10 ⟨b6,q6,b7,q7,F10,rfl,O10,l10⟩;obtain⟨_,_,e10',r100,r101⟩:=Se.view O10.rd
    cases e10'
    clear y0 y1 y2 y3 y4 y5 y6 y7 z0 z1;have B7lt:w9.heap.size<w10.heap.size:=by have:=l10.size;omega
    obtain⟨x0,x1,x2⟩:=HX7.out w10 (l10.block _ (by omega));obtain⟨w10b,hw10b⟩:=hidx (w10.alloc (Obj.cells #[.int .i64 e.half,.int .i64 e.stack,.slice b6 e.input.length q6,.int .i64 e.fuel,.slice b7 e.oracle.length q7] 39));have l10b:Later w10 w10b:=by rw[hw10b.out];exact later_a _ _
    have s10b:w10b.heap.size=w10.heap.size+1:=by rw[hw10b.out];simp
    have L10b:Later w w10b:=L9b.trans (l10.trans l10b)
    have HX8:Hid (∀ w':World,w'.heap[w10.heap.size]?=w10b.heap[w10.heap.size]?→w'.cell? ⟨w10.heap.size,0,none⟩=some (.int .i64 e.half)∧w'.cell? ⟨w10.heap.size,1,none⟩=some (.int .i64 e.stack)∧w'.cell? ⟨w10.heap.size,2,none⟩=some (.slice b6 e.input.length q6)∧w'.cell? ⟨w10.heap.size,3,none⟩=some (.int .i64 e.fuel)∧w'.cell? ⟨w10.heap.size,4,none⟩=some (.slice b7 e.oracle.length q7)):=fun w' q=>by
     have k:∀ k v,(#[.int .i64 e.half,.int .i64 e.stack,.slice b6 e.input.length q6,.int .i64 e.fuel,.slice b7 e.oracle.length q7]:Array Value)[k]?=some v→w'.cell? ⟨w10.heap.size,k,none⟩=some v:=fun k v hv=>by rw[World.cell?_of_block q,hw10b.out];exact box_at' w10 _ hv
     exact⟨k 0 _ rfl,k 1 _ rfl,k 2 _ rfl,k 3 _ rfl,k 4 _ rfl⟩
    have T10b:Later w8 w10b:=l9.trans (l9b.trans (l10.trans l10b));go_wp2_with fail
    rw[←hw10b.out];refine (hI w10b _ _ _ _ (RdL.later (l9b.trans (l10.trans l10b)) r90) (RdL.later (l9b.trans (l10.trans l10b)) r91) (RdL.later l10b r100) (RdL.later l10b r101)).mono ?_;rintro e11 w11 ⟨vv,rfl,oa1,oc1,rfl,A11,hb11,l11⟩;have F11:=F8.kept (T10b.trans l11);have c0:=F11.c 0 _ rfl;have c1:=F11.c 1 _ rfl;have c2:=F11.c 2 _ rfl;have c3:=F11.c 3 _ rfl;have c4:=F11.c 4 _ rfl;have c5:=F11.c 5 _ rfl;have B6lt:=F11.lt;obtain⟨w12,hw12⟩:=hidx (w11.alloc (Obj.cells #[.int .i64 E,.int .i64 c,.slice oa1 n oc1,.int .i64 st,.int .i64 mv,.int .i64 cp] 33));have l12:Later w11 w12:=by rw[hw12.out];exact later_a _ _
    have s12:w12.heap.size=w11.heap.size+1:=by rw[hw12.out];simp
    have HX9:Hid (∀ w':World,w'.heap[w11.heap.size]?=w12.heap[w11.heap.size]?→w'.cell? ⟨w11.heap.size,0,none⟩=some (.int .i64 E)∧w'.cell? ⟨w11.heap.size,1,none⟩=some (.int .i64 c)∧w'.cell? ⟨w11.heap.size,2,none⟩=some (.slice oa1 n oc1)∧w'.cell? ⟨w11.heap.size,3,none⟩=some (.int .i64 st)∧w'.cell? ⟨w11.heap.size,4,none⟩=some (.int .i64 mv)∧w'.cell? ⟨w11.heap.size,5,none⟩=some (.int .i64 cp)):=fun w' q=>by
     have k:∀ k v,(#[.int .i64 E,.int .i64 c,.slice oa1 n oc1,.int .i64 st,.int .i64 mv,.int .i64 cp]:Array Value)[k]?=some v→w'.cell? ⟨w11.heap.size,k,none⟩=some v:=fun k v hv=>by rw[World.cell?_of_block q,hw12.out];exact box_at' w11 _ hv
     exact⟨k 0 _ rfl,k 1 _ rfl,k 2 _ rfl,k 3 _ rfl,k 4 _ rfl,k 5 _ rfl⟩
    have T12:Later w8 w12:=T10b.trans (l11.trans l12);have D12:Later w10b w12:=l11.trans l12;have A12:=A11.later l12;have F12:=F8.kept T12;clear x0 x1 x2;unfold rsV;go_wp2_with fail
    rw[←hw12.out];refine (eqres_same A12.rd F12.ra.rd).mono ?_;rintro e13 w13 ⟨rfl,l13⟩;clear c0 c1 c2 c3 c4 c5 B6lt hw12 hw10b hw9b;have s8:=(Later.trans l9 l9b).size;have s910:=l10.size;have s1011:=l11.size
    have HS14:Hid (∀ w',Later w13 w'→(Later w13 w'∧(w'.cell? ⟨w9.heap.size,0,none⟩=some (.slice b4 x.structs.length q4)∧w'.cell? ⟨w9.heap.size,1,none⟩=some (.slice b5 x.codes.length q5)∧w'.cell? ⟨w9.heap.size,2,none⟩=some (.int .i64 x.main))∧w'.cell? ⟨w.heap.size,0,none⟩=some (.slice a0 x.structs.length p0)∧w'.cell? ⟨w.heap.size,1,none⟩=some (.slice a1 x.codes.length p1)∧w'.cell? ⟨w.heap.size,2,none⟩=some (.int .i64 x.main))):=fun w' l=>⟨l,HX7.out w' (((l10.trans l10b).trans (D12.trans (l13.trans l))).block _ (by omega)),(HY.out w' (Mw8.trans (T12.trans (l13.trans l)))).1.1⟩
    have HS16:Hid (∀ w',Later w13 w'→(Later w13 w'∧(w'.cell? ⟨w10.heap.size,0,none⟩=some (.int .i64 e.half)∧w'.cell? ⟨w10.heap.size,1,none⟩=some (.int .i64 e.stack)∧w'.cell? ⟨w10.heap.size,2,none⟩=some (.slice b6 e.input.length q6)∧w'.cell? ⟨w10.heap.size,3,none⟩=some (.int .i64 e.fuel)∧w'.cell? ⟨w10.heap.size,4,none⟩=some (.slice b7 e.oracle.length q7))∧w'.cell? ⟨w.heap.size+1,0,none⟩=some (.int .i64 e.half)∧w'.cell? ⟨w.heap.size+1,1,none⟩=some (.int .i64 e.stack)∧w'.cell? ⟨w.heap.size+1,2,none⟩=some (.slice a2 e.input.length p2)∧w'.cell? ⟨w.heap.size+1,3,none⟩=some (.int .i64 e.fuel)∧w'.cell? ⟨w.heap.size+1,4,none⟩=some (.slice a3 e.oracle.length p3))):=fun w' l=>⟨l,HX8.out w' ((D12.trans (l13.trans l)).block _ (by omega)),(HY.out w' (Mw8.trans (T12.trans (l13.trans l)))).1.2⟩
    have hto:=fun w' (l:Later w13 w')=>toIm_any x _ _ w' (RdL.later (Lw8.trans (T12.trans (l13.trans l))) h0) (RdL.later (Lw8.trans (T12.trans (l13.trans l))) h1) hs;have hts:=fun w' (l:Later w13 w')=>toSe_any e _ _ w' (RdL.later (Lw8.trans (T12.trans (l13.trans l))) h2) (RdL.later (Lw8.trans (T12.trans (l13.trans l))) h3) ht1;have hVw:=fun w' cs (h:RdD w' x.dat cs)=>Im.view h;have hVs:=fun w' cs (h:RdD w' e.dat cs)=>Se.view h;have hE:=fun w' u0 u1 (l:Later w13 w') (k0:RdL w' 1 u0 (Bs.dats x.structs)) (k1:RdL w' 4 u1 (Cd.dats x.codes))=>eqIm_true x _ _ u0 u1 w' (RdL.later (l9b.trans (l10.trans (l10b.trans (D12.trans (l13.trans l))))) r90) (RdL.later (l9b.trans (l10.trans (l10b.trans (D12.trans (l13.trans l))))) r91) k0 k1;have hEs:=fun w' u0 u1 (l:Later w13 w') (k0:RdL w' 1 u0 (In.dats e.input)) (k1:RdL w' 1 u1 (In.dats e.oracle))=>eqSe_true e _ _ u0 u1 w' (RdL.later (l10b.trans (D12.trans (l13.trans l))) r100) (RdL.later (l10b.trans (D12.trans (l13.trans l))) r101) k0 k1;obtain⟨_,⟨x0,x1,x2⟩,y0,y1,y2⟩:=HS14.out w13 (Later.refl _);go_wp2_with fail
    go_region_held3 (fun w'=>Later w13 w'∧(w'.cell? ⟨w9.heap.size,0,none⟩=some (.slice b4 x.structs.length q4)∧w'.cell? ⟨w9.heap.size,1,none⟩=some (.slice b5 x.codes.length q5)∧w'.cell? ⟨w9.heap.size,2,none⟩=some (.int .i64 x.main))∧w'.cell? ⟨w.heap.size,0,none⟩=some (.slice a0 x.structs.length p0)∧w'.cell? ⟨w.heap.size,1,none⟩=some (.slice a1 x.codes.length p1)∧w'.cell? ⟨w.heap.size,2,none⟩=some (.int .i64 x.main)) (first|exact HS14.out _ (Later.drew _)|exact HS14.out _ ((Later.drew _).trans la)|exact HS14.out _ (((Later.drew _).trans la).trans lb)) (first|(go_at_call 7;refine (hto _ (Later.drew _)).mono ?_;rintro ea wa ⟨b8,q8,b9,q9,Fa,rfl,Oa,la⟩;obtain⟨_,_,ea',ra0,ra1⟩:=hVw _ _ Oa.rd;cases ea')|(go_at_call 11;refine (hE _ _ _ ((Later.drew _).trans la) ra0 ra1).mono ?_;rintro eb wb ⟨rfl,lb⟩))
    have l14:=((Later.drew _).trans la).trans lb;clear x0 x1 x2 y0 y1 y2 la lb Oa ra0 ra1 HS14 hto hE hVw;obtain⟨_,⟨u0,u1,u2,u3,u4⟩,y3,y4,y5,y6,y7⟩:=HS16.out wb l14
    have HS17:Hid (∀ w',Later wb w'→(Later wb w'∧(w'.cell? ⟨w10.heap.size,0,none⟩=some (.int .i64 e.half)∧w'.cell? ⟨w10.heap.size,1,none⟩=some (.int .i64 e.stack)∧w'.cell? ⟨w10.heap.size,2,none⟩=some (.slice b6 e.input.length q6)∧w'.cell? ⟨w10.heap.size,3,none⟩=some (.int .i64 e.fuel)∧w'.cell? ⟨w10.heap.size,4,none⟩=some (.slice b7 e.oracle.length q7))∧w'.cell? ⟨w.heap.size+1,0,none⟩=some (.int .i64 e.half)∧w'.cell? ⟨w.heap.size+1,1,none⟩=some (.int .i64 e.stack)∧w'.cell? ⟨w.heap.size+1,2,none⟩=some (.slice a2 e.input.length p2)∧w'.cell? ⟨w.heap.size+1,3,none⟩=some (.int .i64 e.fuel)∧w'.cell? ⟨w.heap.size+1,4,none⟩=some (.slice a3 e.oracle.length p3))):=fun w' l=>⟨l,(HS16.out w' (l14.trans l)).2⟩
    go_wp2_with fail
    go_region_held3 (fun w'=>Later wb w'∧(w'.cell? ⟨w10.heap.size,0,none⟩=some (.int .i64 e.half)∧w'.cell? ⟨w10.heap.size,1,none⟩=some (.int .i64 e.stack)∧w'.cell? ⟨w10.heap.size,2,none⟩=some (.slice b6 e.input.length q6)∧w'.cell? ⟨w10.heap.size,3,none⟩=some (.int .i64 e.fuel)∧w'.cell? ⟨w10.heap.size,4,none⟩=some (.slice b7 e.oracle.length q7))∧w'.cell? ⟨w.heap.size+1,0,none⟩=some (.int .i64 e.half)∧w'.cell? ⟨w.heap.size+1,1,none⟩=some (.int .i64 e.stack)∧w'.cell? ⟨w.heap.size+1,2,none⟩=some (.slice a2 e.input.length p2)∧w'.cell? ⟨w.heap.size+1,3,none⟩=some (.int .i64 e.fuel)∧w'.cell? ⟨w.heap.size+1,4,none⟩=some (.slice a3 e.oracle.length p3)) (first|exact HS17.out _ (Later.drew _)|exact HS17.out _ ((Later.drew _).trans lc)|exact HS17.out _ (((Later.drew _).trans lc).trans ld)) (first|(go_at_call 8;refine (hts _ (l14.trans (Later.drew _))).mono ?_;rintro ec wd ⟨b8,q8,b9,q9,Fc,rfl,Oc,lc⟩;obtain⟨_,_,ec',rc0,rc1⟩:=hVs _ _ Oc.rd;cases ec')|(go_at_call 12;refine (hEs _ _ _ (l14.trans ((Later.drew _).trans lc)) rc0 rc1).mono ?_;rintro ed w15 ⟨rfl,ld⟩))
    have l15:Later w13 w15:=l14.trans (((Later.drew _).trans lc).trans ld);clear u0 u1 u2 u3 u4 y3 y4 y5 y6 y7 lc ld l14 Oc rc0 rc1 HS16 HS17 hts hEs hVs;have D15:Later w10b w15:=D12.trans (l13.trans l15);have T15:Later w8 w15:=T10b.trans D15;have A15:=A12.later (l13.trans l15);have s15:=D15.size;have e12:w15.heap[w11.heap.size]?=w12.heap[w11.heap.size]?:=(l13.trans l15).block _ (by omega);have s12b:w12.heap.size≤w15.heap.size:=(l13.trans l15).size;obtain⟨x0,x1,x2⟩:=HX7.out w15 ((l10.trans (l10b.trans D15)).block _ (by omega));have k9:∀ b∈F9,w8.heap.size≤b∧b<w10.heap.size∧b≠w9.heap.size:=fun b hb=>by have:=O9.fresh b hb;omega
    have k10:∀ b∈F10,w8.heap.size≤b∧b<w10.heap.size∧b≠w9.heap.size:=fun b hb=>by have:=O10.fresh b hb;omega
    obtain⟨_,_,_,_,_,e9',s90,s91⟩:=Im.skView (OwnD.sk (P:=fun b=>w8.heap.size≤b∧b<w10.heap.size∧b≠w9.heap.size) x.dat O9.own k9)
    cases e9'
    obtain⟨_,_,_,_,_,_,_,e10',s100,s101⟩:=Se.skView (OwnD.sk (P:=fun b=>w8.heap.size≤b∧b<w10.heap.size∧b≠w9.heap.size) e.dat O10.own k10)
    cases e10'
    have hM16:=markIm_sk x _ _ 1 w15 (s90.slice_inks (Inks.later (l9b.trans (l10.trans (l10b.trans D15))))) (s91.slice_inks (Inks.later (l9b.trans (l10.trans (l10b.trans D15))))) (by decide) (by have:=HNz.out.1;omega);have HM17:Hid (∀ w' k,Inks (fun b=>w8.heap.size≤b∧b<w10.heap.size∧b≠w9.heap.size) w15 w'→0≤k→k≤20000000→Calls Tryz.prog 14 #[.agg #[.int .i64 e.half,.int .i64 e.stack,.slice b6 e.input.length q6,.int .i64 e.fuel,.slice b7 e.oracle.length q7],.int .i64 k] w' (MkQ (fun b=>w8.heap.size≤b∧b<w10.heap.size∧b≠w9.heap.size) w' k (16*(In.szs e.input+In.szs e.oracle)))):=fun w' k i q0 q1=>markSe_sk e _ _ k w' (s100.slice_inks ((Inks.later (l10b.trans D15)).trans i)) (s101.slice_inks ((Inks.later (l10b.trans D15)).trans i)) q0 (by have:=HNz.out.2.1;have:=seSz e;omega);clear O9 O10 s90 s91 s100 s101 k9 k10 r90 r91 r100 r101;go_wp2_with fail
    refine hM16.mono ?_;rintro e16 w16 ⟨k16,rfl,hk1,hk2,J16⟩;clear x0 x1 x2 hM16;obtain⟨u0,u1,u2,u3,u4⟩:=HX8.out w16 ((J16.block _ (by omega) (fun q=>by omega)).trans (D15.block _ (by omega)));have kb:k16≤20000000:=by have:=HNz.out.1;omega
    go_wp2_with fail
    refine (HM17.out w16 k16 J16 (by omega) kb).mono ?_;rintro e17 w17 ⟨k17,rfl,hk3,hk4,J17⟩;have J:=J16.trans J17;clear u0 u1 u2 u3 u4 HM17 J16 J17;have T17:Later w8 w17:=Below.cut T15 (J.below (fun b hb=>hb.1) T15.size);have A17:AnsI w10b.heap.size w17 (.slice oa1 n oc1) n zs:=A15.keep J.size (fun b hb hb'=>J.block b hb' (fun q=>by omega));have e17b:w17.heap[w11.heap.size]?=w12.heap[w11.heap.size]?:=(J.block _ (by omega) (fun q=>by omega)).trans e12;have s17:=J.size;obtain⟨r0,r1,r2,r3,r4,r5⟩:=HX9.out w17 e17b;have F17:=F8.kept T17;have c0:=F17.c 0 _ rfl;have c1:=F17.c 1 _ rfl;have c2:=F17.c 2 _ rfl;have c3:=F17.c 3 _ rfl;have c4:=F17.c 4 _ rfl;have c5:=F17.c 5 _ rfl;have i17:¬ k17<0:=by omega
    have i17':decide (k17<0)=false:=decide_eq_false i17;clear J hk1 hk2 hk3 hk4 kb;go_wp2_with fail
    refine (eqres_same A17.rd F17.ra.rd).mono ?_;rintro e18 w18 ⟨rfl,l18⟩;clear r0 r1 r2 r3 r4 r5 c0 c1 c2 c3 c4 c5;have s18:=l18.size;have e18b:=(l18.block w11.heap.size (by omega)).trans e17b;obtain⟨r0,r1,r2,r3,r4,r5⟩:=HX9.out w18 e18b;go_wp2_with fail
    refine (markres_ans (A17.later l18)).mono ?_;rintro e19 w19 ⟨rfl,G19,K19⟩;clear r0 r1 r2 r3 r4 r5;have e19b:w19.heap[w11.heap.size]?=w12.heap[w11.heap.size]?:=(G19.block _ (by omega) (fun q=>by have:=hb11 _ q.symm;omega)).trans e18b;have s19:=G19.size;have T19:Later w8 w19:=later_grow2 (T17.trans l18) G19 (fun g q=>by have:=hb11 g q;have:=T10b.size;omega);obtain⟨r0,r1,r2,r3,r4,r5⟩:=HX9.out w19 e19b;have i19:¬ 1+2*(n:Int)<0:=by omega
    have i19':decide (1+2*(n:Int)<0)=false:=decide_eq_false i19;have i20:((1+2*(n:Int)) != (1+2*(n:Int)))=false:=by simp
    clear G19;go_wp2_with fail
    refine (heldres_ans K19).mono ?_;rintro e20 w20 ⟨rfl,l20⟩;clear r0 r1 r2 r3 r4 r5;have T20:=T19.trans l20;have Mw20:=Mw8.trans T20;have Lw20:=lB.trans Mw20;have e20b:=(l20.block w11.heap.size (by omega)).trans e19b;have s20:=l20.size;have K20:=K19.later l20;obtain⟨⟨⟨y0,y1,y2⟩,⟨y3,y4,y5,y6,y7⟩⟩,z0,z1⟩:=HY.out w20 Mw20;go_upto_region 31 with fail
    go_cut [13] from 75 (fun s13 wc=>∃ (B6:Nat) (oa:Option Addr) (oc:Nat),s13=.pointer (some ⟨B6,0,none⟩)∧Hid (Lf w20 wc B6 E c st mv cp oa oc n zs))
    case first =>
     clear HX7 HX8 HX9 HNz hn;have HYW:Hid (∀ w',Later w20 w'→(w'.cell? ⟨w.heap.size,0,none⟩=some (.slice a0 x.structs.length p0)∧w'.cell? ⟨w.heap.size,1,none⟩=some (.slice a1 x.codes.length p1)∧w'.cell? ⟨w.heap.size,2,none⟩=some (.int .i64 x.main))∧(w'.cell? ⟨w.heap.size+1,0,none⟩=some (.int .i64 e.half)∧w'.cell? ⟨w.heap.size+1,1,none⟩=some (.int .i64 e.stack)∧w'.cell? ⟨w.heap.size+1,2,none⟩=some (.slice a2 e.input.length p2)∧w'.cell? ⟨w.heap.size+1,3,none⟩=some (.int .i64 e.fuel)∧w'.cell? ⟨w.heap.size+1,4,none⟩=some (.slice a3 e.oracle.length p3))):=fun w' l=>(HY.out w' (Mw20.trans l)).1;have A:=Lg.start x e w20 n zs;refine wp_region_held_drew (S:=fun w'=>(w'.cell? ⟨w.heap.size,0,none⟩=some (.slice a0 x.structs.length p0)∧w'.cell? ⟨w.heap.size,1,none⟩=some (.slice a1 x.codes.length p1)∧w'.cell? ⟨w.heap.size,2,none⟩=some (.int .i64 x.main))∧(w'.cell? ⟨w.heap.size+1,0,none⟩=some (.int .i64 e.half)∧w'.cell? ⟨w.heap.size+1,1,none⟩=some (.int .i64 e.stack)∧w'.cell? ⟨w.heap.size+1,2,none⟩=some (.slice a2 e.input.length p2)∧w'.cell? ⟨w.heap.size+1,3,none⟩=some (.int .i64 e.fuel)∧w'.cell? ⟨w.heap.size+1,4,none⟩=some (.slice a3 e.oracle.length p3))) (by kernel_rfl) (HYW.out _ (Later.drew _)) (fun hHeld=>?_);refine tk 0 (.agg #[.slice a0 x.structs.length p0,.slice a1 x.codes.length p1,.int .i64 x.main]) rfl ?_;(try go_simp);refine tk 2 (.agg #[.int .i64 e.half,.int .i64 e.stack,.slice a2 e.input.length p2,.int .i64 e.fuel,.slice a3 e.oracle.length p3]) rfl ?_;(try go_simp);refine wpAnyH_ready (rs:=[1,5]) (by kernel_rfl) (by simp) ?_;refine (AllReadyH.cons rfl (fun K hK=>?q7) (AllReadyH.cons rfl (fun K hK=>?q8) AllReadyH.nil))
     case' q7 =>
      refine step_call rfl 7 en_toI _ _ rfl [.agg #[.slice a0 x.structs.length p0,.slice a1 x.codes.length p1,.int .i64 x.main]] rfl _ (A.toI (RdL.later Lw20 h0) (RdL.later Lw20 h1) hs) ?_;intro u5 w5 hc5;obtain⟨b0,q0,b1,q1,rfl,A⟩:=hc5;refine hK.out _ _ ?_ (fun hHeld=>?_)
      ·exact HYW.out _ A.lat
      clear hK K;(try go_simp);refine wpAnyH_ready (rs:=[3,5]) (by kernel_rfl) (by simp) ?_;refine (AllReadyH.cons rfl (fun K hK=>?q9) (AllReadyH.cons rfl (fun K hK=>?q10) AllReadyH.nil))
      case' q9 =>
       refine step_call rfl 8 en_toS _ _ rfl [.agg #[.int .i64 e.half,.int .i64 e.stack,.slice a2 e.input.length p2,.int .i64 e.fuel,.slice a3 e.oracle.length p3]] rfl _ (A.toS (RdL.later Lw20 h2) (RdL.later Lw20 h3) ht1) ?_;intro u5 w5 hc5;obtain⟨b2,q2,b3,q3,rfl,A⟩:=hc5;refine hK.out _ _ ?_ (fun hHeld=>?_)
       ·exact HYW.out _ A.lat
       clear hK K;(try go_simp);refine wpAnyH_ready (rs:=[4,5]) (by kernel_rfl) (by simp) ?_;refine (AllReadyH.cons rfl (fun K hK=>?q11) (AllReadyH.cons rfl (fun K hK=>?q12) AllReadyH.nil))
       case' q11 =>
        refine step_call rfl 9 en_imR _ _ rfl [.agg #[.slice b0 x.structs.length q0,.slice b1 x.codes.length q1,.int .i64 x.main],.agg #[.int .i64 e.half,.int .i64 e.stack,.slice b2 e.input.length q2,.int .i64 e.fuel,.slice b3 e.oracle.length q3]] rfl _ (A.run (fun w' sv cv iv rv _=>hI w' sv cv iv rv)) ?_;intro u5 w5 hc5;obtain⟨oa,oc,rfl,A⟩:=hc5;unfold rsV;refine hK.out _ _ ?_ (fun hHeld=>?_)
        ·exact HYW.out _ A.lat
        clear hK K;(try go_simp);refine rd1 5 rfl fun K hK=>?_;have Ab:=A;go_simp;first|(have A:Lg x e w20 _ _ _ (some w20.heap.size) n zs _:=A.box)|have A:=A.box
        refine hK.out _ _ ?_ (fun hHeld=>?_)
        ·exact HYW.out _ A.lat
        clear hK K;(try go_simp);have hA:=Ab.fresh E c st mv cp;obtain⟨hb1,hb2,hb3⟩:=A.rb _ rfl;obtain⟨⟨uu0,ff0⟩,zz0⟩:=hb3 0 (by decide);obtain⟨⟨uu1,ff1⟩,zz1⟩:=hb3 1 (by decide);obtain⟨⟨uu2,ff2⟩,zz2⟩:=hb3 2 (by decide);obtain⟨⟨uu3,ff3⟩,zz3⟩:=hb3 3 (by decide);obtain⟨⟨uu4,ff4⟩,zz4⟩:=hb3 4 (by decide);obtain⟨⟨uu5,ff5⟩,zz5⟩:=hb3 5 (by decide);clear hb3;refine rd1 6 rfl fun K hK=>?_;go_simp;have hsv:=HYW.out _ hA.lat;have hsw:Hid _:=hA;refine hK.out _ _ hsv (fun hHeld=>?_);clear hK K hsv ff0 ff1 ff2 ff3 ff4 ff5 zz0 zz1 zz2 zz3 zz4 zz5;(try go_simp);refine wpAnyH_done (by kernel_rfl) ?_ _;go_wp2_with fail
        go_meet
        case rel=>exact⟨_,_,_,rfl,hsw⟩
       case' q12 =>
        have Ab:=A;go_simp;first|(have A:Lg x e w20 _ _ _ (some w20.heap.size) n zs _:=A.box)|have A:=A.box
        refine hK.out _ _ ?_ (fun hHeld=>?_)
        ·exact HYW.out _ A.lat
        clear hK K;(try go_simp);refine rd1 4 rfl fun K hK=>?_;refine step_call rfl 9 en_imR _ _ rfl [.agg #[.slice b0 x.structs.length q0,.slice b1 x.codes.length q1,.int .i64 x.main],.agg #[.int .i64 e.half,.int .i64 e.stack,.slice b2 e.input.length q2,.int .i64 e.fuel,.slice b3 e.oracle.length q3]] rfl _ (A.run (fun w' sv cv iv rv _=>hI w' sv cv iv rv)) ?_;intro u5 w5 hc5;obtain⟨oa,oc,rfl,A⟩:=hc5;unfold rsV;refine hK.out _ _ ?_ (fun hHeld=>?_)
        ·exact HYW.out _ A.lat
        clear hK K;(try go_simp);have hA:=A.store E c st mv cp;unfold put6 at hA;obtain⟨hb1,hb2,hb3⟩:=A.rb _ rfl;obtain⟨⟨uu0,ff0⟩,zz0⟩:=hb3 0 (by decide);obtain⟨⟨uu1,ff1⟩,zz1⟩:=hb3 1 (by decide);obtain⟨⟨uu2,ff2⟩,zz2⟩:=hb3 2 (by decide);obtain⟨⟨uu3,ff3⟩,zz3⟩:=hb3 3 (by decide);obtain⟨⟨uu4,ff4⟩,zz4⟩:=hb3 4 (by decide);obtain⟨⟨uu5,ff5⟩,zz5⟩:=hb3 5 (by decide);clear hb3;refine rd1 6 rfl fun K hK=>?_;go_simp;have hsv:=HYW.out _ hA.lat;have hsw:Hid _:=hA;refine hK.out _ _ hsv (fun hHeld=>?_);clear hK K hsv ff0 ff1 ff2 ff3 ff4 ff5 zz0 zz1 zz2 zz3 zz4 zz5;(try go_simp);refine wpAnyH_done (by kernel_rfl) ?_ _;go_wp2_with fail
        go_meet
        case rel=>exact⟨_,_,_,rfl,hsw⟩
      case' q10 =>
       have Ab:=A;go_simp;first|(have A:Lg x e w20 _ _ _ (some w20.heap.size) n zs _:=A.box)|have A:=A.box
       refine hK.out _ _ ?_ (fun hHeld=>?_)
       ·exact HYW.out _ A.lat
       clear hK K;(try go_simp);refine rd1 3 rfl fun K hK=>?_;refine step_call rfl 8 en_toS _ _ rfl [.agg #[.int .i64 e.half,.int .i64 e.stack,.slice a2 e.input.length p2,.int .i64 e.fuel,.slice a3 e.oracle.length p3]] rfl _ (A.toS (RdL.later Lw20 h2) (RdL.later Lw20 h3) ht1) ?_;intro u5 w5 hc5;obtain⟨b2,q2,b3,q3,rfl,A⟩:=hc5;refine hK.out _ _ ?_ (fun hHeld=>?_)
       ·exact HYW.out _ A.lat
       clear hK K;(try go_simp);refine rd1 4 rfl fun K hK=>?_;refine step_call rfl 9 en_imR _ _ rfl [.agg #[.slice b0 x.structs.length q0,.slice b1 x.codes.length q1,.int .i64 x.main],.agg #[.int .i64 e.half,.int .i64 e.stack,.slice b2 e.input.length q2,.int .i64 e.fuel,.slice b3 e.oracle.length q3]] rfl _ (A.run (fun w' sv cv iv rv _=>hI w' sv cv iv rv)) ?_;intro u5 w5 hc5;obtain⟨oa,oc,rfl,A⟩:=hc5;unfold rsV;refine hK.out _ _ ?_ (fun hHeld=>?_)
       ·exact HYW.out _ A.lat
       clear hK K;(try go_simp);have hA:=A.store E c st mv cp;unfold put6 at hA;obtain⟨hb1,hb2,hb3⟩:=A.rb _ rfl;obtain⟨⟨uu0,ff0⟩,zz0⟩:=hb3 0 (by decide);obtain⟨⟨uu1,ff1⟩,zz1⟩:=hb3 1 (by decide);obtain⟨⟨uu2,ff2⟩,zz2⟩:=hb3 2 (by decide);obtain⟨⟨uu3,ff3⟩,zz3⟩:=hb3 3 (by decide);obtain⟨⟨uu4,ff4⟩,zz4⟩:=hb3 4 (by decide);obtain⟨⟨uu5,ff5⟩,zz5⟩:=hb3 5 (by decide);clear hb3;refine rd1 6 rfl fun K hK=>?_;go_simp;have hsv:=HYW.out _ hA.lat;have hsw:Hid _:=hA;refine hK.out _ _ hsv (fun hHeld=>?_);clear hK K hsv ff0 ff1 ff2 ff3 ff4 ff5 zz0 zz1 zz2 zz3 zz4 zz5;(try go_simp);refine wpAnyH_done (by kernel_rfl) ?_ _;go_wp2_with fail
       go_meet
       case rel=>exact⟨_,_,_,rfl,hsw⟩
     case' q8 =>
      have Ab:=A;go_simp;first|(have A:Lg x e w20 _ _ _ (some w20.heap.size) n zs _:=A.box)|have A:=A.box
      refine hK.out _ _ ?_ (fun hHeld=>?_)
      ·exact HYW.out _ A.lat
      clear hK K;(try go_simp);refine rd1 1 rfl fun K hK=>?_;refine step_call rfl 7 en_toI _ _ rfl [.agg #[.slice a0 x.structs.length p0,.slice a1 x.codes.length p1,.int .i64 x.main]] rfl _ (A.toI (RdL.later Lw20 h0) (RdL.later Lw20 h1) hs) ?_;intro u5 w5 hc5;obtain⟨b0,q0,b1,q1,rfl,A⟩:=hc5;refine hK.out _ _ ?_ (fun hHeld=>?_)
      ·exact HYW.out _ A.lat
      clear hK K;(try go_simp);refine rd1 3 rfl fun K hK=>?_;refine step_call rfl 8 en_toS _ _ rfl [.agg #[.int .i64 e.half,.int .i64 e.stack,.slice a2 e.input.length p2,.int .i64 e.fuel,.slice a3 e.oracle.length p3]] rfl _ (A.toS (RdL.later Lw20 h2) (RdL.later Lw20 h3) ht1) ?_;intro u5 w5 hc5;obtain⟨b2,q2,b3,q3,rfl,A⟩:=hc5;refine hK.out _ _ ?_ (fun hHeld=>?_)
      ·exact HYW.out _ A.lat
      clear hK K;(try go_simp);refine rd1 4 rfl fun K hK=>?_;refine step_call rfl 9 en_imR _ _ rfl [.agg #[.slice b0 x.structs.length q0,.slice b1 x.codes.length q1,.int .i64 x.main],.agg #[.int .i64 e.half,.int .i64 e.stack,.slice b2 e.input.length q2,.int .i64 e.fuel,.slice b3 e.oracle.length q3]] rfl _ (A.run (fun w' sv cv iv rv _=>hI w' sv cv iv rv)) ?_;intro u5 w5 hc5;obtain⟨oa,oc,rfl,A⟩:=hc5;unfold rsV;refine hK.out _ _ ?_ (fun hHeld=>?_)
      ·exact HYW.out _ A.lat
      clear hK K;(try go_simp);have hA:=A.store E c st mv cp;unfold put6 at hA;obtain⟨hb1,hb2,hb3⟩:=A.rb _ rfl;obtain⟨⟨uu0,ff0⟩,zz0⟩:=hb3 0 (by decide);obtain⟨⟨uu1,ff1⟩,zz1⟩:=hb3 1 (by decide);obtain⟨⟨uu2,ff2⟩,zz2⟩:=hb3 2 (by decide);obtain⟨⟨uu3,ff3⟩,zz3⟩:=hb3 3 (by decide);obtain⟨⟨uu4,ff4⟩,zz4⟩:=hb3 4 (by decide);obtain⟨⟨uu5,ff5⟩,zz5⟩:=hb3 5 (by decide);clear hb3;refine rd1 6 rfl fun K hK=>?_;go_simp;have hsv:=HYW.out _ hA.lat;have hsw:Hid _:=hA;refine hK.out _ _ hsv (fun hHeld=>?_);clear hK K hsv ff0 ff1 ff2 ff3 ff4 ff5 zz0 zz1 zz2 zz3 zz4 zz5;(try go_simp);refine wpAnyH_done (by kernel_rfl) ?_ _;go_wp2_with fail
      go_meet
      case rel=>exact⟨_,_,_,rfl,hsw⟩
    case rest =>
     obtain⟨B13,oa3,oc3,rfl,hcut⟩:=hcut;have F21:=hcut.out;clear hcut y0 y1 y2 y3 y4 y5 y6 y7 z0 z1
     generalize wc=w21 at *
     have F21b:=F8.kept (T20.trans F21.lat);have c0:=F21b.c 0 _ rfl;have c1:=F21b.c 1 _ rfl;have c2:=F21b.c 2 _ rfl;have c3:=F21b.c 3 _ rfl;have c4:=F21b.c 4 _ rfl;have c5:=F21b.c 5 _ rfl;have d0:=F21.c 0 _ rfl;have d1:=F21.c 1 _ rfl;have d2:=F21.c 2 _ rfl;have d3:=F21.c 3 _ rfl;have d4:=F21.c 4 _ rfl;have d5:=F21.c 5 _ rfl;go_wp2_with fail
     refine (eqres_same F21.ra.rd F21b.ra.rd).mono ?_;rintro e22 w22 ⟨rfl,l22⟩;clear c0 c1 c2 c3 c4 c5 d0 d1 d2 d3 d4 d5;have l2022:=F21.lat.trans l22;obtain⟨r0,r1,r2,r3,r4,r5⟩:=HX9.out w22 ((l2022.block w11.heap.size (by omega)).trans e20b);go_wp2_with fail
     refine (heldres_ans (K20.later l2022)).mono ?_;rintro e23 w23 ⟨rfl,l23⟩;clear r0 r1 r2 r3 r4 r5;go_wp2_with fail
     go_ret;exact⟨rfl,Lw20.trans (l2022.trans l23)⟩
  ·rw[szR_neg ht]at hszS;go_enter Tryz.func3,Tryz.ntmps3;go_wp2_with fail
   rw[←hwB.out];refine (hszI wB lB).mono ?_;rintro e1 w1 ⟨rfl,l1⟩;clear y0 y1 y2 y3 y4 y5 y6 y7 z0 z1;obtain⟨⟨⟨y0,y1,y2⟩,⟨y3,y4,y5,y6,y7⟩⟩,z0,z1⟩:=HY.out w1 l1;go_wp2_with fail
   refine (hszS w1 (lB.trans l1)).mono ?_;rintro e2 w2 ⟨rfl,l2⟩;go_wp2_with fail
   go_ret;exact⟨rfl,(lB.trans l1).trans l2⟩
 ·have hs':¬ ((x.sz:Nat):Int)≤1048576:=by omega
  rw[szR_neg hs']at hszI;go_enter Tryz.func3,Tryz.ntmps3;go_wp2_with fail
  rw[←hwB.out];refine (hszI wB lB).mono ?_;rintro e1 w1 ⟨rfl,l1⟩;go_wp2_with fail
  go_ret;exact⟨rfl,lB.trans l1⟩
end Go.Proofs.YtjnpncefkigcbaaGreat
