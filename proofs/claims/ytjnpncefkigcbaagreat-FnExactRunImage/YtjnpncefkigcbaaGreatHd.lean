import Derived.Test.YtjnpncefkigcbaaGreatHc
set_option maxHeartbeats 100000000
set_option maxRecDepth 100000
namespace Go.Proofs.YtjnpncefkigcbaaGreat
open Go.RowKit
theorem Se.own {w:World}{x:Se}{u0 u1:Value}{F0 F1:List Nat}(h0:OwnD w (.list 1 (In.dats x.input)) [u0] F0) (h1:OwnD w (.list 1 (In.dats x.oracle)) [u1] F1):OwnD w x.dat [.int .i64 x.half,.int .i64 x.stack,u0,.int .i64 x.fuel,u1] (F0++(F1)):=by
 obtain⟨half,stack,input,fuel,oracle⟩:=x;rw[Se.dat,OwnD];rw[OwnAgg];refine⟨[_],_,[],_,rfl,(List.nil_append _).symm,by rw[OwnD];exact⟨rfl,rfl⟩,?_⟩;rw[OwnAgg];refine⟨[_],_,[],_,rfl,(List.nil_append _).symm,by rw[OwnD];exact⟨rfl,rfl⟩,?_⟩;rw[OwnAgg];refine⟨[_],_,F0,_,rfl,rfl,h0,?_⟩;rw[OwnAgg];refine⟨[_],_,[],_,rfl,(List.nil_append _).symm,by rw[OwnD];exact⟨rfl,rfl⟩,?_⟩;rw[OwnAgg];refine⟨[_],_,F1,[],rfl,(List.append_nil _).symm,h1,?_⟩;rw[OwnAgg];exact⟨rfl,rfl⟩
theorem toSe_any (x:Se) (v0 v1:Value) (w:World) (h0:RdL w 1 v0 (In.dats x.input)) (h1:RdL w 1 v1 (In.dats x.oracle)) (hsz:x.sz≤1048576) :
  Calls Tryz.prog 8 #[.agg #[.int .i64 x.half,.int .i64 x.stack,v0,.int .i64 x.fuel,v1]] w fun e w'=>∃ b0 q0 b1 q1 F,e=.returned (.agg #[.int .i64 x.half,.int .i64 x.stack,.slice b0 x.input.length q0,.int .i64 x.fuel,.slice b1 x.oracle.length q1])∧Own w.heap.size w' x.dat [.int .i64 x.half,.int .i64 x.stack,.slice b0 x.input.length q0,.int .i64 x.fuel,.slice b1 x.oracle.length q1] F∧Later w w':=by
 have HO:Hid (∀ {w':World}{u0 u1:Value}{F0 F1:List Nat},OwnD w' (.list 1 (In.dats x.input)) [u0] F0→OwnD w' (.list 1 (In.dats x.oracle)) [u1] F1→OwnD w' x.dat [.int .i64 x.half,.int .i64 x.stack,u0,.int .i64 x.fuel,u1] (F0++(F1))):=fun h0 h1=>Se.own h0 h1;have hsum:x.sz=In.szs x.input+In.szs x.oracle:=by obtain⟨half,stack,input,fuel,oracle⟩:=x;rfl
 obtain⟨a0,p0,rfl,_⟩:=In.slice h0;have hs0:In.szs x.input≤x.sz:=by rw[hsum];omega
 obtain⟨a1,p1,rfl,_⟩:=In.slice h1;have hs1:In.szs x.oracle≤x.sz:=by rw[hsum];omega
 clear hsum
 generalize x.half=z_half at *
 generalize x.stack=z_stack at *
 generalize x.fuel=z_fuel at *
 go_enter Tryz.func8,Tryz.ntmps8;go_wp2_with fail
 refine (toIns_any _ _ _ (RdL.later (by repeat (first|with_reducible exact Later.refl _|refine Later.setAt ?_ (by omega) _ _|refine Later.alloc ?_ _)) h0) (by omega)).mono ?_;rintro e w1 ⟨b0,q0,G0,rfl,O0,l1⟩;have L1:Later w w1:=Later.trans (by repeat (first|with_reducible exact Later.refl _|refine Later.setAt ?_ (by omega) _ _|refine Later.alloc ?_ _)) l1;have z1:w.heap.size+1+1<w1.heap.size:=by have:=l1.size;simp at this;omega
 have y1:w.heap.size+1<w1.heap.size:=by omega
 have x1:w.heap.size<w1.heap.size:=by omega
 obtain⟨hc1,hf1⟩:=bcell l1;go_wp2_with fail
 refine (toIns_any _ _ _ (RdL.later (by repeat (first|with_reducible exact L1|refine Later.setAt ?_ (by omega) _ _|refine Later.alloc ?_ _)) h1) (by omega)).mono ?_;rintro e w2 ⟨b1,q1,G1,rfl,O1,l2⟩;have L2:Later w w2:=Later.trans (by repeat (first|with_reducible exact L1|refine Later.setAt ?_ (by omega) _ _|refine Later.alloc ?_ _)) l2;have z2:w.heap.size+1+1<w2.heap.size:=by have:=l2.size;simp at this;omega
 have y2:w.heap.size+1<w2.heap.size:=by omega
 have x2:w.heap.size<w2.heap.size:=by omega
 obtain⟨hc2,hf2⟩:=bcell l2;have s2:w1.heap.size≤w2.heap.size:=by have:=l2.size;simp at this;omega
 go_wp2_with fail
 refine bodyPost_ret (v:=.agg #[.int .i64 z_half,.int .i64 z_stack,.slice b0 x.input.length q0,.int .i64 z_fuel,.slice b1 x.oracle.length q1]) (by simp[results,Tryz.results8,go_sem,hc1,y1,hc2]) rfl ⟨b0,q0,b1,q1,_,rfl,Own.mk' (HO.out (O0.kept (by repeat (first|with_reducible exact Kept.refl _ _|refine Kept.setAt ?_ (by first|omega|(simp;done)|(simp;omega)) _ _|refine Kept.later ?_ l2))) (O1.kept (by repeat (first|with_reducible exact Kept.refl _ _|refine Kept.setAt ?_ (by first|omega|(simp;done)|(simp;omega)) _ _)))) (Fr.app (mid:=w1.heap.size) (O0.fr.mono (by first|omega|(simp;done)|(simp;omega)) (by first|omega|(simp;done)|(simp;omega))) (O1.fr.mono (by first|omega|(simp;done)|(simp;omega)) (by first|omega|(simp;done)|(simp;omega))) (by first|omega|(simp;done)|(simp;omega)) (by first|omega|(simp;done)|(simp;omega))),(by repeat (first|with_reducible exact L2|refine Later.setAt ?_ (by omega) _ _|refine Later.alloc ?_ _))⟩
theorem eqSe_true (x:Se) (v0 v1 u0 u1:Value) (w:World) (h0:RdL w 1 v0 (In.dats x.input)) (h1:RdL w 1 v1 (In.dats x.oracle)) (k0:RdL w 1 u0 (In.dats x.input)) (k1:RdL w 1 u1 (In.dats x.oracle)) :
  Calls Tryz.prog 12 #[.agg #[.int .i64 x.half,.int .i64 x.stack,v0,.int .i64 x.fuel,v1],.agg #[.int .i64 x.half,.int .i64 x.stack,u0,.int .i64 x.fuel,u1]] w fun e w'=>e=.returned (.bool true)∧Later w w':=by
 obtain⟨a0,p0,rfl,_⟩:=In.slice h0;obtain⟨b0,q0,rfl,_⟩:=In.slice k0;obtain⟨a1,p1,rfl,_⟩:=In.slice h1;obtain⟨b1,q1,rfl,_⟩:=In.slice k1
 generalize x.half=z_half at *
 generalize x.stack=z_stack at *
 generalize x.fuel=z_fuel at *
 go_enter Tryz.func12,Tryz.ntmps12;go_wp2_with fail
 refine (eqIns_true _ _ _ _ (RdL.later (later2 _ _ _) h0) (RdL.later (later2 _ _ _) k0)).mono ?_;rintro e w1 ⟨rfl,l1⟩;have L1:Later w w1:=Later.trans (later2 _ _ _) l1;obtain⟨hc1,_⟩:=bcell l1;have y1:w.heap.size+1<w1.heap.size:=by have:=l1.size;simp at this;omega
 have x1:w.heap.size<w1.heap.size:=by omega
 go_wp2_with fail
 refine (eqIns_true _ _ _ _ (RdL.later L1 h1) (RdL.later L1 k1)).mono ?_;rintro e w2 ⟨rfl,l2⟩;have L2:Later w w2:=Later.trans L1 l2;obtain⟨hc2,_⟩:=bcell l2;have y2:w.heap.size+1<w2.heap.size:=by have:=l2.size;omega
 have x2:w.heap.size<w2.heap.size:=by omega
 go_wp2_with fail
 go_ret;exact⟨rfl,L2⟩
end Go.Proofs.YtjnpncefkigcbaaGreat
