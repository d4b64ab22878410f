import Derived.Test.YtgaddpkkjebekaaGreatDoorZ14
import Derived.Deep.RegionHeld3
set_option maxHeartbeats 100000000
set_option maxRecDepth 100000
namespace Go.Proofs.YtgaddpkkjebekaaGreatDoor
open Go.RowKit Go.Maps
theorem lq (X:List Nat) (w:World) (K:Nat) (v0 v1:Value) (S:List Sc) (Fs:List Fu) (res:TyP) (ts:List TyP) (g o:Nat) (k n tk tn:Int) (u0 u1:Value) (nm:List Int) (ks:List Ex) (h:XIn X w K v0 v1 S Fs res ts g o k n tk tn u0 u1 nm ks) (x y:Int) (hx:bZ S Fs ts k n tk tn nm ks=some (n,x,y)) :
  Calls Tryz.prog 114 #[.pointer (some ⟨K,0,none⟩),.iface 202 (.agg #[.pointer (some ⟨g,o,none⟩),.int .i64 x,.int .i64 y])] w (fQ (bZ S Fs ts k n tk tn nm ks) g o w):=by
 have hb:=dQ;have qT:=qA;obtain⟨hH,hty⟩:=h.tg.now;obtain⟨vs,hbx,hrow⟩:=h.tg.box;have hgl:=h.lt;have hks:=h.kids;have hnm:=h.nm;have c0:=(h.cells 0 _ rfl).1;have c1:=(h.cells 1 _ rfl).1;have c2:=(h.cells 2 _ rfl).1;have c3:=(h.cells 3 _ rfl).1;have c4:=(h.cells 4 _ rfl).1;have c5:=(h.cells 5 _ rfl).1;have f1:=(h.cells 1 _ rfl).2;have hTg:=h.tg;have a_y:=Ez (.agg #[.pointer (some ⟨g,o,none⟩),.int .i64 x,.int .i64 y]);obtain⟨w1,hw1⟩:=hidx (w.alloc (.cells #[.int .i64 0,.int .i64 0] 52));have L1:Later w w1:=by rw[hw1.out];exact ae _ _
 have hbR:Bxx w1 w.heap.size [.int .i64 0,.int .i64 0]:=by rw[hw1.out];exact Bxx.new _ _ _
 have hV:ig 202 (.agg #[.pointer (some ⟨g,o,none⟩),.int .i64 x,.int .i64 y]) ⟨g,o,none⟩ 197 196:=⟨fun w=>dY _ _ _ w,fun w=>dH _ _ _ w⟩
 have hK1:=iQ 202 (.agg #[.pointer (some ⟨g,o,none⟩),.int .i64 x,.int .i64 y]) g o 0 ks u1 w1 hV (by rw[Below.cell L1 (p:=⟨g,o+5,none⟩) hgl];exact c5) (RdL.later L1 hks) (by decide);have HFT:Hid (∀ W a b ok,Later w W->bZ S Fs ts k n tk tn nm ks=(if ok then some (n,a,b) else none)->fQ (bZ S Fs ts k n tk tn nm ks) g o w (.returned (.tuple #[.agg #[.int .i64 a,.int .i64 b],.bool ok])) W):=fun W a b ok l hh=>fQ.same hgl c1 l hh
 generalize hQ:fQ (bZ S Fs ts k n tk tn nm ks) g o w=Q at *
 clear hQ;clear hrow hbx hty hH hTg hnm hks h;go_enter Tryz.func114,Tryz.ntmps114;go_wp2_with fail
 rw[<-hw1.out];refine hK1.mono ?_;rintro e w2 ⟨rfl,l2⟩;have L2:=L1.trans l2;obtain⟨r0,s0⟩:=(hbR.later l2).cell 0 _ rfl;obtain⟨r1,s1⟩:=(hbR.later l2).cell 1 _ rfl;have rl:=(hbR.later l2).lt;clear hK1;go_wp2_with fail
 all_goals exact bodyPost_ret (v:=.tuple #[.agg #[.int .i64 x,.int .i64 y],.bool true]) (by simp[results,Tryz.results114,go_sem,World.cell?_setCell_same',r0,r1,rl]) rfl (HFT.out _ _ _ _ (by repeat (first|with_reducible exact L2|refine Later.setAt ?_ (Nat.le_refl _) _ _|refine Later.alloc ?_ _|refine Later.trans ?_ (Later.drew _))) (by rw[hx];rfl))
theorem wW (X:List Nat) (w:World) (K:Nat) (v0 v1:Value) (S:List Sc) (Fs:List Fu) (res:TyP) (ts:List TyP) (g o:Nat) (k n tk tn:Int) (u0 u1:Value) (nm:List Int) (ks:List Ex) (h:XIn X w K v0 v1 S Fs res ts g o k n tk tn u0 u1 nm ks) (x y x2 y2:Int) (hx:bZ S Fs ts k n tk tn nm ks=if kTy ks 0=(x,y) then some (n,x2,y2) else none) :
  Calls Tryz.prog 114 #[.pointer (some ⟨K,0,none⟩),.iface 208 (.agg #[.pointer (some ⟨g,o,none⟩),.int .i64 x,.int .i64 y,.int .i64 x2,.int .i64 y2])] w (fQ (bZ S Fs ts k n tk tn nm ks) g o w):=by
 have hb:=dQ;have qT:=qA;obtain⟨hH,hty⟩:=h.tg.now;obtain⟨vs,hbx,hrow⟩:=h.tg.box;have hgl:=h.lt;have hks:=h.kids;have hnm:=h.nm;have c0:=(h.cells 0 _ rfl).1;have c1:=(h.cells 1 _ rfl).1;have c2:=(h.cells 2 _ rfl).1;have c3:=(h.cells 3 _ rfl).1;have c4:=(h.cells 4 _ rfl).1;have c5:=(h.cells 5 _ rfl).1;have f1:=(h.cells 1 _ rfl).2;have hTg:=h.tg;have a_plainPart:=mV (.agg #[.pointer (some ⟨g,o,none⟩),.int .i64 x,.int .i64 y,.int .i64 x2,.int .i64 y2]);have a_y:=BH (.agg #[.pointer (some ⟨g,o,none⟩),.int .i64 x,.int .i64 y,.int .i64 x2,.int .i64 y2]);obtain⟨w1,hw1⟩:=hidx (w.alloc (.cells #[.int .i64 0,.int .i64 0] 52));have L1:Later w w1:=by rw[hw1.out];exact ae _ _
 have hbR:Bxx w1 w.heap.size [.int .i64 0,.int .i64 0]:=by rw[hw1.out];exact Bxx.new _ _ _
 have hV:ig 208 (.agg #[.pointer (some ⟨g,o,none⟩),.int .i64 x,.int .i64 y,.int .i64 x2,.int .i64 y2]) ⟨g,o,none⟩ 197 196:=⟨fun w=>iZ _ _ _ _ _ w,fun w=>gZ _ _ _ _ _ w⟩
 have hK1:=iQ 208 (.agg #[.pointer (some ⟨g,o,none⟩),.int .i64 x,.int .i64 y,.int .i64 x2,.int .i64 y2]) g o 0 ks u1 w1 hV (by rw[Below.cell L1 (p:=⟨g,o+5,none⟩) hgl];exact c5) (RdL.later L1 hks) (by decide);have HFT:Hid (∀ W a b ok,Later w W->bZ S Fs ts k n tk tn nm ks=(if ok then some (n,a,b) else none)->fQ (bZ S Fs ts k n tk tn nm ks) g o w (.returned (.tuple #[.agg #[.int .i64 a,.int .i64 b],.bool ok])) W):=fun W a b ok l hh=>fQ.same hgl c1 l hh
 generalize hQ:fQ (bZ S Fs ts k n tk tn nm ks) g o w=Q at *
 clear hQ;clear hrow hbx hty hH hTg hnm hks h
 generalize kTy ks 0=kt at *
 obtain⟨t1,t2⟩:=kt;have hq:(if (t1,t2)=(x,y) then some (n,x2,y2) else none)=if ((t1==x)&&(t2==y)) then some (n,x2,y2) else none:=by by_cases h1:t1=x <;> by_cases h2:t2=y <;> simp[h1,h2]
 rw[hq]at hx;have hx':Hid _:=hx;clear hx hq;go_enter Tryz.func114,Tryz.ntmps114;go_wp2_with fail
 rw[<-hw1.out];refine hK1.mono ?_;rintro e w2 ⟨rfl,l2⟩;have L2:=L1.trans l2;obtain⟨r0,s0⟩:=(hbR.later l2).cell 0 _ rfl;obtain⟨r1,s1⟩:=(hbR.later l2).cell 1 _ rfl;have rl:=(hbR.later l2).lt;clear hK1;go_wp2_with fail
 go_region
 all_goals go_wp2_with fail
 trace_state
 all_goals exact bodyPost_ret (v:=.tuple #[.agg #[.int .i64 x2,.int .i64 y2],.bool ((t1==x)&&(t2==y))]) (by simp[results,Tryz.results114,go_sem,World.cell?_setCell_same',r0,r1,rl]) rfl (HFT.out _ _ _ _ (by repeat (first|with_reducible exact L2|refine Later.setAt ?_ (Nat.le_refl _) _ _|refine Later.alloc ?_ _|refine Later.trans ?_ (Later.drew _))) hx'.out)
theorem Pi (X:List Nat) (w:World) (K:Nat) (v0 v1:Value) (S:List Sc) (Fs:List Fu) (res:TyP) (ts:List TyP) (g o:Nat) (k n tk tn:Int) (u0 u1:Value) (nm:List Int) (ks:List Ex) (h:XIn X w K v0 v1 S Fs res ts g o k n tk tn u0 u1 nm ks) (hk:k=3) (hn0:0<=n) (hn1:n.toNat<ts.length) :
  Calls Tryz.prog 114 #[.pointer (some ⟨K,0,none⟩),.iface 146 (.agg #[.pointer (some ⟨g,o,none⟩)])] w (fQ (bZ S Fs ts k n tk tn nm ks) g o w):=by
 have hb:=dQ;have qT:=qA;obtain⟨hH,hty⟩:=h.tg.now;obtain⟨vs,hbx,hrow⟩:=h.tg.box;have hgl:=h.lt;have hks:=h.kids;have hnm:=h.nm;have c0:=(h.cells 0 _ rfl).1;have c1:=(h.cells 1 _ rfl).1;have c2:=(h.cells 2 _ rfl).1;have c3:=(h.cells 3 _ rfl).1;have c4:=(h.cells 4 _ rfl).1;have c5:=(h.cells 5 _ rfl).1;have f1:=(h.cells 1 _ rfl).2;have hTg:=h.tg;have a_plainPart:=tC (.agg #[.pointer (some ⟨g,o,none⟩)]);have a_convertPart:=qc (.agg #[.pointer (some ⟨g,o,none⟩)]);have a_y:=KF (.agg #[.pointer (some ⟨g,o,none⟩)]);obtain⟨w1,hw1⟩:=hidx (w.alloc (.cells #[.int .i64 0,.int .i64 0] 52));have L1:Later w w1:=by rw[hw1.out];exact ae _ _
 have hbR:Bxx w1 w.heap.size [.int .i64 0,.int .i64 0]:=by rw[hw1.out];exact Bxx.new _ _ _
 have hV:ig 146 (.agg #[.pointer (some ⟨g,o,none⟩)]) ⟨g,o,none⟩ 197 196:=⟨fun w=>kX _ w,fun w=>jF _ w⟩
 have hK1:=iQ 146 (.agg #[.pointer (some ⟨g,o,none⟩)]) g o 0 ks u1 w1 hV (by rw[Below.cell L1 (p:=⟨g,o+5,none⟩) hgl];exact c5) (RdL.later L1 hks) (by decide);have HFT:Hid (∀ W a b ok,Later w W->bZ S Fs ts k n tk tn nm ks=(if ok then some (n,a,b) else none)->fQ (bZ S Fs ts k n tk tn nm ks) g o w (.returned (.tuple #[.agg #[.int .i64 a,.int .i64 b],.bool ok])) W):=fun W a b ok l hh=>fQ.same hgl c1 l hh
 generalize hQ:fQ (bZ S Fs ts k n tk tn nm ks) g o w=Q at *
 clear hQ
 obtain⟨N,rfl⟩:∃ N:Nat,n=(N:Int):=⟨n.toNat,by omega⟩
 simp only[Int.toNat_natCast]at hn1;have hx:Hid (bZ S Fs ts k (N:Int) tk tn nm ks=some ((N:Int),ts[N].1,ts[N].2)):=by unfold Hid bZ;rw[hk];simp[hn1]
 obtain⟨rb,cap,rfl,hrb,y0,y1⟩:∃ rb cap,vs=.slice (some ⟨rb,0,none⟩) ts.length cap/\rb<w.heap.size/\w.cell? ⟨rb,N*2,none⟩=some (.int .i64 ts[N].1)/\w.cell? ⟨rb,N*2+1,none⟩=some (.int .i64 ts[N].2):=by
  rcases hrow.2 with ⟨_,e⟩|⟨rb,cap,cur,rfl,_⟩
  ·omega
  ·obtain⟨a,b⟩:=zH ts N hn1;exact⟨rb,cap,rfl,(hrow.lt rb rfl).2,by rw[hrow.cellAt _ (by omega)];exact a,by rw[hrow.cellAt _ (by omega)];exact b⟩
 have k4:=(hbx.cell 4 _ rfl).1;have kl:=hbx.lt;have j1:(N:Int)<(ts.length:Int):=by omega
 have j0:(0:Int)<=(N:Int):=by omega
 clear hrow hbx hty hH hTg hnm hks h hk hn0;go_enter Tryz.func114,Tryz.ntmps114;go_wp2_with fail
 rw[<-hw1.out];refine hK1.mono ?_;rintro e w2 ⟨rfl,l2⟩;have L2:=L1.trans l2;obtain⟨r0,s0⟩:=(hbR.later l2).cell 0 _ rfl;obtain⟨r1,s1⟩:=(hbR.later l2).cell 1 _ rfl;have rl:=(hbR.later l2).lt;clear hK1;have z0:w2.cell? ⟨rb,N*2,none⟩=some (.int .i64 ts[N].1):=by rw[Below.cell L2 (p:=⟨rb,N*2,none⟩) hrb];exact y0
 have z1:w2.cell? ⟨rb,N*2+1,none⟩=some (.int .i64 ts[N].2):=by rw[Below.cell L2 (p:=⟨rb,N*2+1,none⟩) hrb];exact y1
 have z4:w2.cell? ⟨K,4,none⟩=some (.slice (some ⟨rb,0,none⟩) ts.length cap):=by rw[Below.cell L2 (p:=⟨K,4,none⟩) kl];exact k4
 have zc:w2.cell? ⟨g,o+1,none⟩=some (.int .i64 (N:Int)):=by rw[Below.cell L2 (p:=⟨g,o+1,none⟩) hgl];exact c1
 have zl:rb<w2.heap.size/\K<w2.heap.size/\g<w2.heap.size:=by have:=L2.size;omega
 obtain⟨zl1,zl2,zl3⟩:=zl
 generalize ts[N].1=tv1 at *
 generalize ts[N].2=tv2 at *
 go_wp2_with fail
 go_region
 all_goals go_wp2_with fail
 all_goals exact bodyPost_ret (v:=.tuple #[.agg #[.int .i64 tv1,.int .i64 tv2],.bool true]) (by simp[results,Tryz.results114,go_sem,World.cell?_setCell_same',r0,r1,rl]) rfl (HFT.out _ _ _ _ (by repeat (first|with_reducible exact L2|refine Later.setAt ?_ (Nat.le_refl _) _ _|refine Later.alloc ?_ _|refine Later.trans ?_ (Later.drew _))) (by rw[hx.out];rfl))
theorem MJ (X:List Nat) (w:World) (K:Nat) (v0 v1:Value) (S:List Sc) (Fs:List Fu) (res:TyP) (ts:List TyP) (g o:Nat) (k n tk tn:Int) (u0 u1:Value) (nm:List Int) (ks:List Ex) (h:XIn X w K v0 v1 S Fs res ts g o k n tk tn u0 u1 nm ks) (hk:k=5) :
  Calls Tryz.prog 114 #[.pointer (some ⟨K,0,none⟩),.iface 203 (.agg #[.pointer (some ⟨g,o,none⟩)])] w (fQ (bZ S Fs ts k n tk tn nm ks) g o w):=by
 have hb:=dQ;have qT:=qA;obtain⟨hH,hty⟩:=h.tg.now;obtain⟨vs,hbx,hrow⟩:=h.tg.box;have hgl:=h.lt;have hks:=h.kids;have hnm:=h.nm;have c0:=(h.cells 0 _ rfl).1;have c1:=(h.cells 1 _ rfl).1;have c2:=(h.cells 2 _ rfl).1;have c3:=(h.cells 3 _ rfl).1;have c4:=(h.cells 4 _ rfl).1;have c5:=(h.cells 5 _ rfl).1;have f1:=(h.cells 1 _ rfl).2;have hTg:=h.tg;have a_plainPart:=qI (.agg #[.pointer (some ⟨g,o,none⟩)]);have a_convertPart:=oD (.agg #[.pointer (some ⟨g,o,none⟩)]);have a_varPart:=uK (.agg #[.pointer (some ⟨g,o,none⟩)]);have a_y:=Ha (.agg #[.pointer (some ⟨g,o,none⟩)]);obtain⟨w1,hw1⟩:=hidx (w.alloc (.cells #[.int .i64 0,.int .i64 0] 52));have L1:Later w w1:=by rw[hw1.out];exact ae _ _
 have hbR:Bxx w1 w.heap.size [.int .i64 0,.int .i64 0]:=by rw[hw1.out];exact Bxx.new _ _ _
 have hV:ig 203 (.agg #[.pointer (some ⟨g,o,none⟩)]) ⟨g,o,none⟩ 197 196:=⟨fun w=>pM _ w,fun w=>mg _ w⟩
 have hK1:=iQ 203 (.agg #[.pointer (some ⟨g,o,none⟩)]) g o 0 ks u1 w1 hV (by rw[Below.cell L1 (p:=⟨g,o+5,none⟩) hgl];exact c5) (RdL.later L1 hks) (by decide);have HFT:Hid (∀ W a b ok,Later w W->bZ S Fs ts k n tk tn nm ks=(if ok then some (n,a,b) else none)->fQ (bZ S Fs ts k n tk tn nm ks) g o w (.returned (.tuple #[.agg #[.int .i64 a,.int .i64 b],.bool ok])) W):=fun W a b ok l hh=>fQ.same hgl c1 l hh
 generalize hQ:fQ (bZ S Fs ts k n tk tn nm ks) g o w=Q at *
 clear hQ
 have hx:Hid (bZ S Fs ts k n tk tn nm ks=if ((kTy ks 0).1==1)&&((kTy ks 0).2==0) then some (n,tk,tn) else none):=by
  unfold Hid bZ;rw[hk];simp only[show ¬ ((5:Int)=0\/(5:Int)=11) by decide,show ¬ ((5:Int)=1) by decide,show ¬ ((5:Int)=2\/(5:Int)=4) by decide,show ¬ ((5:Int)=3) by decide,if_false,if_true]
  generalize kTy ks 0=kt
  obtain⟨t1,t2⟩:=kt;by_cases h1:t1=1 <;> by_cases h2:t2=0 <;> simp[h1,h2]
 generalize kTy ks 0=kt at *
 obtain⟨t1,t2⟩:=kt;have i0:=hty.i0;have i1:=hty.i1;have il:=aK hty.i0;clear hrow hbx hty hH hTg hnm hks h hk;go_enter Tryz.func114,Tryz.ntmps114;go_wp2_with fail
 rw[<-hw1.out];refine hK1.mono ?_;rintro e w2 ⟨rfl,l2⟩;have L2:=L1.trans l2;obtain⟨r0,s0⟩:=(hbR.later l2).cell 0 _ rfl;obtain⟨r1,s1⟩:=(hbR.later l2).cell 1 _ rfl;have rl:=(hbR.later l2).lt;clear hK1;have z2:w2.cell? ⟨g,o+2,none⟩=some (.int .i64 tk):=by rw[Below.cell L2 (p:=⟨g,o+2,none⟩) hgl];exact c2
 have z3:w2.cell? ⟨g,o+3,none⟩=some (.int .i64 tn):=by rw[Below.cell L2 (p:=⟨g,o+3,none⟩) hgl];exact c3
 have y0:w2.cell? ⟨0,0,none⟩=some (.int .i64 1):=by rw[Below.cell L2 (p:=⟨0,0,none⟩) il];exact i0
 have y1:w2.cell? ⟨0,1,none⟩=some (.int .i64 0):=by rw[Below.cell L2 (p:=⟨0,1,none⟩) il];exact i1
 have zl:g<w2.heap.size/\0<w2.heap.size:=by have:=L2.size;omega
 obtain⟨zl1,zl2⟩:=zl;go_wp2_with fail
 go_region
 all_goals go_wp2_with fail
 all_goals exact bodyPost_ret (v:=.tuple #[.agg #[.int .i64 tk,.int .i64 tn],.bool ((t1==1)&&(t2==0))]) (by simp[results,Tryz.results114,go_sem,World.cell?_setCell_same',r0,r1,rl]) rfl (HFT.out _ _ _ _ (by repeat (first|with_reducible exact L2|refine Later.setAt ?_ (Nat.le_refl _) _ _|refine Later.alloc ?_ _|refine Later.trans ?_ (Later.drew _))) hx.out)
theorem MK (X:List Nat) (w:World) (K:Nat) (v0 v1:Value) (S:List Sc) (Fs:List Fu) (res:TyP) (ts:List TyP) (g o:Nat) (k n tk tn:Int) (u0 u1:Value) (nm:List Int) (ks:List Ex) (h:XIn X w K v0 v1 S Fs res ts g o k n tk tn u0 u1 nm ks) (hk:k=6) (hn0:0<=n) (hn1:n.toNat<Fs.length) :
  Calls Tryz.prog 114 #[.pointer (some ⟨K,0,none⟩),.iface 149 (.agg #[.pointer (some ⟨g,o,none⟩)])] w (fQ (bZ S Fs ts k n tk tn nm ks) g o w):=by
 have hb:=dQ;have qT:=qA;obtain⟨hH,hty⟩:=h.tg.now;obtain⟨vs,hbx,hrow⟩:=h.tg.box;have hgl:=h.lt;have hks:=h.kids;have hnm:=h.nm;have c0:=(h.cells 0 _ rfl).1;have c1:=(h.cells 1 _ rfl).1;have c2:=(h.cells 2 _ rfl).1;have c3:=(h.cells 3 _ rfl).1;have c4:=(h.cells 4 _ rfl).1;have c5:=(h.cells 5 _ rfl).1;have f1:=(h.cells 1 _ rfl).2;have hTg:=h.tg;have a_plainPart:=qN (.agg #[.pointer (some ⟨g,o,none⟩)]);have a_convertPart:=oG (.agg #[.pointer (some ⟨g,o,none⟩)]);have a_varPart:=uS (.agg #[.pointer (some ⟨g,o,none⟩)]);have a_makePart:=uj (.agg #[.pointer (some ⟨g,o,none⟩)]);have a_y:=He (.agg #[.pointer (some ⟨g,o,none⟩)]);obtain⟨w1,hw1⟩:=hidx (w.alloc (.cells #[.int .i64 0,.int .i64 0] 52));have L1:Later w w1:=by rw[hw1.out];exact ae _ _
 have hbR:Bxx w1 w.heap.size [.int .i64 0,.int .i64 0]:=by rw[hw1.out];exact Bxx.new _ _ _
 have hV:ig 149 (.agg #[.pointer (some ⟨g,o,none⟩)]) ⟨g,o,none⟩ 197 196:=⟨fun w=>jZ _ w,fun w=>jq _ w⟩
 have hK1:=iQ 149 (.agg #[.pointer (some ⟨g,o,none⟩)]) g o 0 ks u1 w1 hV (by rw[Below.cell L1 (p:=⟨g,o+5,none⟩) hgl];exact c5) (RdL.later L1 hks) (by decide);have HFT:Hid (∀ W a b ok,Later w W->bZ S Fs ts k n tk tn nm ks=(if ok then some (n,a,b) else none)->fQ (bZ S Fs ts k n tk tn nm ks) g o w (.returned (.tuple #[.agg #[.int .i64 a,.int .i64 b],.bool ok])) W):=fun W a b ok l hh=>fQ.same hgl c1 l hh
 generalize hQ:fQ (bZ S Fs ts k n tk tn nm ks) g o w=Q at *
 clear hQ
 obtain⟨N,rfl⟩:∃ N:Nat,n=(N:Int):=⟨n.toNat,by omega⟩
 simp only[Int.toNat_natCast]at hn1;have hx:Hid (bZ S Fs ts k (N:Int) tk tn nm ks=if gK Fs[N].params ks then some ((N:Int),Fs[N].rk,Fs[N].rn) else none):=by unfold Hid bZ;rw[hk];simp[hn1]
 obtain⟨fa,fcap,rfl,hfs⟩:=hH.fu;obtain⟨gf,of',e0,e1,e2,rfl,hgf,d0,d1,d2,d3,d4,⟨x0,x1,x2,rfl⟩,⟨y0,y1,y2,rfl⟩,hpar⟩:=hfs N hn1;have hEq:=fun w' (l:Later w w')=>PN Fs[N].params ks e1 u1 w' (RdL.later l hpar) (RdL.later l hks);obtain⟨pa,pc,rfl,_⟩:=Pa.slice hpar;obtain⟨ka,kc,rfl,_⟩:=Ex.slice hks;have k1:=(hbx.cell 1 _ rfl).1;have kl:=hbx.lt;have j1:(N:Int)<(Fs.length:Int):=by omega
 have j0:(0:Int)<=(N:Int):=by omega
 clear hrow hbx hty hH hTg hnm hks h hk hn0 hfs hpar;go_enter Tryz.func114,Tryz.ntmps114;go_wp2_with fail
 rw[<-hw1.out];refine hK1.mono ?_;rintro e w2 ⟨rfl,l2⟩;have L2:=L1.trans l2;obtain⟨r0,s0⟩:=(hbR.later l2).cell 0 _ rfl;obtain⟨r1,s1⟩:=(hbR.later l2).cell 1 _ rfl;have rl:=(hbR.later l2).lt;clear hK1
 generalize kTy ks 0=kt at *
 obtain⟨t1,t2⟩:=kt;obtain⟨w3,hw3⟩:=hidx ((w2.alloc (.cells #[.int .i64 t1,.int .i64 t2] 52)).alloc (.cells #[.pointer (some ⟨g,o,none⟩)] 149));have l3:Later w2 w3:=by rw[hw3.out];exact bF _ _ _
 have L3:=L2.trans l3;have hbX:Bxx w3 (w2.heap.size+1) [.pointer (some ⟨g,o,none⟩)]:=by rw[hw3.out];have:=Bxx.new (w2.alloc (.cells #[.int .i64 t1,.int .i64 t2] 52)) #[.pointer (some ⟨g,o,none⟩)] 149;simpa using this
 have x0':=(hbX.cell 0 _ rfl).1;have xl:=hbX.lt;have zk:w3.cell? ⟨K,1,none⟩=some (.slice (some ⟨gf,of',none⟩) Fs.length fcap):=by rw[Below.cell L3 (p:=⟨K,1,none⟩) kl];exact k1
 have z0:w3.cell? ⟨gf,of'+N*5,none⟩=some (.slice x0 x1 x2):=by rw[Below.cell L3 (p:=⟨gf,of'+N*5,none⟩) hgf];exact d0
 have z1:w3.cell? ⟨gf,of'+N*5+1,none⟩=some (.slice pa Fs[N].params.length pc):=by rw[Below.cell L3 (p:=⟨gf,of'+N*5+1,none⟩) hgf];exact d1
 have z2:w3.cell? ⟨gf,of'+N*5+2,none⟩=some (.int .i64 Fs[N].rk):=by rw[Below.cell L3 (p:=⟨gf,of'+N*5+2,none⟩) hgf];exact d2
 have z3:w3.cell? ⟨gf,of'+N*5+3,none⟩=some (.int .i64 Fs[N].rn):=by rw[Below.cell L3 (p:=⟨gf,of'+N*5+3,none⟩) hgf];exact d3
 have z4:w3.cell? ⟨gf,of'+N*5+4,none⟩=some (.slice y0 y1 y2):=by rw[Below.cell L3 (p:=⟨gf,of'+N*5+4,none⟩) hgf];exact d4
 have zc:w3.cell? ⟨g,o+1,none⟩=some (.int .i64 (N:Int)):=by rw[Below.cell L3 (p:=⟨g,o+1,none⟩) hgl];exact c1
 have zk5:w3.cell? ⟨g,o+5,none⟩=some (.slice ka ks.length kc):=by rw[Below.cell L3 (p:=⟨g,o+5,none⟩) hgl];exact c5
 have zl:gf<w3.heap.size/\K<w3.heap.size/\g<w3.heap.size:=by have:=L3.size;omega
 obtain⟨zl1,zl2,zl3⟩:=zl
 generalize Fs[N].params.length=PL at *
 generalize Fs[N].rk=rk at *
 generalize Fs[N].rn=rn at *
 generalize gK Fs[N].params ks=tb at *
 generalize ks.length=KL at *
 have HE:Hid _:=hEq;clear hEq d0 d1 d2 d3 d4 c0 c1 c2 c3 c4 c5 k1;go_wp2_with fail
 rw[<-hw3.out];obtain⟨w4,hw4⟩:=hidx ((w3.alloc (.cells #[.slice x0 x1 x2,.slice pa PL pc,.int .i64 rk,.int .i64 rn,.slice y0 y1 y2] 55)).drew);have l4:Later w3 w4:=by rw[hw4.out];exact (ae _ _).trans (Later.drew _)
 have hbF:Bxx w4 w3.heap.size [.slice x0 x1 x2,.slice pa PL pc,.int .i64 rk,.int .i64 rn,.slice y0 y1 y2]:=by rw[hw4.out];exact (Bxx.new w3 #[.slice x0 x1 x2,.slice pa PL pc,.int .i64 rk,.int .i64 rn,.slice y0 y1 y2] 55).later (Later.drew _)
 have L4:=L3.trans l4;have hR4:Hid (∀ w',Later w4 w'->Bxx w' w.heap.size [.int .i64 0,.int .i64 0]):=fun w' l=>hbR.later ((l2.trans l3).trans (l4.trans l))
 have HS:Hid (∀ w',af w.heap.size w4 w'->(w'.cell? ⟨w3.heap.size,1,none⟩=some (.slice pa PL pc)/\w'.cell? ⟨w3.heap.size,2,none⟩=some (.int .i64 rk)/\w'.cell? ⟨w3.heap.size,3,none⟩=some (.int .i64 rn)/\w'.cell? ⟨w2.heap.size+1,0,none⟩=some (.pointer (some ⟨g,o,none⟩))/\w'.cell? ⟨g,o+5,none⟩=some (.slice ka KL kc))):=fun w' ok=>by
  have hF:=hbF.only ok (by omega);have hX:=(hbX.later l4).only ok (by omega);exact⟨(hF.cell 1 _ rfl).1,(hF.cell 2 _ rfl).1,(hF.cell 3 _ rfl).1,(hX.cell 0 _ rfl).1,by rw[(aj (ok.block g (Nat.lt_of_lt_of_le zl3 l4.size) (by omega))).1,(aj (l4.block g zl3)).1];exact zk5⟩
 go_region
 all_goals
  go_wp2_with fail
  rw[<-hw4.out];clear r0 r1 s0 s1 zk z0 z1 z2 z3 z4 zc zk5 hbF hbX;go_region_held3 (fun w'=>w'.cell? ⟨w3.heap.size,1,none⟩=some (.slice pa PL pc)/\w'.cell? ⟨w3.heap.size,2,none⟩=some (.int .i64 rk)/\w'.cell? ⟨w3.heap.size,3,none⟩=some (.int .i64 rn)/\w'.cell? ⟨w2.heap.size+1,0,none⟩=some (.pointer (some ⟨g,o,none⟩))/\w'.cell? ⟨g,o+5,none⟩=some (.slice ka KL kc)) (first|exact HS.out _ (af.of_later (Later.drew _))|exact HS.out _ (af.of_later ((Later.drew _).trans l6))|exact HS.out _ (af.set (af.set (af.of_later ((Later.drew _).trans l6)) _ _) _ _)) ((go_at_call 141;refine (HE.out _ (L4.trans (Later.drew _))).mono ?_;rintro e w6 ⟨rfl,l6⟩;have r0:=((hR4.out _ ((Later.drew _).trans l6)).cell 0 _ rfl).1;have s0:=((hR4.out _ ((Later.drew _).trans l6)).cell 0 _ rfl).2;have r1:=((hR4.out _ ((Later.drew _).trans l6)).cell 1 _ rfl).1;have s1:=((hR4.out _ ((Later.drew _).trans l6)).cell 1 _ rfl).2;have rl:=(hR4.out _ ((Later.drew _).trans l6)).lt))
  all_goals
   have L2:=(L4.trans (Later.drew _)).trans l6;go_wp2_with fail
   exact bodyPost_ret (v:=.tuple #[.agg #[.int .i64 rk,.int .i64 rn],.bool tb]) (by simp[results,Tryz.results114,go_sem,World.cell?_setCell_same',r0,r1] ) rfl (HFT.out _ _ _ _ (by repeat (first|with_reducible exact L2|refine Later.setAt ?_ (Nat.le_refl _) _ _|refine Later.alloc ?_ _|refine Later.trans ?_ (Later.drew _))) hx.out)
theorem Iz (X:List Nat) (w:World) (K:Nat) (v0 v1:Value) (S:List Sc) (Fs:List Fu) (res:TyP) (ts:List TyP) (g o:Nat) (k n tk tn:Int) (u0 u1:Value) (nm:List Int) (ks:List Ex) (h:XIn X w K v0 v1 S Fs res ts g o k n tk tn u0 u1 nm ks) (hk:k=7) (hv:(kTy ks 0).1=3->0<=(kTy ks 0).2/\(kTy ks 0).2.toNat<S.length) :
  Calls Tryz.prog 114 #[.pointer (some ⟨K,0,none⟩),.iface 204 (.agg #[.pointer (some ⟨g,o,none⟩)])] w (fQ (bZ S Fs ts k n tk tn nm ks) g o w):=by
 have hb:=dQ;have qT:=qA;obtain⟨hH,hty⟩:=h.tg.now;obtain⟨vs,hbx,hrow⟩:=h.tg.box;have hgl:=h.lt;have hks:=h.kids;have hnm:=h.nm;have c0:=(h.cells 0 _ rfl).1;have c1:=(h.cells 1 _ rfl).1;have c2:=(h.cells 2 _ rfl).1;have c3:=(h.cells 3 _ rfl).1;have c4:=(h.cells 4 _ rfl).1;have c5:=(h.cells 5 _ rfl).1;have f1:=(h.cells 1 _ rfl).2;have hTg:=h.tg;have a_plainPart:=qj (.agg #[.pointer (some ⟨g,o,none⟩)]);have a_convertPart:=mQ (.agg #[.pointer (some ⟨g,o,none⟩)]);have a_varPart:=uh (.agg #[.pointer (some ⟨g,o,none⟩)]);have a_makePart:=qL (.agg #[.pointer (some ⟨g,o,none⟩)]);have a_callPart:=qM (.agg #[.pointer (some ⟨g,o,none⟩)]);have a_y:=EE (.agg #[.pointer (some ⟨g,o,none⟩)]);obtain⟨w1,hw1⟩:=hidx (w.alloc (.cells #[.int .i64 0,.int .i64 0] 52));have L1:Later w w1:=by rw[hw1.out];exact ae _ _
 have hbR:Bxx w1 w.heap.size [.int .i64 0,.int .i64 0]:=by rw[hw1.out];exact Bxx.new _ _ _
 have hV:ig 204 (.agg #[.pointer (some ⟨g,o,none⟩)]) ⟨g,o,none⟩ 197 196:=⟨fun w=>jG _ w,fun w=>iW _ w⟩
 have hK1:=iQ 204 (.agg #[.pointer (some ⟨g,o,none⟩)]) g o 0 ks u1 w1 hV (by rw[Below.cell L1 (p:=⟨g,o+5,none⟩) hgl];exact c5) (RdL.later L1 hks) (by decide);have hx:Hid (bZ S Fs ts k n tk tn nm ks=oV S nm (kTy ks 0)):=by unfold Hid bZ;rw[hk];rfl
 have HFX:Hid (∀ W a b ok,OnlyC g (o+1) [] w W->(ok=false->oV S nm (kTy ks 0)=none)->(ok=true->∃ m,oV S nm (kTy ks 0)=some (m,a,b)/\W.cell? ⟨g,o+1,none⟩=some (.int .i64 m))->fQ (bZ S Fs ts k n tk tn nm ks) g o w (.returned (.tuple #[.agg #[.int .i64 a,.int .i64 b],.bool ok])) W):=fun W a b ok oc h1 h2=>⟨a,b,ok,rfl,oc,fun e=>by rw[hx.out];exact h1 e,fun e=>by rw[hx.out];exact h2 e⟩
 have hF:=fun w' (l:Later w w')=>IY X w' K v0 v1 S Fs res ts (hTg.later l) g o n u0 u1 nm ks (Nat.lt_of_lt_of_le hgl l.size) (by rw[Below.cell l (p:=⟨g,o+1,none⟩) hgl];exact c1) (by rw[(aj (l.block g hgl)).2];exact f1) (by rw[Below.cell l (p:=⟨g,o+4,none⟩) hgl];exact c4) (by rw[Below.cell l (p:=⟨g,o+5,none⟩) hgl];exact c5) (hnm.later l) (RdL.later l hks) hv
 generalize hQ:fQ (bZ S Fs ts k n tk tn nm ks) g o w=Q at *
 clear hQ
 generalize kTy ks 0=kt at *
 obtain⟨t1,t2⟩:=kt;clear hrow hbx hty hH hTg hnm hks h hk hx hv;go_enter Tryz.func114,Tryz.ntmps114;go_wp2_with fail
 rw[<-hw1.out];refine hK1.mono ?_;rintro e w2 ⟨rfl,l2⟩;have L2:=L1.trans l2;obtain⟨r0,s0⟩:=(hbR.later l2).cell 0 _ rfl;obtain⟨r1,s1⟩:=(hbR.later l2).cell 1 _ rfl;have rl:=(hbR.later l2).lt;clear hK1;obtain⟨w3,hw3⟩:=hidx ((w2.alloc (.cells #[.int .i64 t1,.int .i64 t2] 52)).alloc (.cells #[.pointer (some ⟨g,o,none⟩)] 204));have l3:Later w2 w3:=by rw[hw3.out];exact bF _ _ _
 have hE3:=hF w3 (L2.trans l3);clear hF;go_wp2_with fail
 rw[<-hw3.out];refine hE3.mono ?_;rintro e w4 ⟨a,b,ok,rfl,oc,he1,he2⟩;have hR3:=hbR.later (l2.trans l3);have hgne:g≠w.heap.size:=by omega
 have hbR4:Bxx w4 w.heap.size [.int .i64 0,.int .i64 0]:=hR3.kept oc.size (oc.block _ hR3.lt (by simp) (Ne.symm hgne));obtain⟨r0,s0⟩:=hbR4.cell 0 _ rfl;obtain⟨r1,s1⟩:=hbR4.cell 1 _ rfl;have rl:=hbR4.lt
 have HW:=HFX.out ((w4.setCell ⟨w.heap.size,0,none⟩ (.int .i64 a)).setCell ⟨w.heap.size,1,none⟩ (.int .i64 b)) a b ok (OnlyC.cO (OnlyC.cO ((OnlyC.iw (ay.of_later (L2.trans l3)) (by simp) hgl).trans oc) (Nat.le_refl _) hgl 0 _) (Nat.le_refl _) hgl 1 _) he1 (fun e=>by
  obtain⟨m,q1,q2⟩:=he2 e
  exact⟨m,q1,by rw[(aj (hset hgne)).1,(aj (hset hgne)).1];exact q2⟩)
 clear hE3 he1 he2 HFX;go_wp2_with fail
 exact bodyPost_ret (v:=.tuple #[.agg #[.int .i64 a,.int .i64 b],.bool ok]) (by simp[results,Tryz.results114,go_sem,World.cell?_setCell_same',r0,r1]) rfl HW
theorem Iy (X:List Nat) (w:World) (K:Nat) (v0 v1:Value) (S:List Sc) (Fs:List Fu) (res:TyP) (ts:List TyP) (g o:Nat) (k n tk tn:Int) (u0 u1:Value) (nm:List Int) (ks:List Ex) (h:XIn X w K v0 v1 S Fs res ts g o k n tk tn u0 u1 nm ks) (hk:k=8) :
  Calls Tryz.prog 114 #[.pointer (some ⟨K,0,none⟩),.iface 205 (.agg #[.pointer (some ⟨g,o,none⟩)])] w (fQ (bZ S Fs ts k n tk tn nm ks) g o w):=by
 have hb:=dQ;have qT:=qA;obtain⟨hH,hty⟩:=h.tg.now;obtain⟨vs,hbx,hrow⟩:=h.tg.box;have hgl:=h.lt;have hks:=h.kids;have hnm:=h.nm;have c0:=(h.cells 0 _ rfl).1;have c1:=(h.cells 1 _ rfl).1;have c2:=(h.cells 2 _ rfl).1;have c3:=(h.cells 3 _ rfl).1;have c4:=(h.cells 4 _ rfl).1;have c5:=(h.cells 5 _ rfl).1;have f1:=(h.cells 1 _ rfl).2;have hTg:=h.tg;have a_plainPart:=qh (.agg #[.pointer (some ⟨g,o,none⟩)]);have a_convertPart:=mP (.agg #[.pointer (some ⟨g,o,none⟩)]);have a_varPart:=uf (.agg #[.pointer (some ⟨g,o,none⟩)]);have a_makePart:=qJ (.agg #[.pointer (some ⟨g,o,none⟩)]);have a_callPart:=qK (.agg #[.pointer (some ⟨g,o,none⟩)]);have a_fieldPart:=qi (.agg #[.pointer (some ⟨g,o,none⟩)]);have a_y:=ED (.agg #[.pointer (some ⟨g,o,none⟩)]);obtain⟨w1,hw1⟩:=hidx (w.alloc (.cells #[.int .i64 0,.int .i64 0] 52));have L1:Later w w1:=by rw[hw1.out];exact ae _ _
 have hbR:Bxx w1 w.heap.size [.int .i64 0,.int .i64 0]:=by rw[hw1.out];exact Bxx.new _ _ _
 have hV:ig 205 (.agg #[.pointer (some ⟨g,o,none⟩)]) ⟨g,o,none⟩ 197 196:=⟨fun w=>nP _ w,fun w=>lg _ w⟩
 have hK1:=iQ 205 (.agg #[.pointer (some ⟨g,o,none⟩)]) g o 0 ks u1 w1 hV (by rw[Below.cell L1 (p:=⟨g,o+5,none⟩) hgl];exact c5) (RdL.later L1 hks) (by decide);have HFT:Hid (∀ W a b ok,Later w W->bZ S Fs ts k n tk tn nm ks=(if ok then some (n,a,b) else none)->fQ (bZ S Fs ts k n tk tn nm ks) g o w (.returned (.tuple #[.agg #[.int .i64 a,.int .i64 b],.bool ok])) W):=fun W a b ok l hh=>fQ.same hgl c1 l hh
 generalize hQ:fQ (bZ S Fs ts k n tk tn nm ks) g o w=Q at *
 clear hQ;have hx:Hid (bZ S Fs ts k n tk tn nm ks=match lH (kTy ks 0) with|none=>none|some t=>if kTy ks 1=(1,0) then some (n,t.1,t.2) else none):=by unfold Hid bZ;rw[hk];rfl
 have i0:=hty.i0;have i1:=hty.i1;have il:=aK hty.i0;have hEl:=fun w' (l:Later w w')=>Dl (kTy ks 0).1 (kTy ks 0).2 w' (hty.later l);have hKd:=fun w' (l:Later w w')=>iQ 205 (.agg #[.pointer (some ⟨g,o,none⟩)]) g o 1 ks u1 w' hV (by rw[Below.cell l (p:=⟨g,o+5,none⟩) hgl];exact c5) (RdL.later l hks) (by decide)
 generalize kTy ks 0=kt at *
 obtain⟨t1,t2⟩:=kt
 generalize kTy ks 1=kt2 at *
 obtain⟨q1,q2⟩:=kt2;clear hrow hbx hH hTg hnm hks h hk;go_enter Tryz.func114,Tryz.ntmps114;go_wp2_with fail
 rw[<-hw1.out];refine hK1.mono ?_;rintro e w2 ⟨rfl,l2⟩;have L2:=L1.trans l2;obtain⟨r0,s0⟩:=(hbR.later l2).cell 0 _ rfl;obtain⟨r1,s1⟩:=(hbR.later l2).cell 1 _ rfl;have rl:=(hbR.later l2).lt;clear hK1;obtain⟨w3,hw3⟩:=hidx ((w2.alloc (.cells #[.int .i64 t1,.int .i64 t2] 52)).alloc (.cells #[.pointer (some ⟨g,o,none⟩)] 205));have l3:Later w2 w3:=by rw[hw3.out];exact bF _ _ _
 have hE3:=hEl w3 (L2.trans l3);clear hEl;go_wp2_with fail
 rw[<-hw3.out];refine hE3.mono ?_;rintro e w4 ⟨a,b,ok,rfl,he,l4⟩;obtain⟨w5,hw5⟩:=hidx (w4.alloc (.cells #[.int .i64 a,.int .i64 b] 52));have l5:Later w4 w5:=by rw[hw5.out];exact ae _ _
 have hbE:Bxx w5 w4.heap.size [.int .i64 a,.int .i64 b]:=by rw[hw5.out];exact Bxx.new _ _ _
 have l35:Later w2 w5:=(l3.trans l4).trans l5;have L5:=L2.trans l35;have hR4:Hid (∀ w',Later w5 w'->Bxx w' w.heap.size [.int .i64 0,.int .i64 0]):=fun w' l=>hbR.later ((l2.trans l35).trans l);have hne:w4.heap.size≠w.heap.size:=by have:=(hbR.later ((l2.trans l3).trans l4)).lt;omega
 have HS:Hid (∀ w',af w.heap.size w5 w'->(w'.cell? ⟨w4.heap.size,0,none⟩=some (.int .i64 a)/\w'.cell? ⟨w4.heap.size,1,none⟩=some (.int .i64 b)/\w'.cell? ⟨0,0,none⟩=some (.int .i64 1)/\w'.cell? ⟨0,1,none⟩=some (.int .i64 0))):=fun w' ok=>by
  have hE:=hbE.only ok hne;have hi:w'.heap[0]?=w.heap[0]?:=by rw[ok.block 0 (Nat.lt_of_lt_of_le il L5.size) (by omega),L5.block _ il]
  exact⟨(hE.cell 0 _ rfl).1,(hE.cell 1 _ rfl).1,by rw[(aj hi).1];exact i0,by rw[(aj hi).1];exact i1⟩
 rw[he]at hx;clear hE3 he hty r0 r1 s0 s1 rl
 cases ok with
 | false =>
  have L2:=L5;obtain⟨r0,s0⟩:=(hR4.out w5 (Later.refl _)).cell 0 _ rfl;obtain⟨r1,s1⟩:=(hR4.out w5 (Later.refl _)).cell 1 _ rfl;have rl:=(hR4.out w5 (Later.refl _)).lt;obtain⟨e0,e1,_,_⟩:=HS.out w5 (af.refl _ _);clear HS hR4 hbE hKd;go_wp2_with fail
  rw[<-hw5.out];go_region
  all_goals
   go_wp2_with fail
   exact bodyPost_ret (v:=.tuple #[.agg #[.int .i64 a,.int .i64 b],.bool false]) (by simp[results,Tryz.results114,go_sem,World.cell?_setCell_same',r0,r1]) rfl (HFT.out _ _ _ _ (by repeat (first|with_reducible exact L2|refine Later.setAt ?_ (Nat.le_refl _) _ _|refine Later.alloc ?_ _|refine Later.trans ?_ (Later.drew _))) (by rw[hx.out];rfl))
 | true =>
  go_wp2_with fail
  rw[<-hw5.out];clear hbE;go_region_held3 (fun w'=>w'.cell? ⟨w4.heap.size,0,none⟩=some (.int .i64 a)/\w'.cell? ⟨w4.heap.size,1,none⟩=some (.int .i64 b)/\w'.cell? ⟨0,0,none⟩=some (.int .i64 1)/\w'.cell? ⟨0,1,none⟩=some (.int .i64 0)) (first|exact HS.out _ (af.of_later (Later.drew _))|exact HS.out _ (af.of_later ((Later.drew _).trans l6))|exact HS.out _ (af.set (af.set (af.of_later ((Later.drew _).trans l6)) _ _) _ _)) ((go_at_call 115;refine (hKd _ (L5.trans (Later.drew _))).mono ?_;rintro e w6 ⟨rfl,l6⟩;have r0:=((hR4.out _ ((Later.drew _).trans l6)).cell 0 _ rfl).1;have s0:=((hR4.out _ ((Later.drew _).trans l6)).cell 0 _ rfl).2;have r1:=((hR4.out _ ((Later.drew _).trans l6)).cell 1 _ rfl).1;have s1:=((hR4.out _ ((Later.drew _).trans l6)).cell 1 _ rfl).2;have rl:=(hR4.out _ ((Later.drew _).trans l6)).lt))
  all_goals
   have L2:=(L5.trans (Later.drew _)).trans l6;go_wp2_with fail
   exact bodyPost_ret (v:=.tuple #[.agg #[.int .i64 a,.int .i64 b],.bool ((q1==1)&&(q2==0))]) (by simp[results,Tryz.results114,go_sem,World.cell?_setCell_same',r0,r1]) rfl (HFT.out _ _ _ _ (by repeat (first|with_reducible exact L2|refine Later.setAt ?_ (Nat.le_refl _) _ _|refine Later.alloc ?_ _|refine Later.trans ?_ (Later.drew _))) (by rw[hx.out];by_cases h1:q1=1 <;> by_cases h2:q2=0 <;> simp[h1,h2]))
theorem Pj (X:List Nat) (w:World) (K:Nat) (v0 v1:Value) (S:List Sc) (Fs:List Fu) (res:TyP) (ts:List TyP) (g o:Nat) (k n tk tn:Int) (u0 u1:Value) (nm:List Int) (ks:List Ex) (h:XIn X w K v0 v1 S Fs res ts g o k n tk tn u0 u1 nm ks) (hk:k=9) :
  Calls Tryz.prog 114 #[.pointer (some ⟨K,0,none⟩),.iface 206 (.agg #[.pointer (some ⟨g,o,none⟩)])] w (fQ (bZ S Fs ts k n tk tn nm ks) g o w):=by
 have hb:=dQ;have qT:=qA;obtain⟨hH,hty⟩:=h.tg.now;obtain⟨vs,hbx,hrow⟩:=h.tg.box;have hgl:=h.lt;have hks:=h.kids;have hnm:=h.nm;have c0:=(h.cells 0 _ rfl).1;have c1:=(h.cells 1 _ rfl).1;have c2:=(h.cells 2 _ rfl).1;have c3:=(h.cells 3 _ rfl).1;have c4:=(h.cells 4 _ rfl).1;have c5:=(h.cells 5 _ rfl).1;have f1:=(h.cells 1 _ rfl).2;have hTg:=h.tg;have a_plainPart:=tX (.agg #[.pointer (some ⟨g,o,none⟩)]);have a_convertPart:=qg (.agg #[.pointer (some ⟨g,o,none⟩)]);have a_varPart:=vO (.agg #[.pointer (some ⟨g,o,none⟩)]);have a_makePart:=uM (.agg #[.pointer (some ⟨g,o,none⟩)]);have a_callPart:=uN (.agg #[.pointer (some ⟨g,o,none⟩)]);have a_fieldPart:=tZ (.agg #[.pointer (some ⟨g,o,none⟩)]);have a_indexPart:=tY (.agg #[.pointer (some ⟨g,o,none⟩)]);have a_y:=KH (.agg #[.pointer (some ⟨g,o,none⟩)]);obtain⟨w1,hw1⟩:=hidx (w.alloc (.cells #[.int .i64 0,.int .i64 0] 52));have L1:Later w w1:=by rw[hw1.out];exact ae _ _
 have hbR:Bxx w1 w.heap.size [.int .i64 0,.int .i64 0]:=by rw[hw1.out];exact Bxx.new _ _ _
 have hV:ig 206 (.agg #[.pointer (some ⟨g,o,none⟩)]) ⟨g,o,none⟩ 197 196:=⟨fun w=>rD _ w,fun w=>nO _ w⟩
 have hK1:=iQ 206 (.agg #[.pointer (some ⟨g,o,none⟩)]) g o 0 ks u1 w1 hV (by rw[Below.cell L1 (p:=⟨g,o+5,none⟩) hgl];exact c5) (RdL.later L1 hks) (by decide);have HFT:Hid (∀ W a b ok,Later w W->bZ S Fs ts k n tk tn nm ks=(if ok then some (n,a,b) else none)->fQ (bZ S Fs ts k n tk tn nm ks) g o w (.returned (.tuple #[.agg #[.int .i64 a,.int .i64 b],.bool ok])) W):=fun W a b ok l hh=>fQ.same hgl c1 l hh
 generalize hQ:fQ (bZ S Fs ts k n tk tn nm ks) g o w=Q at *
 clear hQ;have hx:Hid (bZ S Fs ts k n tk tn nm ks=match lH (kTy ks 0) with|none=>none|some _=>some (n,1,0)):=by unfold Hid bZ;rw[hk];rfl
 generalize kTy ks 0=kt at *
 obtain⟨t1,t2⟩:=kt;have i0:=hty.i0;have i1:=hty.i1;have il:=aK hty.i0;have hEl:=fun w' (l:Later w w')=>Dl t1 t2 w' (hty.later l);clear hrow hbx hH hTg hnm hks h hk;go_enter Tryz.func114,Tryz.ntmps114;go_wp2_with fail
 rw[<-hw1.out];refine hK1.mono ?_;rintro e w2 ⟨rfl,l2⟩;have L2:=L1.trans l2;obtain⟨r0,s0⟩:=(hbR.later l2).cell 0 _ rfl;obtain⟨r1,s1⟩:=(hbR.later l2).cell 1 _ rfl;have rl:=(hbR.later l2).lt;clear hK1;obtain⟨w3,hw3⟩:=hidx ((w2.alloc (.cells #[.int .i64 t1,.int .i64 t2] 52)).alloc (.cells #[.pointer (some ⟨g,o,none⟩)] 206));have l3:Later w2 w3:=by rw[hw3.out];exact bF _ _ _
 have hE3:=hEl w3 (L2.trans l3);clear hEl;go_wp2_with fail
 rw[<-hw3.out];refine hE3.mono ?_;rintro e w4 ⟨a,b,ok,rfl,he,l4⟩;have L2:=(L2.trans l3).trans l4;have hbR4:=hbR.later ((l2.trans l3).trans l4);obtain⟨r0,s0⟩:=hbR4.cell 0 _ rfl;obtain⟨r1,s1⟩:=hbR4.cell 1 _ rfl;have rl:=hbR4.lt;have y0:w4.cell? ⟨0,0,none⟩=some (.int .i64 1):=by rw[Below.cell L2 (p:=⟨0,0,none⟩) il];exact i0
 have y1:w4.cell? ⟨0,1,none⟩=some (.int .i64 0):=by rw[Below.cell L2 (p:=⟨0,1,none⟩) il];exact i1
 have zl2:0<w4.heap.size:=by have:=L2.size;omega
 rw[he]at hx;clear hE3 he hty;go_wp2_with fail
 all_goals exact bodyPost_ret (v:=.tuple #[.agg #[.int .i64 1,.int .i64 0],.bool ok]) (by simp[results,Tryz.results114,go_sem,World.cell?_setCell_same',r0,r1,rl]) rfl (HFT.out _ _ _ _ (by repeat (first|with_reducible exact L2|refine Later.setAt ?_ (Nat.le_refl _) _ _|refine Later.alloc ?_ _|refine Later.trans ?_ (Later.drew _))) (by rw[hx.out];cases ok <;> rfl))
theorem Pm (X:List Nat) (w:World) (K:Nat) (v0 v1:Value) (S:List Sc) (Fs:List Fu) (res:TyP) (ts:List TyP) (g o:Nat) (k n tk tn:Int) (u0 u1:Value) (nm:List Int) (ks:List Ex) (h:XIn X w K v0 v1 S Fs res ts g o k n tk tn u0 u1 nm ks) (hk:k=10) :
  Calls Tryz.prog 114 #[.pointer (some ⟨K,0,none⟩),.iface 209 (.agg #[.pointer (some ⟨g,o,none⟩)])] w (fQ (bZ S Fs ts k n tk tn nm ks) g o w):=by
 have hb:=dQ;have qT:=qA;obtain⟨hH,hty⟩:=h.tg.now;obtain⟨vs,hbx,hrow⟩:=h.tg.box;have hgl:=h.lt;have hks:=h.kids;have hnm:=h.nm;have c0:=(h.cells 0 _ rfl).1;have c1:=(h.cells 1 _ rfl).1;have c2:=(h.cells 2 _ rfl).1;have c3:=(h.cells 3 _ rfl).1;have c4:=(h.cells 4 _ rfl).1;have c5:=(h.cells 5 _ rfl).1;have f1:=(h.cells 1 _ rfl).2;have hTg:=h.tg;have a_plainPart:=uk (.agg #[.pointer (some ⟨g,o,none⟩)]);have a_convertPart:=qm (.agg #[.pointer (some ⟨g,o,none⟩)]);have a_varPart:=vS (.agg #[.pointer (some ⟨g,o,none⟩)]);have a_makePart:=uT (.agg #[.pointer (some ⟨g,o,none⟩)]);have a_callPart:=uU (.agg #[.pointer (some ⟨g,o,none⟩)]);have a_fieldPart:=um (.agg #[.pointer (some ⟨g,o,none⟩)]);have a_indexPart:=ul (.agg #[.pointer (some ⟨g,o,none⟩)]);have a_lenPart:=vT (.agg #[.pointer (some ⟨g,o,none⟩)]);have a_y:=KJ (.agg #[.pointer (some ⟨g,o,none⟩)]);obtain⟨w1,hw1⟩:=hidx (w.alloc (.cells #[.int .i64 0,.int .i64 0] 52));have L1:Later w w1:=by rw[hw1.out];exact ae _ _
 have hbR:Bxx w1 w.heap.size [.int .i64 0,.int .i64 0]:=by rw[hw1.out];exact Bxx.new _ _ _
 have hV:ig 209 (.agg #[.pointer (some ⟨g,o,none⟩)]) ⟨g,o,none⟩ 197 196:=⟨fun w=>rG _ w,fun w=>nS _ w⟩
 have hK1:=iQ 209 (.agg #[.pointer (some ⟨g,o,none⟩)]) g o 0 ks u1 w1 hV (by rw[Below.cell L1 (p:=⟨g,o+5,none⟩) hgl];exact c5) (RdL.later L1 hks) (by decide);have HFT:Hid (∀ W a b ok,Later w W->bZ S Fs ts k n tk tn nm ks=(if ok then some (n,a,b) else none)->fQ (bZ S Fs ts k n tk tn nm ks) g o w (.returned (.tuple #[.agg #[.int .i64 a,.int .i64 b],.bool ok])) W):=fun W a b ok l hh=>fQ.same hgl c1 l hh
 generalize hQ:fQ (bZ S Fs ts k n tk tn nm ks) g o w=Q at *
 clear hQ;have hx:Hid (bZ S Fs ts k n tk tn nm ks=(rW n (kTy ks 0) (kTy ks 1)).map fun t=>(n,t.1,t.2)):=by unfold Hid bZ;rw[hk];rfl
 have hBi:=fun w' (l:Later w w')=>PT n (kTy ks 0).1 (kTy ks 0).2 (kTy ks 1).1 (kTy ks 1).2 w' (hty.later l);have hKd:=fun w' (l:Later w w')=>iQ 209 (.agg #[.pointer (some ⟨g,o,none⟩)]) g o 1 ks u1 w' hV (by rw[Below.cell l (p:=⟨g,o+5,none⟩) hgl];exact c5) (RdL.later l hks) (by decide)
 generalize kTy ks 0=kt at *
 obtain⟨t1,t2⟩:=kt
 generalize kTy ks 1=kt2 at *
 obtain⟨q1,q2⟩:=kt2;clear hrow hbx hH hTg hnm hks h hk hty;go_enter Tryz.func114,Tryz.ntmps114;go_wp2_with fail
 rw[<-hw1.out];refine hK1.mono ?_;rintro e w2 ⟨rfl,l2⟩;have L2:=L1.trans l2;obtain⟨r0,s0⟩:=(hbR.later l2).cell 0 _ rfl;obtain⟨r1,s1⟩:=(hbR.later l2).cell 1 _ rfl;have rl:=(hbR.later l2).lt;clear hK1;obtain⟨w3,hw3⟩:=hidx ((w2.alloc (.cells #[.int .i64 t1,.int .i64 t2] 52)).alloc (.cells #[.pointer (some ⟨g,o,none⟩)] 209));have l3:Later w2 w3:=by rw[hw3.out];exact bF _ _ _
 have hbX:Bxx w3 (w2.heap.size+1) [.pointer (some ⟨g,o,none⟩)]:=by rw[hw3.out];have:=Bxx.new (w2.alloc (.cells #[.int .i64 t1,.int .i64 t2] 52)) #[.pointer (some ⟨g,o,none⟩)] 209;simpa using this
 have hbT:Bxx w3 w2.heap.size [.int .i64 t1,.int .i64 t2]:=by rw[hw3.out];exact (Bxx.new w2 #[.int .i64 t1,.int .i64 t2] 52).later (ae _ _)
 have L5:=L2.trans l3;have hR4:Hid (∀ w',Later w3 w'->Bxx w' w.heap.size [.int .i64 0,.int .i64 0]):=fun w' l=>hbR.later ((l2.trans l3).trans l)
 have HS:Hid (∀ w',af w.heap.size w3 w'->(w'.cell? ⟨w2.heap.size+1,0,none⟩=some (.pointer (some ⟨g,o,none⟩))/\w'.cell? ⟨w2.heap.size,0,none⟩=some (.int .i64 t1)/\w'.cell? ⟨w2.heap.size,1,none⟩=some (.int .i64 t2)/\w'.cell? ⟨g,o+1,none⟩=some (.int .i64 n))):=fun w' ok=>by
  have hX:=hbX.only ok (by omega);have hT:=hbT.only ok (by omega);have hi:w'.heap[g]?=w.heap[g]?:=by rw[ok.block g (Nat.lt_of_lt_of_le hgl L5.size) (by omega),L5.block _ hgl]
  exact⟨(hX.cell 0 _ rfl).1,(hT.cell 0 _ rfl).1,(hT.cell 1 _ rfl).1,by rw[(aj hi).1];exact c1⟩
 clear r0 r1 s0 s1 rl;go_wp2_with fail
 rw[<-hw3.out];clear hbX hbT;go_region_held3 (fun w'=>w'.cell? ⟨w2.heap.size+1,0,none⟩=some (.pointer (some ⟨g,o,none⟩))/\w'.cell? ⟨w2.heap.size,0,none⟩=some (.int .i64 t1)/\w'.cell? ⟨w2.heap.size,1,none⟩=some (.int .i64 t2)/\w'.cell? ⟨g,o+1,none⟩=some (.int .i64 n)) (first|exact HS.out _ (af.of_later (Later.drew _))|exact HS.out _ (af.of_later ((Later.drew _).trans l6))|exact HS.out _ (af.of_later (((Later.drew _).trans l6).trans l7))|exact HS.out _ (af.set (af.set (af.of_later (((Later.drew _).trans l6).trans l7)) _ _) _ _)) (first|(go_at_call 115;refine (hKd _ (L5.trans (Later.drew _))).mono ?_;rintro e w6 ⟨rfl,l6⟩)|(go_at_call 145;refine (hBi _ ((L5.trans (Later.drew _)).trans l6)).mono ?_;rintro e w7 ⟨a,b,ok,rfl,he,l7⟩;have r0:=((hR4.out _ (((Later.drew _).trans l6).trans l7)).cell 0 _ rfl).1;have s0:=((hR4.out _ (((Later.drew _).trans l6).trans l7)).cell 0 _ rfl).2;have r1:=((hR4.out _ (((Later.drew _).trans l6).trans l7)).cell 1 _ rfl).1;have s1:=((hR4.out _ (((Later.drew _).trans l6).trans l7)).cell 1 _ rfl).2;have rl:=(hR4.out _ (((Later.drew _).trans l6).trans l7)).lt))
 all_goals
  have L2:=((L5.trans (Later.drew _)).trans l6).trans l7;rw[he]at hx;go_wp2_with fail
  exact bodyPost_ret (v:=.tuple #[.agg #[.int .i64 a,.int .i64 b],.bool ok]) (by simp[results,Tryz.results114,go_sem,World.cell?_setCell_same',r0,r1]) rfl (HFT.out _ _ _ _ (by repeat (first|with_reducible exact L2|refine Later.setAt ?_ (Nat.le_refl _) _ _|refine Later.alloc ?_ _|refine Later.trans ?_ (Later.drew _))) (by rw[hx.out];cases ok <;> rfl))
def iF (s:Nat) (t:TyP):Prop:=(t.1=3\/t.1=6)->0<=t.2/\t.2.toNat<s
structure xG (S:List Sc) (Fs:List Fu) (ts:List TyP):Prop where
 ts:∀ t∈ts,iF S.length t
 fs:∀ f∈Fs,iF S.length (f.rk,f.rn)
 st:∀ s∈S,∀ p∈s.fields,iF S.length (p.tk,p.tn)
def Jh (s m c:Nat) (k n tk tn:Int):Prop:=0<=k/\k<=13/\(k=3->0<=n/\n.toNat<m)/\(k=6->0<=n/\n.toNat<c)/\((k=2\/k=4)->0<=n/\n.toNat<s)/\(k=5->iF s (tk,tn))
mutual
def Ex.fit (s m c:Nat):Ex->Prop
 | .mk k n tk tn _ ks=>Jh s m c k n tk tn/\Ex.fits s m c ks
def Ex.fits (s m c:Nat):List Ex->Prop
 | []=>True
 | x::r=>x.fit s m c/\Ex.fits s m c r
end
mutual
def Ex.tyd (S:List Sc) (Fs:List Fu) (ts:List TyP):Ex->Option Ex
 | .mk k n tk tn nm ks=>match Ex.aH S Fs ts ks with
  | none=>none
  | some ks'=>match bZ S Fs ts k n tk tn nm ks' with
   | none=>none
   | some r=>some (.mk k r.1 r.2.1 r.2.2 nm ks')
def Ex.aH (S:List Sc) (Fs:List Fu) (ts:List TyP):List Ex->Option (List Ex)
 | []=>some []
 | x::r=>match Ex.tyd S Fs ts x with
  | none=>none
  | some x'=>match Ex.aH S Fs ts r with
   | none=>none
   | some r'=>some (x'::r')
end
theorem Ex.Jg (s m c:Nat) (x:Ex):x.fit s m c↔Jh s m c x.kind x.n x.tk x.tn/\Ex.fits s m c x.kids:=by obtain⟨k,n,tk,tn,nm,ks⟩:=x;rw[Ex.fit];exact Iff.rfl
theorem Ex.Ho (S:List Sc) (Fs:List Fu) (ts:List TyP) (x:Ex):x.tyd S Fs ts=match Ex.aH S Fs ts x.kids with|none=>none|some ks'=>match bZ S Fs ts x.kind x.n x.tk x.tn x.name ks' with|none=>none|some r=>some (.mk x.kind r.1 r.2.1 r.2.2 x.name ks'):=by obtain⟨k,n,tk,tn,nm,ks⟩:=x;rw[Ex.tyd];rfl
theorem Ex.Kt {s m c:Nat}:∀ (l:List Ex),Ex.fits s m c l->∀ j (h:j<l.length),l[j].fit s m c
 | x::r,h,0,_=>by rw[Ex.fits]at h;exact h.1
 | x::r,h,j+1,q=>by rw[Ex.fits]at h;exact Ex.Kt r h.2 j (Nat.lt_of_succ_lt_succ q)
theorem Ex.dZ (S:List Sc) (Fs:List Fu) (ts:List TyP):∀ (l l':List Ex),Ex.aH S Fs ts l=some l'->l'.length=l.length
 | [],l',h=>by rw[Ex.aH]at h;cases h;rfl
 | x::r,l',h=>by
  rw[Ex.aH]at h
  cases h1:Ex.tyd S Fs ts x with
  | none=>rw[h1]at h;cases h
  | some x' =>
   rw[h1]at h
   cases h2:Ex.aH S Fs ts r with
   | none=>simp only[h2]at h;cases h
   | some r' =>
    simp only[h2]at h
    cases h
    rw[List.length_cons,List.length_cons,Ex.dZ S Fs ts r r' h2]
theorem Ex.gJ (S:List Sc) (Fs:List Fu) (ts:List TyP) (r:List Ex):∀ (l:List Ex),Ex.aH S Fs ts (l++r)=match Ex.aH S Fs ts l with|none=>none|some l'=>match Ex.aH S Fs ts r with|none=>none|some r'=>some (l'++r')
 | []=>by rw[List.nil_append,Ex.aH];cases Ex.aH S Fs ts r <;> rfl
 | x::l=>by
  rw[List.cons_append,Ex.aH,Ex.aH,Ex.gJ S Fs ts r l]
  cases Ex.tyd S Fs ts x with
  | none=>rfl
  | some x' =>
   cases Ex.aH S Fs ts l with
   | none=>rfl
   | some l'=>cases Ex.aH S Fs ts r <;> rfl
theorem Ex.mW {S:List Sc}{Fs:List Fu}{ts:List TyP}{ks ks1:List Ex}{x:Ex}{j:Nat}(h:j<ks.length) (h1:Ex.aH S Fs ts (ks.take j)=some ks1) (h2:ks[j].tyd S Fs ts=some x):Ex.aH S Fs ts (ks.take (j+1))=some (ks1++[x]):=by
 rw[List.take_succ_eq_append_getElem h,Ex.gJ,h1,Ex.aH,h2,Ex.aH]
theorem Ex.qR {S:List Sc}{Fs:List Fu}{ts:List TyP}{ks:List Ex}{j:Nat}(h:j<ks.length) (h2:ks[j].tyd S Fs ts=none):Ex.aH S Fs ts ks=none:=by
 have e:=List.take_append_drop j ks;rw[<-e,Ex.gJ,List.drop_eq_getElem_cons h,Ex.aH,h2]
 cases Ex.aH S Fs ts (ks.take j) <;> rfl
theorem Nr {s:Nat}{t u:TyP}(h:iF s t) (e:lH t=some u):iF s u:=by
 unfold lH at e;split at e
 ·cases e;intro q;rcases q with q|q <;> simp at q
 ·split at e
  ·cases e;intro q;rcases q with q|q <;> simp at q
  ·split at e
   ·rename_i h6
    cases e
    intro _;exact h (.inr h6)
   ·cases e
theorem qV (s:Nat):iF s (1,0):=fun q=>by rcases q with q|q <;> simp at q
theorem uV (s:Nat):iF s (2,0):=fun q=>by rcases q with q|q <;> simp at q
theorem KW (s:Nat):iF s (0,0):=fun q=>by rcases q with q|q <;> simp at q
theorem J3 {s:Nat}{ks:List Ex}(h:∀ x∈ks,iF s (x.tk,x.tn)) (j:Nat):iF s (kTy ks j):=by
 unfold kTy
 cases e:ks[j]? with
 | none=>exact KW s
 | some x=>exact h x (List.mem_of_getElem? e)
theorem Qy {s:Nat}{op:Int}{k l u:TyP}(e:rW op k l=some u):iF s u:=by
 have hh:u=(1,0)\/u=(2,0):=by
  unfold rW at e;by_cases h1:k=l
  ·rw[if_pos h1]at e;by_cases h2:k.1=1
   ·rw[if_pos h2]at e;cases e;exact .inl rfl
   ·rw[if_neg h2]at e;by_cases h3:k.1=2
    ·rw[if_pos h3]at e;by_cases h4:op=5\/op=6
     ·rw[if_pos h4]at e;cases e;exact .inl rfl
     ·rw[if_neg h4]at e;by_cases h5:op=4
      ·rw[if_pos h5]at e;cases e
      ·rw[if_neg h5]at e;cases e;exact .inr rfl
    ·rw[if_neg h3]at e;by_cases h4:k.1=3
     ·rw[if_pos h4]at e;by_cases h5:op=6
      ·rw[if_pos h5]at e;cases e;exact .inl rfl
      ·rw[if_neg h5]at e;cases e
     ·rw[if_neg h4]at e;cases e
  ·rw[if_neg h1]at e;cases e
 rcases hh with rfl|rfl
 ·exact qV s
 ·exact uV s
theorem NJ {S:List Sc}{Fs:List Fu}{ts:List TyP}{k n tk tn:Int}{nm:List Int}{ks:List Ex}{r:Int × Int × Int}(hV:xG S Fs ts) (hf:Jh S.length ts.length Fs.length k n tk tn) (hk:∀ x∈ks,iF S.length (x.tk,x.tn)) (e:bZ S Fs ts k n tk tn nm ks=some r):iF S.length (r.2.1,r.2.2):=by
 obtain⟨h0,h13,h3,h6,h24,h5⟩:=hf;rcases (by omega:k=0\/k=1\/k=2\/k=3\/k=4\/k=5\/k=6\/k=7\/k=8\/k=9\/k=10\/k=11\/k=12\/k=13) with rfl|rfl|rfl|rfl|rfl|rfl|rfl|rfl|rfl|rfl|rfl|rfl|rfl|rfl
 ·cases e;exact qV _
 ·cases e;exact uV _
 ·cases e;exact fun _=>h24 (.inl rfl)
 ·have e':(ts[n.toNat]?).map (fun t:TyP=>(n,t.1,t.2))=some r:=e
  cases e1:ts[n.toNat]? with
  | none=>rw[e1]at e';cases e'
  | some t=>rw[e1]at e';cases e';exact hV.ts t (List.mem_of_getElem? e1)
 ·cases e;exact fun _=>h24 (.inr rfl)
 ·have e':(if kTy ks 0=(1,0) then some (n,tk,tn) else none)=some r:=e;by_cases q:kTy ks 0=(1,0)
  ·rw[if_pos q]at e';cases e';exact h5 rfl
  ·rw[if_neg q]at e';cases e'
 ·have e':(match Fs[n.toNat]? with|none=>none|some f=>if gK f.params ks then some (n,f.rk,f.rn) else none)=some r:=e
  cases e1:Fs[n.toNat]? with
  | none=>rw[e1]at e';cases e'
  | some f =>
   rw[e1]at e'
   cases q:gK f.params ks with
   | false=>simp only[q]at e';cases e'
   | true=>simp only[q]at e';cases e';exact hV.fs f (List.mem_of_getElem? e1)
 ·have e':oV S nm (kTy ks 0)=some r:=e;unfold oV at e';by_cases q:(kTy ks 0).1=3
  ·rw[if_pos q]at e'
   cases e1:S[(kTy ks 0).2.toNat]? with
   | none=>rw[e1]at e';cases e'
   | some s =>
    rw[e1]at e';dsimp only at e'
    cases e2:Tf s.fields nm with
    | none=>rw[e2]at e';cases e'
    | some i =>
     rw[e2]at e';dsimp only at e'
     cases e3:s.fields[i]? with
     | none=>rw[e3]at e';cases e'
     | some p=>rw[e3]at e';cases e';exact hV.st s (List.mem_of_getElem? e1) p (List.mem_of_getElem? e3)
  ·rw[if_neg q]at e';cases e'
 ·have e':(match lH (kTy ks 0) with|none=>none|some t=>if kTy ks 1=(1,0) then some (n,t.1,t.2) else none)=some r:=e
  cases e1:lH (kTy ks 0) with
  | none=>rw[e1]at e';cases e'
  | some t =>
   rw[e1]at e';dsimp only at e';by_cases q:kTy ks 1=(1,0)
   ·rw[if_pos q]at e';cases e';exact Nr (J3 hk 0) e1
   ·rw[if_neg q]at e';cases e'
 ·have e':(match lH (kTy ks 0) with|none=>none|some _=>some (n,1,0))=some r:=e
  cases e1:lH (kTy ks 0) with
  | none=>rw[e1]at e';cases e'
  | some t=>rw[e1]at e';cases e';exact qV _
 ·have e':(rW n (kTy ks 0) (kTy ks 1)).map (fun t:TyP=>(n,t.1,t.2))=some r:=e
  cases e1:rW n (kTy ks 0) (kTy ks 1) with
  | none=>rw[e1]at e';cases e'
  | some t=>rw[e1]at e';cases e';exact Qy e1
 ·cases e;exact qV _
 ·have e':(if kTy ks 0=(2,0) then some (n,(1:Int),(0:Int)) else none)=some r:=e;by_cases q:kTy ks 0=(2,0)
  ·rw[if_pos q]at e';cases e';exact qV _
  ·rw[if_neg q]at e';cases e'
 ·have e':(if kTy ks 0=(1,0) then some (n,(2:Int),(0:Int)) else none)=some r:=e;by_cases q:kTy ks 0=(1,0)
  ·rw[if_pos q]at e';cases e';exact uV _
  ·rw[if_neg q]at e';cases e'
mutual
theorem Ex.Q9 {S:List Sc}{Fs:List Fu}{ts:List TyP}(hV:xG S Fs ts):∀ (x x':Ex),x.fit S.length ts.length Fs.length->x.tyd S Fs ts=some x'->iF S.length (x'.tk,x'.tn)
 | .mk k n tk tn nm ks,x',hf,h=>by
  rw[Ex.tyd]at h;rw[Ex.fit]at hf
  cases h1:Ex.aH S Fs ts ks with
  | none=>rw[h1]at h;cases h
  | some ks' =>
   rw[h1]at h;dsimp only at h
   cases h2:bZ S Fs ts k n tk tn nm ks' with
   | none=>rw[h2]at h;cases h
   | some r =>
    rw[h2]at h
    cases h
    exact NJ hV hf.1 (Ex.zG hV ks ks' hf.2 h1) h2
theorem Ex.zG {S:List Sc}{Fs:List Fu}{ts:List TyP}(hV:xG S Fs ts):∀ (l l':List Ex),Ex.fits S.length ts.length Fs.length l->Ex.aH S Fs ts l=some l'->∀ x∈l',iF S.length (x.tk,x.tn)
 | [],l',hf,h=>by rw[Ex.aH]at h;cases h;intro x hx;cases hx
 | x::r,l',hf,h=>by
  rw[Ex.aH]at h;rw[Ex.fits]at hf
  cases h1:Ex.tyd S Fs ts x with
  | none=>rw[h1]at h;cases h
  | some x' =>
   rw[h1]at h;dsimp only at h
   cases h2:Ex.aH S Fs ts r with
   | none=>rw[h2]at h;cases h
   | some r' =>
    rw[h2]at h
    cases h
    intro y hy;rcases List.mem_cons.1 hy with rfl|hy
    ·exact Ex.Q9 hV x _ hf.1 h1
    ·exact Ex.zG hV r r' hf.2 h2 y hy
end
theorem Pn (X:List Nat) (w:World) (K:Nat) (v0 v1:Value) (S:List Sc) (Fs:List Fu) (res:TyP) (ts:List TyP) (g o:Nat) (k n tk tn:Int) (u0 u1:Value) (nm:List Int) (ks:List Ex) (h:XIn X w K v0 v1 S Fs res ts g o k n tk tn u0 u1 nm ks) (hf:Jh S.length ts.length Fs.length k n tk tn) (hk:∀ x∈ks,iF S.length (x.tk,x.tn)) :
  Calls Tryz.prog 114 #[.pointer (some ⟨K,0,none⟩),exV k n g o] w (fQ (bZ S Fs ts k n tk tn nm ks) g o w):=by
 obtain⟨h0,h13,h3,h6,h24,h5⟩:=hf;rcases (by omega:k=0\/k=1\/k=2\/k=3\/k=4\/k=5\/k=6\/k=7\/k=8\/k=9\/k=10\/k=11\/k=12\/k=13) with rfl|rfl|rfl|rfl|rfl|rfl|rfl|rfl|rfl|rfl|rfl|rfl|rfl|rfl
 ·exact lq X w K v0 v1 S Fs res ts g o _ n tk tn u0 u1 nm ks h 1 0 (by unfold bZ;simp)
 ·exact lq X w K v0 v1 S Fs res ts g o _ n tk tn u0 u1 nm ks h 2 0 (by unfold bZ;simp)
 ·exact lq X w K v0 v1 S Fs res ts g o _ n tk tn u0 u1 nm ks h 3 n (by unfold bZ;simp)
 ·exact Pi X w K v0 v1 S Fs res ts g o _ n tk tn u0 u1 nm ks h rfl (h3 rfl).1 (h3 rfl).2
 ·exact lq X w K v0 v1 S Fs res ts g o _ n tk tn u0 u1 nm ks h 3 n (by unfold bZ;simp)
 ·exact MJ X w K v0 v1 S Fs res ts g o _ n tk tn u0 u1 nm ks h rfl
 ·exact MK X w K v0 v1 S Fs res ts g o _ n tk tn u0 u1 nm ks h rfl (h6 rfl).1 (h6 rfl).2
 ·exact Iz X w K v0 v1 S Fs res ts g o _ n tk tn u0 u1 nm ks h rfl (fun q=>J3 hk 0 (.inl q))
 ·exact Iy X w K v0 v1 S Fs res ts g o _ n tk tn u0 u1 nm ks h rfl
 ·exact Pj X w K v0 v1 S Fs res ts g o _ n tk tn u0 u1 nm ks h rfl
 ·exact Pm X w K v0 v1 S Fs res ts g o _ n tk tn u0 u1 nm ks h rfl
 ·exact lq X w K v0 v1 S Fs res ts g o _ n tk tn u0 u1 nm ks h 1 0 (by unfold bZ;simp)
 ·exact wW X w K v0 v1 S Fs res ts g o _ n tk tn u0 u1 nm ks h 2 0 1 0 (by unfold bZ;simp)
 ·exact wW X w K v0 v1 S Fs res ts g o _ n tk tn u0 u1 nm ks h 1 0 2 0 (by unfold bZ;simp)
end Go.Proofs.YtgaddpkkjebekaaGreatDoor
