import Derived.Test.YtgaddpkkjebekaaGreatDoorZ18
import Derived.Deep.RegionHeld3
import Derived.BigQuiet
import Derived.Deep.RegionLaw
set_option maxHeartbeats 100000000
set_option maxRecDepth 100000
namespace Go.Proofs.YtgaddpkkjebekaaGreatDoor
open Go.RowKit Go.Maps
theorem SI (X:List Nat) (w:World) (K:Nat) (v0 v1:Value) (S:List Sc) (Fs:List Fu) (res:TyP) (ts:List TyP) (g o:Nat) (u1:Value) (ks:List Ex) (hTg:Tg X w K v0 v1 S Fs res ts) (c5:w.cell? ⟨g,o+5,none⟩=some u1) (hks:RdL w 6 u1 (Ex.ah ks)) :
  Calls Tryz.prog 90 #[.pointer (some ⟨K,0,none⟩),.iface 151 (.agg #[.pointer (some ⟨g,o,none⟩)])] w (fO (ed res 2 ks) w):=by
 have qT:=qA;obtain⟨hH,hty⟩:=hTg.now;obtain⟨vs,hbx,hrow⟩:=hTg.box;have a_declarePart:=jV (.agg #[.pointer (some ⟨g,o,none⟩)]);have a_setPart:=xH (.agg #[.pointer (some ⟨g,o,none⟩)]);have a_forPart:=xI (.agg #[.pointer (some ⟨g,o,none⟩)]);have a_panicPart:=uO (.agg #[.pointer (some ⟨g,o,none⟩)]);have a_y:=ND (.agg #[.pointer (some ⟨g,o,none⟩)])
 have hV:ig 151 (.agg #[.pointer (some ⟨g,o,none⟩)]) ⟨g,o,none⟩ 195 194:=⟨fun w=>uD _ w,fun w=>pR _ w⟩
 have hK1:=kD 151 (.agg #[.pointer (some ⟨g,o,none⟩)]) g o 0 ks u1 w hV c5 hks (by decide)
 have HFT:Hid (∀ W b,Later w W->ed res 2 ks=b->fO (ed res 2 ks) w (.returned (.bool b)) W):=fun W b l hh=>⟨by rw[hh],l⟩
 generalize hQ:fO (ed res 2 ks) w=Q at *
 clear hQ;have hx:Hid (ed res 2 ks=(((kTy ks 0).1==1)&&((kTy ks 0).2==0))):=rfl
 generalize kTy ks 0=kt at *
 obtain⟨t1,t2⟩:=kt;clear hrow hbx hH hTg hks hV;go_enter Tryz.func90,Tryz.ntmps90;go_wp2_with fail
 refine hK1.mono ?_;rintro e w2 ⟨rfl,L2⟩;clear hK1;have y0:w2.cell? ⟨0,0,none⟩=some (.int .i64 1):=by rw[Below.cell L2 (p:=⟨0,0,none⟩) (aK hty.i0)];exact hty.i0
 have y1:w2.cell? ⟨0,1,none⟩=some (.int .i64 0):=by rw[Below.cell L2 (p:=⟨0,1,none⟩) (aK hty.i0)];exact hty.i1
 have y2:w2.cell? ⟨1,0,none⟩=some (.int .i64 2):=by rw[Below.cell L2 (p:=⟨1,0,none⟩) (aK hty.f0)];exact hty.f0
 have y3:w2.cell? ⟨1,1,none⟩=some (.int .i64 0):=by rw[Below.cell L2 (p:=⟨1,1,none⟩) (aK hty.f0)];exact hty.f1
 have yl:0<w2.heap.size/\1<w2.heap.size:=⟨aK y0,aK y2⟩
 obtain⟨yl0,yl1⟩:=yl;clear hty;go_wp2_with fail
 exact HFT.out _ _ (by repeat (first|with_reducible exact L2|refine Later.setAt ?_ (Nat.le_refl _) _ _|refine Later.alloc ?_ _|refine Later.trans ?_ (Later.drew _))) hx.out
theorem Pv (X:List Nat) (w:World) (K:Nat) (v0 v1:Value) (S:List Sc) (Fs:List Fu) (res:TyP) (ts:List TyP) (g o:Nat) (u1:Value) (ks:List Ex) (hTg:Tg X w K v0 v1 S Fs res ts) (c5:w.cell? ⟨g,o+5,none⟩=some u1) (hks:RdL w 6 u1 (Ex.ah ks)) :
  Calls Tryz.prog 90 #[.pointer (some ⟨K,0,none⟩),.iface 152 (.agg #[.pointer (some ⟨g,o,none⟩)])] w (fO (ed res 3 ks) w):=by
 have qT:=qA;obtain⟨hH,hty⟩:=hTg.now;obtain⟨vs,hbx,hrow⟩:=hTg.box;have a_declarePart:=jB (.agg #[.pointer (some ⟨g,o,none⟩)]);have a_setPart:=vP (.agg #[.pointer (some ⟨g,o,none⟩)]);have a_ifPart:=xJ (.agg #[.pointer (some ⟨g,o,none⟩)]);have a_panicPart:=ug (.agg #[.pointer (some ⟨g,o,none⟩)]);have a_y:=KI (.agg #[.pointer (some ⟨g,o,none⟩)])
 have hV:ig 152 (.agg #[.pointer (some ⟨g,o,none⟩)]) ⟨g,o,none⟩ 195 194:=⟨fun w=>rE _ w,fun w=>nR _ w⟩
 have hK1:=kD 152 (.agg #[.pointer (some ⟨g,o,none⟩)]) g o 0 ks u1 w hV c5 hks (by decide)
 have HFT:Hid (∀ W b,Later w W->ed res 3 ks=b->fO (ed res 3 ks) w (.returned (.bool b)) W):=fun W b l hh=>⟨by rw[hh],l⟩
 generalize hQ:fO (ed res 3 ks) w=Q at *
 clear hQ;have hx:Hid (ed res 3 ks=(((kTy ks 0).1==1)&&((kTy ks 0).2==0))):=rfl
 generalize kTy ks 0=kt at *
 obtain⟨t1,t2⟩:=kt;clear hrow hbx hH hTg hks hV;go_enter Tryz.func90,Tryz.ntmps90;go_wp2_with fail
 refine hK1.mono ?_;rintro e w2 ⟨rfl,L2⟩;clear hK1;have y0:w2.cell? ⟨0,0,none⟩=some (.int .i64 1):=by rw[Below.cell L2 (p:=⟨0,0,none⟩) (aK hty.i0)];exact hty.i0
 have y1:w2.cell? ⟨0,1,none⟩=some (.int .i64 0):=by rw[Below.cell L2 (p:=⟨0,1,none⟩) (aK hty.i0)];exact hty.i1
 have y2:w2.cell? ⟨1,0,none⟩=some (.int .i64 2):=by rw[Below.cell L2 (p:=⟨1,0,none⟩) (aK hty.f0)];exact hty.f0
 have y3:w2.cell? ⟨1,1,none⟩=some (.int .i64 0):=by rw[Below.cell L2 (p:=⟨1,1,none⟩) (aK hty.f0)];exact hty.f1
 have yl:0<w2.heap.size/\1<w2.heap.size:=⟨aK y0,aK y2⟩
 obtain⟨yl0,yl1⟩:=yl;clear hty;go_wp2_with fail
 exact HFT.out _ _ (by repeat (first|with_reducible exact L2|refine Later.setAt ?_ (Nat.le_refl _) _ _|refine Later.alloc ?_ _|refine Later.trans ?_ (Later.drew _))) hx.out
theorem IG (X:List Nat) (w:World) (K:Nat) (v0 v1:Value) (S:List Sc) (Fs:List Fu) (res:TyP) (ts:List TyP) (g o:Nat) (u1:Value) (ks:List Ex) (hTg:Tg X w K v0 v1 S Fs res ts) (c5:w.cell? ⟨g,o+5,none⟩=some u1) (hks:RdL w 6 u1 (Ex.ah ks)) :
  Calls Tryz.prog 90 #[.pointer (some ⟨K,0,none⟩),.iface 155 (.agg #[.pointer (some ⟨g,o,none⟩)])] w (fO (ed res 6 ks) w):=by
 have qT:=qA;obtain⟨hH,hty⟩:=hTg.now;obtain⟨vs,hbx,hrow⟩:=hTg.box;have a_declarePart:=jg (.agg #[.pointer (some ⟨g,o,none⟩)]);have a_setPart:=tN (.agg #[.pointer (some ⟨g,o,none⟩)]);have a_ifPart:=uJ (.agg #[.pointer (some ⟨g,o,none⟩)]);have a_forPart:=tV (.agg #[.pointer (some ⟨g,o,none⟩)]);have a_y:=EC (.agg #[.pointer (some ⟨g,o,none⟩)])
 have hV:ig 155 (.agg #[.pointer (some ⟨g,o,none⟩)]) ⟨g,o,none⟩ 195 194:=⟨fun w=>nN _ w,fun w=>kZ _ w⟩
 have hK1:=kD 155 (.agg #[.pointer (some ⟨g,o,none⟩)]) g o 0 ks u1 w hV c5 hks (by decide)
 have HFT:Hid (∀ W b,Later w W->ed res 6 ks=b->fO (ed res 6 ks) w (.returned (.bool b)) W):=fun W b l hh=>⟨by rw[hh],l⟩
 generalize hQ:fO (ed res 6 ks) w=Q at *
 clear hQ;have hx:Hid (ed res 6 ks=(((kTy ks 0).1==1)&&((kTy ks 0).2==0))):=rfl
 generalize kTy ks 0=kt at *
 obtain⟨t1,t2⟩:=kt;clear hrow hbx hH hTg hks hV;go_enter Tryz.func90,Tryz.ntmps90;go_wp2_with fail
 refine hK1.mono ?_;rintro e w2 ⟨rfl,L2⟩;clear hK1;have y0:w2.cell? ⟨0,0,none⟩=some (.int .i64 1):=by rw[Below.cell L2 (p:=⟨0,0,none⟩) (aK hty.i0)];exact hty.i0
 have y1:w2.cell? ⟨0,1,none⟩=some (.int .i64 0):=by rw[Below.cell L2 (p:=⟨0,1,none⟩) (aK hty.i0)];exact hty.i1
 have y2:w2.cell? ⟨1,0,none⟩=some (.int .i64 2):=by rw[Below.cell L2 (p:=⟨1,0,none⟩) (aK hty.f0)];exact hty.f0
 have y3:w2.cell? ⟨1,1,none⟩=some (.int .i64 0):=by rw[Below.cell L2 (p:=⟨1,1,none⟩) (aK hty.f0)];exact hty.f1
 have yl:0<w2.heap.size/\1<w2.heap.size:=⟨aK y0,aK y2⟩
 obtain⟨yl0,yl1⟩:=yl;clear hty;go_wp2_with fail
 exact HFT.out _ _ (by repeat (first|with_reducible exact L2|refine Later.setAt ?_ (Nat.le_refl _) _ _|refine Later.alloc ?_ _|refine Later.trans ?_ (Later.drew _))) hx.out
theorem IE (X:List Nat) (w:World) (K:Nat) (v0 v1:Value) (S:List Sc) (Fs:List Fu) (res:TyP) (ts:List TyP) (g o:Nat) (u1:Value) (ks:List Ex) (hTg:Tg X w K v0 v1 S Fs res ts) (c5:w.cell? ⟨g,o+5,none⟩=some u1) (hks:RdL w 6 u1 (Ex.ah ks)) :
  Calls Tryz.prog 90 #[.pointer (some ⟨K,0,none⟩),.iface 154 (.agg #[.pointer (some ⟨g,o,none⟩)])] w (fO (ed res 5 ks) w):=by
 have qT:=qA;obtain⟨hH,hty⟩:=hTg.now;obtain⟨vs,hbx,hrow⟩:=hTg.box;have a_declarePart:=jf (.agg #[.pointer (some ⟨g,o,none⟩)]);have a_setPart:=tJ (.agg #[.pointer (some ⟨g,o,none⟩)]);have a_ifPart:=uI (.agg #[.pointer (some ⟨g,o,none⟩)]);have a_forPart:=tK (.agg #[.pointer (some ⟨g,o,none⟩)]);have a_panicPart:=qf (.agg #[.pointer (some ⟨g,o,none⟩)]);have a_y:=Ey (.agg #[.pointer (some ⟨g,o,none⟩)])
 have hV:ig 154 (.agg #[.pointer (some ⟨g,o,none⟩)]) ⟨g,o,none⟩ 195 194:=⟨fun w=>nM _ w,fun w=>kY _ w⟩
 have hK1:=kD 154 (.agg #[.pointer (some ⟨g,o,none⟩)]) g o 0 ks u1 w hV c5 hks (by decide)
 have HFT:Hid (∀ W b,Later w W->ed res 5 ks=b->fO (ed res 5 ks) w (.returned (.bool b)) W):=fun W b l hh=>⟨by rw[hh],l⟩
 generalize hQ:fO (ed res 5 ks) w=Q at *
 clear hQ;have hx:Hid (ed res 5 ks=((((kTy ks 0).1==1)&&((kTy ks 0).2==0))||(((kTy ks 0).1==2)&&((kTy ks 0).2==0)))):=rfl
 generalize kTy ks 0=kt at *
 obtain⟨t1,t2⟩:=kt;clear hrow hbx hH hTg hks hV;go_enter Tryz.func90,Tryz.ntmps90;go_wp2_with fail
 refine hK1.mono ?_;rintro e w2 ⟨rfl,L2⟩;clear hK1;have y0:w2.cell? ⟨0,0,none⟩=some (.int .i64 1):=by rw[Below.cell L2 (p:=⟨0,0,none⟩) (aK hty.i0)];exact hty.i0
 have y1:w2.cell? ⟨0,1,none⟩=some (.int .i64 0):=by rw[Below.cell L2 (p:=⟨0,1,none⟩) (aK hty.i0)];exact hty.i1
 have y2:w2.cell? ⟨1,0,none⟩=some (.int .i64 2):=by rw[Below.cell L2 (p:=⟨1,0,none⟩) (aK hty.f0)];exact hty.f0
 have y3:w2.cell? ⟨1,1,none⟩=some (.int .i64 0):=by rw[Below.cell L2 (p:=⟨1,1,none⟩) (aK hty.f0)];exact hty.f1
 have yl:0<w2.heap.size/\1<w2.heap.size:=⟨aK y0,aK y2⟩
 obtain⟨yl0,yl1⟩:=yl;clear hty
 cases hq:((t1==1)&&(t2==0)) with
 | true =>
  have HZ:Hid (ed res 5 ks=true):=by unfold Hid;rw[hx.out,hq];rfl
  go_wp2_with fail
  exact HFT.out _ _ (by repeat (first|with_reducible exact L2|refine Later.setAt ?_ (Nat.le_refl _) _ _|refine Later.alloc ?_ _|refine Later.trans ?_ (Later.drew _))) HZ.out
 | false =>
  have HZ:Hid (ed res 5 ks=((t1==2)&&(t2==0))):=by unfold Hid;rw[hx.out,hq];rfl
  go_wp2_with fail
  exact HFT.out _ _ (by repeat (first|with_reducible exact L2|refine Later.setAt ?_ (Nat.le_refl _) _ _|refine Later.alloc ?_ _|refine Later.trans ?_ (Later.drew _))) HZ.out
theorem SK (X:List Nat) (w:World) (K:Nat) (v0 v1:Value) (S:List Sc) (Fs:List Fu) (res:TyP) (ts:List TyP) (g o:Nat) (u1:Value) (ks:List Ex) (hTg:Tg X w K v0 v1 S Fs res ts) (c5:w.cell? ⟨g,o+5,none⟩=some u1) (hks:RdL w 6 u1 (Ex.ah ks)) :
  Calls Tryz.prog 90 #[.pointer (some ⟨K,0,none⟩),.iface 156 (.agg #[.pointer (some ⟨g,o,none⟩)])] w (fO (ed res 7 ks) w):=by
 have qT:=qA;obtain⟨hH,hty⟩:=hTg.now;obtain⟨vs,hbx,hrow⟩:=hTg.box;have a_declarePart:=jW (.agg #[.pointer (some ⟨g,o,none⟩)]);have a_setPart:=xK (.agg #[.pointer (some ⟨g,o,none⟩)]);have a_ifPart:=yR (.agg #[.pointer (some ⟨g,o,none⟩)]);have a_forPart:=xM (.agg #[.pointer (some ⟨g,o,none⟩)]);have a_panicPart:=uQ (.agg #[.pointer (some ⟨g,o,none⟩)]);have a_printPart:=uP (.agg #[.pointer (some ⟨g,o,none⟩)]);have a_returnPart:=ui (.agg #[.pointer (some ⟨g,o,none⟩)]);have a_y:=NE (.agg #[.pointer (some ⟨g,o,none⟩)])
 have hV:ig 156 (.agg #[.pointer (some ⟨g,o,none⟩)]) ⟨g,o,none⟩ 195 194:=⟨fun w=>uF _ w,fun w=>pU _ w⟩
 have hK1:=kD 156 (.agg #[.pointer (some ⟨g,o,none⟩)]) g o 0 ks u1 w hV c5 hks (by decide)
 have HFT:Hid (∀ W b,Later w W->ed res 7 ks=b->fO (ed res 7 ks) w (.returned (.bool b)) W):=fun W b l hh=>⟨by rw[hh],l⟩
 generalize hQ:fO (ed res 7 ks) w=Q at *
 clear hQ;have hx:Hid (ed res 7 ks=true):=rfl
 generalize kTy ks 0=kt at *
 obtain⟨t1,t2⟩:=kt;clear hrow hbx hH hTg hks hV hty;go_enter Tryz.func90,Tryz.ntmps90;go_wp2_with fail
 refine hK1.mono ?_;rintro e w2 ⟨rfl,L2⟩;clear hK1;go_wp2_with fail
 exact HFT.out _ _ (by repeat (first|with_reducible exact L2|refine Later.setAt ?_ (Nat.le_refl _) _ _|refine Later.alloc ?_ _|refine Later.trans ?_ (Later.drew _))) hx.out
theorem Pq (X:List Nat) (w:World) (K:Nat) (v0 v1:Value) (S:List Sc) (Fs:List Fu) (res:TyP) (ts:List TyP) (g o:Nat) (u1:Value) (ks:List Ex) (hTg:Tg X w K v0 v1 S Fs res ts) (c5:w.cell? ⟨g,o+5,none⟩=some u1) (hks:RdL w 6 u1 (Ex.ah ks)) :
  Calls Tryz.prog 90 #[.pointer (some ⟨K,0,none⟩),.iface 150 (.agg #[.pointer (some ⟨g,o,none⟩)])] w (fO (ed res 1 ks) w):=by
 have qT:=qA;obtain⟨hH,hty⟩:=hTg.now;obtain⟨vs,hbx,hrow⟩:=hTg.box;have a_declarePart:=jA (.agg #[.pointer (some ⟨g,o,none⟩)]);have a_y:=KG (.agg #[.pointer (some ⟨g,o,none⟩)])
 have hV:ig 150 (.agg #[.pointer (some ⟨g,o,none⟩)]) ⟨g,o,none⟩ 195 194:=⟨fun w=>rC _ w,fun w=>nK _ w⟩
 have hK1:=kD 150 (.agg #[.pointer (some ⟨g,o,none⟩)]) g o 0 ks u1 w hV c5 hks (by decide)
 have HFT:Hid (∀ W b,Later w W->ed res 1 ks=b->fO (ed res 1 ks) w (.returned (.bool b)) W):=fun W b l hh=>⟨by rw[hh],l⟩
 generalize hQ:fO (ed res 1 ks) w=Q at *
 clear hQ;have hKd:=fun w' (l:Later w w')=>kD 150 (.agg #[.pointer (some ⟨g,o,none⟩)]) g o 1 ks u1 w' hV (by rw[Below.cell l (p:=⟨g,o+5,none⟩) (aK c5)];exact c5) (RdL.later l hks) (by decide);have hx:Hid (ed res 1 ks=(((kTy ks 0).1==(kTy ks 1).1)&&((kTy ks 0).2==(kTy ks 1).2))):=rfl
 generalize kTy ks 0=kt at *
 obtain⟨t1,t2⟩:=kt
 generalize kTy ks 1=kt2 at *
 obtain⟨q1,q2⟩:=kt2;clear hrow hbx hH hTg hks hV hty;go_enter Tryz.func90,Tryz.ntmps90;go_wp2_with fail
 refine hK1.mono ?_;rintro e w2 ⟨rfl,L2⟩;clear hK1;obtain⟨w3,hw3⟩:=hidx ((w2.alloc (.cells #[.int .i64 t1,.int .i64 t2] 52)).alloc (.cells #[.pointer (some ⟨g,o,none⟩)] 150));have l3:Later w2 w3:=by rw[hw3.out];exact bF _ _ _
 have hbT:Bxx w3 w2.heap.size [.int .i64 t1,.int .i64 t2]:=by rw[hw3.out];exact (Bxx.new w2 #[.int .i64 t1,.int .i64 t2] 52).later (ae _ _)
 have L5:=L2.trans l3
 have HS:Hid (∀ w',Later w3 w'->(w'.cell? ⟨w2.heap.size,0,none⟩=some (.int .i64 t1)/\w'.cell? ⟨w2.heap.size,1,none⟩=some (.int .i64 t2))):=fun w' ok=>⟨((hbT.later ok).cell 0 _ rfl).1,((hbT.later ok).cell 1 _ rfl).1⟩
 go_wp2_with fail
 rw[<-hw3.out];clear hbT;go_region_held3 (fun w'=>w'.cell? ⟨w2.heap.size,0,none⟩=some (.int .i64 t1)/\w'.cell? ⟨w2.heap.size,1,none⟩=some (.int .i64 t2)) (first|exact HS.out _ (Later.drew _)|exact HS.out _ ((Later.drew _).trans l6)) ((go_at_call 115;refine (hKd _ (L5.trans (Later.drew _))).mono ?_;rintro e w6 ⟨rfl,l6⟩))
 all_goals
  have L2:=(L5.trans (Later.drew _)).trans l6;go_wp2_with fail
  exact HFT.out _ _ (by repeat (first|with_reducible exact L2|refine Later.setAt ?_ (Nat.le_refl _) _ _|refine Later.alloc ?_ _|refine Later.trans ?_ (Later.drew _))) hx.out
theorem FU (X:List Nat) (w:World) (K:Nat) (v0 v1:Value) (S:List Sc) (Fs:List Fu) (res:TyP) (ts:List TyP) (g o:Nat) (u1:Value) (ks:List Ex) (hTg:Tg X w K v0 v1 S Fs res ts) (c5:w.cell? ⟨g,o+5,none⟩=some u1) (hks:RdL w 6 u1 (Ex.ah ks)) :
  Calls Tryz.prog 90 #[.pointer (some ⟨K,0,none⟩),.iface 153 (.agg #[.pointer (some ⟨g,o,none⟩)])] w (fO (ed res 4 ks) w):=by
 have qT:=qA;obtain⟨hH,hty⟩:=hTg.now;obtain⟨vs,hbx,hrow⟩:=hTg.box;have a_declarePart:=iM (.agg #[.pointer (some ⟨g,o,none⟩)]);have a_setPart:=qG (.agg #[.pointer (some ⟨g,o,none⟩)]);have a_ifPart:=tH (.agg #[.pointer (some ⟨g,o,none⟩)]);have a_forPart:=qH (.agg #[.pointer (some ⟨g,o,none⟩)]);have a_panicPart:=oC (.agg #[.pointer (some ⟨g,o,none⟩)]);have a_printPart:=ou (.agg #[.pointer (some ⟨g,o,none⟩)]);have a_y:=DF (.agg #[.pointer (some ⟨g,o,none⟩)])
 have hV:ig 153 (.agg #[.pointer (some ⟨g,o,none⟩)]) ⟨g,o,none⟩ 195 194:=⟨fun w=>lZ _ w,fun w=>kw _ w⟩
 have hK1:=kD 153 (.agg #[.pointer (some ⟨g,o,none⟩)]) g o 0 ks u1 w hV c5 hks (by decide)
 have HFT:Hid (∀ W b,Later w W->ed res 4 ks=b->fO (ed res 4 ks) w (.returned (.bool b)) W):=fun W b l hh=>⟨by rw[hh],l⟩
 generalize hQ:fO (ed res 4 ks) w=Q at *
 clear hQ;have hx:Hid (ed res 4 ks=((((kTy ks 0).1==res.1)&&((kTy ks 0).2==res.2))&&(decide (0<ks.length)==!(res.1==0)))):=rfl;obtain⟨ka,kc,rfl,_⟩:=Ex.slice hks;obtain⟨r1,r2⟩:=res;have k2:=(hbx.cell 2 _ rfl).1;have k3:=(hbx.cell 3 _ rfl).1;have kl:=hbx.lt
 generalize kTy ks 0=kt at *
 obtain⟨t1,t2⟩:=kt;clear hrow hbx hH hTg hks hV hty;go_enter Tryz.func90,Tryz.ntmps90;go_wp2_with fail
 refine hK1.mono ?_;rintro e w2 ⟨rfl,L2⟩;clear hK1;have z2:w2.cell? ⟨K,2,none⟩=some (.int .i64 r1):=by rw[Below.cell L2 (p:=⟨K,2,none⟩) kl];exact k2
 have z3:w2.cell? ⟨K,3,none⟩=some (.int .i64 r2):=by rw[Below.cell L2 (p:=⟨K,3,none⟩) kl];exact k3
 have z5:w2.cell? ⟨g,o+5,none⟩=some (.slice ka ks.length kc):=by rw[Below.cell L2 (p:=⟨g,o+5,none⟩) (aK c5)];exact c5
 have zl:K<w2.heap.size/\g<w2.heap.size:=⟨aK z2,aK z5⟩
 obtain⟨zl1,zl2⟩:=zl
 cases hq:((t1==r1)&&(t2==r2)) with
 | false =>
  have HZ:Hid (ed (r1,r2) 4 ks=false):=by unfold Hid;rw[hx.out,hq];rfl
  clear hx;go_wp2_with fail
  go_quiet (fail)
  go_wp2_with fail
  exact HFT.out _ _ (((L2.alloc _).alloc _).trans (bg (Later.refl _) _)) HZ.out
 | true =>
  have HZ:Hid (ed (r1,r2) 4 ks=(decide (0<ks.length)==!(r1==0))):=by unfold Hid;rw[hx.out,hq];rfl
  clear hx;go_wp2_with fail
  go_quiet (fail)
  go_wp2_with fail
  refine HFT.out _ _ (((L2.alloc _).alloc _).trans (bg (Later.refl _) _)) ?_;rw[HZ.out];rfl
theorem Tryz.PH:(Tryz.prog.info? 52).map (fun i=>(i.zero,i.size,i.bytes))=some (some (.agg #[.int .i64 0,.int .i64 0]),2,16):=by kernel_rfl
def VE (X:List Nat) (K:Nat) (v0 v1:Value) (S:List Sc) (Fs:List Fu) (res:TyP) (ts:List TyP) (w:World) (e:Ending) (w':World):Prop:=e=.returned (.bool true)/\bQ [] K w w'/\Tg X w' K v0 v1 S Fs res ts
theorem Ee (X:List Nat) (w:World) (K:Nat) (v0 v1:Value) (S:List Sc) (Fs:List Fu) (res:TyP) (ts:List TyP) (g o:Nat) (u1:Value) (ks:List Ex) (hTg:Tg X w K v0 v1 S Fs res ts) (c5:w.cell? ⟨g,o+5,none⟩=some u1) (hks:RdL w 6 u1 (Ex.ah ks)) (tk tn:Int) (c2:w.cell? ⟨g,o+2,none⟩=some (.int .i64 tk)) (c3:w.cell? ⟨g,o+3,none⟩=some (.int .i64 tn)) (hlen:ts.length<=700000) :
  Calls Tryz.prog 90 #[.pointer (some ⟨K,0,none⟩),.iface 141 (.agg #[.pointer (some ⟨g,o,none⟩)])] w (VE X K v0 v1 S Fs res (ts++[(tk,tn)]) w):=by
 have qT:=qA;obtain⟨hH,hty⟩:=hTg.now;obtain⟨vs,hbx,hrow⟩:=hTg.box;have a_y:=BG (.agg #[.pointer (some ⟨g,o,none⟩)])
 have hV:ig 141 (.agg #[.pointer (some ⟨g,o,none⟩)]) ⟨g,o,none⟩ 195 194:=⟨fun w=>iY _ w,fun w=>gY _ w⟩
 have hK1:=kD 141 (.agg #[.pointer (some ⟨g,o,none⟩)]) g o 0 ks u1 w hV c5 hks (by decide);obtain⟨r1,r2⟩:=res;obtain⟨i0,hi,hz0,hz1,hz2⟩:=info_parts Tryz.PH;obtain⟨va,vc,rfl⟩:=aP hrow;have hKw:=hbx.lt
 have HP:Hid (∀ W,Later w W->∀ v4 w4,w4.ownsRow (K+1) 52 2 v4 (ts.length+1) (eP ts++[.int .i64 tk,.int .i64 tn])->(W.alloc (.cells #[.int .i64 tk,.int .i64 tn] 52)).grownBy w4 (Value.slice va ts.length vc).ownBlock->(v4.ownBlock=(Value.slice va ts.length vc).ownBlock\/v4.ownBlock=some (W.alloc (.cells #[.int .i64 tk,.int .i64 tn] 52)).heap.size)->Bxx w4 K [v0,v1,.int .i64 r1,.int .i64 r2,.slice va ts.length vc]/\VE X K v0 v1 S Fs (r1,r2) (ts++[(tk,tn)]) w (.returned (.bool true)) (w4.setCell ⟨K,4,none⟩ v4)):=fun W l v4 w4 ho hg hloc=>by
  have l1:=l.trans (ae W (.cells #[.int .i64 tk,.int .i64 tn] 52));have hbW:=hbx.later l1;have hne:(Value.slice va ts.length vc).ownBlock≠some K:=fun e=>by have:=(hrow.lt K e).1;omega
  have hB4:Bxx w4 K [v0,v1,.int .i64 r1,.int .i64 r2,.slice va ts.length vc]:=hbW.kept hg.size (hg.block K hbW.lt (fun e=>hne e.symm))
  have bl:Below K w w4:=⟨hg.os.trans l1.os,hg.tape.trans l1.tape,hg.output.trans l1.output,Nat.le_trans l1.size hg.size,fun k hk=>by
   rw[hg.block k (by have:=l1.size;omega) (fun e=>by have:=(hrow.lt k e.symm).1;omega),l1.block k (by omega)]⟩
  have bl':Below K w (w4.setCell ⟨K,4,none⟩ v4):=Below.setCell bl (Nat.le_refl _) _
  have hsame:mJ X K w (w4.setCell ⟨K,4,none⟩ v4):=⟨bl'.size,fun b hb _=>bl'.block b hb⟩
  have hr0:oJ w K=(Value.slice va ts.length vc).ownBlock:=by unfold oJ;rw[(hbx.cell 4 _ rfl).1]
  have hr1:oJ (w4.setCell ⟨K,4,none⟩ v4) K=v4.ownBlock:=by unfold oJ;rw[jo (hB4.cell 4 _ rfl).1]
  have oT:bQ [] K w (w4.setCell ⟨K,4,none⟩ v4):=⟨bl'.os,bl'.tape,bl'.output,bl'.size,fun b hb _ hk hr=>by
   rw[hset hk,hg.block b (by have:=l1.size;omega) (fun e=>hr (by rw[hr0];exact e.symm)),l1.block b hb],by
   rw[hr0,hr1];rcases hloc with e|e
   ·exact .inl e
   ·exact .inr ⟨_,e,l1.size⟩⟩
  refine⟨hB4,rfl,oT,⟨⟨v4,hB4.set 4 _ (Nat.lt_of_sub_eq_succ rfl),?_⟩,fun w' q=>hTg.hd w' (hsame.trans q),fun w' q=>hTg.ty w' (hsame.trans q)⟩⟩;rw[List.length_append,yA];exact cu ho (Kept.setAt (Kept.refl _ _) (Nat.lt_succ_self K) 4 _)
 generalize hQ:VE X K v0 v1 S Fs (r1,r2) (ts++[(tk,tn)]) w=Q at *
 clear hQ;have HR:Hid (∀ W,Later w W->W.ownsRow (K+1) 52 2 (.slice va ts.length vc) ts.length (eP ts)):=fun W l=>cu hrow (l.kept _);have HB:Hid (∀ W,Later w W->Bxx W K [v0,v1,.int .i64 r1,.int .i64 r2,.slice va ts.length vc]):=fun W l=>hbx.later l;have hgl:=aK c2
 generalize kTy ks 0=kt at *
 obtain⟨t1,t2⟩:=kt;clear hrow hbx hH hTg hks hV hty;go_enter Tryz.func90,Tryz.ntmps90;go_wp2_with fail
 refine hK1.mono ?_;rintro e w2 ⟨rfl,L2⟩;clear hK1;obtain⟨w3,hw3⟩:=hidx ((w2.alloc (.cells #[.int .i64 t1,.int .i64 t2] 52)).alloc (.cells #[.pointer (some ⟨g,o,none⟩)] 141));have l3:Later w2 w3:=by rw[hw3.out];exact bF _ _ _
 have L3:=L2.trans l3;have LD:Later w w3.drew:=L3.trans (Later.drew _);have hbX:Bxx w3 (w2.heap.size+1) [.pointer (some ⟨g,o,none⟩)]:=by rw[hw3.out];have:=Bxx.new (w2.alloc (.cells #[.int .i64 t1,.int .i64 t2] 52)) #[.pointer (some ⟨g,o,none⟩)] 141;simpa using this
 have x0:=((hbX.later (Later.drew _)).cell 0 _ rfl).1;have xl:=(hbX.later (Later.drew _)).lt;have z4:=((HB.out _ LD).cell 4 _ rfl).1;have zl:=(HB.out _ LD).lt;have z2:w3.drew.cell? ⟨g,o+2,none⟩=some (.int .i64 tk):=by rw[Below.cell LD (p:=⟨g,o+2,none⟩) hgl];exact c2
 have z3:w3.drew.cell? ⟨g,o+3,none⟩=some (.int .i64 tn):=by rw[Below.cell LD (p:=⟨g,o+3,none⟩) hgl];exact c3
 have zg:g<w3.drew.heap.size:=aK z2;have hrD:=HR.out _ LD;have hKD:K+1<=w3.drew.heap.size:=zl;have x0':=(hbX.cell 0 _ rfl).1;have xl':=hbX.lt;have z4':=((HB.out _ L3).cell 4 _ rfl).1;have zl':=(HB.out _ L3).lt;have z2':w3.cell? ⟨g,o+2,none⟩=some (.int .i64 tk):=by rw[Below.cell L3 (p:=⟨g,o+2,none⟩) hgl];exact c2
 have z3':w3.cell? ⟨g,o+3,none⟩=some (.int .i64 tn):=by rw[Below.cell L3 (p:=⟨g,o+3,none⟩) hgl];exact c3
 have zg':g<w3.heap.size:=aK z2';clear HR HB hbX;go_wp2_with fail
 rw[<-hw3.out]
 go_region_law (first
  | (refine gQ rfl _ _ 71 rfl (K+1) 52 i0 (.agg #[.int .i64 0,.int .i64 0]) 2 16 Tryz.underlying71 hi hz0 hz1 hz2 rfl (by decide) _ _ _ rfl (hrD.alloc _) _ 1 1 [.int .i64 tk,.int .i64 tn] rfl rfl (fA _ _ _ rfl) (by simp[Value.oneCell']) (by unfold maxLen;omega) (by omega) (Nat.le_trans hKD (ae _ _).size) ?_;intro v9 w9 o9 g9 h9;obtain⟨hB9,HQ9⟩:=HP.out _ LD _ _ o9 g9 h9;obtain⟨a9,p9,hv9⟩:=aP o9;rw[hv9]at HQ9 ⊢;have b4:=(hB9.cell 4 _ rfl).1;have b4f:=(hB9.cell 4 _ rfl).2;have b4l:=hB9.lt)
  | fail "none")
 all_goals
  go_wp2_with fail
  exact HQ9
def SfP (X:List Nat) (K:Nat) (v0 v1:Value) (S:List Sc) (Fs:List Fu) (res:TyP) (ts:List TyP) (b:Bool) (w:World) (e:Ending) (w':World):Prop:=e=.returned (.bool b)/\bQ [] K w w'/\Tg X w' K v0 v1 S Fs res ts
theorem SfP.of {X:List Nat}{K:Nat}{v0 v1:Value}{S:List Sc}{Fs:List Fu}{res:TyP}{ts:List TyP}{b:Bool}{w:World}(hT:Tg X w K v0 v1 S Fs res ts) {e:Ending}{w':World}(h:fO b w e w'):SfP X K v0 v1 S Fs res ts b w e w':=⟨h.1,bQ.of_later h.2 hT.lt,hT.later h.2⟩
theorem Px (X:List Nat) (w:World) (K:Nat) (v0 v1:Value) (S:List Sc) (Fs:List Fu) (res:TyP) (ts:List TyP) (g o:Nat) (k tk tn:Int) (u1:Value) (ks:List Ex) (hT:Tg X w K v0 v1 S Fs res ts) (h0:0<=k) (h7:k<=7) (c2:w.cell? ⟨g,o+2,none⟩=some (.int .i64 tk)) (c3:w.cell? ⟨g,o+3,none⟩=some (.int .i64 tn)) (c5:w.cell? ⟨g,o+5,none⟩=some u1) (hks:RdL w 6 u1 (Ex.ah ks)) (hlen:ts.length<=700000) :
  Calls Tryz.prog 90 #[.pointer (some ⟨K,0,none⟩),stV k g o] w (SfP X K v0 v1 S Fs res (if k=0 then ts++[(tk,tn)] else ts) (ed res k ks) w):=by
 rcases (by omega:k=0\/k=1\/k=2\/k=3\/k=4\/k=5\/k=6\/k=7) with rfl|rfl|rfl|rfl|rfl|rfl|rfl|rfl
 ·exact Ee X w K v0 v1 S Fs res ts g o u1 ks hT c5 hks tk tn c2 c3 hlen
 ·exact (Pq X w K v0 v1 S Fs res ts g o u1 ks hT c5 hks).mono fun e w' h=>SfP.of hT h
 ·exact (SI X w K v0 v1 S Fs res ts g o u1 ks hT c5 hks).mono fun e w' h=>SfP.of hT h
 ·exact (Pv X w K v0 v1 S Fs res ts g o u1 ks hT c5 hks).mono fun e w' h=>SfP.of hT h
 ·exact (FU X w K v0 v1 S Fs res ts g o u1 ks hT c5 hks).mono fun e w' h=>SfP.of hT h
 ·exact (IE X w K v0 v1 S Fs res ts g o u1 ks hT c5 hks).mono fun e w' h=>SfP.of hT h
 ·exact (IG X w K v0 v1 S Fs res ts g o u1 ks hT c5 hks).mono fun e w' h=>SfP.of hT h
 ·exact (SK X w K v0 v1 S Fs res ts g o u1 ks hT c5 hks).mono fun e w' h=>SfP.of hT h
def BlP (X:List Nat) (K:Nat) (v0 v1:Value) (S:List Sc) (Fs:List Fu) (res:TyP) (ts:List TyP) (l:List St) (v:Value) (G:List Nat) (w:World) (e:Ending) (w':World):Prop:=∃ b,e=.returned (.bool b)/\bQ G K w w'/\(b=false->St.aH S Fs res ts l=none)/\(b=true->∃ l' ts',St.aH S Fs res ts l=some (l',ts')/\ai w' (.list 8 (St.ah l')) [v] G/\Tg X w' K v0 v1 S Fs res ts')
def BlX (l:List St):Prop:=∀ X w K v0 v1 S Fs res ts v G,Tg X w K v0 v1 S Fs res ts->xG S Fs ts->St.fits S.length Fs.length ts.length l->ai w (.list 8 (St.ah l)) [v] G->G.Nodup->(∀ b∈G,b∈X/\b<K)->ts.length+St.nums l<=700000->Calls Tryz.prog 30 #[.pointer (some ⟨K,0,none⟩),v] w (BlP X K v0 v1 S Fs res ts l v G w)
def TL (X:List Nat) (K:Nat) (v0 v1:Value) (S:List Sc) (Fs:List Fu) (res:TyP) (ts:List TyP) (x:St) (u1 u2 u3:Value) (G1 G2 G3:List Nat) (w:World) (e:Ending) (w':World):Prop:=∃ b,e=.returned (.bool b)/\bQ (G1++(G2++G3)) K w w'/\(b=false->St.tyd S Fs res ts x=none)/\(b=true->∃ ks' bo' el' ts',St.tyd S Fs res ts x=some (.mk x.kind x.n x.tk x.tn x.name ks' bo' el',ts')/\ai w' (.list 6 (Ex.ah ks')) [u1] G1/\ai w' (.list 8 (St.ah bo')) [u2] G2/\ai w' (.list 8 (St.ah el')) [u3] G3/\Tg X w' K v0 v1 S Fs res ts')
theorem ifLen (k:Int) (ts:List TyP) (t:TyP):(if k=0 then ts++[t] else ts).length=ts.length+(if k=0 then 1 else 0):=by by_cases k0:k=0 <;> simp[k0]
theorem U0 (x:St) (hBo:BlX x.body) (hEl:BlX x.els) (X:List Nat) (w:World) (K:Nat) (v0 v1:Value) (S:List Sc) (Fs:List Fu) (res:TyP) (ts:List TyP) (g o:Nat) (u1 u2 u3:Value) (G1 G2 G3:List Nat) (hT:Tg X w K v0 v1 S Fs res ts) (hV:xG S Fs ts) (hf:St.fit S.length Fs.length ts.length x)
  (hgK:g<K) (c2:w.cell? ⟨g,o+2,none⟩=some (.int .i64 x.tk)) (c3:w.cell? ⟨g,o+3,none⟩=some (.int .i64 x.tn)) (c5:w.cell? ⟨g,o+5,none⟩=some u1) (c6:w.cell? ⟨g,o+6,none⟩=some u2) (c7:w.cell? ⟨g,o+7,none⟩=some u3)
  (hk:ai w (.list 6 (Ex.ah x.kids)) [u1] G1) (hb:ai w (.list 8 (St.ah x.body)) [u2] G2) (he:ai w (.list 8 (St.ah x.els)) [u3] G3) (hnd:(g::(G1++(G2++G3))).Nodup) (hX:∀ b∈G1++(G2++G3),b∈X/\b<K) (hlen:ts.length+x.num<=700000) :
  Calls Tryz.prog 61 #[.pointer (some ⟨K,0,none⟩),stV x.kind g o] w (TL X K v0 v1 S Fs res ts x u1 u2 u3 G1 G2 G3 w):=by
 obtain⟨hV1,hV2⟩:=zL x.kind g o;obtain⟨⟨hk0,hk7⟩,hfk,hf0,hfb,hfe⟩:=(St.Jg _ _ _ _).1 hf;have hnum:=St.D6 x;have hdb:=St.jJ x.body;have hmk:=hV1.kids;have hmb:=hV1.blocks;have hgn:=(List.nodup_cons.1 hnd).1;have m1:=List.nodup_append.1 (List.nodup_cons.1 hnd).2;have m2:=List.nodup_append.1 m1.2.1;have hKw:=hT.lt;have hglw:g<w.heap.size:=by omega
 obtain⟨a1,n1,p1,rfl⟩:=dI hk;obtain⟨a2,n2,p2,rfl⟩:=dI hb;obtain⟨a3,n3,p3,rfl⟩:=dI he;have hK1:=PI g o a1 n1 p1 w c5;have d12:∀ b∈G2,b∉G1:=fun b q q'=>m1.2.2 b q' b (List.mem_append_left _ q) rfl;have d13:∀ b∈G3,b∉G1:=fun b q q'=>m1.2.2 b q' b (List.mem_append_right _ q) rfl;have d23:∀ b∈G3,b∉G2:=fun b q q'=>m2.2.2 b q' b q rfl;have s1:∀ b∈G1,b∈G1++(G2++G3):=fun b q=>List.mem_append_left _ q;have s2:∀ b∈G2,b∈G1++(G2++G3):=fun b q=>List.mem_append_right _ (List.mem_append_left _ q);have s3:∀ b∈G3,b∈G1++(G2++G3):=fun b q=>List.mem_append_right _ (List.mem_append_right _ q);have HTy:Hid (St.tyd S Fs res ts x=match Ex.aH S Fs ts x.kids with|none=>none|some ks'=>if ed res x.kind ks' then (match St.aH S Fs res (if x.kind=0 then ts++[(x.tk,x.tn)] else ts) x.body with|none=>none|some (bo',t2)=>match St.aH S Fs res t2 x.els with|none=>none|some (el',t3)=>some (.mk x.kind x.n x.tk x.tn x.name ks' bo' el',t3)) else none):=St.Ho S Fs res ts x
 have HF:Hid (∀ w',bQ (G1++(G2++G3)) K w w'->St.tyd S Fs res ts x=none->TL X K v0 v1 S Fs res ts x (.slice a1 n1 p1) (.slice a2 n2 p2) (.slice a3 n3 p3) G1 G2 G3 w (.returned (.bool false)) w'):=fun w' ot h=>⟨false,rfl,ot,fun _=>h,fun h=>by cases h⟩
 have HY:Hid (∀ w' ks' bo' el' ts',bQ (G1++(G2++G3)) K w w'->St.tyd S Fs res ts x=some (.mk x.kind x.n x.tk x.tn x.name ks' bo' el',ts')->ai w' (.list 6 (Ex.ah ks')) [.slice a1 n1 p1] G1->ai w' (.list 8 (St.ah bo')) [.slice a2 n2 p2] G2->ai w' (.list 8 (St.ah el')) [.slice a3 n3 p3] G3->Tg X w' K v0 v1 S Fs res ts'->TL X K v0 v1 S Fs res ts x (.slice a1 n1 p1) (.slice a2 n2 p2) (.slice a3 n3 p3) G1 G2 G3 w (.returned (.bool true)) w'):=fun w' ks' bo' el' ts' ot h q1 q2 q3 q4=>⟨true,rfl,ot,fun h=>(by cases h),fun _=>⟨ks',bo',el',ts',h,q1,q2,q3,q4⟩⟩
 generalize hQ:TL X K v0 v1 S Fs res ts x (.slice a1 n1 p1) (.slice a2 n2 p2) (.slice a3 n3 p3) G1 G2 G3 w=Q at *
 clear hQ hV1 hV2 hf;unfold stV;have HSF:=fun w' (hT':Tg X w' K v0 v1 S Fs res ts) (e2:w'.cell? ⟨g,o+2,none⟩=some (.int .i64 x.tk)) (e3:w'.cell? ⟨g,o+3,none⟩=some (.int .i64 x.tn)) (e5:w'.cell? ⟨g,o+5,none⟩=some (.slice a1 n1 p1)) ks' (hr:RdL w' 6 (.slice a1 n1 p1) (Ex.ah ks'))=>Px X w' K v0 v1 S Fs res ts g o x.kind x.tk x.tn (.slice a1 n1 p1) ks' hT' hk0 hk7 e2 e3 e5 hr (by omega);unfold stV at HSF;have HSF':Hid _:=HSF;clear HSF
 generalize stT x.kind=T at *
 have HI:Hid (∀ w1,Later w w1->Calls Tryz.prog 89 #[.pointer (some ⟨K,0,none⟩),.slice a1 n1 p1] w1 (QA S Fs ts x.kids (.slice a1 n1 p1) G1 w1)):=fun w1 l=>PM _ x.kids X w1 K v0 v1 S Fs res ts _ G1 (Nat.le_refl _) (hT.later l) hV hfk (bz hk l) m1.1 (fun b q=>hX b (s1 b q));go_enter Tryz.func61,Tryz.ntmps61;go_wp2_with fail
 refine hK1.mono ?_;rintro e w1 ⟨rfl,l1⟩;have hI1:=HI.out w1 l1;clear hK1 HI;go_wp2_with fail
 refine hI1.mono ?_;rintro e w2 ⟨b1,rfl,o2,hf2,ht2⟩;have hK1w:K<w1.heap.size:=Nat.lt_of_lt_of_le hKw l1.size;have hKn1:K∉G1:=fun q=>Nat.lt_irrefl _ (hX K (s1 K q)).2;have ot2:bQ (G1++(G2++G3)) K w w2:=(bQ.of_later l1 hKw).trans ((bQ.iw o2 hK1w hKn1).mono s1);have HF2:Hid _:=hf2;have HT2:Hid _:=ht2;clear hI1 hf2 ht2
 cases b1 with
 | false =>
  have HZ:=HF.out w2 ot2 (by rw[HTy.out,HF2.out rfl]);clear HF HY HTy HF2 HT2 HSF';go_wp2_with fail
  exact HZ
 | true =>
  obtain⟨ks',hk',hO2⟩:=HT2.out rfl;have hT2:Tg X w2 K v0 v1 S Fs res ts:=(hT.later l1).only o2 (fun b q=>hX b (s1 b q));have hgb:w2.heap[g]?=w.heap[g]?:=by rw[o2.block g (Nat.lt_of_lt_of_le hglw l1.size) (fun q=>hgn (s1 g q)),l1.block g hglw]
  have cb:=fun y=>(aj (o:=y) hgb).1;have hr2:RdL w2 6 (.slice a1 n1 p1) (Ex.ah ks'):=by obtain⟨v,e,r⟩:=RdL.iff.1 (ai.rd _ hO2);cases e;exact r
  have hS2:=HSF'.out w2 hT2 (by rw[cb];exact c2) (by rw[cb];exact c3) (by rw[cb];exact c5) ks' hr2;have hO22:ai w2 (.list 8 (St.ah x.body)) [.slice a2 n2 p2] G2:=ai.only (bz hb l1) o2 d12;have hO23:ai w2 (.list 8 (St.ah x.els)) [.slice a3 n3 p3] G3:=ai.only (bz he l1) o2 d13;have HTy2:Hid (St.tyd S Fs res ts x=if ed res x.kind ks' then (match St.aH S Fs res (if x.kind=0 then ts++[(x.tk,x.tn)] else ts) x.body with|none=>none|some (bo',t2)=>match St.aH S Fs res t2 x.els with|none=>none|some (el',t3)=>some (.mk x.kind x.n x.tk x.tn x.name ks' bo' el',t3)) else none):=by unfold Hid;rw[HTy.out,hk']
  have c6':w2.cell? ⟨g,o+6,none⟩=some (.slice a2 n2 p2):=by rw[cb];exact c6
  have c7':w2.cell? ⟨g,o+7,none⟩=some (.slice a3 n3 p3):=by rw[cb];exact c7
  have HO2:Hid _:=hO2
  have hEnv1:xG S Fs (if x.kind=0 then ts++[(x.tk,x.tn)] else ts):=by
   by_cases k0:x.kind=0
   ·rw[if_pos k0];refine⟨fun t ht=>?_,hV.fs,hV.st⟩;rcases List.mem_append.1 ht with q|q
    ·exact hV.ts t q
    ·rw[List.mem_singleton.1 q];exact hf0 k0
   ·rw[if_neg k0];exact hV
  have hl1:=ifLen x.kind ts (x.tk,x.tn)
  generalize (if x.kind=0 then ts++[(x.tk,x.tn)] else ts)=ts1 at *
  have hl1':ts1.length<=ts.length+1:=by rw[hl1];split <;> omega
  rw[<-hl1]at hfb hfe;have HFb:Hid _:=hfb;have HFe:Hid _:=hfe;have HEnv:Hid _:=hEnv1;have HBo:Hid _:=hBo;have HEl:Hid _:=hEl
  generalize ed res x.kind ks'=fb at *
  clear HTy HF2 HT2 HSF' hO2 hk' hr2 c2 c3 c5 c6 c7 hk hb he hV hT cb hgb hl1 hfb hfe hEnv1 hBo hEl hfk hf0;go_wp2_with fail
  refine hS2.mono ?_;rintro e w3 ⟨rfl,o3,hT3⟩;have hsz23:=o3.size;have ot3:bQ (G1++(G2++G3)) K w w3:=ot2.trans (o3.mono (fun b q=>by cases q));clear hS2
  cases fb with
  | false =>
   have HZ:=HF.out w3 ot3 (by rw[HTy2.out];rfl);clear HF HY HTy2 HO2 HFb HFe HEnv HBo HEl;go_wp2_with fail
   exact HZ
  | true =>
   have hgT:w3.heap[g]?=w2.heap[g]?:=o3.block g (by have:=hT2.lt;omega) (by simp) (by omega) (fun e=>by have:=(hT2.row g e).1;omega);have c6'':w3.cell? ⟨g,o+6,none⟩=some (.slice a2 n2 p2):=by rw[(aj hgT).1];exact c6'
   have c7'':w3.cell? ⟨g,o+7,none⟩=some (.slice a3 n3 p3):=by rw[(aj hgT).1];exact c7'
   have hOk3:ai w3 (.list 6 (Ex.ah ks')) [.slice a1 n1 p1] G1:=o3.own hT2 HO2.out (fun b q=>(hX b (s1 b q)).2) (by simp);have hOb3:ai w3 (.list 8 (St.ah x.body)) [.slice a2 n2 p2] G2:=o3.own hT2 hO22 (fun b q=>(hX b (s2 b q)).2) (by simp);have hOe3:ai w3 (.list 8 (St.ah x.els)) [.slice a3 n3 p3] G3:=o3.own hT2 hO23 (fun b q=>(hX b (s3 b q)).2) (by simp);have hB3:=PS g o a2 a3 n2 p2 n3 p3 w3 c6'' c7'';have HTy3:Hid (St.tyd S Fs res ts x=match St.aH S Fs res ts1 x.body with|none=>none|some (bo',t2)=>match St.aH S Fs res t2 x.els with|none=>none|some (el',t3)=>some (.mk x.kind x.n x.tk x.tn x.name ks' bo' el',t3)):=by unfold Hid;rw[HTy2.out];rfl
   have HOk3:Hid _:=hOk3;have HOb3:Hid _:=hOb3;have HOe3:Hid _:=hOe3;have HT3:Hid _:=hT3;have HXX:Hid _:=hX
   have HND2:Hid (G2.Nodup/\G3.Nodup):=⟨m2.1,m2.2.1⟩
   clear HTy2 HO2 c6' c7' c6'' c7'' hOk3 hOb3 hOe3 hO22 hO23 hgT hT2 hX hmk;have hK3:K<w3.heap.size:=hT3.lt;go_wp2_with fail
   refine hB3.mono ?_;rintro e w4 ⟨bv,rfl,⟨B,rfl,hBg,hBl,e0,e1⟩,l4⟩;have hBK:B≠K:=by omega
   have hT4:=HT3.out.later l4
   have HBk:Hid (∀ W F,(∀ b∈F,b<K)->bQ F K w4 W->W.cell? ⟨B,0,none⟩=some (.slice a2 n2 p2)/\W.cell? ⟨B,1,none⟩=some (.slice a3 n3 p3)/\B<W.heap.size):=fun W F hF ot=>by
    have hbb:W.heap[B]?=w4.heap[B]?:=ot.block B hBl (fun q=>by have:=hF B q;omega) hBK (fun e=>by
     have h3:oJ w4 K=oJ w3 K:=by unfold oJ;rw[(aj (l4.block K hK3)).1]
     rw[h3]at e;have:=(HT3.out.row B e).2
     omega)
    exact⟨by rw[(aj hbb).1];exact e0,by rw[(aj hbb).1];exact e1,Nat.lt_of_lt_of_le hBl ot.size⟩
   have ot4:bQ (G1++(G2++G3)) K w w4:=ot3.trans (bQ.of_later l4 hK3);have HOk4:Hid (ai w4 (.list 6 (Ex.ah ks')) [.slice a1 n1 p1] G1):=bz HOk3.out l4;have HOb4:Hid (ai w4 (.list 8 (St.ah x.body)) [.slice a2 n2 p2] G2):=bz HOb3.out l4;have HOe4:Hid (ai w4 (.list 8 (St.ah x.els)) [.slice a3 n3 p3] G3):=bz HOe3.out l4;clear hB3 e0 e1 HOk3 HOb3 HOe3 hT3;go_wp2_with fail
   go_loopw [21] (fun i W=>bQ (G2++G3) K w4 W/\((i=.int .i64 0/\Tg X W K v0 v1 S Fs res ts1/\Hid (W=w4))\/(i=.int .i64 1/\∃ bo' t2,Tg X W K v0 v1 S Fs res t2/\Hid (St.aH S Fs res ts1 x.body=some (bo',t2))/\Hid (ai W (.list 8 (St.ah bo')) [.slice a2 n2 p2] G2)/\Hid (bQ G2 K w4 W))\/(i=.int .i64 2/\∃ bo' t2 el' t3,Tg X W K v0 v1 S Fs res t3/\Hid (St.aH S Fs res ts1 x.body=some (bo',t2))/\Hid (ai W (.list 8 (St.ah bo')) [.slice a2 n2 p2] G2)/\Hid (St.aH S Fs res t2 x.els=some (el',t3))/\Hid (ai W (.list 8 (St.ah el')) [.slice a3 n3 p3] G3)))) (fun i _=>2 - (intOf i).toNat)
   case atStart=>exact⟨bQ.of_later (Later.refl _) hT4.lt,.inl ⟨rfl,hT4,rfl⟩⟩
   case round =>
    obtain⟨oW,hcase⟩:=hrel;have hF23:∀ b∈G2++G3,b<K:=fun b q=>(HXX.out b (List.mem_append_right _ q)).2;obtain⟨f0,f1,fl⟩:=HBk.out _ _ hF23 oW;have s23:∀ b∈G2++G3,b∈G1++(G2++G3):=fun b q=>List.mem_append_right _ q;rcases hcase with ⟨rfl,hTW,hWe⟩|⟨rfl,bo',t2,hTW,ht2,ho2,hot2⟩|⟨rfl,bo',t2,el',t3,hTW,ht2,ho2,ht3,ho3⟩
    ·obtain rfl:=hWe.out;have hC:=HBo.out X wr K v0 v1 S Fs res ts1 _ G2 hTW HEnv.out HFb.out HOb4.out HND2.out.1 (fun b q=>HXX.out b (s2 b q)) (by omega);clear HBo HEl hT4;go_wp2_with fail
     refine hC.mono ?_;rintro e w5 ⟨b,rfl,o5,hf5,ht5⟩;have HF5:Hid (b=false->Q (.returned (.bool false)) w5):=fun q=>HF.out w5 (ot4.trans (o5.mono s2)) (by rw[HTy3.out,hf5 q])
     have HT5:Hid (b=true->bQ (G2++G3) K wr w5/\∃ bo' t2,Tg X w5 K v0 v1 S Fs res t2/\Hid (St.aH S Fs res ts1 x.body=some (bo',t2))/\Hid (ai w5 (.list 8 (St.ah bo')) [.slice a2 n2 p2] G2)/\Hid (bQ G2 K wr w5)):=fun q=>by
      obtain⟨bo',t2,q1,q2,q3⟩:=ht5 q;exact⟨o5.mono (fun b q=>List.mem_append_left _ q),bo',t2,q3,q1,q2,o5⟩
     clear hC hf5 ht5 o5 f0 f1
     cases b with
     | false =>
      have HZ:=HF5.out rfl;clear HF5 HT5 HF HY;go_wp2_with fail
      exact HZ
     | true =>
      have HZ:=HT5.out rfl;clear HF5 HT5;go_wp2_with fail
      go_roundw
      case rel =>
       obtain⟨z1,bo',t2,z2,z3,z4,z5⟩:=HZ;exact⟨z1,.inr (.inl ⟨by go_num,bo',t2,z2,z3,z4,z5⟩)⟩
      case measure=>simp[intOf]
    ·have hOeW:ai wr (.list 8 (St.ah x.els)) [.slice a3 n3 p3] G3:=hot2.out.own hT4 HOe4.out (fun b q=>(HXX.out b (s3 b q)).2) d23;have hl2:=(St.dZ S Fs res x.body _ _ _ ht2.out).2;have hV2:=St.qQ x.body _ _ _ HEnv.out HFb.out ht2.out;have hC:=HEl.out X wr K v0 v1 S Fs res t2 _ G3 hTW hV2 (by rw[hl2];exact HFe.out) hOeW HND2.out.2 (fun b q=>HXX.out b (s3 b q)) (by omega);clear HBo HEl hOeW hV2 hl2;go_wp2_with fail
     refine hC.mono ?_;rintro e w5 ⟨b,rfl,o5,hf5,ht5⟩;have HF5:Hid (b=false->Q (.returned (.bool false)) w5):=fun q=>HF.out w5 ((ot4.trans (oW.mono s23)).trans (o5.mono s3)) (by rw[HTy3.out,ht2.out];dsimp only;rw[hf5 q])
     have HT5:Hid (b=true->bQ (G2++G3) K w4 w5/\∃ bo' t2 el' t3,Tg X w5 K v0 v1 S Fs res t3/\Hid (St.aH S Fs res ts1 x.body=some (bo',t2))/\Hid (ai w5 (.list 8 (St.ah bo')) [.slice a2 n2 p2] G2)/\Hid (St.aH S Fs res t2 x.els=some (el',t3))/\Hid (ai w5 (.list 8 (St.ah el')) [.slice a3 n3 p3] G3)):=fun q=>by
      obtain⟨el',t3,q1,q2,q3⟩:=ht5 q;exact⟨oW.trans (o5.mono (fun b q=>List.mem_append_right _ q)),bo',t2,el',t3,q3,ht2,o5.own hTW ho2.out (fun b q=>(HXX.out b (s2 b q)).2) (fun b q q'=>d23 b q' q),q1,q2⟩
     clear hC hf5 ht5 o5 f0 f1
     cases b with
     | false =>
      have HZ:=HF5.out rfl;clear HF5 HT5 HF HY;go_wp2_with fail
      exact HZ
     | true =>
      have HZ:=HT5.out rfl;clear HF5 HT5;go_wp2_with fail
      go_roundw
      case rel =>
       obtain⟨z1,bo',t2,el',t3,z2,z3,z4,z5,z6⟩:=HZ;exact⟨z1,.inr (.inr ⟨by go_num,bo',t2,el',t3,z2,z3,z4,z5,z6⟩)⟩
      case measure=>simp[intOf]
    ·have hOkW:ai wr (.list 6 (Ex.ah ks')) [.slice a1 n1 p1] G1:=oW.own hT4 HOk4.out (fun b q=>(HXX.out b (s1 b q)).2) (fun b q q'=>m1.2.2 b q b q' rfl);have HZ:=HY.out wr ks' bo' el' t3 (ot4.trans (oW.mono s23)) (by rw[HTy3.out,ht2.out];dsimp only;rw[ht3.out]) hOkW ho2.out ho3.out hTW;clear HF HY HTy3 HBo HEl f0 f1;go_wp2_with fail
     exact HZ
end Go.Proofs.YtgaddpkkjebekaaGreatDoor
