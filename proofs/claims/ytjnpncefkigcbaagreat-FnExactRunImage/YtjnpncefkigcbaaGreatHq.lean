import Derived.Test.YtjnpncefkigcbaaGreatHp
set_option maxHeartbeats 100000000
set_option maxRecDepth 100000
namespace Go.Proofs.YtjnpncefkigcbaaGreat
open Go.RowKit Go.Lib Go.Maps
theorem Bx5 (w:World) (a b c d e:Value):(w.alloc (Obj.cells #[a,b,c,d,e] 97)).drew.cell? ⟨w.heap.size,1,none⟩=some b∧(w.alloc (Obj.cells #[a,b,c,d,e] 97)).drew.cell? ⟨w.heap.size,2,none⟩=some c∧(w.alloc (Obj.cells #[a,b,c,d,e] 97)).drew.cell? ⟨w.heap.size,3,none⟩=some d:=by
 refine⟨?_,?_,?_⟩ <;> go_keep
theorem en_doToInt:Enters Tryz.prog 132:=enters_of Tryz.func132 (by kernel_rfl) (by kernel_rfl)
theorem doToInt_any {C:Cx}(hC:CxI C) {w:World}{s:Vm}{iv ov rv:Value}(h:Pv C w s (s.top C.x) (codeP C s.fn) iv ov rv) {A B:Nat}(hA:A<16) (hB:B<16) (op c n:Int) :
  Calls Tryz.prog 96 #[.pointer (some ⟨C.P,0,none⟩),.agg #[.int .i64 op,.int .i64 (A:Int),.int .i64 (B:Int),.int .i64 c,.int .i64 n]] w (StQ C ov (.go (s.set (A:Int) (toI (fb (s.rg B)))))):=by
 obtain⟨cr,zr⟩:=h.reg hA;obtain⟨crb,_⟩:=h.reg hB;have i1:(A:Int)<16:=by omega
 have i2:(B:Int)<16:=by omega
 have HZ:Hid (∀ w',Later (w.setCell ⟨C.P,10+A,none⟩ (.int .i64 (toI (fb (s.rg B))))) w'→StQ C ov (.go (s.set (A:Int) (toI (fb (s.rg B))))) unitE w'):=fun w' l=>st_go (h.setReg hC hA _) l
 generalize StQ C ov (.go (s.set (A:Int) (toI (fb (s.rg B)))))=Q at *
 have hlt:=h.box.lt;have hP:¬ C.P=w.heap.size:=by omega
 have HKp:Hid (∀ (a:Addr) (v:Value),((w.setCell a v).alloc (Obj.cells #[.int .i64 op,.int .i64 (A:Int),.int .i64 (B:Int),.int .i64 c,.int .i64 n] 97)).drew.cell? ⟨w.heap.size,1,none⟩=some (.int .i64 (A:Int))∧((w.setCell a v).alloc (Obj.cells #[.int .i64 op,.int .i64 (A:Int),.int .i64 (B:Int),.int .i64 c,.int .i64 n] 97)).drew.cell? ⟨w.heap.size,2,none⟩=some (.int .i64 (B:Int))):=fun a v=>by
  have hb:=Bx5 (w.setCell a v) (.int .i64 op) (.int .i64 (A:Int)) (.int .i64 (B:Int)) (.int .i64 c) (.int .i64 n);rw[World.size_setCell]at hb;exact⟨hb.1,hb.2.1⟩
 clear h;unfold unitE at HZ;go_enter Tryz.func96,Tryz.ntmps96;go_wp2_with fail
 refine wp_region_held_drew (S:=fun w'=>w'.cell? ⟨w.heap.size,1,none⟩=some (.int .i64 (A:Int))∧w'.cell? ⟨w.heap.size,2,none⟩=some (.int .i64 (B:Int))) (by kernel_rfl) (by go_keep) (fun hHeld=>?_);refine tk 0 (.pointer (some ⟨C.P,0,none⟩)) rfl ?_;(try go_simp);refine tk 1 (.pointer (some ⟨w.heap.size,1,none⟩)) rfl ?_;(try go_simp);refine tk 2 (.int .i64 (A:Int)) rfl ?_;(try go_simp);refine tk 3 (.pointer (some ⟨C.P,0,none⟩)) rfl ?_;(try go_simp);refine tk 4 (.pointer (some ⟨w.heap.size,2,none⟩)) rfl ?_;(try go_simp);refine tk 5 (.int .i64 (B:Int)) rfl ?_;(try go_simp);refine tk 6 (.pointer (some ⟨C.P,0,none⟩)) rfl ?_;(try go_simp);refine tk 7 (.pointer (some ⟨C.P,10,none⟩)) rfl ?_;(try go_simp);refine tk 8 (.pointer (some ⟨C.P,10+B,none⟩)) rfl ?_;(try go_simp);refine tk 11 (.pointer (some ⟨C.P,0,none⟩)) rfl ?_;(try go_simp);refine tk 12 (.pointer (some ⟨C.P,10,none⟩)) rfl ?_;(try go_simp);refine rd1 9 rfl fun K hK=>?_;go_simp;refine hK.out _ _ ?_ (fun hHeld=>?_)
 ·first|assumption|(go_keep;done)|exact HKp.out _ _
 clear hK K;(try go_simp);refine rd1 10 rfl fun K hK=>?_;refine step_call rfl 132 en_doToInt _ _ rfl [.int .i64 (s.rg B)] rfl (fun v w'=>v=.int .i64 (toI (fb (s.rg B)))∧w'=(w.alloc (Obj.cells #[.int .i64 op,.int .i64 (A:Int),.int .i64 (B:Int),.int .i64 c,.int .i64 n] 97)).drew) ((toint_any (s.rg B) _).mono (by rintro e1 w1 ⟨rfl,rfl⟩;exact⟨_,rfl,rfl,rfl⟩)) ?_;intro u2 w2 hc2;obtain⟨rfl,rfl⟩:=hc2;refine hK.out _ _ ?_ (fun hHeld=>?_)
 ·first|assumption|(go_keep;done)|exact HKp.out _ _
 clear hK K;(try go_simp);refine tk 13 (.pointer (some ⟨C.P,10+A,none⟩)) rfl ?_;(try go_simp);refine rd1 14 rfl fun K hK=>?_;go_simp;refine hK.out _ _ ?_ (fun hHeld=>?_)
 ·first|assumption|(go_keep;done)|exact HKp.out _ _
 clear hK K;(try go_simp);refine wpAnyH_done (by kernel_rfl) ?_ _;go_wp2_with fail
 go_end0;exact HZ.out _ (by first|exact later_ad _ _|exact later_a _ _)
theorem en_doToFloat:Enters Tryz.prog 133:=enters_of Tryz.func133 (by kernel_rfl) (by kernel_rfl)
theorem doToFloat_any {C:Cx}(hC:CxI C) {w:World}{s:Vm}{iv ov rv:Value}(h:Pv C w s (s.top C.x) (codeP C s.fn) iv ov rv) {A B:Nat}(hA:A<16) (hB:B<16) (op c n:Int) :
  Calls Tryz.prog 97 #[.pointer (some ⟨C.P,0,none⟩),.agg #[.int .i64 op,.int .i64 (A:Int),.int .i64 (B:Int),.int .i64 c,.int .i64 n]] w (StQ C ov (.go (s.set (A:Int) (cb (floatOfInt .f64 (s.rg B)))))):=by
 obtain⟨cr,zr⟩:=h.reg hA;obtain⟨crb,_⟩:=h.reg hB;have i1:(A:Int)<16:=by omega
 have i2:(B:Int)<16:=by omega
 have HZ:Hid (∀ w',Later (w.setCell ⟨C.P,10+A,none⟩ (.int .i64 (cb (floatOfInt .f64 (s.rg B))))) w'→StQ C ov (.go (s.set (A:Int) (cb (floatOfInt .f64 (s.rg B))))) unitE w'):=fun w' l=>st_go (h.setReg hC hA _) l
 generalize StQ C ov (.go (s.set (A:Int) (cb (floatOfInt .f64 (s.rg B)))))=Q at *
 have hlt:=h.box.lt;have hP:¬ C.P=w.heap.size:=by omega
 have HKp:Hid (∀ (a:Addr) (v:Value),((w.setCell a v).alloc (Obj.cells #[.int .i64 op,.int .i64 (A:Int),.int .i64 (B:Int),.int .i64 c,.int .i64 n] 97)).drew.cell? ⟨w.heap.size,1,none⟩=some (.int .i64 (A:Int))∧((w.setCell a v).alloc (Obj.cells #[.int .i64 op,.int .i64 (A:Int),.int .i64 (B:Int),.int .i64 c,.int .i64 n] 97)).drew.cell? ⟨w.heap.size,2,none⟩=some (.int .i64 (B:Int))):=fun a v=>by
  have hb:=Bx5 (w.setCell a v) (.int .i64 op) (.int .i64 (A:Int)) (.int .i64 (B:Int)) (.int .i64 c) (.int .i64 n);rw[World.size_setCell]at hb;exact⟨hb.1,hb.2.1⟩
 clear h;unfold unitE at HZ;go_enter Tryz.func97,Tryz.ntmps97;go_wp2_with fail
 refine wp_region_held_drew (S:=fun w'=>w'.cell? ⟨w.heap.size,1,none⟩=some (.int .i64 (A:Int))∧w'.cell? ⟨w.heap.size,2,none⟩=some (.int .i64 (B:Int))) (by kernel_rfl) (by go_keep) (fun hHeld=>?_);refine tk 0 (.pointer (some ⟨C.P,0,none⟩)) rfl ?_;(try go_simp);refine tk 1 (.pointer (some ⟨w.heap.size,1,none⟩)) rfl ?_;(try go_simp);refine tk 2 (.int .i64 (A:Int)) rfl ?_;(try go_simp);refine tk 3 (.pointer (some ⟨C.P,0,none⟩)) rfl ?_;(try go_simp);refine tk 4 (.pointer (some ⟨w.heap.size,2,none⟩)) rfl ?_;(try go_simp);refine tk 5 (.int .i64 (B:Int)) rfl ?_;(try go_simp);refine tk 6 (.pointer (some ⟨C.P,0,none⟩)) rfl ?_;(try go_simp);refine tk 7 (.pointer (some ⟨C.P,10,none⟩)) rfl ?_;(try go_simp);refine tk 8 (.pointer (some ⟨C.P,10+B,none⟩)) rfl ?_;(try go_simp);refine tk 11 (.pointer (some ⟨C.P,0,none⟩)) rfl ?_;(try go_simp);refine tk 12 (.pointer (some ⟨C.P,10,none⟩)) rfl ?_;(try go_simp);refine rd1 9 rfl fun K hK=>?_;go_simp;refine hK.out _ _ ?_ (fun hHeld=>?_)
 ·first|assumption|(go_keep;done)|exact HKp.out _ _
 clear hK K;(try go_simp);refine rd1 10 rfl fun K hK=>?_;refine step_call rfl 133 en_doToFloat _ _ rfl [.int .i64 (s.rg B)] rfl (fun v w'=>v=.int .i64 (cb (floatOfInt .f64 (s.rg B)))∧w'=(w.alloc (Obj.cells #[.int .i64 op,.int .i64 (A:Int),.int .i64 (B:Int),.int .i64 c,.int .i64 n] 97)).drew) ((fromint_any (s.rg B) _).mono (by rintro e1 w1 ⟨rfl,rfl⟩;exact⟨_,rfl,rfl,rfl⟩)) ?_;intro u2 w2 hc2;obtain⟨rfl,rfl⟩:=hc2;refine hK.out _ _ ?_ (fun hHeld=>?_)
 ·first|assumption|(go_keep;done)|exact HKp.out _ _
 clear hK K;(try go_simp);refine tk 13 (.pointer (some ⟨C.P,10+A,none⟩)) rfl ?_;(try go_simp);refine rd1 14 rfl fun K hK=>?_;go_simp;refine hK.out _ _ ?_ (fun hHeld=>?_)
 ·first|assumption|(go_keep;done)|exact HKp.out _ _
 clear hK K;(try go_simp);refine wpAnyH_done (by kernel_rfl) ?_ _;go_wp2_with fail
 go_end0;exact HZ.out _ (by first|exact later_ad _ _|exact later_a _ _)
theorem en_doSame:Enters Tryz.prog 131:=enters_of Tryz.func131 (by kernel_rfl) (by kernel_rfl)
theorem doSame_any {C:Cx}(hC:CxI C) {w:World}{s:Vm}{iv ov rv:Value}(h:Pv C w s (s.top C.x) (codeP C s.fn) iv ov rv) {A B D:Nat}(hA:A<16) (hB:B<16) (hD:D<16) (op n:Int) :
  Calls Tryz.prog 95 #[.pointer (some ⟨C.P,0,none⟩),.agg #[.int .i64 op,.int .i64 (A:Int),.int .i64 (B:Int),.int .i64 (D:Int),.int .i64 n]] w (StQ C ov (.go (s.set (A:Int) (b2i (s.rg B==s.rg D))))):=by
 obtain⟨cr,zr⟩:=h.reg hA;obtain⟨crb,_⟩:=h.reg hB;have i1:(A:Int)<16:=by omega
 have i2:(B:Int)<16:=by omega
 obtain⟨crd,_⟩:=h.reg hD;have i3:(D:Int)<16:=by omega
 have HZ:Hid (∀ w',Later (w.setCell ⟨C.P,10+A,none⟩ (.int .i64 (b2i (s.rg B==s.rg D)))) w'→StQ C ov (.go (s.set (A:Int) (b2i (s.rg B==s.rg D)))) unitE w'):=fun w' l=>st_go (h.setReg hC hA _) l
 generalize StQ C ov (.go (s.set (A:Int) (b2i (s.rg B==s.rg D))))=Q at *
 have hlt:=h.box.lt;have hP:¬ C.P=w.heap.size:=by omega
 have HKp:Hid (∀ (a:Addr) (v:Value),((w.setCell a v).alloc (Obj.cells #[.int .i64 op,.int .i64 (A:Int),.int .i64 (B:Int),.int .i64 (D:Int),.int .i64 n] 97)).drew.cell? ⟨w.heap.size,1,none⟩=some (.int .i64 (A:Int))∧((w.setCell a v).alloc (Obj.cells #[.int .i64 op,.int .i64 (A:Int),.int .i64 (B:Int),.int .i64 (D:Int),.int .i64 n] 97)).drew.cell? ⟨w.heap.size,2,none⟩=some (.int .i64 (B:Int))∧((w.setCell a v).alloc (Obj.cells #[.int .i64 op,.int .i64 (A:Int),.int .i64 (B:Int),.int .i64 (D:Int),.int .i64 n] 97)).drew.cell? ⟨w.heap.size,3,none⟩=some (.int .i64 (D:Int))):=fun a v=>by
  have hb:=Bx5 (w.setCell a v) (.int .i64 op) (.int .i64 (A:Int)) (.int .i64 (B:Int)) (.int .i64 (D:Int)) (.int .i64 n);rw[World.size_setCell]at hb;exact hb
 clear h;unfold unitE at HZ;go_enter Tryz.func95,Tryz.ntmps95;go_wp2_with fail
 refine wp_region_held_drew (S:=fun w'=>w'.cell? ⟨w.heap.size,1,none⟩=some (.int .i64 (A:Int))∧w'.cell? ⟨w.heap.size,2,none⟩=some (.int .i64 (B:Int))∧w'.cell? ⟨w.heap.size,3,none⟩=some (.int .i64 (D:Int))) (by kernel_rfl) (by go_keep) (fun hHeld=>?_);refine tk 0 (.pointer (some ⟨C.P,0,none⟩)) rfl ?_;(try go_simp);refine tk 1 (.pointer (some ⟨w.heap.size,1,none⟩)) rfl ?_;(try go_simp);refine tk 2 (.int .i64 (A:Int)) rfl ?_;(try go_simp);refine tk 3 (.pointer (some ⟨C.P,0,none⟩)) rfl ?_;(try go_simp);refine tk 4 (.pointer (some ⟨w.heap.size,2,none⟩)) rfl ?_;(try go_simp);refine tk 5 (.int .i64 (B:Int)) rfl ?_;(try go_simp);refine tk 6 (.pointer (some ⟨C.P,0,none⟩)) rfl ?_;(try go_simp);refine tk 7 (.pointer (some ⟨C.P,10,none⟩)) rfl ?_;(try go_simp);refine tk 8 (.pointer (some ⟨C.P,10+B,none⟩)) rfl ?_;(try go_simp);refine tk 10 (.pointer (some ⟨C.P,0,none⟩)) rfl ?_;(try go_simp);refine tk 11 (.pointer (some ⟨w.heap.size,3,none⟩)) rfl ?_;(try go_simp);refine tk 12 (.int .i64 (D:Int)) rfl ?_;(try go_simp);refine tk 13 (.pointer (some ⟨C.P,0,none⟩)) rfl ?_;(try go_simp);refine tk 14 (.pointer (some ⟨C.P,10,none⟩)) rfl ?_;(try go_simp);refine tk 15 (.pointer (some ⟨C.P,10+D,none⟩)) rfl ?_;(try go_simp);refine tk 19 (.pointer (some ⟨C.P,0,none⟩)) rfl ?_;(try go_simp);refine tk 20 (.pointer (some ⟨C.P,10,none⟩)) rfl ?_;(try go_simp);refine wpAnyH_ready (rs:=[9,16]) (by kernel_rfl) (by simp) ?_;refine (AllReadyH.cons rfl (fun K hK=>?_) (AllReadyH.cons rfl (fun K hK=>?_) AllReadyH.nil))
 ·go_simp;refine hK.out _ _ ?_ (fun hHeld=>?_)
  ·first|assumption|(go_keep;done)|exact HKp.out _ _
  clear hK K;(try go_simp);refine rd1 16 rfl fun K hK=>?_;go_simp;refine hK.out _ _ ?_ (fun hHeld=>?_)
  ·first|assumption|(go_keep;done)|exact HKp.out _ _
  clear hK K;(try go_simp);refine tk 17 (.bool (s.rg B==s.rg D)) rfl ?_;(try go_simp);refine rd1 18 rfl fun K hK=>?_;refine step_call rfl 131 en_doSame _ _ rfl [.bool (s.rg B==s.rg D)] rfl (fun v w'=>v=.int .i64 (b2i (s.rg B==s.rg D))∧w'=(w.alloc (Obj.cells #[.int .i64 op,.int .i64 (A:Int),.int .i64 (B:Int),.int .i64 (D:Int),.int .i64 n] 97)).drew) ((oneif_any (s.rg B==s.rg D) _).mono (by rintro e1 w1 ⟨rfl,rfl⟩;exact⟨_,rfl,rfl,rfl⟩)) ?_;intro u2 w2 hc2;obtain⟨rfl,rfl⟩:=hc2;refine hK.out _ _ ?_ (fun hHeld=>?_)
  ·first|assumption|(go_keep;done)|exact HKp.out _ _
  clear hK K;(try go_simp);refine tk 21 (.pointer (some ⟨C.P,10+A,none⟩)) rfl ?_;(try go_simp);refine rd1 22 rfl fun K hK=>?_;go_simp;refine hK.out _ _ ?_ (fun hHeld=>?_)
  ·first|assumption|(go_keep;done)|exact HKp.out _ _
  clear hK K;(try go_simp);refine wpAnyH_done (by kernel_rfl) ?_ _;go_wp2_with fail
  go_end0;exact HZ.out _ (by first|exact later_ad _ _|exact later_a _ _)
 ·go_simp;refine hK.out _ _ ?_ (fun hHeld=>?_)
  ·first|assumption|(go_keep;done)|exact HKp.out _ _
  clear hK K;(try go_simp);refine rd1 9 rfl fun K hK=>?_;go_simp;refine hK.out _ _ ?_ (fun hHeld=>?_)
  ·first|assumption|(go_keep;done)|exact HKp.out _ _
  clear hK K;(try go_simp);refine tk 17 (.bool (s.rg B==s.rg D)) rfl ?_;(try go_simp);refine rd1 18 rfl fun K hK=>?_;refine step_call rfl 131 en_doSame _ _ rfl [.bool (s.rg B==s.rg D)] rfl (fun v w'=>v=.int .i64 (b2i (s.rg B==s.rg D))∧w'=(w.alloc (Obj.cells #[.int .i64 op,.int .i64 (A:Int),.int .i64 (B:Int),.int .i64 (D:Int),.int .i64 n] 97)).drew) ((oneif_any (s.rg B==s.rg D) _).mono (by rintro e1 w1 ⟨rfl,rfl⟩;exact⟨_,rfl,rfl,rfl⟩)) ?_;intro u2 w2 hc2;obtain⟨rfl,rfl⟩:=hc2;refine hK.out _ _ ?_ (fun hHeld=>?_)
  ·first|assumption|(go_keep;done)|exact HKp.out _ _
  clear hK K;(try go_simp);refine tk 21 (.pointer (some ⟨C.P,10+A,none⟩)) rfl ?_;(try go_simp);refine rd1 22 rfl fun K hK=>?_;go_simp;refine hK.out _ _ ?_ (fun hHeld=>?_)
  ·first|assumption|(go_keep;done)|exact HKp.out _ _
  clear hK K;(try go_simp);refine wpAnyH_done (by kernel_rfl) ?_ _;go_wp2_with fail
  go_end0;exact HZ.out _ (by first|exact later_ad _ _|exact later_a _ _)
theorem ret_chain {x:Im}{H:Nat}{t:Vm}(h:Iv x H t) (hne:¬ t.W t.fp=0):∃ g q c:Nat,t.W t.fp=(g:Int)∧0<g∧t.W (g+2)=(c:Int)∧c<x.codes.length∧t.fp=g+frN x c∧t.W (t.fp+1)=(q:Int)+1∧q<(cdAt x c).ins.length:=by
 have hch:=h.ch
 obtain⟨k,hk⟩:∃ k,t.calls=k+2:=by
  cases hc:t.calls with
  | zero=>rw[hc,Chain]at hch;exact hch.elim
  | succ k =>
   cases k with
   | zero=>rw[hc,Chain]at hch;exact absurd hch.2 hne
   | succ k=>exact⟨k,rfl⟩
 rw[hk,Chain]at hch;obtain⟨g,q,c,j,e1,h2,e3,h4,h5,h6,h7,h8,h9⟩:=hch;refine⟨g,q,c,e1,h2,e3,h4,h5,h6,?_⟩;rcases Nat.lt_or_ge q (cdAt x c).ins.length with k|k
 ·exact k
 ·rw[List.getElem?_eq_none k]at h7;cases h7
theorem doReturn_any {C:Cx}(hC:CxI C) {w:World}{s:Vm}{iv ov rv:Value}(h:Pv C w s (s.top C.x) (codeP C s.fn) iv ov rv) (hI:Iv C.x C.H s) {A:Nat}(hA:A<16) (op b c n:Int) (hn:n=0∨n=1) :
  Calls Tryz.prog 110 #[.pointer (some ⟨C.P,0,none⟩),.agg #[.int .i64 op,.int .i64 (A:Int),.int .i64 b,.int .i64 c,.int .i64 n]] w (StQ C ov (s.ret ⟨op,(A:Int),b,c,n⟩)):=by
 have hN:=hC.hN;have hlt:=h.box.lt;have hP:¬ C.P=w.heap.size:=by omega
 obtain⟨cr,zr⟩:=h.reg hA;obtain⟨c0,z0⟩:=h.reg (a:=0) (by decide);have i1:(A:Int)<16:=by omega
 have HS:Hid (∃ t,t=(if n=1 then s.set 0 (s.rg A) else s)):=⟨_,rfl⟩
 obtain⟨t,ht⟩:=HS.out;have hIt:Iv C.x C.H t:=by rw[ht];split;exact hI.set _ _;exact hI
 have HQf:Hid (∀ m w',t.W t.fp=0→PanQ C t ov 1 0 m w'→StQ C ov (s.ret ⟨op,(A:Int),b,c,n⟩) m w'):=fun m w' hz p=>by
  have:s.ret ⟨op,(A:Int),b,c,n⟩=.fin 1 0 t:=by
   unfold Vm.ret;show (if (if n=1 then s.set 0 (s.rg A) else s).W (if n=1 then s.set 0 (s.rg A) else s).fp=0 then _ else _)=_;rw[←ht,if_pos hz];exact congrArg (St.fin 1 0) ht.symm
  rw[this];exact p
 have HQg:Hid (∀ w',¬ t.W t.fp=0→(∃ iv ov' rv,Pv C w' { t with pc:=(t.W (t.fp+1)).toNat,fp:=(t.W t.fp).toNat,fn:=(t.W ((t.W t.fp).toNat+2)).toNat,calls:=t.calls - 1 } ((t.W t.fp).toNat+frN C.x (t.W ((t.W t.fp).toNat+2)).toNat) (codeP C (t.W ((t.W t.fp).toNat+2)).toNat) iv ov' rv)→StQ C ov (s.ret ⟨op,(A:Int),b,c,n⟩) unitE w'):=fun w' hz p=>by
  have:s.ret ⟨op,(A:Int),b,c,n⟩=.go { t with pc:=(t.W (t.fp+1)).toNat,fp:=(t.W t.fp).toNat,fn:=(t.W ((t.W t.fp).toNat+2)).toNat,calls:=t.calls - 1 }:=by
   unfold Vm.ret;show (if (if n=1 then s.set 0 (s.rg A) else s).W (if n=1 then s.set 0 (s.rg A) else s).fp=0 then _ else _)=_;rw[←ht,if_neg hz];show St.go _=St.go _;rw[ht];rfl
  rw[this];exact⟨rfl,p⟩
 generalize StQ C ov (s.ret ⟨op,(A:Int),b,c,n⟩)=Q at *
 have hst:Hid (s.top C.x=t.top C.x∧s.fn=t.fn):=by
  show _∧_;rw[ht];split
  ·exact⟨rfl,rfl⟩
  ·exact⟨rfl,rfl⟩
 go_enter Tryz.func110,Tryz.ntmps110;go_upto_if 7 with fail
 go_cut [3] from 5 (fun s3 wx=>Hid (Pv C wx t (t.top C.x) (codeP C t.fn) iv ov rv))
 case first =>
  rcases hn with rfl|rfl
  ·have HP:Hid (∀ w',Later w w'→Pv C w' t (t.top C.x) (codeP C t.fn) iv ov rv):=fun w' l=>by
    rw[←hst.out.1,← hst.out.2,ht,if_neg (by decide)];exact h.kept l
   clear HQf HQg h hI hIt ht HS hst;go_wp2_with fail
   go_meet
   case rel=>exact HP.out _ (later_a _ _)
  ·have HP:Hid (∀ w',Later (w.setCell ⟨C.P,10,none⟩ (.int .i64 (s.rg A))) w'→Pv C w' t (t.top C.x) (codeP C t.fn) iv ov rv):=fun w' l=>by
    rw[←hst.out.1,← hst.out.2,ht,if_pos rfl];exact (h.setReg hC (a:=0) (by decide) (s.rg A)).kept l
   clear HQf HQg h hI hIt ht HS hst;rw[Nat.add_zero]at c0 z0;go_wp2_with fail
   go_region
   go_wp2_with fail
   go_meet
   case rel=>exact HP.out _ (by first|exact later_ad _ _|exact later_a _ _)
 case rest =>
  have p:=hcut.out;clear h hI ht HS hst cr zr c0 z0;have hb2:=hIt.b2;have hb3:=hIt.b3;have htop:t.top C.x=t.fp+frN C.x t.fn:=rfl;have hfr:=(hC.xi.at hIt.fn).fr;have hcl:=hIt.c1;have hc1:=hIt.cpos;obtain⟨d9,_⟩:=p.c9;obtain⟨d57,_⟩:=p.c57;obtain⟨dw,_⟩:=p.word (a:=t.fp) (by omega);have g1:(t.fp:Int)<(C.N:Int):=by omega
  have g2:(t.fp:Int)≤12000:=by omega
  by_cases hz:t.W t.fp=0
  ·have HPn:Hid (∀ w',Later wc w'→Q (finP 1 0) w'):=fun w' l=>HQf.out _ w' hz ⟨rfl,t,_,_,iv,rv,p.kept l,rfl,rfl,rfl,rfl⟩;rw[hz]at dw;clear HQf HQg p hcut hIt hfr htop;go_wp2_with fail
   go_quiet (fail)
   go_wp2_with fail
   refine (must_no 1 0 _).mono ?_;rintro n2 w2 ⟨rfl,l2⟩;have HP:=HPn.out w2 ((Later.drewN' _ _).trans l2);clear HPn;unfold finP at HP ⊢;go_wp2_with fail
   exact⟨rfl,HP⟩
  ·obtain⟨g,q,c2,e1,e2,e3,e4,e5,e6,e7⟩:=ret_chain hIt hz;have hfr2:=(hC.xi.at e4).fr;have hi6:=(hC.xi.at e4).i6;obtain⟨dw1,_⟩:=p.word (a:=t.fp+1) (by omega);have hQ:=fun w'=>HQg.out w' hz;rw[e1]at dw hQ;rw[show ((g:Int)).toNat=g from rfl,e3,show ((c2:Int)).toNat=c2 from rfl,← e5]at hQ
   obtain⟨q1,hq1⟩:∃ q1,q1=q+1:=⟨_,rfl⟩
   have e6':t.W (t.fp+1)=(q1:Int):=by omega
   rw[e6']at dw1 hQ;rw[show ((q1:Int)).toNat=q1 from rfl]at hQ;have HK:Hid (∀ w',Later wc w'→Pv C w' t (t.top C.x) (codeP C t.fn) iv ov rv):=fun w' l=>p.kept l;have HC2:Hid (∀ w' u,Pv C w' { t with pc:=u } (t.top C.x) (codeP C t.fn) iv ov rv→Calls Tryz.prog 143 #[.pointer (some ⟨C.P,0,none⟩),.int .i64 (g:Int)] w' (DrQ (.returned (codeP C c2)) w')):=fun w' u pp=>icode_any hC pp (by omega) e3 e4
   have HS2:Hid (∀ w',Pv C w' { t with pc:=q1 } (t.top C.x) (codeP C t.fn) iv ov rv→Pv C ((((w'.setCell ⟨C.P,60,none⟩ (codeP C c2)).setCell ⟨C.P,57,none⟩ (.int .i64 (g:Int))).setCell ⟨C.P,58,none⟩ (.int .i64 (t.fp:Int))).setCell ⟨C.P,56,none⟩ (.int .i64 ((t.calls - 1:Nat):Int))) { t with pc:=q1,fp:=g,fn:=c2,calls:=t.calls - 1 } t.fp (codeP C c2) iv ov rv):=fun w' pp=>by
    have b1:=pp.setP hC (s':={ t with pc:=q1 }) (o:=60) (v:=codeP C c2) (by decide) (e':=t.top C.x) (cp':=codeP C c2) (map_ext rfl) rfl rfl rfl rfl rfl;have b2:=b1.setP hC (s':={ t with pc:=q1,fp:=g,fn:=c2 }) (o:=57) (v:=.int .i64 (g:Int)) (by decide) (e':=t.top C.x) (cp':=codeP C c2) (map_ext rfl) rfl rfl rfl rfl rfl;have b3:=b2.setP hC (s':={ t with pc:=q1,fp:=g,fn:=c2 }) (o:=58) (v:=.int .i64 (t.fp:Int)) (by decide) (e':=t.fp) (cp':=codeP C c2) (map_ext rfl) rfl rfl rfl rfl rfl;exact b3.setP hC (s':={ t with pc:=q1,fp:=g,fn:=c2,calls:=t.calls - 1 }) (o:=56) (v:=.int .i64 ((t.calls - 1:Nat):Int)) (by decide) (e':=t.fp) (cp':=codeP C c2) (map_ext rfl) rfl rfl rfl rfl rfl
   have HS1:Hid (∀ w',Later wc w'→Pv C (w'.setCell ⟨C.P,59,none⟩ (.int .i64 (q1:Int))) { t with pc:=q1 } (t.top C.x) (codeP C t.fn) iv ov rv):=fun w' l=>(p.kept l).setP hC (s':={ t with pc:=q1 }) (o:=59) (v:=.int .i64 (q1:Int)) (by decide) (e':=t.top C.x) (cp':=codeP C t.fn) (map_ext rfl) rfl rfl rfl rfl rfl;have hzb:((g:Int) != 0)=true:=by simp;omega
   obtain⟨f1,hf1⟩:∃ f1,f1=t.fp+1:=⟨_,rfl⟩
   rw[←hf1]at dw1;have g3:(t.fp:Int)+1=(f1:Int):=by omega
   have g4:(f1:Int)<(C.N:Int):=by omega
   have g5:(f1:Int)≤12000:=by omega
   have g6:(t.calls:Int) - 1=((t.calls - 1:Nat):Int):=by omega
   have g7:((t.calls - 1:Nat):Int)≤60:=by omega
   generalize t.calls - 1=cn at *
   have HL:Hid (∀ w',Later wc w'→w'.cell? ⟨C.P,9,none⟩=some (.slice (some ⟨C.WB,0,none⟩) C.N C.N)∧w'.cell? ⟨C.P,57,none⟩=some (.int .i64 (t.fp:Int))∧w'.cell? ⟨C.WB,f1,none⟩=some (.int .i64 (q1:Int))∧(∃ u,w'.cell? ⟨C.P,59,none⟩=some u)∧w'.frozen? ⟨C.P,59,none⟩=false):=fun w' l=>by
    have k:=p.kept l;have kw:=k.word (a:=f1) (by omega);rw[hf1,e6',← hf1]at kw;exact⟨k.c9.1,k.c57.1,kw.1,⟨_,k.c59.1⟩,k.c59.2⟩
   clear HQf HQg p hcut hIt hfr htop hz e1 e3 e5 e6 e6' e7 hf1 hq1 hfr2 hi6 hb2 hb3 hN;go_wp2_with fail
   go_quiet (fail)
   go_wp2_with fail
   refine (must_yes 1 0 _).mono ?_;rintro n2 w2 ⟨rfl,l2⟩;have l2':Later wc w2:=(Later.drewN' _ _).trans l2;obtain⟨k9,k57,kw1,⟨u59,k59⟩,z59⟩:=HL.out w2 l2';unfold unitE;clear l2 HL;go_wp2_with fail
   go_region
   have pX:=(HS1.out w2 l2').kept (Later.drew _);clear HS1 k9 k57 kw1 k59 z59;go_wp2_with fail
   refine (HC2.out _ q1 pX).mono ?_;rintro n3 w3 ⟨rfl,hk3⟩;have p4:Pv C w3 { t with pc:=q1 } (t.top C.x) (codeP C t.fn) iv ov rv:=by obtain⟨j3,rfl⟩:=hk3;exact pX.kept (Later.drewN' _ _)
   have hE:=hQ _ ⟨iv,ov,rv,HS2.out w3 p4⟩;obtain⟨m60,f60⟩:=p4.c60;obtain⟨m57,f57⟩:=p4.c57;obtain⟨m58,f58⟩:=p4.c58;obtain⟨m56,f56⟩:=p4.c56;have m57':w3.cell? ⟨C.P,57,none⟩=some (.int .i64 (t.fp:Int)):=m57;have m56':w3.cell? ⟨C.P,56,none⟩=some (.int .i64 (t.calls:Int)):=m56;clear pX p4 hk3 HC2 HS2 hQ HK m57 m56 d9 d57 dw dw1;unfold codeP at hE ⊢;unfold unitE at hE;go_wp2_with fail
   first|exact hE|(go_end0;exact hE)
end Go.Proofs.YtjnpncefkigcbaaGreat
