/- My texts T51, T52, T53 in one. -/
import Derived.Test.YtmdejbphoafjlaaGreatDoorGt
import Derived.Test.YtmdejbphoafjlaaGreatDoorGq
import Derived.Test.YtmdejbphoafjlaaGreatDoorGs
import Derived.Deep.RegionHeld3
set_option maxHeartbeats 100000000
set_option maxRecDepth 100000
namespace Go.Proofs.YtmdejbphoafjlaaGreatDoor
open Go.RowKit Go.Lib
theorem hid_ex {α:Type}(x:α):∃ T,Hid (T=x):=⟨x,rfl⟩
theorem expr_11 (K:Nat) (A W w:World) (sv tv:Value) (x0 x1:Option Addr) (y0 z0 y1 z1:Nat) (zs:List Int) (n tk tn:Int) (h:Pr K A W w sv tv zs)  (hb:zs.length+([32,114,101,97,100]).length≤1000000) :
  Calls Tryz.prog 182 #[.pointer (some ⟨K,0,none⟩),.agg #[.int .i64 11,.int .i64 n,.int .i64 tk,.int .i64 tn,.slice x0 y0 z0,.slice x1 y1 z1]] w (PrP K A W sv (atL zs ([32,114,101,97,100]))):=by
 obtain⟨w1,hw1⟩:∃ w1,Hid (w1=w.alloc (.cells #[.int .i64 11,.int .i64 n,.int .i64 tk,.int .i64 tn,.slice x0 y0 z0,.slice x1 y1 z1] 96)):=⟨_,rfl⟩
 have hK:=lt_of_some h.row
 have hA:Pr K A W w1 sv tv zs:=by rw[hw1.out];exact h.alloc _
 have hbx:BxT w.heap.size w1 [.int .i64 11,.int .i64 n,.int .i64 tk,.int .i64 tn,.slice x0 y0 z0,.slice x1 y1 z1] 96:=by rw[hw1.out];exact BxT.new w _ _
 have HC:Hid (∀ i u,[Value.int .i64 11,.int .i64 n,.int .i64 tk,.int .i64 tn,.slice x0 y0 z0,.slice x1 y1 z1][i]?=some u→∀ w',KP K w1 w'→w'.cell? ⟨w.heap.size,i,none⟩=some u):=fun i u hu=>hbx.kp (by decide) (by omega) i u hu
 have hsz:Hid (w.heap.size+1=w1.heap.size):=by rw[hw1.out];show _=_;simp
 have hA1:=hA.from
 obtain⟨T,hT⟩:=hid_ex (atL zs ([32,114,101,97,100]))
 have HF:Hid (∀ w' t',Pr K w1 W w' sv t' T→PrP K A W sv T (.returned (.tuple #[])) w'):=fun w' t' hp=>⟨rfl,t',hp.back hA.kp⟩
 rw[←hT.out]
 clear hbx hA
 go_enter Tryz.func182,Tryz.ntmps182
 go_wp2_with fail
 rw[←hw1.out]
 refine (put1 K w1 W w1 sv tv zs ⟨#[114,101,97,100]⟩ [32,114,101,97,100] rfl hA1 (by decide) hb _ hsz.out).mono ?_
 rintro e wE ⟨rfl,tE,hpE⟩
 rw[←hT.out]at hpE
 go_wp2_with fail
 refine bodyPost_end (results_none rfl _ _ _) rfl ?_
 exact HF.out _ _ hpE
theorem head_9 (K:Nat) (A W w:World) (sv tv:Value) (x0 x1:Option Addr) (y0 z0 y1 z1:Nat) (zs:List Int) (n tk tn:Int) (h:Pr K A W w sv tv zs)  (hb:zs.length+([32,108,101,110]).length≤1000000) :
  Calls Tryz.prog 196 #[.pointer (some ⟨K,0,none⟩),.agg #[.int .i64 9,.int .i64 n,.int .i64 tk,.int .i64 tn,.slice x0 y0 z0,.slice x1 y1 z1]] w (PrP K A W sv (atL zs ([32,108,101,110]))):=by
 obtain⟨w1,hw1⟩:∃ w1,Hid (w1=w.alloc (.cells #[.int .i64 9,.int .i64 n,.int .i64 tk,.int .i64 tn,.slice x0 y0 z0,.slice x1 y1 z1] 96)):=⟨_,rfl⟩
 have hK:=lt_of_some h.row
 have hA:Pr K A W w1 sv tv zs:=by rw[hw1.out];exact h.alloc _
 have hbx:BxT w.heap.size w1 [.int .i64 9,.int .i64 n,.int .i64 tk,.int .i64 tn,.slice x0 y0 z0,.slice x1 y1 z1] 96:=by rw[hw1.out];exact BxT.new w _ _
 have HC:Hid (∀ i u,[Value.int .i64 9,.int .i64 n,.int .i64 tk,.int .i64 tn,.slice x0 y0 z0,.slice x1 y1 z1][i]?=some u→∀ w',KP K w1 w'→w'.cell? ⟨w.heap.size,i,none⟩=some u):=fun i u hu=>hbx.kp (by decide) (by omega) i u hu
 have hsz:Hid (w.heap.size+1=w1.heap.size):=by rw[hw1.out];show _=_;simp
 have hA1:=hA.from
 obtain⟨T,hT⟩:=hid_ex (atL zs ([32,108,101,110]))
 have HF:Hid (∀ w' t',Pr K w1 W w' sv t' T→PrP K A W sv T (.returned (.tuple #[])) w'):=fun w' t' hp=>⟨rfl,t',hp.back hA.kp⟩
 rw[←hT.out]
 clear hbx hA
 go_enter Tryz.func196,Tryz.ntmps196
 go_wp2_with fail
 rw[←hw1.out]
 refine (put1 K w1 W w1 sv tv zs ⟨#[108,101,110]⟩ [32,108,101,110] rfl hA1 (by decide) hb _ hsz.out).mono ?_
 rintro e wE ⟨rfl,tE,hpE⟩
 rw[←hT.out]at hpE
 go_wp2_with fail
 refine bodyPost_end (results_none rfl _ _ _) rfl ?_
 exact HF.out _ _ hpE
theorem head_12 (K:Nat) (A W w:World) (sv tv:Value) (x0 x1:Option Addr) (y0 z0 y1 z1:Nat) (zs:List Int) (n tk tn:Int) (h:Pr K A W w sv tv zs)  (hb:zs.length+([32,105,110,116]).length≤1000000) :
  Calls Tryz.prog 196 #[.pointer (some ⟨K,0,none⟩),.agg #[.int .i64 12,.int .i64 n,.int .i64 tk,.int .i64 tn,.slice x0 y0 z0,.slice x1 y1 z1]] w (PrP K A W sv (atL zs ([32,105,110,116]))):=by
 obtain⟨w1,hw1⟩:∃ w1,Hid (w1=w.alloc (.cells #[.int .i64 12,.int .i64 n,.int .i64 tk,.int .i64 tn,.slice x0 y0 z0,.slice x1 y1 z1] 96)):=⟨_,rfl⟩
 have hK:=lt_of_some h.row
 have hA:Pr K A W w1 sv tv zs:=by rw[hw1.out];exact h.alloc _
 have hbx:BxT w.heap.size w1 [.int .i64 12,.int .i64 n,.int .i64 tk,.int .i64 tn,.slice x0 y0 z0,.slice x1 y1 z1] 96:=by rw[hw1.out];exact BxT.new w _ _
 have HC:Hid (∀ i u,[Value.int .i64 12,.int .i64 n,.int .i64 tk,.int .i64 tn,.slice x0 y0 z0,.slice x1 y1 z1][i]?=some u→∀ w',KP K w1 w'→w'.cell? ⟨w.heap.size,i,none⟩=some u):=fun i u hu=>hbx.kp (by decide) (by omega) i u hu
 have hsz:Hid (w.heap.size+1=w1.heap.size):=by rw[hw1.out];show _=_;simp
 have hA1:=hA.from
 obtain⟨T,hT⟩:=hid_ex (atL zs ([32,105,110,116]))
 have HF:Hid (∀ w' t',Pr K w1 W w' sv t' T→PrP K A W sv T (.returned (.tuple #[])) w'):=fun w' t' hp=>⟨rfl,t',hp.back hA.kp⟩
 rw[←hT.out]
 clear hbx hA
 go_enter Tryz.func196,Tryz.ntmps196
 go_wp2_with fail
 rw[←hw1.out]
 refine (put1 K w1 W w1 sv tv zs ⟨#[105,110,116]⟩ [32,105,110,116] rfl hA1 (by decide) hb _ hsz.out).mono ?_
 rintro e wE ⟨rfl,tE,hpE⟩
 rw[←hT.out]at hpE
 go_wp2_with fail
 refine bodyPost_end (results_none rfl _ _ _) rfl ?_
 exact HF.out _ _ hpE
theorem head_13 (K:Nat) (A W w:World) (sv tv:Value) (x0 x1:Option Addr) (y0 z0 y1 z1:Nat) (zs:List Int) (n tk tn:Int) (h:Pr K A W w sv tv zs)  (hb:zs.length+([32,102,108,111,97,116]).length≤1000000) :
  Calls Tryz.prog 196 #[.pointer (some ⟨K,0,none⟩),.agg #[.int .i64 13,.int .i64 n,.int .i64 tk,.int .i64 tn,.slice x0 y0 z0,.slice x1 y1 z1]] w (PrP K A W sv (atL zs ([32,102,108,111,97,116]))):=by
 obtain⟨w1,hw1⟩:∃ w1,Hid (w1=w.alloc (.cells #[.int .i64 13,.int .i64 n,.int .i64 tk,.int .i64 tn,.slice x0 y0 z0,.slice x1 y1 z1] 96)):=⟨_,rfl⟩
 have hK:=lt_of_some h.row
 have hA:Pr K A W w1 sv tv zs:=by rw[hw1.out];exact h.alloc _
 have hbx:BxT w.heap.size w1 [.int .i64 13,.int .i64 n,.int .i64 tk,.int .i64 tn,.slice x0 y0 z0,.slice x1 y1 z1] 96:=by rw[hw1.out];exact BxT.new w _ _
 have HC:Hid (∀ i u,[Value.int .i64 13,.int .i64 n,.int .i64 tk,.int .i64 tn,.slice x0 y0 z0,.slice x1 y1 z1][i]?=some u→∀ w',KP K w1 w'→w'.cell? ⟨w.heap.size,i,none⟩=some u):=fun i u hu=>hbx.kp (by decide) (by omega) i u hu
 have hsz:Hid (w.heap.size+1=w1.heap.size):=by rw[hw1.out];show _=_;simp
 have hA1:=hA.from
 obtain⟨T,hT⟩:=hid_ex (atL zs ([32,102,108,111,97,116]))
 have HF:Hid (∀ w' t',Pr K w1 W w' sv t' T→PrP K A W sv T (.returned (.tuple #[])) w'):=fun w' t' hp=>⟨rfl,t',hp.back hA.kp⟩
 rw[←hT.out]
 clear hbx hA
 go_enter Tryz.func196,Tryz.ntmps196
 go_wp2_with fail
 rw[←hw1.out]
 refine (put1 K w1 W w1 sv tv zs ⟨#[102,108,111,97,116]⟩ [32,102,108,111,97,116] rfl hA1 (by decide) hb _ hsz.out).mono ?_
 rintro e wE ⟨rfl,tE,hpE⟩
 rw[←hT.out]at hpE
 go_wp2_with fail
 refine bodyPost_end (results_none rfl _ _ _) rfl ?_
 exact HF.out _ _ hpE
theorem expr_2 (K:Nat) (A W w:World) (sv tv:Value) (x0 x1:Option Addr) (y0 z0 y1 z1:Nat) (zs:List Int) (n tk tn:Int) (h:Pr K A W w sv tv zs) (l:List Sc) (hl:RdL W 2 sv (Sc.dats l)) (h0:0≤n) (h1:n<l.length) (hnm:1≤(nmAt l n).length∧midB (nmAt l n)=true) (hb:zs.length+([32,110,105,108,32]++nmAt l n).length≤1000000) :
  Calls Tryz.prog 182 #[.pointer (some ⟨K,0,none⟩),.agg #[.int .i64 2,.int .i64 n,.int .i64 tk,.int .i64 tn,.slice x0 y0 z0,.slice x1 y1 z1]] w (PrP K A W sv (atL zs ([32,110,105,108,32]++nmAt l n))):=by
 obtain⟨w1,hw1⟩:∃ w1,Hid (w1=w.alloc (.cells #[.int .i64 2,.int .i64 n,.int .i64 tk,.int .i64 tn,.slice x0 y0 z0,.slice x1 y1 z1] 96)):=⟨_,rfl⟩
 have hK:=lt_of_some h.row
 have hA:Pr K A W w1 sv tv zs:=by rw[hw1.out];exact h.alloc _
 have hbx:BxT w.heap.size w1 [.int .i64 2,.int .i64 n,.int .i64 tk,.int .i64 tn,.slice x0 y0 z0,.slice x1 y1 z1] 96:=by rw[hw1.out];exact BxT.new w _ _
 have HC:Hid (∀ i u,[Value.int .i64 2,.int .i64 n,.int .i64 tk,.int .i64 tn,.slice x0 y0 z0,.slice x1 y1 z1][i]?=some u→∀ w',KP K w1 w'→w'.cell? ⟨w.heap.size,i,none⟩=some u):=fun i u hu=>hbx.kp (by decide) (by omega) i u hu
 have hsz:Hid (w.heap.size+1=w1.heap.size):=by rw[hw1.out];show _=_;simp
 have hA1:=hA.from
 obtain⟨T,hT⟩:=hid_ex (atL zs ([32,110,105,108,32]++nmAt l n))
 have HF:Hid (∀ w' t',Pr K w1 W w' sv t' T→PrP K A W sv T (.returned (.tuple #[])) w'):=fun w' t' hp=>⟨rfl,t',hp.back hA.kp⟩
 rw[←hT.out]
 clear hbx hA
 go_enter Tryz.func182,Tryz.ntmps182
 go_wp2_with fail
 rw[←hw1.out]
 refine (structName_any K w1 W w1 sv tv zs l n hA1 hl h0 h1 hnm.1).mono ?_
 rintro e w2 ⟨s,rfl,hs,hw⟩
 obtain rfl:=hw
 have hs1:midB (bytesOf s)=true:=by rw[hs];exact hnm.2
 go_wp2_with fail
 refine (put2 K w2 W w2 sv tv zs ⟨#[110,105,108]⟩ s ([32,110,105,108,32]++nmAt l n) (by rw[hs];simp[spread,bytesOf]) hA1 (by decide) hs1 hb _ rfl).mono ?_
 rintro e wE ⟨rfl,tE,hpE⟩
 rw[←hT.out]at hpE
 go_wp2_with fail
 refine bodyPost_end (results_none rfl _ _ _) rfl ?_
 exact HF.out _ _ hpE
theorem expr_4 (K:Nat) (A W w:World) (sv tv:Value) (x0 x1:Option Addr) (y0 z0 y1 z1:Nat) (zs:List Int) (n tk tn:Int) (h:Pr K A W w sv tv zs) (l:List Sc) (hl:RdL W 2 sv (Sc.dats l)) (h0:0≤n) (h1:n<l.length) (hnm:1≤(nmAt l n).length∧midB (nmAt l n)=true) (hb:zs.length+([32,110,101,119,32]++nmAt l n).length≤1000000) :
  Calls Tryz.prog 182 #[.pointer (some ⟨K,0,none⟩),.agg #[.int .i64 4,.int .i64 n,.int .i64 tk,.int .i64 tn,.slice x0 y0 z0,.slice x1 y1 z1]] w (PrP K A W sv (atL zs ([32,110,101,119,32]++nmAt l n))):=by
 obtain⟨w1,hw1⟩:∃ w1,Hid (w1=w.alloc (.cells #[.int .i64 4,.int .i64 n,.int .i64 tk,.int .i64 tn,.slice x0 y0 z0,.slice x1 y1 z1] 96)):=⟨_,rfl⟩
 have hK:=lt_of_some h.row
 have hA:Pr K A W w1 sv tv zs:=by rw[hw1.out];exact h.alloc _
 have hbx:BxT w.heap.size w1 [.int .i64 4,.int .i64 n,.int .i64 tk,.int .i64 tn,.slice x0 y0 z0,.slice x1 y1 z1] 96:=by rw[hw1.out];exact BxT.new w _ _
 have HC:Hid (∀ i u,[Value.int .i64 4,.int .i64 n,.int .i64 tk,.int .i64 tn,.slice x0 y0 z0,.slice x1 y1 z1][i]?=some u→∀ w',KP K w1 w'→w'.cell? ⟨w.heap.size,i,none⟩=some u):=fun i u hu=>hbx.kp (by decide) (by omega) i u hu
 have hsz:Hid (w.heap.size+1=w1.heap.size):=by rw[hw1.out];show _=_;simp
 have hA1:=hA.from
 obtain⟨T,hT⟩:=hid_ex (atL zs ([32,110,101,119,32]++nmAt l n))
 have HF:Hid (∀ w' t',Pr K w1 W w' sv t' T→PrP K A W sv T (.returned (.tuple #[])) w'):=fun w' t' hp=>⟨rfl,t',hp.back hA.kp⟩
 rw[←hT.out]
 clear hbx hA
 go_enter Tryz.func182,Tryz.ntmps182
 go_wp2_with fail
 rw[←hw1.out]
 refine (structName_any K w1 W w1 sv tv zs l n hA1 hl h0 h1 hnm.1).mono ?_
 rintro e w2 ⟨s,rfl,hs,hw⟩
 obtain rfl:=hw
 have hs1:midB (bytesOf s)=true:=by rw[hs];exact hnm.2
 go_wp2_with fail
 refine (put2 K w2 W w2 sv tv zs ⟨#[110,101,119]⟩ s ([32,110,101,119,32]++nmAt l n) (by rw[hs];simp[spread,bytesOf]) hA1 (by decide) hs1 hb _ rfl).mono ?_
 rintro e wE ⟨rfl,tE,hpE⟩
 rw[←hT.out]at hpE
 go_wp2_with fail
 refine bodyPost_end (results_none rfl _ _ _) rfl ?_
 exact HF.out _ _ hpE
theorem expr_3 (K:Nat) (A W w:World) (sv tv:Value) (v0:Value) (x1:Option Addr) (y1 z1:Nat) (zs:List Int) (n tk tn:Int) (h:Pr K A W w sv tv zs) (nm:List Int) (hv0:RdN W v0 nm) (hm:midB nm=true) (hn1:1≤nm.length) (hb:zs.length+(32::nm).length≤1000000) :
  Calls Tryz.prog 182 #[.pointer (some ⟨K,0,none⟩),.agg #[.int .i64 3,.int .i64 n,.int .i64 tk,.int .i64 tn,v0,.slice x1 y1 z1]] w (PrP K A W sv (atL zs (32::nm))):=by
 obtain⟨s,g0,off0,q,rfl,hg0,hs,hcv⟩:=nm_string hv0 hn1
 have hs1:midB (bytesOf s)=true:=by rw[hs];exact hm
 obtain⟨w1,hw1⟩:∃ w1,Hid (w1=w.alloc (.cells #[.int .i64 3,.int .i64 n,.int .i64 tk,.int .i64 tn,.slice (some ⟨g0,off0,none⟩) nm.length q,.slice x1 y1 z1] 96)):=⟨_,rfl⟩
 have hK:=lt_of_some h.row
 have hA:Pr K A W w1 sv tv zs:=by rw[hw1.out];exact h.alloc _
 have hbx:BxT w.heap.size w1 [.int .i64 3,.int .i64 n,.int .i64 tk,.int .i64 tn,.slice (some ⟨g0,off0,none⟩) nm.length q,.slice x1 y1 z1] 96:=by rw[hw1.out];exact BxT.new w _ _
 have HC:Hid (∀ i u,[Value.int .i64 3,.int .i64 n,.int .i64 tk,.int .i64 tn,.slice (some ⟨g0,off0,none⟩) nm.length q,.slice x1 y1 z1][i]?=some u→∀ w',KP K w1 w'→w'.cell? ⟨w.heap.size,i,none⟩=some u):=fun i u hu=>hbx.kp (by decide) (by omega) i u hu
 have hsz:Hid (w.heap.size+1=w1.heap.size):=by rw[hw1.out];show _=_;simp
 have hA1:=hA.from
 obtain⟨T,hT⟩:=hid_ex (atL zs (32::nm))
 have HF:Hid (∀ w' t',Pr K w1 W w' sv t' T→PrP K A W sv T (.returned (.tuple #[])) w'):=fun w' t' hp=>⟨rfl,t',hp.back hA.kp⟩
 rw[←hT.out]
 have cv:=hcv w1 hA.lat
 rw[hw1.out]at cv
 clear hcv
 clear hbx hA
 go_enter Tryz.func182,Tryz.ntmps182
 go_wp2_with fail
 rw[←hw1.out]
 refine (put1 K w1 W w1 sv tv zs s (32::nm) (by rw[hs];simp[spread]) hA1 hs1 hb _ hsz.out).mono ?_
 rintro e wE ⟨rfl,tE,hpE⟩
 rw[←hT.out]at hpE
 go_wp2_with fail
 refine bodyPost_end (results_none rfl _ _ _) rfl ?_
 exact HF.out _ _ hpE
theorem head_6 (K:Nat) (A W w:World) (sv tv:Value) (v0:Value) (x1:Option Addr) (y1 z1:Nat) (zs:List Int) (n tk tn:Int) (h:Pr K A W w sv tv zs) (nm:List Int) (hv0:RdN W v0 nm) (hm:midB nm=true) (hn1:1≤nm.length) (hb:zs.length+(32::nm).length≤1000000) :
  Calls Tryz.prog 196 #[.pointer (some ⟨K,0,none⟩),.agg #[.int .i64 6,.int .i64 n,.int .i64 tk,.int .i64 tn,v0,.slice x1 y1 z1]] w (PrP K A W sv (atL zs (32::nm))):=by
 obtain⟨s,g0,off0,q,rfl,hg0,hs,hcv⟩:=nm_string hv0 hn1
 have hs1:midB (bytesOf s)=true:=by rw[hs];exact hm
 obtain⟨w1,hw1⟩:∃ w1,Hid (w1=w.alloc (.cells #[.int .i64 6,.int .i64 n,.int .i64 tk,.int .i64 tn,.slice (some ⟨g0,off0,none⟩) nm.length q,.slice x1 y1 z1] 96)):=⟨_,rfl⟩
 have hK:=lt_of_some h.row
 have hA:Pr K A W w1 sv tv zs:=by rw[hw1.out];exact h.alloc _
 have hbx:BxT w.heap.size w1 [.int .i64 6,.int .i64 n,.int .i64 tk,.int .i64 tn,.slice (some ⟨g0,off0,none⟩) nm.length q,.slice x1 y1 z1] 96:=by rw[hw1.out];exact BxT.new w _ _
 have HC:Hid (∀ i u,[Value.int .i64 6,.int .i64 n,.int .i64 tk,.int .i64 tn,.slice (some ⟨g0,off0,none⟩) nm.length q,.slice x1 y1 z1][i]?=some u→∀ w',KP K w1 w'→w'.cell? ⟨w.heap.size,i,none⟩=some u):=fun i u hu=>hbx.kp (by decide) (by omega) i u hu
 have hsz:Hid (w.heap.size+1=w1.heap.size):=by rw[hw1.out];show _=_;simp
 have hA1:=hA.from
 obtain⟨T,hT⟩:=hid_ex (atL zs (32::nm))
 have HF:Hid (∀ w' t',Pr K w1 W w' sv t' T→PrP K A W sv T (.returned (.tuple #[])) w'):=fun w' t' hp=>⟨rfl,t',hp.back hA.kp⟩
 rw[←hT.out]
 have cv:=hcv w1 hA.lat
 rw[hw1.out]at cv
 clear hcv
 clear hbx hA
 go_enter Tryz.func196,Tryz.ntmps196
 go_wp2_with fail
 rw[←hw1.out]
 refine (put1 K w1 W w1 sv tv zs s (32::nm) (by rw[hs];simp[spread]) hA1 hs1 hb _ hsz.out).mono ?_
 rintro e wE ⟨rfl,tE,hpE⟩
 rw[←hT.out]at hpE
 go_wp2_with fail
 refine bodyPost_end (results_none rfl _ _ _) rfl ?_
 exact HF.out _ _ hpE
theorem head_5 (K:Nat) (A W w:World) (sv tv:Value) (x0 x1:Option Addr) (y0 z0 y1 z1:Nat) (zs:List Int) (n tk tn:Int) (h:Pr K A W w sv tv zs) (l:List Sc) (hl:RdL W 2 sv (Sc.dats l)) (hnm:NamesTok l) (ht:TyFine l tk tn) (hb:zs.length+([32,109,97,107,101]++sayTy l tk tn).length≤1000000) :
  Calls Tryz.prog 196 #[.pointer (some ⟨K,0,none⟩),.agg #[.int .i64 5,.int .i64 n,.int .i64 tk,.int .i64 tn,.slice x0 y0 z0,.slice x1 y1 z1]] w (PrP K A W sv (atL zs ([32,109,97,107,101]++sayTy l tk tn))):=by
 obtain⟨w1,hw1⟩:∃ w1,Hid (w1=w.alloc (.cells #[.int .i64 5,.int .i64 n,.int .i64 tk,.int .i64 tn,.slice x0 y0 z0,.slice x1 y1 z1] 96)):=⟨_,rfl⟩
 have hK:=lt_of_some h.row
 have hA:Pr K A W w1 sv tv zs:=by rw[hw1.out];exact h.alloc _
 have hbx:BxT w.heap.size w1 [.int .i64 5,.int .i64 n,.int .i64 tk,.int .i64 tn,.slice x0 y0 z0,.slice x1 y1 z1] 96:=by rw[hw1.out];exact BxT.new w _ _
 have HC:Hid (∀ i u,[Value.int .i64 5,.int .i64 n,.int .i64 tk,.int .i64 tn,.slice x0 y0 z0,.slice x1 y1 z1][i]?=some u→∀ w',KP K w1 w'→w'.cell? ⟨w.heap.size,i,none⟩=some u):=fun i u hu=>hbx.kp (by decide) (by omega) i u hu
 have hsz:Hid (w.heap.size+1=w1.heap.size):=by rw[hw1.out];show _=_;simp
 have hA1:=hA.from
 obtain⟨T,hT⟩:=hid_ex (atL zs ([32,109,97,107,101]++sayTy l tk tn))
 have HF:Hid (∀ w' t',Pr K w1 W w' sv t' T→PrP K A W sv T (.returned (.tuple #[])) w'):=fun w' t' hp=>⟨rfl,t',hp.back hA.kp⟩
 rw[←hT.out]
 have hl1:=atL_len zs [32,109,97,107,101]
 rw[List.length_append]at hb
 have hat:atL (atL zs [32,109,97,107,101]) (sayTy l tk tn)=T:=by rw[hT.out];exact atL_at zs ⟨by decide,by decide⟩ _
 have hbm:([32,109,97,107,101]:List Int).length=5:=rfl
 clear hbx hA
 go_enter Tryz.func196,Tryz.ntmps196
 go_wp2_with fail
 rw[←hw1.out]
 refine (put1 K w1 W w1 sv tv zs ⟨#[109,97,107,101]⟩ [32,109,97,107,101] rfl hA1 (by decide) (by omega) _ hsz.out).mono ?_
 rintro e w2 ⟨rfl,t2,hp2⟩
 have q1:=HC.out 2 _ rfl _ hp2.kp
 have q2:=HC.out 3 _ rfl _ hp2.kp
 go_wp2_with fail
 refine (pty_any K w1 W w2 sv t2 _ l tk tn hp2 hl hnm ht (by omega)).mono ?_
 rintro e wE ⟨rfl,tE,hpE⟩
 rw[hat]at hpE
 go_wp2_with fail
 refine bodyPost_end (results_none rfl _ _ _) rfl ?_
 exact HF.out _ _ hpE
theorem expr_5 (K:Nat) (A W w:World) (sv tv:Value) (x0 x1:Option Addr) (y0 z0 y1 z1:Nat) (zs:List Int) (n tk tn:Int) (h:Pr K A W w sv tv zs) (l:List Sc) (hl:RdL W 2 sv (Sc.dats l)) (hnm:NamesTok l) (ht:TyFine l tk tn) (ts:List (List Int)) (hks:KidsP W sv (.slice x1 y1 z1) ts) (hts:ts.length≤1000) (hb:zs.length+(([32,109,97,107,101]++sayTy l tk tn)++((32::[40])++joinL ts++(32::[41]))).length≤1000000) :
  Calls Tryz.prog 182 #[.pointer (some ⟨K,0,none⟩),.agg #[.int .i64 5,.int .i64 n,.int .i64 tk,.int .i64 tn,.slice x0 y0 z0,.slice x1 y1 z1]] w (PrP K A W sv (atL zs (([32,109,97,107,101]++sayTy l tk tn)++((32::[40])++joinL ts++(32::[41]))))):=by
 have hG:Good ([32,109,97,107,101]++sayTy l tk tn):=by
  rcases ty_good hnm ht with e|e
  ·rw[e];exact⟨by simp,rfl⟩
  ·exact Good.app ⟨by decide,by decide⟩ e
 obtain⟨w1,hw1⟩:∃ w1,Hid (w1=w.alloc (.cells #[.int .i64 5,.int .i64 n,.int .i64 tk,.int .i64 tn,.slice x0 y0 z0,.slice x1 y1 z1] 96)):=⟨_,rfl⟩
 have hK:=lt_of_some h.row
 have hA:Pr K A W w1 sv tv zs:=by rw[hw1.out];exact h.alloc _
 have hbx:BxT w.heap.size w1 [.int .i64 5,.int .i64 n,.int .i64 tk,.int .i64 tn,.slice x0 y0 z0,.slice x1 y1 z1] 96:=by rw[hw1.out];exact BxT.new w _ _
 have HC:Hid (∀ i u,[Value.int .i64 5,.int .i64 n,.int .i64 tk,.int .i64 tn,.slice x0 y0 z0,.slice x1 y1 z1][i]?=some u→∀ w',KP K w1 w'→w'.cell? ⟨w.heap.size,i,none⟩=some u):=fun i u hu=>hbx.kp (by decide) (by omega) i u hu
 have hsz:Hid (w.heap.size+1=w1.heap.size):=by rw[hw1.out];show _=_;simp
 have hA1:=hA.from
 obtain⟨T,hT⟩:=hid_ex (atL zs (([32,109,97,107,101]++sayTy l tk tn)++((32::[40])++joinL ts++(32::[41]))))
 have HF:Hid (∀ w' t',Pr K w1 W w' sv t' T→PrP K A W sv T (.returned (.tuple #[])) w'):=fun w' t' hp=>⟨rfl,t',hp.back hA.kp⟩
 rw[←hT.out]
 have hl1:=atL_len zs ([32,109,97,107,101]++sayTy l tk tn)
 rw[List.length_append]at hb
 have hat:atL (atL zs ([32,109,97,107,101]++sayTy l tk tn)) ((32::[40])++joinL ts++(32::[41]))=T:=by rw[hT.out];exact atL_at zs hG _
 have qq0:=HC.out 0 _ rfl _ hA.from.kp
 clear hbx hA
 go_enter Tryz.func182,Tryz.ntmps182
 go_wp2_with fail
 rw[←hw1.out]
 refine (head_5 K w1 W w1 sv tv x0 x1 y0 z0 y1 z1 zs n tk tn hA1 l hl hnm ht (by omega)).mono ?_
 rintro e w2 ⟨rfl,t2,hp2⟩
 have q5:=HC.out 5 _ rfl _ hp2.kp
 go_wp2_with fail
 refine (within_of K w1 W w2 sv t2 _ _ [40] [41] ⟨#[40]⟩ ⟨#[41]⟩ ts hp2 hks rfl rfl rfl rfl hts (by omega)).mono ?_
 rintro e wE ⟨rfl,tE,hpE⟩
 rw[hat]at hpE
 go_wp2_with fail
 refine bodyPost_end (results_none rfl _ _ _) rfl ?_
 exact HF.out _ _ hpE
theorem expr_6 (K:Nat) (A W w:World) (sv tv:Value) (v0:Value) (x1:Option Addr) (y1 z1:Nat) (zs:List Int) (n tk tn:Int) (h:Pr K A W w sv tv zs) (nm:List Int) (hv0:RdN W v0 nm) (hm:midB nm=true) (hn1:1≤nm.length) (ts:List (List Int)) (hks:KidsP W sv (.slice x1 y1 z1) ts) (hts:ts.length≤1000) (hb:zs.length+((32::nm)++((32::[40])++joinL ts++(32::[41]))).length≤1000000) :
  Calls Tryz.prog 182 #[.pointer (some ⟨K,0,none⟩),.agg #[.int .i64 6,.int .i64 n,.int .i64 tk,.int .i64 tn,v0,.slice x1 y1 z1]] w (PrP K A W sv (atL zs ((32::nm)++((32::[40])++joinL ts++(32::[41]))))):=by
 obtain⟨b0,q0,rfl,hbl⟩:=hv0.slice
 have hG:Good (32::nm):=Good.cons hm
 obtain⟨w1,hw1⟩:∃ w1,Hid (w1=w.alloc (.cells #[.int .i64 6,.int .i64 n,.int .i64 tk,.int .i64 tn,.slice b0 nm.length q0,.slice x1 y1 z1] 96)):=⟨_,rfl⟩
 have hK:=lt_of_some h.row
 have hA:Pr K A W w1 sv tv zs:=by rw[hw1.out];exact h.alloc _
 have hbx:BxT w.heap.size w1 [.int .i64 6,.int .i64 n,.int .i64 tk,.int .i64 tn,.slice b0 nm.length q0,.slice x1 y1 z1] 96:=by rw[hw1.out];exact BxT.new w _ _
 have HC:Hid (∀ i u,[Value.int .i64 6,.int .i64 n,.int .i64 tk,.int .i64 tn,.slice b0 nm.length q0,.slice x1 y1 z1][i]?=some u→∀ w',KP K w1 w'→w'.cell? ⟨w.heap.size,i,none⟩=some u):=fun i u hu=>hbx.kp (by decide) (by omega) i u hu
 have hsz:Hid (w.heap.size+1=w1.heap.size):=by rw[hw1.out];show _=_;simp
 have hA1:=hA.from
 obtain⟨T,hT⟩:=hid_ex (atL zs ((32::nm)++((32::[40])++joinL ts++(32::[41]))))
 have HF:Hid (∀ w' t',Pr K w1 W w' sv t' T→PrP K A W sv T (.returned (.tuple #[])) w'):=fun w' t' hp=>⟨rfl,t',hp.back hA.kp⟩
 rw[←hT.out]
 have hl1:=atL_len zs (32::nm)
 rw[List.length_append]at hb
 have hat:atL (atL zs (32::nm)) ((32::[40])++joinL ts++(32::[41]))=T:=by rw[hT.out];exact atL_at zs hG _
 have qq0:=HC.out 0 _ rfl _ hA.from.kp
 clear hbx hA
 go_enter Tryz.func182,Tryz.ntmps182
 go_wp2_with fail
 rw[←hw1.out]
 refine (head_6 K w1 W w1 sv tv (.slice b0 nm.length q0) x1 y1 z1 zs n tk tn hA1 nm hv0 hm hn1 (by omega)).mono ?_
 rintro e w2 ⟨rfl,t2,hp2⟩
 have q5:=HC.out 5 _ rfl _ hp2.kp
 go_wp2_with fail
 refine (within_of K w1 W w2 sv t2 _ _ [40] [41] ⟨#[40]⟩ ⟨#[41]⟩ ts hp2 hks rfl rfl rfl rfl hts (by omega)).mono ?_
 rintro e wE ⟨rfl,tE,hpE⟩
 rw[hat]at hpE
 go_wp2_with fail
 refine bodyPost_end (results_none rfl _ _ _) rfl ?_
 exact HF.out _ _ hpE
theorem expr_9 (K:Nat) (A W w:World) (sv tv:Value) (x0 x1:Option Addr) (y0 z0 y1 z1:Nat) (zs:List Int) (n tk tn:Int) (h:Pr K A W w sv tv zs)  (ts:List (List Int)) (hks:KidsP W sv (.slice x1 y1 z1) ts) (hts:ts.length≤1000) (hb:zs.length+(([32,108,101,110])++((32::[40])++joinL ts++(32::[41]))).length≤1000000) :
  Calls Tryz.prog 182 #[.pointer (some ⟨K,0,none⟩),.agg #[.int .i64 9,.int .i64 n,.int .i64 tk,.int .i64 tn,.slice x0 y0 z0,.slice x1 y1 z1]] w (PrP K A W sv (atL zs (([32,108,101,110])++((32::[40])++joinL ts++(32::[41]))))):=by
 have hG:Good ([32,108,101,110]):=⟨by decide,by decide⟩
 obtain⟨w1,hw1⟩:∃ w1,Hid (w1=w.alloc (.cells #[.int .i64 9,.int .i64 n,.int .i64 tk,.int .i64 tn,.slice x0 y0 z0,.slice x1 y1 z1] 96)):=⟨_,rfl⟩
 have hK:=lt_of_some h.row
 have hA:Pr K A W w1 sv tv zs:=by rw[hw1.out];exact h.alloc _
 have hbx:BxT w.heap.size w1 [.int .i64 9,.int .i64 n,.int .i64 tk,.int .i64 tn,.slice x0 y0 z0,.slice x1 y1 z1] 96:=by rw[hw1.out];exact BxT.new w _ _
 have HC:Hid (∀ i u,[Value.int .i64 9,.int .i64 n,.int .i64 tk,.int .i64 tn,.slice x0 y0 z0,.slice x1 y1 z1][i]?=some u→∀ w',KP K w1 w'→w'.cell? ⟨w.heap.size,i,none⟩=some u):=fun i u hu=>hbx.kp (by decide) (by omega) i u hu
 have hsz:Hid (w.heap.size+1=w1.heap.size):=by rw[hw1.out];show _=_;simp
 have hA1:=hA.from
 obtain⟨T,hT⟩:=hid_ex (atL zs (([32,108,101,110])++((32::[40])++joinL ts++(32::[41]))))
 have HF:Hid (∀ w' t',Pr K w1 W w' sv t' T→PrP K A W sv T (.returned (.tuple #[])) w'):=fun w' t' hp=>⟨rfl,t',hp.back hA.kp⟩
 rw[←hT.out]
 have hl1:=atL_len zs ([32,108,101,110])
 rw[List.length_append]at hb
 have hat:atL (atL zs ([32,108,101,110])) ((32::[40])++joinL ts++(32::[41]))=T:=by rw[hT.out];exact atL_at zs hG _
 have qq0:=HC.out 0 _ rfl _ hA.from.kp
 clear hbx hA
 go_enter Tryz.func182,Tryz.ntmps182
 go_wp2_with fail
 rw[←hw1.out]
 refine (head_9 K w1 W w1 sv tv x0 x1 y0 z0 y1 z1 zs n tk tn hA1 (by omega)).mono ?_
 rintro e w2 ⟨rfl,t2,hp2⟩
 have q5:=HC.out 5 _ rfl _ hp2.kp
 go_wp2_with fail
 refine (within_of K w1 W w2 sv t2 _ _ [40] [41] ⟨#[40]⟩ ⟨#[41]⟩ ts hp2 hks rfl rfl rfl rfl hts (by omega)).mono ?_
 rintro e wE ⟨rfl,tE,hpE⟩
 rw[hat]at hpE
 go_wp2_with fail
 refine bodyPost_end (results_none rfl _ _ _) rfl ?_
 exact HF.out _ _ hpE
theorem expr_12 (K:Nat) (A W w:World) (sv tv:Value) (x0 x1:Option Addr) (y0 z0 y1 z1:Nat) (zs:List Int) (n tk tn:Int) (h:Pr K A W w sv tv zs)  (ts:List (List Int)) (hks:KidsP W sv (.slice x1 y1 z1) ts) (hts:ts.length≤1000) (hb:zs.length+(([32,105,110,116])++((32::[40])++joinL ts++(32::[41]))).length≤1000000) :
  Calls Tryz.prog 182 #[.pointer (some ⟨K,0,none⟩),.agg #[.int .i64 12,.int .i64 n,.int .i64 tk,.int .i64 tn,.slice x0 y0 z0,.slice x1 y1 z1]] w (PrP K A W sv (atL zs (([32,105,110,116])++((32::[40])++joinL ts++(32::[41]))))):=by
 have hG:Good ([32,105,110,116]):=⟨by decide,by decide⟩
 obtain⟨w1,hw1⟩:∃ w1,Hid (w1=w.alloc (.cells #[.int .i64 12,.int .i64 n,.int .i64 tk,.int .i64 tn,.slice x0 y0 z0,.slice x1 y1 z1] 96)):=⟨_,rfl⟩
 have hK:=lt_of_some h.row
 have hA:Pr K A W w1 sv tv zs:=by rw[hw1.out];exact h.alloc _
 have hbx:BxT w.heap.size w1 [.int .i64 12,.int .i64 n,.int .i64 tk,.int .i64 tn,.slice x0 y0 z0,.slice x1 y1 z1] 96:=by rw[hw1.out];exact BxT.new w _ _
 have HC:Hid (∀ i u,[Value.int .i64 12,.int .i64 n,.int .i64 tk,.int .i64 tn,.slice x0 y0 z0,.slice x1 y1 z1][i]?=some u→∀ w',KP K w1 w'→w'.cell? ⟨w.heap.size,i,none⟩=some u):=fun i u hu=>hbx.kp (by decide) (by omega) i u hu
 have hsz:Hid (w.heap.size+1=w1.heap.size):=by rw[hw1.out];show _=_;simp
 have hA1:=hA.from
 obtain⟨T,hT⟩:=hid_ex (atL zs (([32,105,110,116])++((32::[40])++joinL ts++(32::[41]))))
 have HF:Hid (∀ w' t',Pr K w1 W w' sv t' T→PrP K A W sv T (.returned (.tuple #[])) w'):=fun w' t' hp=>⟨rfl,t',hp.back hA.kp⟩
 rw[←hT.out]
 have hl1:=atL_len zs ([32,105,110,116])
 rw[List.length_append]at hb
 have hat:atL (atL zs ([32,105,110,116])) ((32::[40])++joinL ts++(32::[41]))=T:=by rw[hT.out];exact atL_at zs hG _
 have qq0:=HC.out 0 _ rfl _ hA.from.kp
 clear hbx hA
 go_enter Tryz.func182,Tryz.ntmps182
 go_wp2_with fail
 rw[←hw1.out]
 refine (head_12 K w1 W w1 sv tv x0 x1 y0 z0 y1 z1 zs n tk tn hA1 (by omega)).mono ?_
 rintro e w2 ⟨rfl,t2,hp2⟩
 have q5:=HC.out 5 _ rfl _ hp2.kp
 go_wp2_with fail
 refine (within_of K w1 W w2 sv t2 _ _ [40] [41] ⟨#[40]⟩ ⟨#[41]⟩ ts hp2 hks rfl rfl rfl rfl hts (by omega)).mono ?_
 rintro e wE ⟨rfl,tE,hpE⟩
 rw[hat]at hpE
 go_wp2_with fail
 refine bodyPost_end (results_none rfl _ _ _) rfl ?_
 exact HF.out _ _ hpE
theorem expr_13 (K:Nat) (A W w:World) (sv tv:Value) (x0 x1:Option Addr) (y0 z0 y1 z1:Nat) (zs:List Int) (n tk tn:Int) (h:Pr K A W w sv tv zs)  (ts:List (List Int)) (hks:KidsP W sv (.slice x1 y1 z1) ts) (hts:ts.length≤1000) (hb:zs.length+(([32,102,108,111,97,116])++((32::[40])++joinL ts++(32::[41]))).length≤1000000) :
  Calls Tryz.prog 182 #[.pointer (some ⟨K,0,none⟩),.agg #[.int .i64 13,.int .i64 n,.int .i64 tk,.int .i64 tn,.slice x0 y0 z0,.slice x1 y1 z1]] w (PrP K A W sv (atL zs (([32,102,108,111,97,116])++((32::[40])++joinL ts++(32::[41]))))):=by
 have hG:Good ([32,102,108,111,97,116]):=⟨by decide,by decide⟩
 obtain⟨w1,hw1⟩:∃ w1,Hid (w1=w.alloc (.cells #[.int .i64 13,.int .i64 n,.int .i64 tk,.int .i64 tn,.slice x0 y0 z0,.slice x1 y1 z1] 96)):=⟨_,rfl⟩
 have hK:=lt_of_some h.row
 have hA:Pr K A W w1 sv tv zs:=by rw[hw1.out];exact h.alloc _
 have hbx:BxT w.heap.size w1 [.int .i64 13,.int .i64 n,.int .i64 tk,.int .i64 tn,.slice x0 y0 z0,.slice x1 y1 z1] 96:=by rw[hw1.out];exact BxT.new w _ _
 have HC:Hid (∀ i u,[Value.int .i64 13,.int .i64 n,.int .i64 tk,.int .i64 tn,.slice x0 y0 z0,.slice x1 y1 z1][i]?=some u→∀ w',KP K w1 w'→w'.cell? ⟨w.heap.size,i,none⟩=some u):=fun i u hu=>hbx.kp (by decide) (by omega) i u hu
 have hsz:Hid (w.heap.size+1=w1.heap.size):=by rw[hw1.out];show _=_;simp
 have hA1:=hA.from
 obtain⟨T,hT⟩:=hid_ex (atL zs (([32,102,108,111,97,116])++((32::[40])++joinL ts++(32::[41]))))
 have HF:Hid (∀ w' t',Pr K w1 W w' sv t' T→PrP K A W sv T (.returned (.tuple #[])) w'):=fun w' t' hp=>⟨rfl,t',hp.back hA.kp⟩
 rw[←hT.out]
 have hl1:=atL_len zs ([32,102,108,111,97,116])
 rw[List.length_append]at hb
 have hat:atL (atL zs ([32,102,108,111,97,116])) ((32::[40])++joinL ts++(32::[41]))=T:=by rw[hT.out];exact atL_at zs hG _
 have qq0:=HC.out 0 _ rfl _ hA.from.kp
 clear hbx hA
 go_enter Tryz.func182,Tryz.ntmps182
 go_wp2_with fail
 rw[←hw1.out]
 refine (head_13 K w1 W w1 sv tv x0 x1 y0 z0 y1 z1 zs n tk tn hA1 (by omega)).mono ?_
 rintro e w2 ⟨rfl,t2,hp2⟩
 have q5:=HC.out 5 _ rfl _ hp2.kp
 go_wp2_with fail
 refine (within_of K w1 W w2 sv t2 _ _ [40] [41] ⟨#[40]⟩ ⟨#[41]⟩ ts hp2 hks rfl rfl rfl rfl hts (by omega)).mono ?_
 rintro e wE ⟨rfl,tE,hpE⟩
 rw[hat]at hpE
 go_wp2_with fail
 refine bodyPost_end (results_none rfl _ _ _) rfl ?_
 exact HF.out _ _ hpE
def StrL (w:World) (nm:List Int) (e:Ending) (w':World):Prop:=∃ s,e=.returned (.string s)∧bytesOf s=nm∧Later w w'
structure Env (W:World):Prop where
 ito:∀ (n:Int) (w:World),InR n→Later W w→Calls Tryz.prog 194 #[.int .i64 n] w (StrL w (decL n))
 flo:∀ (n:Int) (w:World),InR n→Later W w→Calls Tryz.prog 195 #[.int .i64 n] w (StrL w (hexL n))
 ops:∀ i:Nat,i<7→∃ s,W.cell? ⟨2,i,none⟩=some (.string s)∧bytesOf s=opL i
 big:2<W.heap.size
theorem midB_snoc (b:List Int) (z:Int) (h:z≠10):midB (b++[z])=true:=by
 unfold midB
 rw[List.getLast?_append]
 simpa using h
theorem midB_digF:∀ (f n:Nat),midB (digF (f+1) n)=true:=by
 intro f
 cases f with
 | zero =>
  intro n
  unfold digF
  split
  ·exact midB_snoc [] _ (by omega)
  ·exact midB_snoc _ _ (by omega)
 | succ f =>
  intro n
  unfold digF
  split
  ·exact midB_snoc [] _ (by omega)
  ·exact midB_snoc _ _ (by omega)
theorem midB_dec (n:Int):midB (decL n)=true:=by
 unfold decL
 split
 ·exact midB_append [45] (midB_digF 19 _)
 ·exact midB_digF 19 _
theorem midB_hex (n:Int):midB (hexL n)=true:=by
 unfold hexL
 refine midB_append _ ?_
 rw[hexF]
 refine midB_snoc _ _ ?_
 unfold hexD
 split <;> omega
theorem midB_op (n:Int):midB (opL n)=true:=by
 unfold opL
 split
 ·rfl
 split
 ·rfl
 split
 ·rfl
 split
 ·rfl
 split
 ·rfl
 split
 ·rfl
 rfl
theorem expr_0 (K:Nat) (A W w:World) (sv tv:Value) (x0 x1:Option Addr) (y0 z0 y1 z1:Nat) (zs:List Int) (n tk tn:Int) (h:Pr K A W w sv tv zs) (hE:Env W) (hn:InR n) (hb:zs.length+(32::decL n).length≤1000000) :
  Calls Tryz.prog 182 #[.pointer (some ⟨K,0,none⟩),.agg #[.int .i64 0,.int .i64 n,.int .i64 tk,.int .i64 tn,.slice x0 y0 z0,.slice x1 y1 z1]] w (PrP K A W sv (atL zs (32::decL n))):=by
 obtain⟨w1,hw1⟩:∃ w1,Hid (w1=w.alloc (.cells #[.int .i64 0,.int .i64 n,.int .i64 tk,.int .i64 tn,.slice x0 y0 z0,.slice x1 y1 z1] 96)):=⟨_,rfl⟩
 have hK:=lt_of_some h.row
 have hA:Pr K A W w1 sv tv zs:=by rw[hw1.out];exact h.alloc _
 have hbx:BxT w.heap.size w1 [.int .i64 0,.int .i64 n,.int .i64 tk,.int .i64 tn,.slice x0 y0 z0,.slice x1 y1 z1] 96:=by rw[hw1.out];exact BxT.new w _ _
 have HC:Hid (∀ i u,[Value.int .i64 0,.int .i64 n,.int .i64 tk,.int .i64 tn,.slice x0 y0 z0,.slice x1 y1 z1][i]?=some u→∀ w',KP K w1 w'→w'.cell? ⟨w.heap.size,i,none⟩=some u):=fun i u hu=>hbx.kp (by decide) (by omega) i u hu
 have hsz:Hid (w.heap.size+1=w1.heap.size):=by rw[hw1.out];show _=_;simp
 have hA1:=hA.from
 obtain⟨T,hT⟩:=hid_ex (atL zs (32::decL n))
 have HF:Hid (∀ w' t',Pr K w1 W w' sv t' T→PrP K A W sv T (.returned (.tuple #[])) w'):=fun w' t' hp=>⟨rfl,t',hp.back hA.kp⟩
 rw[←hT.out]
 clear hbx hA
 go_enter Tryz.func182,Tryz.ntmps182
 go_wp2_with fail
 rw[←hw1.out]
 refine (hE.ito n w1 hn hA1.lat).mono ?_
 rintro e w2 ⟨s,rfl,hs,hw⟩
 have hs1:midB (bytesOf s)=true:=by rw[hs];exact midB_dec n
 have hp2:=hA1.later hw
 go_wp2_with fail
 refine (put1 K w1 W w2 sv tv zs s (32::decL n) (by rw[hs];simp[spread]) hp2 hs1 hb _ rfl).mono ?_
 rintro e wE ⟨rfl,tE,hpE⟩
 rw[←hT.out]at hpE
 go_wp2_with fail
 refine bodyPost_end (results_none rfl _ _ _) rfl ?_
 exact HF.out _ _ hpE
theorem expr_1 (K:Nat) (A W w:World) (sv tv:Value) (x0 x1:Option Addr) (y0 z0 y1 z1:Nat) (zs:List Int) (n tk tn:Int) (h:Pr K A W w sv tv zs) (hE:Env W) (hn:InR n) (hb:zs.length+(32::hexL n).length≤1000000) :
  Calls Tryz.prog 182 #[.pointer (some ⟨K,0,none⟩),.agg #[.int .i64 1,.int .i64 n,.int .i64 tk,.int .i64 tn,.slice x0 y0 z0,.slice x1 y1 z1]] w (PrP K A W sv (atL zs (32::hexL n))):=by
 obtain⟨w1,hw1⟩:∃ w1,Hid (w1=w.alloc (.cells #[.int .i64 1,.int .i64 n,.int .i64 tk,.int .i64 tn,.slice x0 y0 z0,.slice x1 y1 z1] 96)):=⟨_,rfl⟩
 have hK:=lt_of_some h.row
 have hA:Pr K A W w1 sv tv zs:=by rw[hw1.out];exact h.alloc _
 have hbx:BxT w.heap.size w1 [.int .i64 1,.int .i64 n,.int .i64 tk,.int .i64 tn,.slice x0 y0 z0,.slice x1 y1 z1] 96:=by rw[hw1.out];exact BxT.new w _ _
 have HC:Hid (∀ i u,[Value.int .i64 1,.int .i64 n,.int .i64 tk,.int .i64 tn,.slice x0 y0 z0,.slice x1 y1 z1][i]?=some u→∀ w',KP K w1 w'→w'.cell? ⟨w.heap.size,i,none⟩=some u):=fun i u hu=>hbx.kp (by decide) (by omega) i u hu
 have hsz:Hid (w.heap.size+1=w1.heap.size):=by rw[hw1.out];show _=_;simp
 have hA1:=hA.from
 obtain⟨T,hT⟩:=hid_ex (atL zs (32::hexL n))
 have HF:Hid (∀ w' t',Pr K w1 W w' sv t' T→PrP K A W sv T (.returned (.tuple #[])) w'):=fun w' t' hp=>⟨rfl,t',hp.back hA.kp⟩
 rw[←hT.out]
 clear hbx hA
 go_enter Tryz.func182,Tryz.ntmps182
 go_wp2_with fail
 rw[←hw1.out]
 refine (hE.flo n w1 hn hA1.lat).mono ?_
 rintro e w2 ⟨s,rfl,hs,hw⟩
 have hs1:midB (bytesOf s)=true:=by rw[hs];exact midB_hex n
 have hp2:=hA1.later hw
 go_wp2_with fail
 refine (put1 K w1 W w2 sv tv zs s (32::hexL n) (by rw[hs];simp[spread]) hp2 hs1 hb _ rfl).mono ?_
 rintro e wE ⟨rfl,tE,hpE⟩
 rw[←hT.out]at hpE
 go_wp2_with fail
 refine bodyPost_end (results_none rfl _ _ _) rfl ?_
 exact HF.out _ _ hpE
theorem expr_7 (K:Nat) (A W w:World) (sv tv:Value) (v0 v1:Value) (zs:List Int) (n tk tn:Int) (h:Pr K A W w sv tv zs) (m:Nat) (t0 nm:List Int) (hk0:KidP W sv v1 m 0 t0) (hg0:Good t0) (hv0:RdN W v0 nm) (hm:midB nm=true) (hn1:1≤nm.length) (hb:zs.length+(t0++([32,46,32]++nm)).length≤1000000) :
  Calls Tryz.prog 182 #[.pointer (some ⟨K,0,none⟩),.agg #[.int .i64 7,.int .i64 n,.int .i64 tk,.int .i64 tn,v0,v1]] w (PrP K A W sv (atL zs (t0++([32,46,32]++nm)))):=by
 obtain⟨s,g0,off0,q,rfl,_,hs,hcv⟩:=nm_string hv0 hn1
 have hs1:midB (bytesOf s)=true:=by rw[hs];exact hm
 obtain⟨hm0,g,off,cap1,k0,n0,tk0,tn0,x0,x1,y0,z0,y1,z1,rfl,hgW,hcl,hcall⟩:=hk0
 obtain⟨c0,c1,c2,c3,c4,c5⟩:=hcl w h.lat
 rw[Nat.zero_mul,Nat.add_zero]at c0 c1 c2 c3 c4 c5
 have hgw:g<w.heap.size:=Nat.lt_of_lt_of_le hgW h.lat.size
 have hm0':(0:Int)<(m:Int):=by omega
 obtain⟨w1,hw1⟩:∃ w1,Hid (w1=w.alloc (.cells #[.int .i64 7,.int .i64 n,.int .i64 tk,.int .i64 tn,.slice (some ⟨g0,off0,none⟩) nm.length q,.slice (some ⟨g,off,none⟩) m cap1] 96)):=⟨_,rfl⟩
 have hK:=lt_of_some h.row
 have hA:Pr K A W w1 sv tv zs:=by rw[hw1.out];exact h.alloc _
 have hbx:BxT w.heap.size w1 [.int .i64 7,.int .i64 n,.int .i64 tk,.int .i64 tn,.slice (some ⟨g0,off0,none⟩) nm.length q,.slice (some ⟨g,off,none⟩) m cap1] 96:=by rw[hw1.out];exact BxT.new w _ _
 have HC:Hid (∀ i u,[Value.int .i64 7,.int .i64 n,.int .i64 tk,.int .i64 tn,.slice (some ⟨g0,off0,none⟩) nm.length q,.slice (some ⟨g,off,none⟩) m cap1][i]?=some u→∀ w',KP K w1 w'→w'.cell? ⟨w.heap.size,i,none⟩=some u):=fun i u hu=>hbx.kp (by decide) (by omega) i u hu
 have hsz:Hid (w.heap.size+1=w1.heap.size):=by rw[hw1.out];show _=_;simp
 have hA1:=hA.from
 obtain⟨T,hT⟩:=hid_ex (atL zs (t0++([32,46,32]++nm)))
 have HF:Hid (∀ w' t',Pr K w1 W w' sv t' T→PrP K A W sv T (.returned (.tuple #[])) w'):=fun w' t' hp=>⟨rfl,t',hp.back hA.kp⟩
 rw[←hT.out]
 have hl1:=atL_len zs t0
 rw[List.length_append]at hb
 have hat:atL (atL zs t0) ([32,46,32]++nm)=T:=by rw[hT.out];exact atL_at zs hg0 _
 have HK:=hcall K w1 w1 tv zs hA1 (by omega)
 clear hcl hcall
 clear hbx hA
 go_enter Tryz.func182,Tryz.ntmps182
 go_wp2_with fail
 rw[←hw1.out]
 refine HK.mono ?_
 rintro e w2 ⟨rfl,t2,hp2⟩
 have q4:=HC.out 4 _ rfl _ hp2.kp
 have cv:=hcv w2 hp2.lat
 go_wp2_with fail
 refine (put2 K w1 W w2 sv t2 _ ⟨#[46]⟩ s ([32,46,32]++nm) (by rw[hs];simp[spread,bytesOf]) hp2 (by decide) hs1 (by omega) _ rfl).mono ?_
 rintro e wE ⟨rfl,tE,hpE⟩
 rw[hat]at hpE
 go_wp2_with fail
 refine bodyPost_end (results_none rfl _ _ _) rfl ?_
 exact HF.out _ _ hpE
theorem kids_tail {W:World}{sv:Value}{g off cap:Nat}{t1:List Int}(h:KidP W sv (.slice (some ⟨g,off,none⟩) 2 cap) 2 1 t1) (hg:Good t1) (c:Nat):KidsP W sv (.slice (some ⟨g,off+6,none⟩) 1 c) [t1]:=by
 obtain⟨_,g',off',cap',k,n,tk,tn,x0,x1,y0,z0,y1,z1,e,hgs,hcl,hcall⟩:=h
 cases e
 refine⟨_,c,rfl,by simpa using hg,fun j hj=>?_⟩
 obtain rfl:j=0:=by simpa using hj
 refine⟨by simp,g,off+6,c,k,n,tk,tn,x0,x1,y0,z0,y1,z1,rfl,hgs,fun w' hw=>?_,hcall⟩
 have:=hcl w' hw
 simpa using this
theorem expr_8 (K:Nat) (A W w:World) (sv tv:Value) (v1:Value) (x0:Option Addr) (y0 z0:Nat) (zs:List Int) (n tk tn:Int) (h:Pr K A W w sv tv zs) (t0 t1:List Int) (hk0:KidP W sv v1 2 0 t0) (hk1:KidP W sv v1 2 1 t1) (hg0:Good t0) (hg1:Good t1) (hv1:∃ a c,v1=.slice a 2 c∧2≤c) (hb:zs.length+(t0++((32::[91])++joinL [t1]++(32::[93]))).length≤1000000) :
  Calls Tryz.prog 182 #[.pointer (some ⟨K,0,none⟩),.agg #[.int .i64 8,.int .i64 n,.int .i64 tk,.int .i64 tn,.slice x0 y0 z0,v1]] w (PrP K A W sv (atL zs (t0++((32::[91])++joinL [t1]++(32::[93]))))):=by
 obtain⟨hm0,g,off,cap1,k0,n0,tk0,tn0,xx0,xx1,yy0,zz0,yy1,zz1,rfl,hgW,hcl,hcall⟩:=hk0
 obtain⟨c0,c1,c2,c3,c4,c5⟩:=hcl w h.lat
 rw[Nat.zero_mul,Nat.add_zero]at c0 c1 c2 c3 c4 c5
 have hgw:g<w.heap.size:=Nat.lt_of_lt_of_le hgW h.lat.size
 have hm0':True:=trivial
 have hc2:2≤cap1:=by obtain⟨a,c,e,hc⟩:=hv1;cases e;exact hc
 obtain⟨w1,hw1⟩:∃ w1,Hid (w1=w.alloc (.cells #[.int .i64 8,.int .i64 n,.int .i64 tk,.int .i64 tn,.slice x0 y0 z0,.slice (some ⟨g,off,none⟩) 2 cap1] 96)):=⟨_,rfl⟩
 have hK:=lt_of_some h.row
 have hA:Pr K A W w1 sv tv zs:=by rw[hw1.out];exact h.alloc _
 have hbx:BxT w.heap.size w1 [.int .i64 8,.int .i64 n,.int .i64 tk,.int .i64 tn,.slice x0 y0 z0,.slice (some ⟨g,off,none⟩) 2 cap1] 96:=by rw[hw1.out];exact BxT.new w _ _
 have HC:Hid (∀ i u,[Value.int .i64 8,.int .i64 n,.int .i64 tk,.int .i64 tn,.slice x0 y0 z0,.slice (some ⟨g,off,none⟩) 2 cap1][i]?=some u→∀ w',KP K w1 w'→w'.cell? ⟨w.heap.size,i,none⟩=some u):=fun i u hu=>hbx.kp (by decide) (by omega) i u hu
 have hsz:Hid (w.heap.size+1=w1.heap.size):=by rw[hw1.out];show _=_;simp
 have hA1:=hA.from
 obtain⟨T,hT⟩:=hid_ex (atL zs (t0++((32::[91])++joinL [t1]++(32::[93]))))
 have HF:Hid (∀ w' t',Pr K w1 W w' sv t' T→PrP K A W sv T (.returned (.tuple #[])) w'):=fun w' t' hp=>⟨rfl,t',hp.back hA.kp⟩
 rw[←hT.out]
 have hl1:=atL_len zs t0
 rw[List.length_append]at hb
 have hat:atL (atL zs t0) ((32::[91])++joinL [t1]++(32::[93]))=T:=by rw[hT.out];exact atL_at zs hg0 _
 have HK:=hcall K w1 w1 tv zs hA1 (by omega)
 clear hcl hcall
 clear hbx hA
 go_enter Tryz.func182,Tryz.ntmps182
 go_wp2_with fail
 rw[←hw1.out]
 refine HK.mono ?_
 rintro e w2 ⟨rfl,t2,hp2⟩
 have q5:=HC.out 5 _ rfl _ hp2.kp
 go_wp2_with fail
 refine (within_of K w1 W w2 sv t2 _ _ [91] [93] ⟨#[91]⟩ ⟨#[93]⟩ [t1] hp2 (kids_tail hk1 hg1 _) rfl rfl rfl rfl (by simp) (by omega)).mono ?_
 rintro e wE ⟨rfl,tE,hpE⟩
 rw[hat]at hpE
 go_wp2_with fail
 refine bodyPost_end (results_none rfl _ _ _) rfl ?_
 exact HF.out _ _ hpE
theorem expr_10 (K:Nat) (A W w:World) (sv tv:Value) (x0 x1:Option Addr) (y0 z0 y1 z1:Nat) (zs:List Int) (n tk tn:Int) (h:Pr K A W w sv tv zs) (hE:Env W) (h0:0≤n) (h7:n<7) (ts:List (List Int)) (hks:KidsP W sv (.slice x1 y1 z1) ts) (hts:ts.length≤1000) (hne:ts≠[]) (hb:zs.length+([32,40]++(joinG (opL n) ts++[32,41])).length≤1000000) :
  Calls Tryz.prog 182 #[.pointer (some ⟨K,0,none⟩),.agg #[.int .i64 10,.int .i64 n,.int .i64 tk,.int .i64 tn,.slice x0 y0 z0,.slice x1 y1 z1]] w (PrP K A W sv (atL zs ([32,40]++(joinG (opL n) ts++[32,41])))):=by
 obtain⟨N,rfl⟩:∃ N:Nat,n=N:=⟨n.toNat,by omega⟩
 obtain⟨s,hs0,hs⟩:=hE.ops N (by omega)
 have hbig:=hE.big
 have hG:Good (joinG (opL (N:Int)) ts):=by
  obtain⟨_,_,_,hg,_⟩:=hks
  have:=joinG_good (opL (N:Int)) (midB_op _) ts hg ts.length (by cases ts with|nil=>exact absurd rfl hne|cons a r=>simp) (Nat.le_refl _)
  rwa [List.take_length]at this
 obtain⟨w1,hw1⟩:∃ w1,Hid (w1=w.alloc (.cells #[.int .i64 10,.int .i64 (N:Int),.int .i64 tk,.int .i64 tn,.slice x0 y0 z0,.slice x1 y1 z1] 96)):=⟨_,rfl⟩
 have hK:=lt_of_some h.row
 have hA:Pr K A W w1 sv tv zs:=by rw[hw1.out];exact h.alloc _
 have hbx:BxT w.heap.size w1 [.int .i64 10,.int .i64 (N:Int),.int .i64 tk,.int .i64 tn,.slice x0 y0 z0,.slice x1 y1 z1] 96:=by rw[hw1.out];exact BxT.new w _ _
 have HC:Hid (∀ i u,[Value.int .i64 10,.int .i64 (N:Int),.int .i64 tk,.int .i64 tn,.slice x0 y0 z0,.slice x1 y1 z1][i]?=some u→∀ w',KP K w1 w'→w'.cell? ⟨w.heap.size,i,none⟩=some u):=fun i u hu=>hbx.kp (by decide) (by omega) i u hu
 have hsz:Hid (w.heap.size+1=w1.heap.size):=by rw[hw1.out];show _=_;simp
 have hA1:=hA.from
 obtain⟨T,hT⟩:=hid_ex (atL zs ([32,40]++(joinG (opL (N:Int)) ts++[32,41])))
 have HF:Hid (∀ w' t',Pr K w1 W w' sv t' T→PrP K A W sv T (.returned (.tuple #[])) w'):=fun w' t' hp=>⟨rfl,t',hp.back hA.kp⟩
 rw[←hT.out]
 have hl1:=atL_len zs [32,40]
 have hl2:=atL_len zs ([32,40]++joinG (opL (N:Int)) ts)
 rw[List.length_append,List.length_append]at hb
 rw[List.length_append]at hl2
 have hb0:([32,40]:List Int).length=2:=rfl
 have hb1:([32,41]:List Int).length=2:=rfl
 have hat1:atL (atL zs [32,40]) (joinG (opL (N:Int)) ts)=atL zs ([32,40]++joinG (opL (N:Int)) ts):=atL_at zs ⟨by decide,by decide⟩ _
 have hat:atL (atL zs ([32,40]++joinG (opL (N:Int)) ts)) [32,41]=T:=by rw[hT.out,← List.append_assoc];exact atL_at zs (Good.app ⟨by decide,by decide⟩ hG) _
 have hN:N<7:=by omega
 have hN':(N:Int)<7:=by omega
 clear hbx hA
 go_enter Tryz.func182,Tryz.ntmps182
 go_wp2_with fail
 rw[←hw1.out]
 refine (put1 K w1 W w1 sv tv zs ⟨#[40]⟩ [32,40] rfl hA1 (by decide) (by omega) _ hsz.out).mono ?_
 rintro e w2 ⟨rfl,t2,hp2⟩
 have q1:=HC.out 1 _ rfl _ hp2.kp
 have q5:=HC.out 5 _ rfl _ hp2.kp
 have qs:=hp2.at hbig hs0
 have HS:Hid (∀ w',KP K w1 w'→Later W w'→(fun w'=>w'.cell? ⟨w.heap.size,5,none⟩=some (.slice x1 y1 z1)∧w'.cell? ⟨w.heap.size,1,none⟩=some (.int .i64 (N:Int))∧w'.cell? ⟨2,N,none⟩=some (.string s)) w'):=fun w' k la=>⟨HC.out 5 _ rfl _ k,HC.out 1 _ rfl _ k,by rw[la.cell (p:=⟨2,N,none⟩) hbig];exact hs0⟩
 have hpd:=hp2.later (Later.drew w2)
 go_wp2_with fail
 go_region_held3 (fun w'=>w'.cell? ⟨w.heap.size,5,none⟩=some (.slice x1 y1 z1)∧w'.cell? ⟨w.heap.size,1,none⟩=some (.int .i64 (N:Int))∧w'.cell? ⟨2,N,none⟩=some (.string s)) (first|exact HS.out _ hpd.kp hpd.lat|exact HS.out _ hp3.kp hp3.lat) ((go_at_call 181;refine (exprs_of K w1 W _ sv t2 _ _ (opL (N:Int)) s ts hpd hks hs (midB_op _) hts (by omega)).mono ?_;rintro e w3 ⟨rfl,t3,hp3⟩))
 rw[hat1]at hp3
 go_wp2_with fail
 refine (put1 K w1 W w3 sv t3 _ ⟨#[41]⟩ [32,41] rfl hp3 (by decide) (by omega) _ rfl).mono ?_
 rintro e wE ⟨rfl,tE,hpE⟩
 rw[hat]at hpE
 go_wp2_with fail
 refine bodyPost_end (results_none rfl _ _ _) rfl ?_
 exact HF.out _ _ hpE
structure NodeTk (l:List Sc) (k n tk tn:Int) (name:List Int) (m:Nat):Prop where
 tok:k=3∨k=6∨k=7→midB name=true
 two:k=8∨k=10→m=2
 ty:k=5→TyFine l tk tn
inductive Ex.FineI (l:List Sc):Ex→Prop
 | mk {k n tk tn:Int}{name:List Int}{kids:List Ex}(h:NodeOk l k n tk tn name kids.length) (ht:NodeTk l k n tk tn name kids.length) (hs:∀ x∈kids,Ex.FineI l x):Ex.FineI l (.mk k n tk tn name kids)
theorem Ex.FineI.fine {l:List Sc}:∀ {x:Ex},Ex.FineI l x→Ex.Fine l x:=by
 intro x h
 induction h with
 | mk h ht hs ih=>exact .mk h ih
theorem NamesTok.fit {l:List Sc}(h:NamesTok l):NamesFit l:=fun x hx=>(h x hx).1
theorem say_good {l:List Sc}(hnm:NamesTok l) {x:Ex}(h:Ex.FineI l x):Good (Ex.say l x):=by
 refine⟨say_two h.fine,?_⟩
 cases h with
 | @mk k n tk tn name kids h ht hs =>
 rw[Ex.say]
 obtain rfl|rfl|rfl|rfl|rfl|rfl|rfl|rfl|rfl|rfl|rfl|rfl|rfl|rfl:=fourteen h.k0 h.k13
 ·exact midB_append [32] (midB_dec n)
 ·exact midB_append [32] (midB_hex n)
 ·exact midB_append [32,110,105,108,32] (hnm.at (h.st (.inl rfl)).1 (h.st (.inl rfl)).2).2
 ·exact midB_append [32] (ht.tok (.inl rfl))
 ·exact midB_append [32,110,101,119,32] (hnm.at (h.st (.inr rfl)).1 (h.st (.inr rfl)).2).2
 ·exact midB_append (headL l 5 tk tn name++[32,40]++joinL (Ex.says l kids)) (t:=[32,41]) rfl
 ·exact midB_append (headL l 6 tk tn name++[32,40]++joinL (Ex.says l kids)) (t:=[32,41]) rfl
 ·exact midB_append (kidL (Ex.says l kids) 0++[32,46,32]) (ht.tok (.inr (.inr rfl)))
 ·exact midB_append (kidL (Ex.says l kids) 0++[32,91]++kidL (Ex.says l kids) 1) (t:=[32,93]) rfl
 ·exact midB_append (headL l 9 tk tn name++[32,40]++joinL (Ex.says l kids)) (t:=[32,41]) rfl
 ·exact midB_append ([32,40]++kidL (Ex.says l kids) 0++(32::opL n)++kidL (Ex.says l kids) 1) (t:=[32,41]) rfl
 ·rfl
 ·exact midB_append (headL l 12 tk tn name++[32,40]++joinL (Ex.says l kids)) (t:=[32,41]) rfl
 ·exact midB_append (headL l 13 tk tn name++[32,40]++joinL (Ex.says l kids)) (t:=[32,41]) rfl
def ExprC (W:World) (sv:Value) (l:List Sc) (x:Ex):Prop:=∀ K A w tv v0 v1 zs,RdN W v0 x.name→RdL W 6 v1 (Ex.dats x.kids)→Pr K A W w sv tv zs→zs.length+(Ex.say l x).length≤1000000 →
  Calls Tryz.prog 182 #[.pointer (some ⟨K,0,none⟩),.agg #[.int .i64 x.kind,.int .i64 x.n,.int .i64 x.tk,.int .i64 x.tn,v0,v1]] w (PrP K A W sv (atL zs (Ex.say l x)))
theorem kidP_of {W:World}{l:List Sc}{sv:Value}{a:Option Addr}{n cap:Nat}{kids:List Ex}(h1:RdL W 6 (.slice a n cap) (Ex.dats kids)) (j:Nat) (hj:j<kids.length) (hn:n=kids.length) (ih:ExprC W sv l kids[j]) :
  KidP W sv (.slice a n cap) kids.length j (Ex.say l kids[j]):=by
 obtain⟨g,off,u0,u1,rfl,hgs,c0,c1,c2,c3,c4,c5,r0,r1⟩:=Ex.elem h1 j hj
 obtain⟨b0,p0,rfl,_⟩:=r0.slice
 obtain⟨b1,p1,rfl,_⟩:=Ex.slice r1
 refine⟨hj,g,off,cap,_,_,_,_,b0,b1,_,p0,_,p1,by rw[hn],hgs,fun w' hw=>?_,fun K A w tv zs hB hl=>ih K A w tv _ _ zs r0 r1 hB hl⟩
 exact⟨by rw[hw.cell (p:=⟨g,off+j*6,none⟩) hgs];exact c0,by rw[hw.cell (p:=⟨g,off+j*6+1,none⟩) hgs];exact c1,by rw[hw.cell (p:=⟨g,off+j*6+2,none⟩) hgs];exact c2,by rw[hw.cell (p:=⟨g,off+j*6+3,none⟩) hgs];exact c3,by rw[hw.cell (p:=⟨g,off+j*6+4,none⟩) hgs];exact c4,by rw[hw.cell (p:=⟨g,off+j*6+5,none⟩) hgs];exact c5⟩
theorem kidsP_of {W:World}{l:List Sc}{sv:Value}{a:Option Addr}{cap:Nat}{kids:List Ex}(hnm:NamesTok l) (h1:RdL W 6 (.slice a kids.length cap) (Ex.dats kids)) (hf:∀ x∈kids,Ex.FineI l x) (ih:∀ (j:Nat) (hj:j<kids.length),ExprC W sv l kids[j]) :
  KidsP W sv (.slice a kids.length cap) (Ex.says l kids):=⟨a,cap,by rw[Ex.says_len],fun t ht=>by
  obtain⟨j,hj,rfl⟩:=List.mem_iff_getElem.1 ht
  have hj':j<kids.length:=by rw[←Ex.says_len l];exact hj
  rw[says_get l kids j hj hj']
  exact say_good hnm (hf _ (List.getElem_mem hj')),fun j hj=>by
  have hj':j<kids.length:=by rw[←Ex.says_len l];exact hj
  rw[says_get l kids j hj hj',Ex.says_len]
  exact kidP_of h1 j hj' rfl (ih j hj')⟩
theorem expr_all {W:World}{l:List Sc}{sv:Value}(hE:Env W) (hl:RdL W 2 sv (Sc.dats l)) (hnm:NamesTok l) (N:Nat):∀ (x:Ex),x.sz<N→Ex.FineI l x→ExprC W sv l x:=by
 induction N with
 | zero =>
  intro x hx
  exact absurd hx (Nat.not_lt_zero _)
 | succ N ih =>
  intro x hx hf K A w tv v0 v1 zs h0 h1 hB hb
  cases hf with
  | @mk k n tk tn name kids h ht hs =>
  replace h0:RdN W v0 name:=h0
  replace h1:RdL W 6 v1 (Ex.dats kids):=h1
  show Calls Tryz.prog 182 #[.pointer (some ⟨K,0,none⟩),.agg #[.int .i64 k,.int .i64 n,.int .i64 tk,.int .i64 tn,v0,v1]] w (PrP K A W sv (atL zs (Ex.say l (.mk k n tk tn name kids))))
  obtain⟨a1,cap1,rfl,hsl⟩:=Ex.slice h1
  have hcap:kids.length≤cap1:=by
   obtain⟨a',cap',e,hc,_⟩:=h1
   have:=hc.1
   rw[Ex.dats_len]at this
   injection e with e1 e2 e3
   omega
  have hsz:∀ (j:Nat) (hj:j<kids.length),kids[j].sz<N:=fun j hj=>by
   have:=Ex.sz_at kids j hj
   rw[Ex.sz]at hx
   omega
  have ihk:∀ (j:Nat) (hj:j<kids.length),ExprC W sv l kids[j]:=fun j hj=>ih kids[j] (hsz j hj) (hs _ (List.getElem_mem hj))
  have hK:∀ (j:Nat) (hj:j<kids.length),KidP W sv (.slice a1 kids.length cap1) kids.length j (Ex.say l kids[j]):=fun j hj=>kidP_of h1 j hj rfl (ihk j hj)
  have hKg:∀ (j:Nat) (hj:j<kids.length),Good (Ex.say l kids[j]):=fun j hj=>say_good hnm (hs _ (List.getElem_mem hj))
  have hKs:KidsP W sv (.slice a1 kids.length cap1) (Ex.says l kids):=kidsP_of hnm h1 hs ihk
  have hm:(Ex.says l kids).length≤1000:=by rw[Ex.says_len];exact h.many
  have hml:(Ex.says l kids).length=kids.length:=Ex.says_len l kids
  have hk0:∀ (hj:0<kids.length),kidL (Ex.says l kids) 0=Ex.say l kids[0]:=fun hj=>Ex.says_at l kids 0 hj
  have hk1:∀ (hj:1<kids.length),kidL (Ex.says l kids) 1=Ex.say l kids[1]:=fun hj=>Ex.says_at l kids 1 hj
  rw[Ex.say]at hb ⊢
  generalize Ex.says l kids=ts at *
  obtain⟨b0,p0,rfl,_⟩:=h0.slice
  obtain rfl|rfl|rfl|rfl|rfl|rfl|rfl|rfl|rfl|rfl|rfl|rfl|rfl|rfl:=fourteen h.k0 h.k13
  ·exact expr_0 K A W w sv tv b0 a1 _ p0 _ cap1 zs n tk tn hB hE h.n64 hb
  ·exact expr_1 K A W w sv tv b0 a1 _ p0 _ cap1 zs n tk tn hB hE h.n64 hb
  ·exact expr_2 K A W w sv tv b0 a1 _ p0 _ cap1 zs n tk tn hB l hl (h.st (.inl rfl)).1 (h.st (.inl rfl)).2 (hnm.at (h.st (.inl rfl)).1 (h.st (.inl rfl)).2) hb
  ·exact expr_3 K A W w sv tv _ a1 _ cap1 zs n tk tn hB name h0 (ht.tok (.inl rfl)) (h.nm (.inl rfl)) hb
  ·exact expr_4 K A W w sv tv b0 a1 _ p0 _ cap1 zs n tk tn hB l hl (h.st (.inr rfl)).1 (h.st (.inr rfl)).2 (hnm.at (h.st (.inr rfl)).1 (h.st (.inr rfl)).2) hb
  ·have e:exL l 5 n tk tn name ts=([32,109,97,107,101]++sayTy l tk tn)++((32::[40])++joinL ts++(32::[41])):=by
    show [32,109,97,107,101]++sayTy l tk tn++[32,40]++joinL ts++[32,41]=_
    simp only[List.append_assoc]
   rw[e]at hb ⊢
   exact expr_5 K A W w sv tv b0 a1 _ p0 _ cap1 zs n tk tn hB l hl hnm (ht.ty rfl) ts hKs hm hb
  ·have e:exL l 6 n tk tn name ts=(32::name)++((32::[40])++joinL ts++(32::[41])):=by
    show (32::name)++[32,40]++joinL ts++[32,41]=_
    simp only[List.append_assoc]
   rw[e]at hb ⊢
   exact expr_6 K A W w sv tv _ a1 _ cap1 zs n tk tn hB name h0 (ht.tok (.inr (.inl rfl))) (h.nm (.inr (.inl rfl))) ts hKs hm hb
  ·have hj:0<kids.length:=h.one (.inl rfl)
   have e:exL l 7 n tk tn name ts=Ex.say l kids[0]++([32,46,32]++name):=by rw[←hk0 hj,← List.append_assoc];rfl
   rw[e]at hb ⊢
   exact expr_7 K A W w sv tv _ _ zs n tk tn hB _ _ name (hK 0 hj) (hKg 0 hj) h0 (ht.tok (.inr (.inr rfl))) (h.nm (.inr (.inr rfl))) hb
  ·have hj:1<kids.length:=h.two (.inl rfl)
   have h2:kids.length=2:=ht.two (.inl rfl)
   have e:exL l 8 n tk tn name ts=Ex.say l kids[0]++(((32::[91]:List Int))++joinL [Ex.say l kids[1]]++(32::[93])):=by
    rw[←hk0 (by omega),← hk1 hj]
    show kidL ts 0++[32,91]++kidL ts 1++[32,93]=_
    simp[joinL,tailL]
   rw[e]at hb ⊢
   have k0:=hK 0 (by omega)
   have k1:=hK 1 hj
   have g0:=hKg 0 (by omega)
   have g1:=hKg 1 hj
   generalize Ex.say l kids[0]=t0 at k0 g0 hb ⊢
   generalize Ex.say l kids[1]=t1 at k1 g1 hb ⊢
   rw[h2]at k0 k1 ⊢
   exact expr_8 K A W w sv tv _ b0 _ p0 zs n tk tn hB _ _ k0 k1 g0 g1 ⟨a1,cap1,rfl,by omega⟩ hb
  ·have e:exL l 9 n tk tn name ts=[32,108,101,110]++((32::[40])++joinL ts++(32::[41])):=by
    show [32,108,101,110]++[32,40]++joinL ts++[32,41]=_
    simp only[List.append_assoc]
   rw[e]at hb ⊢
   exact expr_9 K A W w sv tv b0 a1 _ p0 _ cap1 zs n tk tn hB ts hKs hm hb
  ·have hj:1<kids.length:=h.two (.inr rfl)
   have h2:kids.length=2:=ht.two (.inr rfl)
   have hts:ts=[kidL ts 0,kidL ts 1]:=by
    match ts,hml with
    | [],hml=>simp at hml;omega
    | [a],hml=>simp at hml;omega
    | [a,b],_=>rfl
    | a::b::c::r,hml=>simp at hml;omega
   have e:exL l 10 n tk tn name ts=[32,40]++(joinG (opL n) ts++[32,41]):=by
    show [32,40]++kidL ts 0++(32::opL n)++kidL ts 1++[32,41]=_
    conv=>rhs;rw[hts]
    simp[joinG,tailG]
   rw[e]at hb ⊢
   exact expr_10 K A W w sv tv b0 a1 _ p0 _ cap1 zs n tk tn hB hE (h.op rfl).1 (h.op rfl).2 ts hKs hm (by rw[hts];simp) hb
  ·exact expr_11 K A W w sv tv b0 a1 _ p0 _ cap1 zs n tk tn hB hb
  ·have e:exL l 12 n tk tn name ts=[32,105,110,116]++((32::[40])++joinL ts++(32::[41])):=by
    show [32,105,110,116]++[32,40]++joinL ts++[32,41]=_
    simp only[List.append_assoc]
   rw[e]at hb ⊢
   exact expr_12 K A W w sv tv b0 a1 _ p0 _ cap1 zs n tk tn hB ts hKs hm hb
  ·have e:exL l 13 n tk tn name ts=[32,102,108,111,97,116]++((32::[40])++joinL ts++(32::[41])):=by
    show [32,102,108,111,97,116]++[32,40]++joinL ts++[32,41]=_
    simp only[List.append_assoc]
   rw[e]at hb ⊢
   exact expr_13 K A W w sv tv b0 a1 _ p0 _ cap1 zs n tk tn hB ts hKs hm hb
theorem expr_any {W:World}{l:List Sc}{sv:Value}(hE:Env W) (hl:RdL W 2 sv (Sc.dats l)) (hnm:NamesTok l) (x:Ex) (hf:Ex.FineI l x):ExprC W sv l x:=expr_all hE hl hnm _ x (Nat.lt_succ_self _) hf
end Go.Proofs.YtmdejbphoafjlaaGreatDoor
