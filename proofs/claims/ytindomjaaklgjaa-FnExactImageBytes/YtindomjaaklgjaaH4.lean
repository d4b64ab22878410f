/- ImageBytes by the model. -/
import Derived.Test.YtindomjaaklgjaaH3
import Derived.Test.YtindomjaaklgjaaG10
namespace Go.Proofs.Ytindomjaaklgjaa
open Go.RowKit Go.Lib

set_option maxRecDepth 20000 in
set_option maxHeartbeats 2000000 in
theorem sbytes_no (x : Im) (sv cv : Value) (w : World) (h0 : RdL w 1 sv (Bs.dats x.structs)) (h1 : RdL w 4 cv (Cd.dats x.codes)) (hok : ∀ c ∈ x.codes, ∀ y ∈ c.ins, y.Ok) (hsz : x.sz ≤ 1048576) (hb : imB x = false) :
    Calls Try.prog 11 #[.agg #[sv, cv, .int .i64 x.main]] w fun e w' => e = .returned (.tuple #[.slice none 0 0, .bool false]) ∧ Later w w' := by
  have HX := fun w' (l : Later w w') => simok_b x sv cv w' (RdL.later l h0) (RdL.later l h1) hok hsz hb
  obtain ⟨a0, p0, rfl, _⟩ := Bs.slice h0
  obtain ⟨a1, p1, rfl, _⟩ := Cd.slice h1
  clear h0 h1 hok hb
  generalize x.main = zm at *
  go_enter Try.func11, Try.ntmps11
  go_wp2_with fail
  refine (HX _ (later1 _ _)).mono ?_
  rintro e w1 ⟨rfl, l1⟩
  clear HX
  go_wp2_with fail
  exact bodyPost_ret (v := .tuple #[.slice none 0 0, .bool false]) (by simp [results, Try.results11, go_sem]) rfl ⟨rfl, (later1 _ _).trans l1⟩
set_option maxRecDepth 20000 in
set_option maxHeartbeats 2000000 in
theorem sbytes_any (x : Im) (sv cv : Value) (w : World) (h0 : RdL w 1 sv (Bs.dats x.structs)) (h1 : RdL w 4 cv (Cd.dats x.codes)) (hok : ∀ c ∈ x.codes, ∀ y ∈ c.ins, y.Ok) (hsz : x.sz ≤ 1048576) (hb : imB x = true) :
    Calls Try.prog 11 #[.agg #[sv, cv, .int .i64 x.main]] w fun e w' => ∃ v, e = .returned (.tuple #[v, .bool true]) ∧ Bf w w w' v (imL x) := by
  have HX := fun w' (l : Later w w') => simok_b x sv cv w' (RdL.later l h0) (RdL.later l h1) hok hsz hb
  have e0 : imB0 x = true := by unfold imB at hb; rw [Bool.and_eq_true] at hb; exact hb.1
  have HB : Hid (∀ w', Later w w' → Calls Try.prog 24 #[.agg #[sv, cv, .int .i64 x.main]] w' (SayP w' w' (imL x))) := fun w' l => lbytes_any x sv cv w' (RdL.later l h0) (RdL.later l h1) (imB_rg e0 hok) hsz
  obtain ⟨a0, p0, rfl, _⟩ := Bs.slice h0
  obtain ⟨a1, p1, rfl, _⟩ := Cd.slice h1
  clear h0 h1 hok hb
  generalize imL x = L at *
  generalize x.main = zm at *
  go_enter Try.func11, Try.ntmps11
  go_wp2_with fail
  refine (HX _ (later1 _ _)).mono ?_
  rintro e w1 ⟨rfl, l1⟩
  have y0 : w1.cell? ⟨w.heap.size, 0, none⟩ = some (.slice a0 x.structs.length p0) := by rw [Below.cell l1 (p := ⟨w.heap.size, 0, none⟩) (by simp)]; simp
  have y1 : w1.cell? ⟨w.heap.size, 1, none⟩ = some (.slice a1 x.codes.length p1) := by rw [Below.cell l1 (p := ⟨w.heap.size, 1, none⟩) (by simp)]; simp
  have y2 : w1.cell? ⟨w.heap.size, 2, none⟩ = some (.int .i64 zm) := by rw [Below.cell l1 (p := ⟨w.heap.size, 2, none⟩) (by simp)]; simp
  have z1 : w.heap.size < w1.heap.size := by have := l1.size; simp at this; omega
  have L1 := (later1 w _).trans l1
  have hy1 := HB.out w1 L1
  clear HX HB l1
  go_wp2_with fail
  refine hy1.mono ?_
  rintro e w2 ⟨v2, rfl, b2⟩
  have b3 : Bf w w w2 v2 L := ⟨own_monob b2.1 L1.size, L1.trans b2.2, L1.k8.trans b2.3⟩
  clear hy1 b2
  obtain ⟨a7, c7, h7⟩ := b3.shape
  subst h7
  go_wp2_with fail
  exact bodyPost_ret (v := .tuple #[.slice a7 L.length c7, .bool true]) (by simp [results, Try.results11, go_sem]) rfl ⟨_, rfl, b3⟩
end Go.Proofs.Ytindomjaaklgjaa
