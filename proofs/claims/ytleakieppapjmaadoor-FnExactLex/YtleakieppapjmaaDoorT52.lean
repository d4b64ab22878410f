/- What is a text. -/
import Derived.Test.YtleakieppapjmaaDoorT39
import Derived.Test.YtleakieppapjmaaDoorT7
import Derived.Deep.RegionHeld3
namespace Go.Proofs.YtleakieppapjmaaDoor
open Go.RowKit Go.Lib
theorem hid_ex {α : Type} (x : α) : ∃ T, Hid (T = x) := ⟨x, rfl⟩
/-- A string's bytes as numbers. -/
def bytesOf (s : ByteArray) : List Int := s.data.toList.map fun b => (b.toNat : Int)
theorem bytesOf_len (s : ByteArray) : (bytesOf s).length = s.size := by
  unfold bytesOf
  rw [List.length_map, Array.length_toList]
  rfl
theorem bytesOf_nums (nm : List Int) (h : ∀ z ∈ nm, 0 ≤ z ∧ z ≤ 255) : bytesOf (strOfNums nm) = nm := by
  unfold bytesOf
  rw [strOfNums_data, List.map_map]
  conv => rhs; rw [← List.map_id nm]
  refine List.map_congr_left fun z hz => ?_
  obtain ⟨h0, h1⟩ := h z hz
  show ((UInt8.ofNat z.toNat).toNat : Int) = z
  rw [UInt8.toNat_ofNat']
  omega
theorem set_grown (w : World) (K i : Nat) (u : Value) : w.grownBy (w.setCell ⟨K, i, none⟩ u) (some K) := ⟨rfl, rfl, rfl, by simp, fun k _ hk => heap_setCell_other w ⟨K, i, none⟩ k u (fun e => hk (by simp [e]))⟩
def StrL (w : World) (nm : List Int) (e : Ending) (w' : World) : Prop := ∃ s, e = .returned (.string s) ∧ bytesOf s = nm ∧ Later w w'
end Go.Proofs.YtleakieppapjmaaDoor
