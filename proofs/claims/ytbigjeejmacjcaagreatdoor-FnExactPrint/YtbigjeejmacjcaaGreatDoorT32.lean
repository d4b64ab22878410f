import Derived.Test.YtbigjeejmacjcaaGreatDoorT31
import Derived.Deep.RegionLaw
namespace Go.Proofs.YtbigjeejmacjcaaGreatDoor
open Go.RowKit Go.Lib
theorem Bf.shape2 {A W w : World} {v : Value} {zs : List Int} (h : Bf A W w v zs) : ∃ a M cap, v = .slice a M cap ∧ Hid (M = zs.length) := by
  obtain ⟨a, cap, rfl⟩ := h.shape
  exact ⟨a, _, cap, rfl, rfl⟩
theorem step_append_own2 {P : Program} {ops : Array Oper} {o : Oper} {a : Act} {w : World} {K : Act → World → Prop} {Q : Exit → Act → World → Prop} {E : Prop}
    (hg : o.guard = none) (s x : Operand) (t : TypeId) (hop : o.op = Op.call { callee := Callee.builtin Builtin.append, args := #[s, x], argTypes := #[t, t] })
    (base : Nat) (e : TypeId) (i : TypeInfo) (z : Value) (size bytes : Nat) (ht : P.underlying t = some (.slice e)) (hi : P.info? e = some i) (hz : i.zero = some z)
    (hsize : i.size = size) (hby : i.bytes = bytes) (hzs : z.cells.size = size) (hsz : 0 < size)
    (v : Value) (n : Nat) (xs : List Value) (hs : a.eval s = v) (hown : w.ownsRow base e size v n xs)
    (ad : Addr) (m c : Nat) (news : List Value) (hx : a.eval x = .slice (some ad) m c) (hl : news.length = m * size) (hnews : ∀ j u, news[j]? = some u → w.cell? (ad.add j) = some u) (h1 : ∀ u ∈ news, u.oneCell' = true)
    (h63 : n + m ≤ maxLen) (hbytes : (n + m) * bytes ≤ 140737488355328) (hbase : base ≤ w.heap.size)
    (h : ∀ v' w', w'.ownsRow base e size v' (n + m) (xs ++ news) → w.grownBy w' v.ownBlock → K (a.put o.dst v') w') :
    if Region.wanted o (yielded ops a.tmps) = true then Oper.wp P o a w K Q else E := by
  have hw : Region.wanted o (yielded ops a.tmps) = true := by simp [Region.wanted, hg]
  rw [if_pos hw]
  exact wp_append_own w s x t hop base e i z size bytes ht hi hz hsize hby hzs hsz v n xs hs hown ad m c news hx hl hnews h1 h63 hbytes hbase (fun v' w' h2 h3 _ => h v' w' h2 h3)
theorem step_append_str {P : Program} {ops : Array Oper} {o : Oper} {a : Act} {w : World} {K : Act → World → Prop} {Q : Exit → Act → World → Prop} {E : Prop}
    (hg : o.guard = none) (sl x : Operand) (t u : TypeId) (hop : o.op = Op.call { callee := Callee.builtin Builtin.append, args := #[sl, x], argTypes := #[t, u] })
    (base : Nat) (e : TypeId) (i : TypeInfo) (ht : P.underlying t = some (.slice e)) (hu : P.underlying u = some .string) (hi : P.info? e = some i) (hz : i.zero = some (.int .u8 0))
    (hsize : i.size = 1) (hby : i.bytes = 1)
    (v : Value) (n : Nat) (xs : List Value) (hs : a.eval sl = v) (hown : w.ownsRow base e 1 v n xs) (s : ByteArray) (hx : a.eval x = .string s)
    (h63 : n + s.size ≤ maxLen) (hbytes : n + s.size ≤ 140737488355328) (hbase : base ≤ w.heap.size)
    (h : ∀ v' w', w'.ownsRow base e 1 v' (n + s.size) (xs ++ strCells s) → w.grownBy w' v.ownBlock → K (a.put o.dst v') w') :
    if Region.wanted o (yielded ops a.tmps) = true then Oper.wp P o a w K Q else E := by
  have hw : Region.wanted o (yielded ops a.tmps) = true := by simp [Region.wanted, hg]
  rw [if_pos hw]
  obtain ⟨v', w', hr, h2, h3, h4⟩ := run_append_own_string (P := P) w base t u o.type e i ht hu hi hz hsize hby v n xs hown s h63 hbytes hbase
  unfold Oper.wp execOp
  simp only [hop, resolve, invoke, builtin, Sem.run_bind, Sem.run_pure, Result.andThen_ok, List.map_toArray, List.map_cons, List.map_nil, hs, hx, hr]
  exact h v' w' h2 h3
set_option maxRecDepth 20000 in
set_option maxHeartbeats 4000000 in
theorem sayTy_3 (A W w : World) (v : Value) (zs : List Int) (l : List Sc) (n : Int) (sv : Value) (h : Bf A W w v zs) (hb : zs.length ≤ 1000000) (hl : RdL W 2 sv (Sc.dats l)) (h0 : 0 ≤ n) (h1 : n < l.length) (hnm : ∀ x ∈ l, 1 ≤ x.name.length ∧ x.name.length ≤ 1000) :
    Calls Tryz.prog 29 #[v, .agg #[.int .i64 3, .int .i64 n], sv] w (SayP A W (zs ++ sayTy l 3 n)) := by
  obtain ⟨i0, hi, hz0, hz1, hz2⟩ := info_parts Tryz.info5
  obtain ⟨a, cap, rfl⟩ := h.shape
  obtain ⟨N, rfl⟩ : ∃ N : Nat, n = N := ⟨n.toNat, by omega⟩
  have hN : N < l.length := by omega
  obtain ⟨sa, scap, rfl, hsl⟩ := Sc.slice hl
  obtain ⟨g, off, v0, v1, rfl, hg, hc0, hc1, hr0, hr1⟩ := Sc.elem hl N hN
  obtain ⟨hn1, hn2⟩ := hnm l[N] (List.getElem_mem hN)
  have he : nmAt l (N : Int) = l[N].name := by unfold nmAt; rw [Int.toNat_natCast, List.getElem?_eq_getElem hN]
  have he2 : sayTy l 3 (N : Int) = [32, 42, 32] ++ l[N].name := by rw [← he]; rfl
  generalize l[N].name = nm at *
  obtain ⟨y, q, rfl, hyl, hyb, hyc⟩ := hr0.rd
  obtain ⟨g0, off0, rfl, hg0, _⟩ := hyc 0 (by omega)
  have hcells : ∀ w', Later W w' → ∀ j u, (nm.map (Value.int .u8))[j]? = some u → w'.cell? ((⟨g0, off0, none⟩ : Addr).add j) = some u := fun w' hw j u hj => by
    have hj' : j < nm.length := by
      rcases Nat.lt_or_ge j nm.length with h | h
      · exact h
      · rw [List.getElem?_eq_none (by simpa using h)] at hj; cases hj
    obtain ⟨g', off', e, _, hv⟩ := hyc j hj'
    cases e
    rw [Addr.add_lit, hw.cell (p := ⟨g0, off0 + j, none⟩) hg0, hv]
    rw [List.getElem?_map, List.getElem?_eq_getElem hj'] at hj
    rw [← hj, List.getD_eq_getElem?_getD, List.getElem?_eq_getElem hj']
    rfl
  have hB := h.alloc (.cells #[.int .i64 3, .int .i64 (N : Int)] 55)
  have hs0 := h.2.size
  have o1 := later_ownb hB.1 (Later.drew _)
  have hs := hB.2.size
  have hBD : Bf A W (w.alloc (.cells #[.int .i64 3, .int .i64 (N : Int)] 55)).drew (.slice a zs.length cap) zs := hB.later (Later.drew _)
  have q1 : (w.alloc (.cells #[.int .i64 3, .int .i64 (N : Int)] 55)).drew.cell? ⟨w.heap.size, 1, none⟩ = some (.int .i64 (N : Int)) := by simp
  have q2 : (w.alloc (.cells #[.int .i64 3, .int .i64 (N : Int)] 55)).drew.cell? ⟨g, off + N * 2, none⟩ = some (.slice (some ⟨g0, off0, none⟩) nm.length q) := by rw [hBD.2.cell (p := ⟨g, off + N * 2, none⟩) hg]; exact hc0
  have hcD := hcells
  have hne : ∀ b, Value.ownBlock (.slice a zs.length cap) = some b → b ≠ w.heap.size := fun b hb => by have := (h.1.lt b hb).2; omega
  have HC : Hid (∀ w', Later W w' → w'.cell? ⟨g, off + N * 2, none⟩ = some (.slice (some ⟨g0, off0, none⟩) nm.length q)) := fun w' hw => by rw [hw.cell (p := ⟨g, off + N * 2, none⟩) hg]; exact hc0
  have HCC : Hid (∀ w', Later W w' → ∀ j u, (nm.map (Value.int .u8))[j]? = some u → w'.cell? ((⟨g0, off0, none⟩ : Addr).add j) = some u) := hcells
  have HF : Hid (∀ v' w', Bf A W w' v' (zs ++ sayTy l 3 (N : Int)) → SayP A W (zs ++ sayTy l 3 (N : Int)) (.returned v') w') := fun v' w' h => ⟨v', rfl, h⟩
  rw [he2] at HF ⊢
  generalize hQ : SayP A W (zs ++ ([32, 42, 32] ++ nm)) = Q
  rw [hQ] at HF
  clear hcells hcD hyc hyb hnm hr1 hc1 he he2 hc0
  obtain ⟨X, hX⟩ : ∃ X, Hid (X = nm.map (Value.int .u8)) := ⟨_, rfl⟩
  have hXl : X.length = nm.length := by rw [hX.out]; simp
  have hX1 : ∀ u ∈ X, u.oneCell' = true := fun u hu => by
    rw [hX.out] at hu
    obtain ⟨z, _, rfl⟩ := List.mem_map.1 hu
    rfl
  rw [← hX.out] at HCC
  go_enter Tryz.func29, Tryz.ntmps29
  go_wp2_with fail
  go_region_law (first | (have _g := hbf3; (refine step_append_own2 rfl _ _ 27 rfl W.heap.size 5 i0 (.int .u8 0) 1 1 Tryz.underlying27 hi hz0 hz1 hz2 rfl (by decide) (.slice a3 M3 p3) _ _ rfl hbf3.1 ⟨g0, off0, none⟩ nm.length q X rfl (by rw [hXl, Nat.mul_one]) (HCC.out _ hbf3.2) hX1 (by rw [hl3]; unfold maxLen; omega) (by rw [hl3]; omega) hs3 ?_; intro v5 w5 o5 g5; have hbf5 := hbf3.put o5 rfl hX.out g5)) | (refine step_append_str rfl _ _ 27 9 rfl W.heap.size 5 i0 Tryz.underlying27 Tryz.underlying9 hi hz0 hz1 hz2 (.slice a zs.length cap) _ _ rfl o1 _ rfl (by show zs.length + 3 ≤ maxLen; unfold maxLen; omega) (by show zs.length + 3 ≤ _; omega) (by exact hs) ?_; intro v3 w3 o3 g3; have hbf3 : Bf A W w3 v3 (zs ++ [32, 42, 32]) := hBD.put o3 rfl rfl g3; have hl3 : (zs ++ [32, 42, 32]).length = zs.length + 3 := (by simp); have hs3 := hbf3.2.size; have q3 := g3.cell q1 (fun e => hne _ e.symm rfl); have q4 := HC.out _ hbf3.2; obtain ⟨a3, M3, p3, rfl, hM3⟩ := hbf3.shape2))
  all_goals
    rw [List.append_assoc] at hbf5
    go_wp2_with fail
    go_simp
    go_ret
    exact HF.out _ _ hbf5
set_option maxRecDepth 20000 in
set_option maxHeartbeats 4000000 in
theorem sayTy_6 (A W w : World) (v : Value) (zs : List Int) (l : List Sc) (n : Int) (sv : Value) (h : Bf A W w v zs) (hb : zs.length ≤ 1000000) (hl : RdL W 2 sv (Sc.dats l)) (h0 : 0 ≤ n) (h1 : n < l.length) (hnm : ∀ x ∈ l, 1 ≤ x.name.length ∧ x.name.length ≤ 1000) :
    Calls Tryz.prog 29 #[v, .agg #[.int .i64 6, .int .i64 n], sv] w (SayP A W (zs ++ sayTy l 6 n)) := by
  obtain ⟨i0, hi, hz0, hz1, hz2⟩ := info_parts Tryz.info5
  obtain ⟨a, cap, rfl⟩ := h.shape
  obtain ⟨N, rfl⟩ : ∃ N : Nat, n = N := ⟨n.toNat, by omega⟩
  have hN : N < l.length := by omega
  obtain ⟨sa, scap, rfl, hsl⟩ := Sc.slice hl
  obtain ⟨g, off, v0, v1, rfl, hg, hc0, hc1, hr0, hr1⟩ := Sc.elem hl N hN
  obtain ⟨hn1, hn2⟩ := hnm l[N] (List.getElem_mem hN)
  have he : nmAt l (N : Int) = l[N].name := by unfold nmAt; rw [Int.toNat_natCast, List.getElem?_eq_getElem hN]
  have he2 : sayTy l 6 (N : Int) = [32, 91, 32, 93, 32, 42, 32] ++ l[N].name := by rw [← he]; rfl
  generalize l[N].name = nm at *
  obtain ⟨y, q, rfl, hyl, hyb, hyc⟩ := hr0.rd
  obtain ⟨g0, off0, rfl, hg0, _⟩ := hyc 0 (by omega)
  have hcells : ∀ w', Later W w' → ∀ j u, (nm.map (Value.int .u8))[j]? = some u → w'.cell? ((⟨g0, off0, none⟩ : Addr).add j) = some u := fun w' hw j u hj => by
    have hj' : j < nm.length := by
      rcases Nat.lt_or_ge j nm.length with h | h
      · exact h
      · rw [List.getElem?_eq_none (by simpa using h)] at hj; cases hj
    obtain ⟨g', off', e, _, hv⟩ := hyc j hj'
    cases e
    rw [Addr.add_lit, hw.cell (p := ⟨g0, off0 + j, none⟩) hg0, hv]
    rw [List.getElem?_map, List.getElem?_eq_getElem hj'] at hj
    rw [← hj, List.getD_eq_getElem?_getD, List.getElem?_eq_getElem hj']
    rfl
  have hB := h.alloc (.cells #[.int .i64 6, .int .i64 (N : Int)] 55)
  have hs0 := h.2.size
  have o1 := later_ownb hB.1 (Later.drew _)
  have hs := hB.2.size
  have hBD : Bf A W (w.alloc (.cells #[.int .i64 6, .int .i64 (N : Int)] 55)).drew (.slice a zs.length cap) zs := hB.later (Later.drew _)
  have q1 : (w.alloc (.cells #[.int .i64 6, .int .i64 (N : Int)] 55)).drew.cell? ⟨w.heap.size, 1, none⟩ = some (.int .i64 (N : Int)) := by simp
  have q2 : (w.alloc (.cells #[.int .i64 6, .int .i64 (N : Int)] 55)).drew.cell? ⟨g, off + N * 2, none⟩ = some (.slice (some ⟨g0, off0, none⟩) nm.length q) := by rw [hBD.2.cell (p := ⟨g, off + N * 2, none⟩) hg]; exact hc0
  have hcD := hcells
  have hne : ∀ b, Value.ownBlock (.slice a zs.length cap) = some b → b ≠ w.heap.size := fun b hb => by have := (h.1.lt b hb).2; omega
  have HC : Hid (∀ w', Later W w' → w'.cell? ⟨g, off + N * 2, none⟩ = some (.slice (some ⟨g0, off0, none⟩) nm.length q)) := fun w' hw => by rw [hw.cell (p := ⟨g, off + N * 2, none⟩) hg]; exact hc0
  have HCC : Hid (∀ w', Later W w' → ∀ j u, (nm.map (Value.int .u8))[j]? = some u → w'.cell? ((⟨g0, off0, none⟩ : Addr).add j) = some u) := hcells
  have HF : Hid (∀ v' w', Bf A W w' v' (zs ++ sayTy l 6 (N : Int)) → SayP A W (zs ++ sayTy l 6 (N : Int)) (.returned v') w') := fun v' w' h => ⟨v', rfl, h⟩
  rw [he2] at HF ⊢
  generalize hQ : SayP A W (zs ++ ([32, 91, 32, 93, 32, 42, 32] ++ nm)) = Q
  rw [hQ] at HF
  clear hcells hcD hyc hyb hnm hr1 hc1 he he2 hc0
  obtain ⟨X, hX⟩ : ∃ X, Hid (X = nm.map (Value.int .u8)) := ⟨_, rfl⟩
  have hXl : X.length = nm.length := by rw [hX.out]; simp
  have hX1 : ∀ u ∈ X, u.oneCell' = true := fun u hu => by
    rw [hX.out] at hu
    obtain ⟨z, _, rfl⟩ := List.mem_map.1 hu
    rfl
  rw [← hX.out] at HCC
  go_enter Tryz.func29, Tryz.ntmps29
  go_wp2_with fail
  go_region_law (first | (have _g := hbf3; (refine step_append_own2 rfl _ _ 27 rfl W.heap.size 5 i0 (.int .u8 0) 1 1 Tryz.underlying27 hi hz0 hz1 hz2 rfl (by decide) (.slice a3 M3 p3) _ _ rfl hbf3.1 ⟨g0, off0, none⟩ nm.length q X rfl (by rw [hXl, Nat.mul_one]) (HCC.out _ hbf3.2) hX1 (by rw [hl3]; unfold maxLen; omega) (by rw [hl3]; omega) hs3 ?_; intro v5 w5 o5 g5; have hbf5 := hbf3.put o5 rfl hX.out g5)) | (refine step_append_str rfl _ _ 27 9 rfl W.heap.size 5 i0 Tryz.underlying27 Tryz.underlying9 hi hz0 hz1 hz2 (.slice a zs.length cap) _ _ rfl o1 _ rfl (by show zs.length + 7 ≤ maxLen; unfold maxLen; omega) (by show zs.length + 7 ≤ _; omega) (by exact hs) ?_; intro v3 w3 o3 g3; have hbf3 : Bf A W w3 v3 (zs ++ [32, 91, 32, 93, 32, 42, 32]) := hBD.put o3 rfl rfl g3; have hl3 : (zs ++ [32, 91, 32, 93, 32, 42, 32]).length = zs.length + 7 := (by simp); have hs3 := hbf3.2.size; have q3 := g3.cell q1 (fun e => hne _ e.symm rfl); have q4 := HC.out _ hbf3.2; obtain ⟨a3, M3, p3, rfl, hM3⟩ := hbf3.shape2))
  all_goals
    rw [List.append_assoc] at hbf5
    go_wp2_with fail
    go_simp
    go_ret
    exact HF.out _ _ hbf5
/-- A type put behind a text. -/
theorem sayTy_any (A W w : World) (v : Value) (zs : List Int) (l : List Sc) (k n : Int) (sv : Value) (h : Bf A W w v zs) (hb : zs.length ≤ 1000000) (hl : RdL W 2 sv (Sc.dats l)) (hk : k = 3 ∨ k = 6 → 0 ≤ n ∧ n < l.length) (hnm : ∀ x ∈ l, 1 ≤ x.name.length ∧ x.name.length ≤ 1000) :
    Calls Tryz.prog 29 #[v, .agg #[.int .i64 k, .int .i64 n], sv] w (SayP A W (zs ++ sayTy l k n)) := by
  by_cases k1 : k = 1
  · subst k1; exact sayTy_1 A W w v zs l n sv h hb
  by_cases k2 : k = 2
  · subst k2; exact sayTy_2 A W w v zs l n sv h hb
  by_cases k3 : k = 3
  · subst k3; exact sayTy_3 A W w v zs l n sv h hb hl (hk (.inl rfl)).1 (hk (.inl rfl)).2 hnm
  by_cases k4 : k = 4
  · subst k4; exact sayTy_4 A W w v zs l n sv h hb
  by_cases k5 : k = 5
  · subst k5; exact sayTy_5 A W w v zs l n sv h hb
  by_cases k6 : k = 6
  · subst k6; exact sayTy_6 A W w v zs l n sv h hb hl (hk (.inr rfl)).1 (hk (.inr rfl)).2 hnm
  exact sayTy_no A W w v zs l k n sv h ⟨k1, k2, k3, k4, k5, k6⟩
end Go.Proofs.YtbigjeejmacjcaaGreatDoor
