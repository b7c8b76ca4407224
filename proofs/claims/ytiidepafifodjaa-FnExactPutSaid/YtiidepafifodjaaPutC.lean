import Derived.Test.YtiidepafifodjaaPutB
import Derived.Lib.SliceRun
/-! Tables: slices.Delete of one pair, in a row of one's own. -/
namespace Go.Proofs.Ytiidepafifodjaa
open Go.RowKit
attribute [local go_sem] run_store_float

theorem heap_setCells_at (g : Nat) (T : TypeId) : ∀ (vs : List Value) (o : Nat) (w : World) (cur : Array Value), w.heap[g]? = some (.cells cur T (0, 0)) → o + vs.length ≤ cur.size →
    ∃ cur', (w.setCells g o vs).heap[g]? = some (.cells cur' T (0, 0)) ∧ cur'.size = cur.size ∧ (∀ j, j < o ∨ o + vs.length ≤ j → cur'[j]? = cur[j]?) ∧ ∀ j, j < vs.length → cur'[o + j]? = vs[j]?
  | [], o, w, cur, h, hs => ⟨cur, h, rfl, fun _ _ => rfl, fun j hj => by simp at hj⟩
  | v :: r, o, w, cur, h, hs => by
    have hs' : o + r.length + 1 ≤ cur.size := by simpa [Nat.add_assoc] using hs
    obtain ⟨c, h1, h2, h3, h4⟩ := heap_setCells_at g T r (o + 1) (w.setCell ⟨g, o, none⟩ v) (cur.setIfInBounds o v) (Go.heap_setCell_same w g o cur T v h) (by simp; omega)
    refine ⟨c, h1, by simpa using h2, fun j hj => ?_, fun j hj => ?_⟩
    · have hj' : j < o ∨ o + r.length + 1 ≤ j := by simpa [Nat.add_assoc] using hj
      rw [h3 j (by omega), Array.getElem?_setIfInBounds_ne (by omega)]
    · cases j with
      | zero => rw [Nat.add_zero, h3 o (by omega), Array.getElem?_setIfInBounds_self_of_lt (by omega)]; rfl
      | succ j =>
        have := h4 j (by simpa using hj)
        rw [show o + (j + 1) = o + 1 + j by omega, this]; rfl
theorem grown_setCell (w : World) (g o : Nat) (v : Value) : w.grownBy (w.setCell ⟨g, o, none⟩ v) (some g) :=
  ⟨rfl, rfl, rfl, by simp, fun k _ hne => Below.heap_setCell _ _ _ _ (fun e => hne (by rw [e]))⟩
theorem grown_trans {a b c : World} {r : Option Nat} (h : a.grownBy b r) (k : b.grownBy c r) : a.grownBy c r :=
  ⟨k.os.trans h.os, k.tape.trans h.tape, k.output.trans h.output, Nat.le_trans h.size k.size, fun i hi hne => (k.block i (Nat.lt_of_lt_of_le hi h.size) hne).trans (h.block i hi hne)⟩
theorem grown_setCells (g : Nat) : ∀ (vs : List Value) (o : Nat) (w : World), w.grownBy (w.setCells g o vs) (some g)
  | [], _, _ => ⟨rfl, rfl, rfl, Nat.le_refl _, fun _ _ _ => rfl⟩
  | v :: r, o, w => grown_trans (grown_setCell w g o v) (grown_setCells g r (o + 1) _)
theorem grown_drew {a b : World} {r : Option Nat} (h : a.drew.grownBy b r) : a.grownBy b r := ⟨h.os, h.tape, h.output, h.size, h.block⟩

/-- the pairs without the i-th -/
def rmv (q : Nat → PD) (i : Nat) : Nat → PD := fun j => if j < i then q j else q (j + 1)
/-- the cells of a zero pair -/
abbrev zPair : Array Value := #[.int .i64 0, .int .i64 0, .float .f64 0, .string ⟨#[]⟩, .int .i64 0, .int .i64 0, .int .i64 0, .float .f64 0, .string ⟨#[]⟩, .int .i64 0, .int .i64 0]

theorem own_at {N : Nat} {w : World} {g n cap : Nat} {q : Nat → PD} {T : TypeId} (h : w.ownsRow N T 11 (.slice (some ⟨g, 0, none⟩) n cap) n (cellsOf q n)) : N ≤ g ∧ ∃ cur, w.heap[g]? = some (.cells cur T (0, 0)) ∧ n ≤ cap ∧ cap ≤ maxLen ∧ cur.size = cap * 11 ∧ ∀ j, j < n * 11 → cur[j]? = some (fl q j) := by
  obtain ⟨_, h2⟩ := h
  rcases h2 with ⟨h2, _⟩ | ⟨g', cap', cur, e, h3, hh, h4, h5, h6, h7⟩
  · cases h2
  · cases e
    refine ⟨h3, cur, hh, h4, h5, h6, fun j hj => ?_⟩
    have : (cur.toList.take (n * 11))[j]? = (cellsOf q n)[j]? := by rw [h7]
    rw [List.getElem?_take, if_pos hj, Array.getElem?_toList] at this
    rw [this]
    simp [cellsOf, hj]
theorem own_of {N : Nat} {w : World} {g n cap : Nat} {q : Nat → PD} {T : TypeId} {cur : Array Value} (h3 : N ≤ g) (hh : w.heap[g]? = some (.cells cur T (0, 0))) (h4 : n ≤ cap) (h5 : cap ≤ maxLen) (h6 : cur.size = cap * 11) (h7 : ∀ j, j < n * 11 → cur[j]? = some (fl q j)) : w.ownsRow N T 11 (.slice (some ⟨g, 0, none⟩) n cap) n (cellsOf q n) := by
  refine ⟨len_cellsOf q n, .inr ⟨g, cap, cur, rfl, h3, hh, h4, h5, h6, ?_⟩⟩
  apply List.ext_getElem?
  intro j
  rw [List.getElem?_take]
  by_cases hj : j < n * 11
  · rw [if_pos hj, Array.getElem?_toList, h7 j hj]; simp [cellsOf, hj]
  · rw [if_neg hj, List.getElem?_eq_none (by rw [len_cellsOf]; omega)]

theorem own_deleted {N : Nat} {w : World} {g n cap i : Nat} {q : Nat → PD} {T : TypeId} (h : w.ownsRow N T 11 (.slice (some ⟨g, 0, none⟩) n cap) n (cellsOf q n)) (hi : i < n) :
    (((w.drew.setCells g (i * 11) ((cellsOf q n).drop ((i + 1) * 11))).setCells g ((n - 1) * 11) zPair.toList)).ownsRow N T 11 (.slice (some ⟨g, 0, none⟩) (n - 1) cap) (n - 1) (cellsOf (rmv q i) (n - 1)) := by
  obtain ⟨h3, cur, hh, h4, h5, h6, h7⟩ := own_at h
  have hl : ((cellsOf q n).drop ((i + 1) * 11)).length = (n - 1 - i) * 11 := by rw [List.length_drop, len_cellsOf]; omega
  obtain ⟨c1, a1, a2, a3, a4⟩ := heap_setCells_at g T ((cellsOf q n).drop ((i + 1) * 11)) (i * 11) w.drew cur hh (by rw [hl, h6]; omega)
  obtain ⟨c2, b1, b2, b3, b4⟩ := heap_setCells_at g T zPair.toList ((n - 1) * 11) _ c1 a1 (by rw [a2, h6]; show (n - 1) * 11 + 11 ≤ _; omega)
  refine own_of h3 b1 (by omega) h5 (by rw [b2, a2, h6]) fun j hj => ?_
  rw [b3 j (.inl hj)]
  by_cases hji : j < i * 11
  · rw [a3 j (.inl hji), h7 j (by omega)]
    unfold fl rmv
    rw [if_pos (by omega)]
  · obtain ⟨k, rfl⟩ : ∃ k, j = i * 11 + k := ⟨j - i * 11, by omega⟩
    rw [a4 k (by rw [hl]; omega), List.getElem?_drop]
    have : (i + 1) * 11 + k < n * 11 := by omega
    simp only [cellsOf, List.getElem?_map, List.getElem?_range this, Option.map_some]
    unfold fl rmv
    rw [if_neg (by omega), show (i * 11 + k) / 11 + 1 = ((i + 1) * 11 + k) / 11 by omega, show (i * 11 + k) % 11 = ((i + 1) * 11 + k) % 11 by omega]
theorem grown_deleted (w : World) (g a b : Nat) (xs ys : List Value) : w.grownBy ((w.drew.setCells g a xs).setCells g b ys) (some g) :=
  grown_drew (grown_trans (grown_setCells g xs a _) (grown_setCells g ys b _))

theorem run_clear_pair (W : World) (ty : TypeId) (g o c : Nat) (hc : ∀ j, j < 11 → (W.cell? ⟨g, o + j, none⟩).isSome = true) (hf : ∀ j, j < 11 → W.frozen? ⟨g, o + j, none⟩ = false) :
    (Builtin.clear_ #[57] ty #[.slice (some ⟨g, o, none⟩) 1 c]).run Try.prog W = .ok (.tuple #[]) (W.setCells g o zPair.toList) := by
  have hz : ∀ w, (zeroValue 123).run Try.prog w = .ok (.agg zPair) w := fun w => Try.zeroValue123 w
  have hst := run_storeCells_cells (P := Try.prog) g o zPair.toList 0 W (by simpa using hc) (by simpa using hf) (by simp [Value.oneCell'])
  simp only [Nat.add_zero] at hst
  have hzc : (Builtin.zeroCells (Value.agg zPair).cells 1).toList = zPair.toList := by kernel_rfl
  simp [Builtin.clear_, run_underlying Try.underlying57, hz, hzc, hst]

set_option maxRecDepth 1000000 in
set_option maxHeartbeats 4000000 in
theorem delete_calls (N g m cap i : Nat) (q : Nat → PD) (w : World) (hin : i < m + 1) (ho : w.ownsRow N 123 11 (.slice (some ⟨g, 0, none⟩) (m + 1) cap) (m + 1) (cellsOf q (m + 1))) (jj : Int) (hjj : jj = (i : Int) + 1) :
    Calls Try.prog 147 #[.slice (some ⟨g, 0, none⟩) (m + 1) cap, .int .i64 i, .int .i64 jj] w fun e w' => e = .returned (.slice (some ⟨g, 0, none⟩) m cap) ∧ w'.ownsRow N 123 11 (.slice (some ⟨g, 0, none⟩) m cap) m (cellsOf (rmv q i) m) ∧ w.grownBy w' (some g) := by
  have HD := own_deleted ho hin
  obtain ⟨h3, cur, hh, h4, h5, h6, h7⟩ := own_at ho
  have hm : cap ≤ 9223372036854775807 := by unfold maxLen at h5; omega
  have hcell : ∀ j, j < (m + 1) * 11 → w.cell? ⟨g, j, none⟩ = some (fl q j) := fun j hj => by simp [World.cell?, hh, h7 j hj]
  have hfro : ∀ j, w.frozen? ⟨g, j, none⟩ = false := fun j => by simp [World.frozen?, hh]
  obtain ⟨news, hnews⟩ : ∃ news, news = (cellsOf q (m + 1)).drop ((i + 1) * 11) := ⟨_, rfl⟩
  have hl : news.length = (m - i) * 11 := by rw [hnews, List.length_drop, len_cellsOf]; omega
  have hget : ∀ t, t < (m - i) * 11 → news[t]? = some (fl q ((i + 1) * 11 + t)) := fun t ht => by
    have : (i + 1) * 11 + t < (m + 1) * 11 := by omega
    rw [hnews, List.getElem?_drop]; simp only [cellsOf, List.getElem?_map, List.getElem?_range this, Option.map_some]
  obtain ⟨A, hA, hsrc⟩ : ∃ A : Addr, (if cap = i + 1 then some (⟨g, 0, none⟩ : Addr) else some ⟨g, (i + 1) * 11, none⟩) = some A ∧ Hid (∀ t u, news[t]? = some u → w.drew.cell? (A.add t) = some u) := by
    by_cases h : cap = i + 1
    · refine ⟨⟨g, 0, none⟩, by simp [h], fun t u hu => ?_⟩
      have h0 : news.length = 0 := by rw [hl]; omega
      rw [List.length_eq_zero_iff.1 h0] at hu
      simp at hu
    · refine ⟨⟨g, (i + 1) * 11, none⟩, by simp [h], fun t u hu => ?_⟩
      have ht : t < (m - i) * 11 := by
        have := (List.getElem?_eq_some_iff.1 hu).1
        rwa [hl] at this
      rw [hget t ht] at hu
      rw [add_none']
      exact (hcell _ (by omega)).trans hu
  have s1 : Hid (news.length = (m - i) * 11) := by show _ = _; rw [hl]
  have s2 : Hid (∀ u ∈ news, u.oneCell' = true) := by
    intro u hu
    rw [hnews] at hu
    obtain ⟨m, _, rfl⟩ := List.mem_map.1 (List.mem_of_mem_drop hu)
    exact fl_one q m
  have s3 : Hid (∀ t, t < news.length → (w.drew.cell? ⟨g, 0 + i * 11 + t, none⟩).isSome = true ∧ w.drew.frozen? ⟨g, 0 + i * 11 + t, none⟩ = false) := by
    intro t ht
    rw [hl] at ht
    exact ⟨by show (w.cell? _).isSome = true; rw [hcell _ (by omega)]; rfl, hfro _⟩
  obtain ⟨W1, hW1⟩ : ∃ W1, W1 = w.drew.setCells g (0 + i * 11) news := ⟨_, rfl⟩
  have hcl : ∀ ty c, (Builtin.clear_ #[57] ty #[.slice (some ⟨g, m * 11, none⟩) 1 c]).run Try.prog W1 = .ok (.tuple #[]) (W1.setCells g (m * 11) zPair.toList) := fun ty c =>
    run_clear_pair W1 ty g _ c (fun j hj => by rw [hW1]; exact World.isSome_setCells g _ _ _ _ (by show (w.cell? _).isSome = true; rw [hcell _ (by omega)]; rfl)) (fun j hj => by rw [hW1, World.frozen?_setCells]; exact hfro _)
  have HE : Hid (W1 = w.drew.setCells g (0 + i * 11) news) := hW1
  have HX : Hid ((W1.setCells g (m * 11) zPair.toList).ownsRow N 123 11 (.slice (some ⟨g, 0, none⟩) m cap) m (cellsOf (rmv q i) m) ∧ w.grownBy (W1.setCells g (m * 11) zPair.toList) (some g)) := by
    rw [hnews] at hW1
    rw [hW1, Nat.zero_add]
    exact ⟨HD, grown_deleted _ _ _ _ _ _⟩
  obtain ⟨i0, hi0, hz0, hz1, hz2⟩ := info_parts infoPair
  have hic : i ≤ cap := by omega
  have hp0 : (0 : Int) ≤ (i : Int) + 1 := by omega
  have hp1 : (i : Int) + 1 ≤ ((m : Int) + 1) := by omega
  have hp2 : ((i : Int) + 1).toNat = i + 1 := by omega
  have hjc : i + 1 ≤ cap := by omega
  have e2 : i + (m - i) = (m + 1) - 1 := by omega
  clear hW1 HD hh hcell hfro hnews hl hget h6 h7 ho
  subst hjj
  go_enter Try.func147, Try.ntmps147
  go_wp2_with fail
  go_region_law (refine step_append_room rfl (.tmp 22) (.tmp 25) 57 rfl 123 i0 11 Try.underlying57 hi0 hz1 g 0 i cap (by simp [Act.eval, Act.put]) A (m - i) (cap - (i + 1)) news (by simp [Act.eval, Act.put]) s1.out hsrc.out s2.out (by omega) s3.out ?_; rw [← HE.out])
  go_wp2_with fail
  go_ret
  exact ⟨rfl, HX.out⟩
end Go.Proofs.Ytiidepafifodjaa
