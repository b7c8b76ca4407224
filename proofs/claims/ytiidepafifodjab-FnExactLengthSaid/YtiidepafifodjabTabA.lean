import Derived.Test.YtiidepafifodjabTab
import Derived.Test.YtiidepafifodjabSpecOk
import Derived.Test.YtiidepafifodjabSet
/-! Tables: the laws' own size, copy and comparison, pair by pair. -/
namespace Go.Proofs.Ytiidepafifodjab
open Go.RowKit
attribute [local go_sem] run_store_float

abbrev pOf (p : PD) : Value := .agg #[.int .i64 p.key.k, .int .i64 p.key.n, .float .f64 p.key.f, .string p.key.s, .int .i64 p.key.r, .int .i64 p.val.k, .int .i64 p.val.n, .float .f64 p.val.f, .string p.val.s, .int .i64 p.val.r, .int .i64 p.turn]
abbrev pCells (p : PD) : Array Value := #[.int .i64 p.key.k, .int .i64 p.key.n, .float .f64 p.key.f, .string p.key.s, .int .i64 p.key.r, .int .i64 p.val.k, .int .i64 p.val.n, .float .f64 p.val.f, .string p.val.s, .int .i64 p.val.r, .int .i64 p.turn]

/-- what the fields of a pair are known to be -/
structure PD.wf (p : PD) : Prop where
  s1 : p.key.s.size ≤ maxLen
  s2 : p.val.s.size ≤ maxLen
  f1 : p.key.f < 2 ^ 64
  f2 : p.val.f < 2 ^ 64
  t1 : -9223372036854775808 ≤ p.turn
  t2 : p.turn ≤ 9223372036854775807

theorem st1 {B blk o : Nat} {a w : World} (h : Below B a w) (hp : B ≤ blk) (v : Value) : Below B a (w.setCell ⟨blk, o, none⟩ v) := h.setCell (p := ⟨blk, o, none⟩) hp v
/-- a slice of n pairs -/
def Tab (w : World) (a : Option Addr) (n : Nat) (q : Nat → PD) : Prop :=
  0 < n → ∃ b off, a = some ⟨b, off, none⟩ ∧ b < w.heap.size ∧ ∀ i, i < n → ∀ j, j < 11 → w.cell? ⟨b, off + i * 11 + j, none⟩ = (pCells (q i))[j]?

theorem Tab.below {w w' : World} {a : Option Addr} {n : Nat} {q : Nat → PD} (h : Tab w a n q) (hb : Below w.heap.size w w') : Tab w' a n q := fun hn => by
  obtain ⟨b, off, e, h1, h2⟩ := h hn
  exact ⟨b, off, e, Nat.lt_of_lt_of_le h1 hb.size, fun i hi j hj => (hb.cell (p := ⟨b, off + i * 11 + j, none⟩) h1).trans (h2 i hi j hj)⟩

set_option maxRecDepth 100000 in
set_option maxHeartbeats 2000000 in
theorem szPair_calls (p : PD) (left : Int) (w : World) (h0 : 0 ≤ left) (h1 : left ≤ 1048576) (hp : p.wf) :
    Calls Try.prog 69 #[pOf p, .int .i64 left] w fun e w' => (∃ v : Int, e = .returned (.int .i64 v) ∧ (v = -1 ∨ (0 ≤ v ∧ v ≤ left))) ∧ Below w.heap.size w w' := by
  have hs1 : Hid (p.key.s.size ≤ maxLen) := hp.s1
  have hs2 : Hid (p.val.s.size ≤ maxLen) := hp.s2
  clear hp
  by_cases c1 : left < p.key.s.size
  · go_enter Try.func69, Try.ntmps69
    go_wp2_with (go_at_call 10; refine (sz_calls _ _ _ _ _ _ _ h0 h1 hs1.out).mono ?_; rw [if_pos c1]; rintro e w2 ⟨rfl, hb2⟩; obtain ⟨hc2, hf2⟩ := bcell hb2)
    go_ret
    exact ⟨⟨_, rfl, .inl rfl⟩, below_call (below_alloc _ _) hb2⟩
  · by_cases c2 : left - p.key.s.size < p.val.s.size
    · go_enter Try.func69, Try.ntmps69
      go_wp2_with fail
      refine (sz_calls _ _ _ _ _ _ _ h0 h1 hs1.out).mono ?_
      rw [if_neg (by omega)]
      rintro e w2 ⟨rfl, hb2⟩
      obtain ⟨hc2, hf2⟩ := bcell hb2
      go_wp2_with fail
      refine (sz_calls _ _ _ _ _ _ _ (by omega) (by omega) hs2.out).mono ?_
      rw [if_pos (by omega)]
      rintro e w3 ⟨rfl, hb3⟩
      replace hb2 := below_call (below_call (below_alloc _ _) hb2) hb3
      clear hb3 hc2 hf2
      go_wp2_with fail
      go_ret
      exact ⟨⟨_, rfl, .inl rfl⟩, hb2⟩
    · go_enter Try.func69, Try.ntmps69
      go_wp2_with fail
      refine (sz_calls _ _ _ _ _ _ _ h0 h1 hs1.out).mono ?_
      rw [if_neg (by omega)]
      rintro e w2 ⟨rfl, hb2⟩
      obtain ⟨hc2, hf2⟩ := bcell hb2
      go_wp2_with fail
      refine (sz_calls _ _ _ _ _ _ _ (by omega) (by omega) hs2.out).mono ?_
      rw [if_neg (by omega)]
      rintro e w3 ⟨rfl, hb3⟩
      replace hb2 := below_call (below_call (below_alloc _ _) hb2) hb3
      clear hb3 hc2 hf2
      go_wp2_with fail
      go_ret
      exact ⟨⟨_, rfl, .inr (by omega)⟩, hb2⟩

theorem pw_of {n : Nat} {q : Nat → PD} {i : Nat} (hq : ∀ i, i < n → (q i).wf) (hi : i < n) : (q i).wf := hq i hi

set_option maxRecDepth 100000 in
set_option maxHeartbeats 4000000 in
theorem szPairS_calls (a : Option Addr) (n cap : Nat) (q : Nat → PD) (left : Int) (w : World) (h0 : 0 ≤ left) (h1 : left ≤ 1048576) (hn : n ≤ maxLen) (hq : ∀ i, i < n → (q i).wf) (hT : Tab w a n q) :
    Calls Try.prog 43 #[.slice a n cap, .int .i64 left] w fun e w' => (∃ v : Int, e = .returned (.int .i64 v) ∧ (v = -1 ∨ (0 ≤ v ∧ v ≤ left ∧ n ≤ left))) ∧ Below w.heap.size w w' := by
  have hQ : Hid (∀ i, i < n → (q i).wf) := hq
  have HT : Hid (Tab w a n q) := hT
  clear hq hT
  unfold maxLen at hn
  by_cases c : left < n
  · go_enter Try.func43, Try.ntmps43
    go_wp2_with fail
    go_ret
    exact ⟨⟨_, rfl, .inl rfl⟩, Below.refl _ _⟩
  · go_enter Try.func43, Try.ntmps43
    go_wp2_with fail
    go_loopw [1, 5] (fun l i wr => ∃ (k : Nat) (u : Int), k ≤ n ∧ i = .int .i64 k ∧ l = .int .i64 u ∧ 0 ≤ u ∧ u ≤ left ∧ Below w.heap.size w wr) (fun _ i _ => n - (intOf i).toNat)
    case atStart => exact ⟨0, _, Nat.zero_le _, rfl, rfl, by omega, by omega, Below.refl _ _⟩
    case round =>
      obtain ⟨k, u, hk, rfl, rfl, u0, u1, hB⟩ := hrel
      by_cases hkn : k < n
      · obtain ⟨b, off, rfl, hb, hc⟩ := HT.out (by omega)
        have hc' : ∀ j, j < 11 → wr.cell? ⟨b, off + k * 11 + j, none⟩ = (pCells (q k))[j]? := fun j hj => (hB.cell (p := ⟨b, off + k * 11 + j, none⟩) hb).trans (hc k hkn j hj)
        have d0 := hc' 0 (by omega)
        have d1 := hc' 1 (by omega)
        have d2 := hc' 2 (by omega)
        have d3 := hc' 3 (by omega)
        have d4 := hc' 4 (by omega)
        have d5 := hc' 5 (by omega)
        have d6 := hc' 6 (by omega)
        have d7 := hc' 7 (by omega)
        have d8 := hc' 8 (by omega)
        have d9 := hc' 9 (by omega)
        have d10 := hc' 10 (by omega)
        simp only [List.getElem?_toArray, List.getElem?_cons_zero, List.getElem?_cons_succ, Nat.add_zero] at d0 d1 d2 d3 d4 d5 d6 d7 d8 d9 d10
        clear hc hc'
        go_wp2_with fail
        refine (szPair_calls (q k) u wr u0 (by omega) (hQ.out k hkn)).mono ?_
        rintro e w2 ⟨⟨v, rfl, hv⟩, hb2⟩
        replace hB := below_call hB hb2
        clear d0 d1 d2 d3 d4 d5 d6 d7 d8 d9 d10 hb2
        rcases hv with rfl | ⟨v0, v1⟩
        · go_wp2_with fail
          go_ret
          exact ⟨⟨_, rfl, .inl rfl⟩, hB⟩
        · go_wp2_with fail
          go_roundw
          case rel => exact ⟨k + 1, v, by omega, by go_num, rfl, v0, by omega, hB⟩
          case measure => simp [intOf]; omega
      · go_wp2_with fail
        go_ret
        exact ⟨⟨_, rfl, .inr (by omega)⟩, hB⟩

set_option maxRecDepth 100000 in
set_option maxHeartbeats 4000000 in
theorem toPair_calls (p : PD) (w : World) : Calls Try.prog 72 #[pOf p] w fun e w' => e = .returned (pOf p) ∧ Below w.heap.size w w' := by
  go_enter Try.func72, Try.ntmps72
  go_wp2_with fail
  refine (to_calls _ _ _ _ _ _).mono ?_
  rintro e w2 ⟨rfl, hb2⟩
  have hB := below_call (below_alloc3 _ _ _ _) hb2
  obtain ⟨hc2, hf2⟩ := bcell hb2
  have hz2 := hb2.size
  (try simp at hz2)
  have ha2 : w.heap.size < w2.heap.size := by omega
  have hb2' : w.heap.size + 1 < w2.heap.size := by omega
  have hc2' : w.heap.size + 1 + 1 < w2.heap.size := by omega
  go_wp2_with fail
  refine (to_calls _ _ _ _ _ _).mono ?_
  rintro e w3 ⟨rfl, hb3⟩
  replace hB := below_call (set5 hB (by omega) _ _ _ _ _) hb3
  obtain ⟨hc3, hf3⟩ := bcell hb3
  have hz3 := hb3.size
  (try simp at hz3)
  have ha3 : w.heap.size < w3.heap.size := by omega
  have hb3' : w.heap.size + 1 < w3.heap.size := by omega
  have hc3' : w.heap.size + 1 + 1 < w3.heap.size := by omega
  clear hb2 hb3
  go_wp2_with fail
  have p1 : w.heap.size ≤ w.heap.size + 1 := Nat.le_add_right _ _
  have p2 : w.heap.size ≤ w.heap.size + 1 + 1 := Nat.le_add_right _ 2
  exact bodyPost_ret (v := pOf p) (by simp [results, Try.results72, go_sem, hc3, hc2, hb2']) rfl ⟨rfl, st1 (st1 (st1 (st1 (st1 (st1 (st1 (st1 (st1 (st1 (st1 (st1 (st1 (st1 (st1 (st1 (st1 (hB) p2 _) p2 _) p2 _) p2 _) p2 _) p2 _) p1 _) p1 _) p1 _) p1 _) p1 _) p1 _) p1 _) p1 _) p1 _) p1 _) p1 _⟩
end Go.Proofs.Ytiidepafifodjab
