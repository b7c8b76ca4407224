import Derived.Test.YtiidepafifodjabTabG
import Derived.OwnWalk
/-! Tables: slices.Clone of the pairs. -/
namespace Go.Proofs.Ytiidepafifodjab
open Go.RowKit
attribute [local go_sem] run_store_float

theorem add_none' (b off k : Nat) : (⟨b, off, none⟩ : Addr).add k = ⟨b, off + k, none⟩ := by cases k <;> simp [Addr.add]

/-- the cells of the first n pairs -/
def cellsOf (q : Nat → PD) (n : Nat) : List Value := (List.range (n * 11)).map (fl q)

theorem slice_nil (a : Option Addr) (n c : Nat) (w : World) : (binOp .eql 38 (.slice a n c) (.slice none 0 0)).run Try.prog w = .ok (.bool a.isNone) w := by
  have h : ∀ d : Nat, (Op.equalIn (d + 1) 38 (.slice a n c) (.slice none 0 0)).run Try.prog w = .ok a.isNone w := fun d => by
    cases a <;> simp [Op.equalIn, run_underlying Try.underlying38]
  have e : (binOp .eql 38 (.slice a n c) (.slice none 0 0)).run Try.prog w = ((Op.equalIn 10000 38 (.slice a n c) (.slice none 0 0)).run Try.prog w).andThen fun b w' => .ok (.bool b) w' := by
    simp only [binOp]
    simp [Op.equal, Op.maxDepth]
  rw [e, h 9999]; rfl

theorem len_cellsOf (q : Nat → PD) (n : Nat) : (cellsOf q n).length = n * 11 := by simp [cellsOf]
theorem fl_one (q : Nat → PD) (m : Nat) : (fl q m).oneCell' = true := by
  have : fl q m = fl q (m / 11 * 11 + m % 11) := by rw [Nat.div_add_mod' m 11]
  rw [this, fl_at q _ _ (Nat.mod_lt _ (by omega))]
  have hj : m % 11 < 11 := Nat.mod_lt _ (by omega)
  generalize m % 11 = j at *
  rcases (show j = 0 ∨ j = 1 ∨ j = 2 ∨ j = 3 ∨ j = 4 ∨ j = 5 ∨ j = 6 ∨ j = 7 ∨ j = 8 ∨ j = 9 ∨ j = 10 by omega) with rfl | rfl | rfl | rfl | rfl | rfl | rfl | rfl | rfl | rfl | rfl <;> rfl
theorem own_form {w : World} {b : Nat} {t : TypeId} {v : Value} {n : Nat} {xs : List Value} (h : w.ownsRow b t 11 v n xs) : ∃ a cap, v = .slice a n cap := by
  rcases h.2 with ⟨rfl, rfl⟩ | ⟨g, cap, cur, rfl, _⟩
  · exact ⟨_, _, rfl⟩
  · exact ⟨_, _, rfl⟩
theorem Tab.drew {w : World} {a : Option Addr} {n : Nat} {q : Nat → PD} (h : Tab w a n q) : Tab w.drew a n q := h
theorem own_empty (w : World) (t : TypeId) : (w.alloc (.cells #[] t)).ownsRow w.heap.size t 11 (.slice (some ⟨w.heap.size, 0, none⟩) 0 0) 0 [] :=
  ⟨rfl, .inr ⟨w.heap.size, 0, #[], rfl, Nat.le_refl _, by rw [heap_alloc_new], Nat.le_refl _, Nat.zero_le _, rfl, rfl⟩⟩
theorem tab_news {w : World} {x : Addr} {n : Nat} {q : Nat → PD} (h : Tab w (some x) n q) : ∀ j u, (cellsOf q n)[j]? = some u → w.cell? (x.add j) = some u := by
  intro j u hu
  have hj : j < n * 11 := by
    have := (List.getElem?_eq_some_iff.1 hu).1
    rwa [len_cellsOf] at this
  obtain ⟨b, off, e, h1, h2⟩ := h (by omega)
  cases e
  have h3 := h2 (j / 11) (by omega) (j % 11) (by omega)
  rw [add_none']
  rw [show off + j = off + j / 11 * 11 + j % 11 by omega, h3, pCells_at _ _ (Nat.mod_lt _ (by omega))]
  simp only [cellsOf, List.getElem?_map, List.getElem?_range hj, Option.map_some, Option.some.injEq] at hu
  rw [← hu]; rfl

set_option maxRecDepth 100000 in
set_option maxHeartbeats 4000000 in
theorem clone_calls (a : Option Addr) (n cap : Nat) (q : Nat → PD) (w : World) (hn : n ≤ 1048576) (hT : Tab w a n q) :
    Calls Try.prog 76 #[.slice a n cap] w fun e w' => (∃ a' cap', e = .returned (.slice a' n cap') ∧ w'.ownsRow w.heap.size 48 11 (.slice a' n cap') n (cellsOf q n)) ∧ Below w.heap.size w w' := by
  have HT : Hid (Tab w a n q) := hT
  clear hT
  cases a with
  | none =>
    have h0 : n = 0 := by
      refine Nat.eq_zero_of_not_pos fun h => ?_
      obtain ⟨b, off, e, _⟩ := HT.out h
      cases e
    subst h0
    have hs := slice_nil none 0 cap
    go_enter Try.func76, Try.ntmps76
    go_wp2_with fail
    go_ret
    exact ⟨⟨none, 0, rfl, World.ownsRow_nil _ _ _ _⟩, Below.refl _ _⟩
  | some x =>
    have hs := slice_nil (some x) n cap
    go_enter Try.func76, Try.ntmps76
    obtain ⟨i0, hi, hz0, hz1, hz2⟩ := info_parts infoPair
    go_wp2_with (at_builtin; refine wpList_append_own _ rfl _ _ 38 rfl w.heap.size 48 i0 _ 11 104 Try.underlying38 hi hz0 hz1 hz2 rfl (by decide) _ 0 [] rfl (own_empty w _) x n cap (cellsOf q n) rfl (len_cellsOf q n) (tab_news (HT.out.alloc _)) (by intro u hu; obtain ⟨m, _, rfl⟩ := List.mem_map.1 hu; exact fl_one q m) (by unfold maxLen; omega) (by omega) (by simp) ?_; intro v' w1 hown hgrow _)
    have hg : (w.alloc (.cells #[] 48)).grownBy w1 (some w.heap.size) := hgrow
    have ho : w1.ownsRow w.heap.size 48 11 v' n (cellsOf q n) := by simpa using hown
    clear hown hgrow
    obtain ⟨a', cap', rfl⟩ := own_form ho
    go_ret
    exact ⟨⟨a', cap', rfl, ho⟩, (below_alloc w _).grown hg (by simp) (fun k e => by cases e; exact Nat.le_refl _)⟩
end Go.Proofs.Ytiidepafifodjab
