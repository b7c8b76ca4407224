import Derived.Test.YtiidepafifodjaaTabE
import Derived.OwnWalk
/-! Tables: where each key stands (placesOf). -/
namespace Go.Proofs.Ytiidepafifodjaa
open Go.RowKit
attribute [local go_sem] run_store_float

theorem makeMap_run (i : Int) (w : World) : (Instr.makeMap 113 (some (.int .i64 i))).run Try.prog w = .ok (.map (some w.heap.size)) (w.alloc (.map #[] 0)) := by
  simp [Instr.makeMap, run_underlying Try.underlying113, asInt, asIntOf, newObj, Sem.run, Result.andThen]

set_option maxRecDepth 100000 in
set_option maxHeartbeats 4000000 in
theorem placesOf_calls (a : Option Addr) (n cap : Nat) (q : Nat → PD) (w : World) (hn : n ≤ 1048576) (hT : Tab w a n q) :
    Calls Try.prog 122 #[.slice a n cap, .func (.func 123) #[] #[]] w fun e w' => e = .returned (.map (some w.heap.size)) ∧ MapIs w' w.heap.size (places q n) ∧ Below w.heap.size w w' := by
  have HT : Hid (Tab w a n q) := hT
  clear hT
  have hmk := makeMap_run n w
  have hM0 := MapIs.new w
  have hB0 := below_alloc w (.map #[] 0)
  go_enter Try.func122, Try.ntmps122
  go_wp2_with fail
  clear hmk
  go_loopw [13] (fun i wr => ∃ (k : Nat), k ≤ n ∧ i = .int .i64 k ∧ MapIs wr w.heap.size (places q k) ∧ Below w.heap.size w wr) (fun i _ => n - (intOf i).toNat)
  case atStart => exact ⟨0, Nat.zero_le _, rfl, hM0, hB0⟩
  case round =>
    clear hM0 hB0
    obtain ⟨k, hk, rfl, hM, hB⟩ := hrel
    by_cases hkn : k < n
    · obtain ⟨b, off, rfl, hb, hc⟩ := HT.out (by omega)
      have hc' : ∀ j, j < 11 → wr.cell? ⟨b, off + k * 11 + j, none⟩ = (pCells (q k))[j]? := fun j hj => (hB.cell (p := ⟨b, off + k * 11 + j, none⟩) hb).trans (hc k hkn j hj)
      have d0 := hc' 0 (by omega)
      have d1 := hc' 1 (by omega)
      have d2 := hc' 2 (by omega)
      have d3 := hc' 3 (by omega)
      have d4 := hc' 4 (by omega)
      have d5 := hc' 5 (by omega)
      have d6 := hc' 6 (by omega)
      have d7 := hc' 7 (by omega)
      have d8 := hc' 8 (by omega)
      have d9 := hc' 9 (by omega)
      have d10 := hc' 10 (by omega)
      simp only [List.getElem?_toArray, List.getElem?_cons_zero, List.getElem?_cons_succ, Nat.add_zero] at d0 d1 d2 d3 d4 d5 d6 d7 d8 d9 d10
      clear hc'
      clear hc
      have HM : Hid (MapIs wr w.heap.size (places q k)) := hM
      clear hM
      go_wp2_with fail
      refine (pairMark_calls (q k) _).mono ?_
      rintro e w2 ⟨rfl, hb2⟩
      clear d0 d1 d2 d3 d4 d5 d6 d7 d8 d9 d10
      have hM2 := (HM.out.alloc _).below hb2
      replace hB := below_call (below_a hB _) hb2
      obtain ⟨w3, hrun, hM3, hturn⟩ := update_run Try.underlying113 markT hM2 (mk (q k).key) k
      replace hB := hB.grown hturn.grown hB.size (fun k e => by cases e; exact Nat.le_refl _)
      have HM3 : Hid (MapIs w3 w.heap.size (places q (k + 1))) := hM3
      clear hM2 hM3 hturn hb2 HM
      go_wp2_with fail
      go_roundw
      case rel => exact ⟨k + 1, by omega, by go_num, HM3.out, hB⟩
      case measure => simp [intOf]; omega
    · have : k = n := by omega
      subst this
      go_wp2_with fail
      go_ret
      exact ⟨rfl, hM, hB⟩
end Go.Proofs.Ytiidepafifodjaa

/-! Tables: slices.Clone of the pairs. -/
namespace Go.Proofs.Ytiidepafifodjaa
open Go.RowKit
attribute [local go_sem] run_store_float

theorem add_none' (b off k : Nat) : (⟨b, off, none⟩ : Addr).add k = ⟨b, off + k, none⟩ := by cases k <;> simp [Addr.add]

/-- the cells of the first n pairs -/
def cellsOf (q : Nat → PD) (n : Nat) : List Value := (List.range (n * 11)).map (fl q)

theorem slice_nil (a : Option Addr) (n c : Nat) (w : World) : (binOp .eql 57 (.slice a n c) (.slice none 0 0)).run Try.prog w = .ok (.bool a.isNone) w := by
  have h : ∀ d : Nat, (Op.equalIn (d + 1) 57 (.slice a n c) (.slice none 0 0)).run Try.prog w = .ok a.isNone w := fun d => by
    cases a <;> simp [Op.equalIn, run_underlying Try.underlying57]
  have e : (binOp .eql 57 (.slice a n c) (.slice none 0 0)).run Try.prog w = ((Op.equalIn 10000 57 (.slice a n c) (.slice none 0 0)).run Try.prog w).andThen fun b w' => .ok (.bool b) w' := by
    simp only [binOp]
    simp [Op.equal, Op.maxDepth]
  rw [e, h 9999]; rfl

theorem len_cellsOf (q : Nat → PD) (n : Nat) : (cellsOf q n).length = n * 11 := by simp [cellsOf]
theorem fl_one (q : Nat → PD) (m : Nat) : (fl q m).oneCell' = true := by
  have : fl q m = fl q (m / 11 * 11 + m % 11) := by rw [Nat.div_add_mod' m 11]
  rw [this, fl_at q _ _ (Nat.mod_lt _ (by omega))]
  have hj : m % 11 < 11 := Nat.mod_lt _ (by omega)
  generalize m % 11 = j at *
  rcases (show j = 0 ∨ j = 1 ∨ j = 2 ∨ j = 3 ∨ j = 4 ∨ j = 5 ∨ j = 6 ∨ j = 7 ∨ j = 8 ∨ j = 9 ∨ j = 10 by omega) with rfl | rfl | rfl | rfl | rfl | rfl | rfl | rfl | rfl | rfl | rfl <;> rfl
theorem own_form {w : World} {b : Nat} {t : TypeId} {v : Value} {n : Nat} {xs : List Value} (h : w.ownsRow b t 11 v n xs) : ∃ a cap, v = .slice a n cap := by
  rcases h.2 with ⟨rfl, rfl⟩ | ⟨g, cap, cur, rfl, _⟩
  · exact ⟨_, _, rfl⟩
  · exact ⟨_, _, rfl⟩
theorem Tab.drew {w : World} {a : Option Addr} {n : Nat} {q : Nat → PD} (h : Tab w a n q) : Tab w.drew a n q := h
theorem own_empty (w : World) (t : TypeId) : (w.alloc (.cells #[] t)).ownsRow w.heap.size t 11 (.slice (some ⟨w.heap.size, 0, none⟩) 0 0) 0 [] :=
  ⟨rfl, .inr ⟨w.heap.size, 0, #[], rfl, Nat.le_refl _, by rw [heap_alloc_new], Nat.le_refl _, Nat.zero_le _, rfl, rfl⟩⟩
theorem tab_news {w : World} {x : Addr} {n : Nat} {q : Nat → PD} (h : Tab w (some x) n q) : ∀ j u, (cellsOf q n)[j]? = some u → w.cell? (x.add j) = some u := by
  intro j u hu
  have hj : j < n * 11 := by
    have := (List.getElem?_eq_some_iff.1 hu).1
    rwa [len_cellsOf] at this
  obtain ⟨b, off, e, h1, h2⟩ := h (by omega)
  cases e
  have h3 := h2 (j / 11) (by omega) (j % 11) (by omega)
  rw [add_none']
  rw [show off + j = off + j / 11 * 11 + j % 11 by omega, h3, pCells_at _ _ (Nat.mod_lt _ (by omega))]
  simp only [cellsOf, List.getElem?_map, List.getElem?_range hj, Option.map_some, Option.some.injEq] at hu
  rw [← hu]; rfl

set_option maxRecDepth 100000 in
set_option maxHeartbeats 4000000 in
theorem clone_calls (a : Option Addr) (n cap : Nat) (q : Nat → PD) (w : World) (hn : n ≤ 1048576) (hT : Tab w a n q) :
    Calls Try.prog 124 #[.slice a n cap] w fun e w' => (∃ a' cap', e = .returned (.slice a' n cap') ∧ w'.ownsRow w.heap.size 123 11 (.slice a' n cap') n (cellsOf q n)) ∧ Below w.heap.size w w' := by
  have HT : Hid (Tab w a n q) := hT
  clear hT
  cases a with
  | none =>
    have h0 : n = 0 := by
      refine Nat.eq_zero_of_not_pos fun h => ?_
      obtain ⟨b, off, e, _⟩ := HT.out h
      cases e
    subst h0
    have hs := slice_nil none 0 cap
    go_enter Try.func124, Try.ntmps124
    go_wp2_with fail
    go_ret
    exact ⟨⟨none, 0, rfl, World.ownsRow_nil _ _ _ _⟩, Below.refl _ _⟩
  | some x =>
    have hs := slice_nil (some x) n cap
    go_enter Try.func124, Try.ntmps124
    obtain ⟨i0, hi, hz0, hz1, hz2⟩ := info_parts infoPair
    go_wp2_with (at_builtin; refine wpList_append_own _ rfl _ _ 57 rfl w.heap.size 123 i0 _ 11 104 Try.underlying57 hi hz0 hz1 hz2 rfl (by decide) _ 0 [] rfl (own_empty w _) x n cap (cellsOf q n) rfl (len_cellsOf q n) (tab_news (HT.out.alloc _)) (by intro u hu; obtain ⟨m, _, rfl⟩ := List.mem_map.1 hu; exact fl_one q m) (by unfold maxLen; omega) (by omega) (by simp) ?_; intro v' w1 hown hgrow _)
    have hg : (w.alloc (.cells #[] 123)).grownBy w1 (some w.heap.size) := hgrow
    have ho : w1.ownsRow w.heap.size 123 11 v' n (cellsOf q n) := by simpa using hown
    clear hown hgrow
    obtain ⟨a', cap', rfl⟩ := own_form ho
    go_ret
    exact ⟨⟨a', cap', rfl, ho⟩, (below_alloc w _).grown hg (by simp) (fun k e => by cases e; exact Nat.le_refl _)⟩
end Go.Proofs.Ytiidepafifodjaa
