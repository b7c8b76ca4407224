import Derived.Test.YtiidepafifodjabTabI
/-! Tables: impl.TableOk, spec.TableOk. -/
namespace Go.Proofs.Ytiidepafifodjab
open Go.RowKit
attribute [local go_sem] run_store_float
attribute [local go_sem ↓] Go.wp_at_zero Go.wp_at_succ

/-- the answer says whether p holds -/
def BoolSays (p : Prop) (e : Ending) : Prop := ∃ b : Bool, e = .returned (.bool b) ∧ (b = true ↔ p)
theorem says_no {p : Prop} (h : ¬ p) : BoolSays p (.returned (.bool false)) := ⟨false, rfl, by simp [h]⟩
theorem says_yes {p : Prop} (h : p) : BoolSays p (.returned (.bool true)) := ⟨true, rfl, by simp [h]⟩

set_option maxRecDepth 100000 in
set_option maxHeartbeats 2000000 in
theorem implTableOk_calls (a : Option Addr) (n cap : Nat) (t : Int) (q : Nat → PD) (w : World) (hn : n ≤ 1048576) (hq : ∀ i, i < n → (q i).wf) (hT : Tab w a n q) :
    Calls Try.prog 18 #[tOf a n cap t] w fun e w' => BoolSays (TabOk n t q) e ∧ Below w.heap.size w w' := by
  have hQ : Hid (∀ i, i < n → (q i).wf) := hq
  have HT : Hid (Tab w a n q) := hT
  clear hq hT
  go_enter Try.func18, Try.ntmps18
  go_wp2_with fail
  refine (index_calls a n cap t q _ hn hQ.out (HT.out.alloc _)).mono ?_
  rintro e w2 ⟨⟨hok, a', cap', B, rfl, _, _, _⟩ | ⟨hok, rfl⟩, hb2⟩
  · have hB := below_call (below_alloc _ _) hb2
    clear hb2
    go_wp2_with fail
    go_ret
    exact ⟨says_yes hok, below_a hB _⟩
  · have hB := below_call (below_alloc _ _) hb2
    clear hb2
    go_wp2_with fail
    go_ret
    exact ⟨says_no hok, below_a hB _⟩

abbrev tbW (w : World) (a : Option Addr) (n cap : Nat) (t : Int) : World := w.alloc (.cells #[.slice a n cap, .int .i64 t] 40)

theorem tb_cells {w : World} {a : Option Addr} {n cap : Nat} {t : Int} {wr : World} (hB : Below (tbW w a n cap t).heap.size (tbW w a n cap t) wr) :
    wr.cell? ⟨w.heap.size, 0, none⟩ = some (.slice a n cap) ∧ wr.cell? ⟨w.heap.size, 1, none⟩ = some (.int .i64 t) ∧ w.heap.size < wr.heap.size := by
  have hs := hB.size
  simp at hs
  refine ⟨?_, ?_, by omega⟩
  · rw [hB.cell (by simp)]; simp
  · rw [hB.cell (by simp)]; simp

theorem row_key {q : Nat → PD} {t : Int} {i : Nat} (h : rowOkB q t i = true) : kOk (q i).key = true := by
  simp only [rowOkB, pOkB, Bool.and_eq_true] at h
  exact h.1.1.1.1
theorem ne_step {q : Nat → PD} {j k : Nat} (h : ∀ j', j' < j → mk (q j').key ≠ mk (q k).key) (hj : mk (q j).key ≠ mk (q k).key) : ∀ j', j' < j + 1 → mk (q j').key ≠ mk (q k).key := fun j' h' => by
  by_cases e : j' = j
  · subst e; exact hj
  · exact h j' (by omega)
theorem row_step {q : Nat → PD} {t : Int} {k : Nat} (h : ∀ i, i < k → rowOkB q t i = true) (hk : rowOkB q t k = true) : ∀ i, i < k + 1 → rowOkB q t i = true := fun i h' => by
  by_cases e : i = k
  · subst e; exact hk
  · exact h i (by omega)
theorem key_step {q : Nat → PD} {k : Nat} (h : ∀ i j, j < i → i < k → mk (q j).key ≠ mk (q i).key) (hk : ∀ j', j' < k → mk (q j').key ≠ mk (q k).key) : ∀ i j, j < i → i < k + 1 → mk (q j).key ≠ mk (q i).key := fun i j h1 h2 => by
  by_cases e : i = k
  · subst e; exact hk j h1
  · exact h i j h1 (by omega)

set_option maxRecDepth 100000 in
set_option maxHeartbeats 16000000 in
theorem specTableOk_calls (a : Option Addr) (n cap : Nat) (t : Int) (q : Nat → PD) (w : World) (hn : n ≤ 1048576) (hq : ∀ i, i < n → (q i).wf) (hT : Tab w a n q) :
    Calls Try.prog 16 #[tOf a n cap t] w fun e w' => BoolSays (TabOk n t q) e ∧ Below w.heap.size w w' := by
  have hQ : Hid (∀ i, i < n → (q i).wf) := hq
  have HT : Hid (Tab w a n q) := hT
  clear hq hT
  by_cases c1 : 500 < n
  · have hno : Hid (¬ TabOk n t q) := fun h => absurd h.nn (by omega)
    go_enter Try.func16, Try.ntmps16
    go_wp2_with fail
    go_ret
    exact ⟨says_no hno.out, below_alloc _ _⟩
  by_cases c2 : t < 0
  · have hno : Hid (¬ TabOk n t q) := fun h => absurd h.t0 (by omega)
    go_enter Try.func16, Try.ntmps16
    go_wp2_with fail
    go_ret
    exact ⟨says_no hno.out, below_alloc _ _⟩
  by_cases c3 : 1000000000000 < t
  · have hno : Hid (¬ TabOk n t q) := fun h => absurd h.t1 (by omega)
    go_enter Try.func16, Try.ntmps16
    go_wp2_with fail
    go_ret
    exact ⟨says_no hno.out, below_alloc _ _⟩
  · go_enter Try.func16, Try.ntmps16
    go_wp2_with fail
    go_loopw [3, 24] (fun l i wr => ∃ (k : Nat), k ≤ n ∧ i = .int .i64 k ∧ l = .int .i64 (lastT q k) ∧ (∀ i, i < k → rowOkB q t i = true) ∧ (∀ i j, j < i → i < k → mk (q j).key ≠ mk (q i).key) ∧ Below (tbW w a n cap t).heap.size (tbW w a n cap t) wr) (fun _ i _ => n - (intOf i).toNat)
    case atStart => exact ⟨0, Nat.zero_le _, rfl, rfl, fun i hi => by omega, fun i j _ hi => by omega, Below.refl _ _⟩
    case round =>
      obtain ⟨k, hk, rfl, rfl, hok, hds, hB⟩ := hrel
      have hOk : Hid (∀ i, i < k → rowOkB q t i = true) := hok
      have hDs : Hid (∀ i j, j < i → i < k → mk (q j).key ≠ mk (q i).key) := hds
      clear hok hds
      obtain ⟨x0, x1, z0⟩ := tb_cells hB
      by_cases hkn : k < n
      · have HT1 : Hid (Tab (tbW w a n cap t) a n q) := HT.out.alloc _
        obtain ⟨b, off, rfl, hb, hc⟩ := HT1.out (by omega)
        have hc' : ∀ j, j < 11 → wr.cell? ⟨b, off + k * 11 + j, none⟩ = (pCells (q k))[j]? := fun j hj => (hB.cell (p := ⟨b, off + k * 11 + j, none⟩) hb).trans (hc k hkn j hj)
        have d0 := hc' 0 (by omega)
        have d1 := hc' 1 (by omega)
        have d2 := hc' 2 (by omega)
        have d3 := hc' 3 (by omega)
        have d4 := hc' 4 (by omega)
        have d5 := hc' 5 (by omega)
        have d6 := hc' 6 (by omega)
        have d7 := hc' 7 (by omega)
        have d8 := hc' 8 (by omega)
        have d9 := hc' 9 (by omega)
        have d10 := hc' 10 (by omega)
        simp only [List.getElem?_toArray, List.getElem?_cons_zero, List.getElem?_cons_succ, Nat.add_zero] at d0 d1 d2 d3 d4 d5 d6 d7 d8 d9 d10
        clear hc'
        clear hc
        have kf := (hQ.out k hkn).f1
        go_wp2_with fail
        refine (l2keyOk_calls (q k).key kf _).mono ?_
        rintro e w2 ⟨rfl, hb2⟩
        obtain ⟨hc2, hf2⟩ := bcell hb2
        have hP2 : ∀ j, w2.cell? ⟨wr.heap.size, j, none⟩ = (pCells (q k))[j]? := fun j => (hb2.cell (p := ⟨wr.heap.size, j, none⟩) (by simp)).trans (World.cell?_alloc_new wr (pCells (q k)) _ j)
        have HP2 : Hid (∀ j, w2.cell? ⟨wr.heap.size, j, none⟩ = (pCells (q k))[j]?) := hP2
        clear hP2
        have hB2 := below_ix hB (below_a' (o := .cells (pCells (q k)) 48) hb2)
        have hz2 := hb2.size
        (try simp at hz2)
        have z2 : w.heap.size < w2.heap.size := by omega
        have z4 : wr.heap.size < w2.heap.size := by omega
        clear d0 d1 d2 d3 d4 d5 d6 d7 d8 d9 d10 hb2 hf2 kf
        cases hp1 : kOk (q k).key
        · have hno : Hid (¬ TabOk n t q) := fun h => by have := h.row k hkn; simp [rowOkB, pOkB, hp1] at this
          go_wp2_with fail
          go_ret
          exact ⟨says_no hno.out, below_call (below_alloc _ _) hB2⟩
        go_wp2_with fail
        refine (specOk_calls _ _ _ _ _ _).mono ?_
        rintro e w3 ⟨rfl, hb3⟩
        obtain ⟨hc3, hf3⟩ := bcell hb3
        have hz3 := hb3.size
        have z5 : w.heap.size < w3.heap.size := by omega
        have z6 : wr.heap.size < w3.heap.size := by omega
        have HP3 : Hid (∀ j, w3.cell? ⟨wr.heap.size, j, none⟩ = (pCells (q k))[j]?) := fun j => (hb3.cell (p := ⟨wr.heap.size, j, none⟩) z4).trans (HP2.out j)
        replace hB2 := below_ix hB2 hb3
        clear hf3
        have hp2' : okB (q k).val.k (q k).val.n (q k).val.f (q k).val.s (q k).val.r = (q k).val.ok := rfl
        rw [hp2']
        clear hp2' hb3
        cases hp2 : (q k).val.ok
        · have hno : Hid (¬ TabOk n t q) := fun h => by have := h.row k hkn; simp [rowOkB, pOkB, hp2] at this
          go_wp2_with fail
          go_ret
          exact ⟨says_no hno.out, below_call (below_alloc _ _) hB2⟩
        by_cases hp3 : (q k).val.k = 0
        · have hno : Hid (¬ TabOk n t q) := fun h => by have := h.row k hkn; simp [rowOkB, pOkB, hp3] at this
          go_wp2_with fail
          go_ret
          exact ⟨says_no hno.out, below_call (below_alloc _ _) hB2⟩
        have hp3' : ((q k).val.k == 0) = false := by simpa using hp3
        by_cases g1 : (q k).turn ≤ lastT q k
        · have hno : Hid (¬ TabOk n t q) := fun h => by have := h.row k hkn; simp [rowOkB] at this; omega
          go_wp2_with fail
          go_ret
          exact ⟨says_no hno.out, below_call (below_alloc _ _) hB2⟩
        by_cases g2 : t < (q k).turn
        · have hno : Hid (¬ TabOk n t q) := fun h => by have := h.row k hkn; simp [rowOkB] at this; omega
          go_wp2_with fail
          go_ret
          exact ⟨says_no hno.out, below_call (below_alloc _ _) hB2⟩
        have hro : Hid (rowOkB q t k = true) := by
          show rowOkB q t k = true
          simp [rowOkB, pOkB, hp1, hp2, hp3]; omega
        have hkk : Hid (kOk (q k).key = true) := hp1
        clear hp2 hp3
        go_wp2_with fail
        clear hp3'
        have hB3 : Hid (Below (tbW w (some ⟨b, off, none⟩) n cap t).heap.size (tbW w (some ⟨b, off, none⟩) n cap t) w3) := hB2
        have hT3 : Hid (Tab w3 (some ⟨b, off, none⟩) n q) := HT1.out.below hB2
        clear hc2 hc3 x0 x1 hB HP2 hp1
        obtain ⟨x0, x1, _⟩ := tb_cells hB2
        clear hB2 x1
        obtain ⟨P, hP⟩ : ∃ P, wr.heap.size = P := ⟨_, rfl⟩
        rw [hP] at HP3 z6 ⊢
        clear hP z4 z0 hz2 hz3
        have X0 : Hid (w3.cell? ⟨w.heap.size, 0, none⟩ = some (.slice (some ⟨b, off, none⟩) n cap)) := x0
        clear x0
        obtain ⟨wo, hwo⟩ : ∃ wo, wr = wo := ⟨_, rfl⟩
        clear hwo wr
        go_loopw [6] (fun i wr => ∃ (j : Nat), j ≤ k ∧ i = .int .i64 j ∧ (∀ j', j' < j → mk (q j').key ≠ mk (q k).key) ∧ Below w3.heap.size w3 wr) (fun i _ => k - (intOf i).toNat)
        case atStart => exact ⟨0, Nat.zero_le _, rfl, fun j hj => by omega, Below.refl _ _⟩
        case round =>
          obtain ⟨j, hj, rfl, hdj, hBi⟩ := hrel
          have hDj : Hid (∀ j', j' < j → mk (q j').key ≠ mk (q k).key) := hdj
          clear hdj
          by_cases hjk : j < k
          · have hjn : j < n := by omega
            have hkj : kOk (q j).key = true := row_key (hOk.out j hjk)
            have hjf := hQ.out j hjn
            have hkf := hQ.out k hkn
            have hS : Hid (∀ w, Calls Try.prog 45 #[(q j).key.v, (q k).key.v] w fun e w' => e = .returned (.bool (decide (mk (q j).key = mk (q k).key))) ∧ Below w.heap.size w w') := by
              intro w
              rw [← same_mark (q j).key (q k).key hjf.f1 hkf.f1 hkj hkk.out]
              exact specSame_calls _ _ _ _ _ _ _ _ _ _ hjf.s1 hkf.s1 hjf.f1 hkf.f1 w
            clear hkj hjf hkf
            obtain ⟨b', off', e', hb', hc⟩ := hT3.out (by omega)
            cases e'
            have X0' : wr.cell? ⟨w.heap.size, 0, none⟩ = some (.slice (some ⟨b, off, none⟩) n cap) := (hBi.cell (p := ⟨w.heap.size, 0, none⟩) z5).trans X0.out
            have hc' : ∀ i, i < 5 → wr.cell? ⟨b, off + j * 11 + i, none⟩ = (pCells (q j))[i]? := fun i hi => (hBi.cell (p := ⟨b, off + j * 11 + i, none⟩) hb').trans (hc j hjn i (by omega))
            have hpc : ∀ i, wr.cell? ⟨P, i, none⟩ = (pCells (q k))[i]? := fun i => (hBi.cell (p := ⟨P, i, none⟩) z6).trans (HP3.out i)
            have d0 := hc' 0 (by omega)
            have d1 := hc' 1 (by omega)
            have d2 := hc' 2 (by omega)
            have d3 := hc' 3 (by omega)
            have d4 := hc' 4 (by omega)
            have e0 := hpc 0
            have e1 := hpc 1
            have e2 := hpc 2
            have e3 := hpc 3
            have e4 := hpc 4
            simp only [List.getElem?_toArray, List.getElem?_cons_zero, List.getElem?_cons_succ, Nat.add_zero] at d0 d1 d2 d3 d4 e0 e1 e2 e3 e4
            clear hc hc' hpc hb'
            have j0 : (0 : Int) ≤ (j : Int) := by omega
            have j1 : (j : Int) < (n : Int) := by omega
            have hBw : Hid (Below w.heap.size w wr) := below_call (below_call (below_alloc _ _) hB3.out) hBi
            by_cases hm : mk (q j).key = mk (q k).key
            · have hno : Hid (¬ TabOk n t q) := fun h => h.key k j hjk hkn hm
              have hS' : Hid (∀ w, Calls Try.prog 45 #[(q j).key.v, (q k).key.v] w fun e w' => e = .returned (.bool true) ∧ Below w.heap.size w w') := by
                have := hS.out; rw [decide_eq_true hm] at this; exact this
              clear hS hm
              go_wp2_with fail
              go_region_with (go_at_call 45; refine (hS'.out _).mono ?_; rintro e w4 ⟨rfl, hb4⟩; have HB4 : Hid (Below w.heap.size w w4) := (by first | exact below_call hBw.out hb4 | exact below_call hBw.out.drew hb4); clear hb4)
              all_goals go_wp2_with fail
              all_goals go_ret
              all_goals exact ⟨says_no hno.out, HB4.out⟩
            · have hS' : Hid (∀ w, Calls Try.prog 45 #[(q j).key.v, (q k).key.v] w fun e w' => e = .returned (.bool false) ∧ Below w.heap.size w w') := by
                have := hS.out; rw [decide_eq_false hm] at this; exact this
              have hM : Hid (mk (q j).key ≠ mk (q k).key) := hm
              clear hS hm
              go_wp2_with fail
              go_region_with (go_at_call 45; refine (hS'.out _).mono ?_; rintro e w4 ⟨rfl, hb4⟩; have HB4 : Hid (Below w3.heap.size w3 w4) := (by first | exact below_ix hBi hb4 | exact below_ix hBi.drew hb4); clear hb4)
              all_goals go_wp2_with fail
              all_goals go_roundw
              all_goals first | exact ⟨j + 1, by omega, by go_num, ne_step hDj.out hM.out, HB4.out⟩ | (simp [intOf]; omega)
          · have : j = k := by omega
            subst this
            go_wp2_with fail
            go_roundw
            case rel => exact ⟨j + 1, by omega, by go_num, rfl, row_step hOk.out hro.out, key_step hDs.out hDj.out, below_ix hB3.out hBi⟩
            case measure => simp [intOf]; omega
      · have : k = n := by omega
        subst this
        go_wp2_with fail
        go_ret
        exact ⟨says_yes ⟨by omega, by omega, by omega, hOk.out, hDs.out⟩, below_call (below_alloc _ _) hB⟩
end Go.Proofs.Ytiidepafifodjab
