import Derived.Test.YtiidepafifodjaaPrO
/-! slices.SortedFunc over the keys. -/
namespace Go.Proofs.Ytiidepafifodjaa
open Go.RowKit Go.Shelf Go.Lib Go.Sort
attribute [local go_sem] run_store_float

def encS (x : SP) : List Value := [.int .i64 x.1, .int .i64 x.2]
def spLt (a b : SP) : Prop := a.1 < b.1 ∨ (a.1 = b.1 ∧ a.2 < b.2)
theorem spC_lt (x y : SP) : spC x y < 0 ↔ spLt x y := by
  unfold spC orP cmpP spLt
  (repeat split) <;> omega
theorem ltOf_sp (x y : SP) : ltOf spC x y = true ↔ spLt x y := by
  unfold ltOf
  rw [decide_eq_true_eq]
  exact spC_lt x y
theorem ltOf_spF (x y : SP) : ltOf spC x y = false ↔ ¬ spLt x y := by
  rw [← ltOf_sp]
  simp
theorem swoSp : SWO (ltOf spC) where
  irrefl x := by rw [ltOf_spF]; unfold spLt; omega
  trans x y z h1 h2 := by rw [ltOf_sp] at *; unfold spLt at *; omega
  ntrans x y z h1 h2 := by rw [ltOf_spF] at *; unfold spLt at *; omega
theorem totSp (x y : SP) (h1 : ltOf spC x y = false) (h2 : ltOf spC y x = false) : x = y := by
  rw [ltOf_spF] at h1 h2
  unfold spLt at h1 h2
  obtain ⟨a, b⟩ := x
  obtain ⟨c, d⟩ := y
  dsimp only at h1 h2
  have e1 : a = c := by omega
  have e2 : b = d := by omega
  rw [e1, e2]

theorem spS_len : ∀ xs : List SP, (spS xs).length = xs.length * 2
  | [] => rfl
  | c :: r => by simp only [spS, List.length_cons, spS_len r]; omega
theorem spS_get : ∀ (xs : List SP) (i j : Nat), i < xs.length → j < 2 → (spS xs)[i * 2 + j]? = (encS (xs.getD i default))[j]?
  | [], i, _, h, _ => by simp at h
  | c :: r, 0, j, _, hj => by
    rcases (show j = 0 ∨ j = 1 by omega) with rfl | rfl <;> rfl
  | c :: r, i + 1, j, h, hj => by
    have e : (i + 1) * 2 + j = (i * 2 + j) + 2 := by omega
    have := spS_get r i j (by simpa using h) hj
    rw [e]
    simpa [spS] using this
theorem flat_sp (ys : List SP) : flatK encS 2 ys.toArray = (spS ys).toArray := by
  apply Array.ext
  · simp [spS_len]
  · intro t h1 h2
    have ht : t < ys.length * 2 := by simpa using h1
    have h3 := get_flatK encS 2 ys.toArray t (by simpa using ht)
    rw [getElem!_pos _ t h1] at h3
    rw [h3]
    have h4 := spS_get ys (t / 2) (t % 2) (by omega) (by omega)
    rw [show t / 2 * 2 + t % 2 = t by omega] at h4
    have h5 : (spS ys)[t]? = some ((spS ys).toArray[t]) := by
      rw [List.getElem?_eq_getElem (by simpa using h2)]
      simp
    rw [h5] at h4
    have h6 : ys.toArray[t / 2]! = ys.getD (t / 2) default := by
      simp [List.getD, Array.getElem!_eq_getD, Array.getD]
      have : t / 2 < ys.length := by omega
      simp [this]
    rw [h6]
    have h7 : (encS (ys.getD (t / 2) default))[t % 2]! = ((encS (ys.getD (t / 2) default))[t % 2]?).getD default := by simp
    rw [h7, ← h4]
    rfl

theorem heap_sortedV {w : World} {g n : Nat} {os : Array Obj} {cur : Array Value} {e : TypeId} {fr : Nat × Nat} (d : Array Value) (hb : w.heap[g]? = some (.cells cur e fr)) :
    (grow (putRow id (Sort.ahead w n) g 0 d) os).heap[g]? = some (.cells (putCells id 0 d cur) e fr) := by
  have hg : g < w.heap.size := (Array.getElem?_eq_some_iff.1 hb).1
  rw [heap_grow_old _ _ (by simpa using hg)]
  simp [putRow, mapBlock, Sort.ahead, Array.getElem?_modify, hb, onCells]
theorem grownBy_sortedV {w : World} {g n : Nat} {os : Array Obj} (d : Array Value) : w.grownBy (grow (putRow id (Sort.ahead w n) g 0 d) os) (some g) := by
  refine ⟨rfl, rfl, rfl, by simp, fun k hk hne => ?_⟩
  rw [heap_grow_old _ _ (by simpa using hk)]
  have : g ≠ k := fun e => hne (by rw [e])
  simp [putRow, mapBlock, Sort.ahead, Array.getElem?_modify, this]
theorem take_putCellsV (cur : Array Value) (ts : List Value) (h : ts.length ≤ cur.size) : (putCells id 0 ts.toArray cur).toList.take ts.length = ts := by
  apply List.ext_getElem?
  intro j
  by_cases hj : j < ts.length
  · rw [List.getElem?_take_of_lt hj, Array.getElem?_toList]
    simp [putCells, hj, show j < cur.size by omega]
  · rw [List.getElem?_take_eq_none (by omega), List.getElem?_eq_none (by omega)]

theorem sortSp_calls (N g cap : Nat) (ys : List SP) (w : World) (hn : ys.length ≤ 1048576) (ho : w.ownsRow N 86 2 (.slice (some ⟨g, 0, none⟩) ys.length cap) ys.length (spS ys)) :
    Calls Try.prog 102 #[.slice (some ⟨g, 0, none⟩) ys.length cap, .func (.func 54) #[] #[]] w fun e w' => e = .returned (.tuple #[]) ∧ ∃ zs : List SP, zs.Perm ys ∧ zs.Pairwise (fun a b => ¬ spLt b a) ∧ w'.ownsRow N 86 2 (.slice (some ⟨g, 0, none⟩) ys.length cap) ys.length (spS zs) ∧ w.grownBy w' (some g) := by
  have hf := ho.2
  rcases hf with ⟨e, _⟩ | ⟨g', cap', cur, e, hb, hg, h1, h2, h3, h4⟩
  · cases e
  obtain ⟨rfl, rfl⟩ : g = g' ∧ cap = cap' := by simpa using e
  have eg : ∀ args w, (callFunc 54 args).run Try.prog w = .ok (.enter 54 args) w := enters_of Try.func54 (by kernel_rfl) rfl
  have hH : HoldsK encS 2 w g 0 ys.toArray := by
    show Holds id w g 0 (flatK encS 2 ys.toArray)
    rw [flat_sp]
    intro j hj
    have hj' : j < (spS ys).length := by simpa using hj
    refine ⟨?_, by rw [Nat.zero_add]; exact ho.frozenAt j⟩
    rw [Nat.zero_add, ho.cellAt j (by rw [spS_len] at hj'; omega), getElem!_pos _ j hj, List.getElem?_eq_getElem hj']
    simp
  have hcon := AnyQ.slices_SortFunc_total sortSp 2 Try.isAgg86 Try.sizeOf86 encS (fun _ => rfl) (fun x v hv => by simp [encS] at hv; rcases hv with rfl | rfl <;> rfl) spC swoSp 54 #[] g 0 cap ys.toArray w eg (fun _ _ _ _ x y => spotOrder_calls x y _) hH (Array.getElem?_eq_some_iff.1 hg).1 (by simp; omega) totSp
  refine Calls.mono hcon fun e w' ⟨he, n, os, hw⟩ => ⟨he, ys.mergeSort (fun x y => !ltOf spC y x), List.mergeSort_perm _ _, ?_, ?_, ?_⟩
  · refine (List.pairwise_mergeSort (le := fun x y => !ltOf spC y x) (fun a b c h1 h2 => ?_) (fun a b => ?_) ys).imp fun {a b} h => ?_
    · simp only [Bool.not_eq_true', ltOf_spF] at h1 h2 ⊢
      unfold spLt at *
      omega
    · simp only [Bool.or_eq_true, Bool.not_eq_true', ltOf_spF]
      unfold spLt
      omega
    · simpa only [Bool.not_eq_true', ltOf_spF] using h
  · rw [hw]
    have hl : (ys.mergeSort (fun x y => !ltOf spC y x)).length = ys.length := (List.mergeSort_perm _ _).length_eq
    show (grow (putRow id (Sort.ahead w n) g 0 (flatK encS 2 (ys.mergeSort (fun x y => !ltOf spC y x)).toArray)) os).ownsRow _ _ _ _ _ _
    rw [flat_sp]
    refine ⟨by rw [spS_len, hl], .inr ⟨g, cap, _, rfl, hb, heap_sortedV _ hg, h1, h2, by simp [putCells, h3], ?_⟩⟩
    have := take_putCellsV cur (spS (ys.mergeSort (fun x y => !ltOf spC y x))) (by rw [spS_len, hl]; omega)
    rw [spS_len, hl] at this
    exact this
  · rw [hw]
    exact grownBy_sortedV _

theorem sortSp_none (a : Option Addr) (cap : Nat) (fv : Value) (w : World) : Calls Try.prog 102 #[.slice a 0 cap, fv] w fun e w' => e = .returned (.tuple #[]) ∧ w' = w :=
  AnyF.slices_SortFunc_none sortSp a cap fv w

set_option maxRecDepth 100000 in
set_option maxHeartbeats 4000000 in
theorem sortedFunc_calls (Bm b : Nat) (L : List (SP × Int)) (w : World) (hL : L.length ≤ 1048576) (hN : (L.map (·.1)).Nodup) (hBm : Bm < w.heap.size) (c1 : w.cell? ⟨Bm, 0, none⟩ = some (.map (some b))) (hM : MapH w b L) :
    Calls Try.prog 52 #[.func (.func 103) #[] #[.pointer (some ⟨Bm, 0, none⟩)], .func (.func 54) #[] #[]] w fun e w' => ∃ (a : Option Addr) (cap : Nat) (ys : List SP), e = .returned (.slice a ys.length cap) ∧ ys.Perm (L.map (·.1)) ∧ ys.Pairwise spLt ∧ w'.ownsRow w.heap.size 86 2 (.slice a ys.length cap) ys.length (spS ys) ∧ Below w.heap.size w w' := by
  have HM : Hid (MapH w b L) := hM
  clear hM
  go_enter Try.func52, Try.ntmps52
  go_wp2_with fail
  refine (collect_calls Bm b L w hL hBm c1 HM.out).mono ?_
  rintro e w2 ⟨v, ys, rfl, hp, ho, hb2⟩
  have HP : Hid (ys.Perm (L.map (·.1))) := hp
  have HB : Hid (Below w.heap.size w w2) := hb2
  have hlen : ys.length ≤ 1048576 := by have := hp.length_eq; simp at this; omega
  have HN : Hid (ys.Nodup) := hp.nodup_iff.2 hN
  clear hp hb2 HM c1
  rcases (show ys = [] ∨ 0 < ys.length by cases ys <;> simp) with rfl | h0
  · obtain ⟨a, cap, rfl⟩ := ownsK_form ho
    have HO : Hid (w2.ownsRow w.heap.size 86 2 (.slice a ([] : List SP).length cap) ([] : List SP).length (spS [])) := ho
    clear ho
    go_wp2_with (go_at_call 102; refine (sortSp_none _ _ _ _).mono ?_; rintro e w3 ⟨rfl, rfl⟩)
    go_ret
    exact ⟨a, cap, [], rfl, HP.out, List.Pairwise.nil, HO.out, HB.out⟩
  · obtain ⟨g, cap, rfl⟩ : ∃ g cap, v = .slice (some ⟨g, 0, none⟩) ys.length cap := by
      rcases ho.2 with ⟨_, h⟩ | ⟨g, cap, cur, e, _⟩
      · omega
      · exact ⟨g, cap, e⟩
    have HO : Hid (w2.ownsRow w.heap.size 86 2 (.slice (some ⟨g, 0, none⟩) ys.length cap) ys.length (spS ys)) := ho
    clear ho
    go_wp2_with (go_at_call 102; refine (sortSp_calls w.heap.size g cap ys w2 hlen HO.out).mono ?_; rintro e w3 ⟨rfl, zs, hz1, hz2, hz3, hz4⟩; have HZ : Hid (zs.Perm ys ∧ zs.Pairwise (fun a b => ¬ spLt b a) ∧ w3.ownsRow w.heap.size 86 2 (.slice (some ⟨g, 0, none⟩) ys.length cap) ys.length (spS zs) ∧ w2.grownBy w3 (some g)) := ⟨hz1, hz2, hz3, hz4⟩; clear hz1 hz2 hz3 hz4)
    go_ret
    obtain ⟨hz1, hz2, hz3, hz4⟩ := HZ.out
    have hl : zs.length = ys.length := hz1.length_eq
    refine ⟨some ⟨g, 0, none⟩, cap, zs, (by rw [hl]; rfl), hz1.trans HP.out, ?_, by rw [hl]; exact hz3, HB.out.grown hz4 HB.out.size (fun k e => by cases e; exact (HO.out.lt g rfl).1)⟩
    have hnd : zs.Nodup := hz1.nodup_iff.2 HN.out
    refine List.Pairwise.imp₂ (fun a b h1 h2 => ?_) hz2 hnd
    by_cases h : spLt a b
    · exact h
    · exact absurd (totSp a b ((ltOf_spF _ _).2 h) ((ltOf_spF _ _).2 h1)) h2
end Go.Proofs.Ytiidepafifodjaa
