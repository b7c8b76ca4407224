import Derived.Test.YtiidepafifodjabAfterI
/-! Tables: impl's firstAfter. -/
namespace Go.Proofs.Ytiidepafifodjab
open Go.RowKit Go.Shelf
attribute [local go_sem] run_store_float
attribute [local go_sem] Oper.semAt_some

abbrev fC (f : Bool) (p : PD) : Array Value := #[.bool f, .int .i64 p.key.k, .int .i64 p.key.n, .float .f64 p.key.f, .string p.key.s, .int .i64 p.key.r, .int .i64 p.val.k, .int .i64 p.val.n, .float .f64 p.val.f, .string p.val.s, .int .i64 p.val.r, .int .i64 p.turn]
abbrev fOf (f : Bool) (p : PD) : Value := .agg (fC f p)

/-- the first pair behind a turn, if there is one -/
def FirstIs (q : Nat → PD) (T : Int) (n : Nat) (f : Bool) (p : PD) : Prop :=
  (f = true ∧ ∃ k, k < n ∧ p = q k ∧ T < (q k).turn ∧ ∀ j, j < k → ¬ T < (q j).turn) ∨ (f = false ∧ p = pz ∧ ∀ k, k < n → ¬ T < (q k).turn)

theorem came_nil {q : Nat → PD} {T : Int} : ∀ {k : Nat}, came q T k = [] → ∀ j, j < k → ¬ T < (q j).turn
  | 0, _, j, hj => by omega
  | k + 1, h, j, hj => by
    by_cases c : T < (q k).turn
    · rw [came_yes c] at h; simp at h
    · rw [came_no c] at h
      by_cases e : j = k
      · subst e; exact c
      · exact came_nil h j (by omega)

theorem kept12 {W W' : World} {b : Nat} {A : Array Value} (hA : 0 < A.size) (h : ∀ o, W.cell? ⟨b, o, none⟩ = A[o]?) {row : Option Nat} (hg : W.grownBy W' row) (hrow : ∀ r, row = some r → ∃ o : Obj, W.heap[r]? = some o ∧ o.isCells = false) : ∀ o, W'.cell? ⟨b, o, none⟩ = A[o]? := fun o => by
  have h0 : W.cell? ⟨b, 0, none⟩ = some (A[0]'hA) := by rw [h 0, Array.getElem?_eq_getElem hA]
  obtain ⟨ob, ho, hc⟩ := cells_of_cell h0
  have := World.cell?_of_block (w := W) (w' := W') (a := ⟨b, o, none⟩) (grownBy_keeps_cells hg hrow ho hc)
  rw [this]; exact h o

theorem set12 {w : World} {B : Nat} {A : Array Value} (h : ∀ o, w.cell? ⟨B, o, none⟩ = A[o]?) (hA : A.size = 12) (v0 v1 v2 v3 v4 v5 v6 v7 v8 v9 v10 v11 : Value) :
    ∀ o, ((((((((((((w.setCell ⟨B, 0, none⟩ v0).setCell ⟨B, 1, none⟩ v1).setCell ⟨B, 2, none⟩ v2).setCell ⟨B, 3, none⟩ v3).setCell ⟨B, 4, none⟩ v4).setCell ⟨B, 5, none⟩ v5).setCell ⟨B, 6, none⟩ v6).setCell ⟨B, 7, none⟩ v7).setCell ⟨B, 8, none⟩ v8).setCell ⟨B, 9, none⟩ v9).setCell ⟨B, 10, none⟩ v10).setCell ⟨B, 11, none⟩ v11).cell? ⟨B, o, none⟩ = (#[v0, v1, v2, v3, v4, v5, v6, v7, v8, v9, v10, v11] : Array Value)[o]? := by
  have hs : ∀ i, i < 12 → (w.cell? ⟨B, i, none⟩).isSome = true := fun i hi => by rw [h i, Array.getElem?_eq_getElem (by omega)]; rfl
  have h0 := hs 0 (by omega)
  have h1 := hs 1 (by omega)
  have h2 := hs 2 (by omega)
  have h3 := hs 3 (by omega)
  have h4 := hs 4 (by omega)
  have h5 := hs 5 (by omega)
  have h6 := hs 6 (by omega)
  have h7 := hs 7 (by omega)
  have h8 := hs 8 (by omega)
  have h9 := hs 9 (by omega)
  have h10 := hs 10 (by omega)
  have h11 := hs 11 (by omega)
  intro o
  rcases o with _ | _ | _ | _ | _ | _ | _ | _ | _ | _ | _ | _ | o
  · simp [go_sem, h0]
  · simp [go_sem, h1]
  · simp [go_sem, h2]
  · simp [go_sem, h3]
  · simp [go_sem, h4]
  · simp [go_sem, h5]
  · simp [go_sem, h6]
  · simp [go_sem, h7]
  · simp [go_sem, h8]
  · simp [go_sem, h9]
  · simp [go_sem, h10]
  · simp [go_sem, h11]
  · have := h (o + 12)
    rw [Array.getElem?_eq_none (by omega)] at this
    simp [go_sem, this]
theorem keeps12 (w : World) (B : Nat) (v0 v1 v2 v3 v4 v5 v6 v7 v8 v9 v10 v11 : Value) : KeepsOthers w ((((((((((((w.setCell ⟨B, 0, none⟩ v0).setCell ⟨B, 1, none⟩ v1).setCell ⟨B, 2, none⟩ v2).setCell ⟨B, 3, none⟩ v3).setCell ⟨B, 4, none⟩ v4).setCell ⟨B, 5, none⟩ v5).setCell ⟨B, 6, none⟩ v6).setCell ⟨B, 7, none⟩ v7).setCell ⟨B, 8, none⟩ v8).setCell ⟨B, 9, none⟩ v9).setCell ⟨B, 10, none⟩ v10).setCell ⟨B, 11, none⟩ v11) :=
  ((((((((((((KeepsOthers.setCell _ _ _).trans (KeepsOthers.setCell _ _ _)).trans (KeepsOthers.setCell _ _ _)).trans (KeepsOthers.setCell _ _ _)).trans (KeepsOthers.setCell _ _ _)).trans (KeepsOthers.setCell _ _ _)).trans (KeepsOthers.setCell _ _ _)).trans (KeepsOthers.setCell _ _ _)).trans (KeepsOthers.setCell _ _ _)).trans (KeepsOthers.setCell _ _ _)).trans (KeepsOthers.setCell _ _ _)).trans (KeepsOthers.setCell _ _ _))
theorem st12 {N B : Nat} {a w : World} (h : Below N a w) (hp : N ≤ B) (v0 v1 v2 v3 v4 v5 v6 v7 v8 v9 v10 v11 : Value) : Below N a ((((((((((((w.setCell ⟨B, 0, none⟩ v0).setCell ⟨B, 1, none⟩ v1).setCell ⟨B, 2, none⟩ v2).setCell ⟨B, 3, none⟩ v3).setCell ⟨B, 4, none⟩ v4).setCell ⟨B, 5, none⟩ v5).setCell ⟨B, 6, none⟩ v6).setCell ⟨B, 7, none⟩ v7).setCell ⟨B, 8, none⟩ v8).setCell ⟨B, 9, none⟩ v9).setCell ⟨B, 10, none⟩ v10).setCell ⟨B, 11, none⟩ v11) :=
  (st1 (st1 (st1 (st1 (st1 (st1 (st1 (st1 (st1 (st1 (st1 (st1 h hp v0) hp v1) hp v2) hp v3) hp v4) hp v5) hp v6) hp v7) hp v8) hp v9) hp v10) hp v11)

set_option maxRecDepth 100000 in
set_option maxHeartbeats 4000000 in
theorem firstAfter_in (F : Fence) (m : Nat) (h42 : F.fn 53) (h68 : F.fn 80) (h77 : F.fn 90) (hro : F.round = none) (hm : 3 ≤ m) (X : Nat) (a : Option Addr) (n cap B : Nat) (t : Int) (q : Nat → PD) (T : Int) (w : World) (hn : n ≤ 1048576) (hX : XBox w X a n cap B t q) :
    CallsIn F m Try.prog 53 #[.pointer (some ⟨X, 0, none⟩), .int .i64 T] w fun e W' => (∃ f p, e = .returned (fOf f p) ∧ FirstIs q T n f p) ∧ Below w.heap.size w W' := by
  have h1 : 1 ≤ m := by omega
  refine callsIn_of_wp_marks Try.func53 rfl h42 ?_ hro
  simp only [Try.ntmps53, List.size_toArray, List.length_cons, List.length_nil, Nat.reduceAdd, Nat.reduceSub, Array.replicate_succ, Array.replicate_zero, List.push_toArray, List.append_toArray, List.nil_append, List.cons_append]
  gi_wp2_with (gi_at_call 80; refine (after_in F (m - 1) h68 hro _ _ _).mono ?_; rintro e w' ⟨rfl, rfl⟩)
  have b0 : Below w.heap.size w (((w.alloc (.cells #[.bool false, .int .i64 0, .int .i64 0, .float .f64 0, .string ⟨#[]⟩, .int .i64 0, .int .i64 0, .int .i64 0, .float .f64 0, .string ⟨#[]⟩, .int .i64 0, .int .i64 0] 50)).alloc (.cells #[.pointer (some ⟨X, 0, none⟩)] 121)).alloc (.cells #[.int .i64 T] 3)) := below_alloc3 _ _ _ _
  have xb := ((hX.alloc (.cells #[.bool false, .int .i64 0, .int .i64 0, .float .f64 0, .string ⟨#[]⟩, .int .i64 0, .int .i64 0, .int .i64 0, .float .f64 0, .string ⟨#[]⟩, .int .i64 0, .int .i64 0] 50)).alloc (.cells #[.pointer (some ⟨X, 0, none⟩)] 121)).alloc (.cells #[.int .i64 T] 3)
  have s0 : ∀ o, (((w.alloc (.cells #[.bool false, .int .i64 0, .int .i64 0, .float .f64 0, .string ⟨#[]⟩, .int .i64 0, .int .i64 0, .int .i64 0, .float .f64 0, .string ⟨#[]⟩, .int .i64 0, .int .i64 0] 50)).alloc (.cells #[.pointer (some ⟨X, 0, none⟩)] 121)).alloc (.cells #[.int .i64 T] 3)).cell? ⟨w.heap.size, o, none⟩ = (fC false pz)[o]? := fun o => by
    rw [World.cell?_alloc_lt _ _ _ (by simp; omega), World.cell?_alloc_lt _ _ _ (by simp)]; exact World.cell?_alloc_new w _ _ o
  have f0 : ∀ o, (((w.alloc (.cells #[.bool false, .int .i64 0, .int .i64 0, .float .f64 0, .string ⟨#[]⟩, .int .i64 0, .int .i64 0, .int .i64 0, .float .f64 0, .string ⟨#[]⟩, .int .i64 0, .int .i64 0] 50)).alloc (.cells #[.pointer (some ⟨X, 0, none⟩)] 121)).alloc (.cells #[.int .i64 T] 3)).frozen? ⟨w.heap.size, o, none⟩ = false := fun o => by simp [go_sem]
  have k1 : (((w.alloc (.cells #[.bool false, .int .i64 0, .int .i64 0, .float .f64 0, .string ⟨#[]⟩, .int .i64 0, .int .i64 0, .int .i64 0, .float .f64 0, .string ⟨#[]⟩, .int .i64 0, .int .i64 0] 50)).alloc (.cells #[.pointer (some ⟨X, 0, none⟩)] 121)).alloc (.cells #[.int .i64 T] 3)).cell? ⟨w.heap.size + 1, 0, none⟩ = some (.pointer (some ⟨X, 0, none⟩)) := by simp [go_sem]
  have k2 : (((w.alloc (.cells #[.bool false, .int .i64 0, .int .i64 0, .float .f64 0, .string ⟨#[]⟩, .int .i64 0, .int .i64 0, .int .i64 0, .float .f64 0, .string ⟨#[]⟩, .int .i64 0, .int .i64 0] 50)).alloc (.cells #[.pointer (some ⟨X, 0, none⟩)] 121)).alloc (.cells #[.int .i64 T] 3)).cell? ⟨w.heap.size + 1 + 1, 0, none⟩ = some (.int .i64 T) := by simp [go_sem]
  have hsz : (((w.alloc (.cells #[.bool false, .int .i64 0, .int .i64 0, .float .f64 0, .string ⟨#[]⟩, .int .i64 0, .int .i64 0, .int .i64 0, .float .f64 0, .string ⟨#[]⟩, .int .i64 0, .int .i64 0] 50)).alloc (.cells #[.pointer (some ⟨X, 0, none⟩)] 121)).alloc (.cells #[.int .i64 T] 3)).heap.size = w.heap.size + 3 := by simp
  obtain ⟨W0, hW0⟩ : ∃ W0, (((w.alloc (.cells #[.bool false, .int .i64 0, .int .i64 0, .float .f64 0, .string ⟨#[]⟩, .int .i64 0, .int .i64 0, .int .i64 0, .float .f64 0, .string ⟨#[]⟩, .int .i64 0, .int .i64 0] 50)).alloc (.cells #[.pointer (some ⟨X, 0, none⟩)] 121)).alloc (.cells #[.int .i64 T] 3)) = W0 := ⟨_, rfl⟩
  rw [hW0] at b0 xb s0 f0 k1 k2 hsz ⊢
  clear hW0 hX
  refine wpIn_rangeFunc_ownH hro h1 (gf := 90) (lb := #[.pointer (some ⟨w.heap.size + 1, 0, none⟩), .pointer (some ⟨w.heap.size + 1 + 1, 0, none⟩)]) rfl h77 (enters_of Try.func90 (by kernel_rfl) rfl)
    (after_stops F (m - 1) h77 hro (by omega) (w.heap.size + 1) (w.heap.size + 1 + 1) X a n cap q T hn W0 (by omega) (by omega) xb.lt k1 k2 xb.c0 xb.tab) belowK_t (belowK_b (Nat.le_refl _)) (Below.refl _ _) (fun _ => rfl)
    (fun pre W => pre = [] ∧ Below W0.heap.size W0 W)
    (fun c pre W => (c = .ret ∧ ∃ x, pre = [x] ∧ ∀ o, W.cell? ⟨w.heap.size, o, none⟩ = (fC true x)[o]?) ∧ Below w.heap.size w W)
    (OwnFrom.and (ownFrom_pure _ _) (ownFrom_below (Nat.le_refl _) (Nat.le_refl _)))
    (fun c => OwnFrom.and (Own.from (fun s A B row hs hg hr => by obtain ⟨hc, x, e, hcell⟩ := hs; exact ⟨hc, x, e, kept12 (by show (0 : Nat) < 12; omega) hcell hg hr⟩) _) (ownFrom_below (Nat.le_refl _) (by omega)))
    ⟨rfl, Below.refl _ _⟩
    (fun x a' W => ∃ Bx, W0.heap.size ≤ Bx ∧ (∀ o, W.cell? ⟨Bx, o, none⟩ = (pCells x)[o]?) ∧ a' = { tmps := #[.pointer (some ⟨X, 0, none⟩), .int .i64 T, undef, undef, .pointer (some ⟨w.heap.size, 0, none⟩), .pointer (some ⟨Bx, 0, none⟩), .pointer (some ⟨X, 0, none⟩), .int .i64 T, .func (.func 90) #[] #[.pointer (some ⟨w.heap.size + 1, 0, none⟩), .pointer (some ⟨w.heap.size + 1 + 1, 0, none⟩)], pOf x, undef, undef, undef], defers := [] })
    (fun x a' _ X' Y row hs hg hr => by obtain ⟨Bx, h1, h2, h3⟩ := hs; exact ⟨Bx, h1, kept12 (by show (0 : Nat) < 11; omega) h2 hg (fun r e => (hr r e).2), h3⟩)
    ?assign ?body ?done ?stop
  case assign =>
    rintro l pre x W K ⟨hp, hB⟩ hK
    gi_wp2
    exact hK _ _ ((KeepsOthers.alloc _ _).from _) ((Below.refl _ W).alloc hB.size _) ⟨hp, hB.alloc hB.size _⟩ ⟨W.heap.size, hB.size, fun o => World.cell?_alloc_new _ _ _ o, rfl⟩
  case body =>
    rintro l pre x a' W hl ⟨r, hr⟩ ⟨rfl, hB⟩ ⟨Bx, hBx, bX, rfl⟩ hlt
    have sW : ∀ o, W.cell? ⟨w.heap.size, o, none⟩ = (fC false pz)[o]? := fun o => (hB.cell (p := ⟨w.heap.size, o, none⟩) (by simp; omega)).trans (s0 o)
    have fW : ∀ o, W.frozen? ⟨w.heap.size, o, none⟩ = false := fun o => (hB.frozen (p := ⟨w.heap.size, o, none⟩) (by simp; omega)).trans (f0 o)
    have hBW : Below w.heap.size w W := b0.trans (hB.mono (by omega))
    have SW : Hid (∀ o, W.cell? ⟨w.heap.size, o, none⟩ = (fC false pz)[o]?) := sW
    gi_wp2
    exact ⟨(keeps12 W w.heap.size _ _ _ _ _ _ _ _ _ _ _ _).from _, ⟨rfl, x, rfl, set12 SW.out rfl _ _ _ _ _ _ _ _ _ _ _ _⟩, st12 hBW (Nat.le_refl _) _ _ _ _ _ _ _ _ _ _ _ _⟩
  case done =>
    rintro D ys W hD hS ⟨rfl, hB⟩ hK
    have sW : ∀ o, W.cell? ⟨w.heap.size, o, none⟩ = (fC false pz)[o]? := fun o => (hB.cell (p := ⟨w.heap.size, o, none⟩) (by simp; omega)).trans (s0 o)
    have fW : ∀ o, W.frozen? ⟨w.heap.size, o, none⟩ = false := fun o => (hB.frozen (p := ⟨w.heap.size, o, none⟩) (by simp; omega)).trans (f0 o)
    have hBW : Below w.heap.size w W := b0.trans (hB.mono (by omega))
    have SW : Hid (∀ o, W.cell? ⟨w.heap.size, o, none⟩ = (fC false pz)[o]?) := sW
    gi_wp2
    have hK' := (keeps12 W w.heap.size (.bool false) (.int .i64 0) (.int .i64 0) (.float .f64 0) (.string ⟨#[]⟩) (.int .i64 0) (.int .i64 0) (.int .i64 0) (.float .f64 0) (.string ⟨#[]⟩) (.int .i64 0) (.int .i64 0)).same D _ hK rfl
    refine ⟨by simp, .inl ⟨_, _, rfl, run_takeDeferred hK', ?_⟩⟩
    have hc5 := kept12 (by decide) (set12 SW.out rfl (.bool false) (.int .i64 0) (.int .i64 0) (.float .f64 0) (.string ⟨#[]⟩) (.int .i64 0) (.int .i64 0) (.int .i64 0) (.float .f64 0) (.string ⟨#[]⟩) (.int .i64 0) (.int .i64 0)) (grownBy_putObj' _ D (.deferred none)) (fun r e => by cases e; exact ⟨_, hK', rfl⟩)
    refine ⟨fOf false pz, ?_, ⟨false, pz, rfl, .inr ⟨rfl, rfl, came_nil hS.symm⟩⟩, (st12 hBW (Nat.le_refl _) _ _ _ _ _ _ _ _ _ _ _ _).trans (belowK_b (w := w) (Nat.le_refl _) _ D _ _ (by omega) hK' rfl rfl)⟩
    simp [results, Try.results53, go_sem, hc5, pz, vz]
  case stop =>
    rintro D c pre W hD ⟨k, hk, ht, rfl⟩ ⟨⟨rfl, x, hpre, hcell⟩, hB⟩ hK
    have hck : came q T k = [] ∧ q k = x := by
      cases hc : came q T k with
      | nil => rw [hc] at hpre; simp at hpre; exact ⟨rfl, hpre⟩
      | cons y ys => rw [hc] at hpre; simp at hpre
    obtain ⟨hnil, rfl⟩ := hck
    have HF : Hid (FirstIs q T n true (q k)) := .inl ⟨rfl, k, hk, rfl, ht, came_nil hnil⟩
    clear hpre hnil ht
    gi_wp2
    refine ⟨by simp, .inl ⟨_, _, rfl, run_takeDeferred hK, ?_⟩⟩
    have hc5 := kept12 (by show (0 : Nat) < 12; omega) hcell (grownBy_putObj' _ D (.deferred none)) (fun r e => by cases e; exact ⟨_, hK, rfl⟩)
    refine ⟨fOf true (q k), ?_, ⟨true, q k, rfl, HF.out⟩, hB.trans (belowK_b (w := w) (Nat.le_refl _) _ D _ _ (by omega) hK rfl rfl)⟩
    simp [results, Try.results53, go_sem, hc5]

theorem firstAfter_calls (X : Nat) (a : Option Addr) (n cap B : Nat) (t : Int) (q : Nat → PD) (T : Int) (w : World) (hn : n ≤ 1048576) (hX : XBox w X a n cap B t q) :
    Calls Try.prog 53 #[.pointer (some ⟨X, 0, none⟩), .int .i64 T] w fun e W' => (∃ f p, e = .returned (fOf f p) ∧ FirstIs q T n f p) ∧ Below w.heap.size w W' :=
  callsIn_wide.1 (firstAfter_in Fence.wide 3 trivial trivial trivial rfl (Nat.le_refl _) X a n cap B t q T w hn hX)
end Go.Proofs.Ytiidepafifodjab
