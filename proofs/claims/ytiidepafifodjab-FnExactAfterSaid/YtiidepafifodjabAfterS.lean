import Derived.Test.YtiidepafifodjabAfterF
import Derived.Test.YtiidepafifodjabTabJ
/-! Tables: After, both. -/
namespace Go.Proofs.Ytiidepafifodjab
open Go.RowKit
attribute [local go_sem] run_store_float
attribute [local go_sem ↓] Go.wp_at_zero Go.wp_at_succ

theorem FirstIs.one {q : Nat → PD} {T : Int} {n : Nat} {f g : Bool} {p r : PD} (h : FirstIs q T n f p) (k : FirstIs q T n g r) : f = g ∧ p = r := by
  rcases h with ⟨rfl, i, h1, rfl, h3, h4⟩ | ⟨rfl, rfl, h3⟩ <;> rcases k with ⟨rfl, j, k1, rfl, k3, k4⟩ | ⟨rfl, rfl, k3⟩
  · rcases Nat.lt_trichotomy i j with c | c | c
    · exact absurd h3 (k4 i c)
    · subst c; exact ⟨rfl, rfl⟩
    · exact absurd k3 (h4 j c)
  · exact absurd h3 (k3 i h1)
  · exact absurd k3 (h3 j k1)
  · exact ⟨rfl, rfl⟩

def AfterSays (n : Nat) (t : Int) (q : Nat → PD) (T : Int) (f : Bool) (p : PD) : Prop := (TabOk n t q ∧ FirstIs q T n f p) ∨ (¬ TabOk n t q ∧ f = false ∧ p = pz)
theorem AfterSays.one {n : Nat} {t : Int} {q : Nat → PD} {T : Int} {f g : Bool} {p r : PD} (h : AfterSays n t q T f p) (k : AfterSays n t q T g r) : f = g ∧ p = r := by
  rcases h with ⟨h1, h2⟩ | ⟨h1, rfl, rfl⟩ <;> rcases k with ⟨k1, k2⟩ | ⟨k1, rfl, rfl⟩
  · exact h2.one k2
  · exact absurd h1 k1
  · exact absurd k1 h1
  · exact ⟨rfl, rfl⟩

/-- a pair, if there is one, of which R says what it is -/
def FoundSays (R : Bool → PD → Prop) (e : Ending) : Prop := ∃ f p, e = .returned (fOf f p) ∧ R f p

abbrev fz12 : Array Value := #[.bool false, .int .i64 0, .int .i64 0, .float .f64 0, .string ⟨#[]⟩, .int .i64 0, .int .i64 0, .int .i64 0, .float .f64 0, .string ⟨#[]⟩, .int .i64 0, .int .i64 0]
abbrev aw (w : World) (a : Option Addr) (n cap : Nat) (t : Int) : World := (w.alloc (.cells #[.slice a n cap, .int .i64 t] 40)).alloc (.cells fz12 50)
theorem aw_cells {w : World} {a : Option Addr} {n cap : Nat} {t : Int} {wr : World} (hB : Below (aw w a n cap t).heap.size (aw w a n cap t) wr) :
    wr.cell? ⟨w.heap.size, 0, none⟩ = some (.slice a n cap) ∧ wr.cell? ⟨w.heap.size, 1, none⟩ = some (.int .i64 t) ∧ (∀ o, wr.cell? ⟨w.heap.size + 1, o, none⟩ = fz12[o]?) ∧ (∀ o, wr.frozen? ⟨w.heap.size + 1, o, none⟩ = false) ∧ w.heap.size < wr.heap.size ∧ w.heap.size + 1 < wr.heap.size := by
  have hs := hB.size
  simp at hs
  refine ⟨?_, ?_, fun o => ?_, fun o => ?_, by omega, by omega⟩
  · rw [hB.cell (by simp; omega)]; simp
  · rw [hB.cell (by simp; omega)]; simp
  · rw [hB.cell (by simp)]
    have := World.cell?_alloc_new (w.alloc (.cells #[.slice a n cap, .int .i64 t] 40)) fz12 50 o
    simp only [World.size_alloc] at this
    exact this
  · rw [hB.frozen (by simp)]; simp

theorem no_step {q : Nat → PD} {T : Int} {k : Nat} (h : ∀ j, j < k → ¬ T < (q j).turn) (hk : ¬ T < (q k).turn) : ∀ j, j < k + 1 → ¬ T < (q j).turn := fun j hj => by
  by_cases e : j = k
  · subst e; exact hk
  · exact h j (by omega)

set_option maxRecDepth 100000 in
set_option maxHeartbeats 8000000 in
theorem l2after_calls (a : Option Addr) (n cap : Nat) (t : Int) (q : Nat → PD) (T : Int) (w : World) (hn : n ≤ 1048576) (hT : Tab w a n q) :
    Calls Try.prog 52 #[tOf a n cap t, .int .i64 T] w fun e w' => FoundSays (FirstIs q T n) e ∧ Below w.heap.size w w' := by
  have HT : Hid (Tab (aw w a n cap t) a n q) := (hT.alloc _).alloc _
  clear hT
  have p1 : w.heap.size ≤ w.heap.size + 1 := Nat.le_add_right _ _
  go_enter Try.func52, Try.ntmps52
  go_wp2_with fail
  go_loopw [10] (fun i wr => ∃ (k : Nat), k ≤ n ∧ i = .int .i64 k ∧ (∀ j, j < k → ¬ T < (q j).turn) ∧ Below (aw w a n cap t).heap.size (aw w a n cap t) wr) (fun i _ => n - (intOf i).toNat)
  case atStart => exact ⟨0, Nat.zero_le _, rfl, fun j hj => by omega, Below.refl _ _⟩
  case round =>
    obtain ⟨k, hk, rfl, hno, hB⟩ := hrel
    have hNo : Hid (∀ j, j < k → ¬ T < (q j).turn) := hno
    clear hno
    obtain ⟨x0, x1, rc, rf, z0, z1⟩ := aw_cells hB
    have Rc : Hid (∀ o, wr.cell? ⟨w.heap.size + 1, o, none⟩ = fz12[o]?) := rc
    have hBw : Hid (Below w.heap.size w wr) := below_call (below_alloc2 _ _ _) hB
    by_cases hkn : k < n
    · obtain ⟨b, off, rfl, hb, hc⟩ := HT.out (by omega)
      have hc' : ∀ j, j < 11 → wr.cell? ⟨b, off + k * 11 + j, none⟩ = (pCells (q k))[j]? := fun j hj => (hB.cell (p := ⟨b, off + k * 11 + j, none⟩) hb).trans (hc k hkn j hj)
      have d0 := hc' 0 (by omega)
      have d1 := hc' 1 (by omega)
      have d2 := hc' 2 (by omega)
      have d3 := hc' 3 (by omega)
      have d4 := hc' 4 (by omega)
      have d5 := hc' 5 (by omega)
      have d6 := hc' 6 (by omega)
      have d7 := hc' 7 (by omega)
      have d8 := hc' 8 (by omega)
      have d9 := hc' 9 (by omega)
      have d10 := hc' 10 (by omega)
      simp only [List.getElem?_toArray, List.getElem?_cons_zero, List.getElem?_cons_succ, Nat.add_zero] at d0 d1 d2 d3 d4 d5 d6 d7 d8 d9 d10
      clear hc'
      clear hc
      by_cases ht : T < (q k).turn
      · have HF : Hid (FirstIs q T n true (q k)) := .inl ⟨rfl, k, hkn, rfl, ht, hNo.out⟩
        go_wp2_with fail
        exact bodyPost_ret (v := fOf true (q k)) (by simp [results, Try.results52, go_sem, rc, z1]) rfl ⟨⟨true, q k, rfl, HF.out⟩, below_a (st12 hBw.out p1 _ _ _ _ _ _ _ _ _ _ _ _) _⟩
      · have Ht : Hid (¬ T < (q k).turn) := ht
        have HB2 : Hid (Below (aw w (some ⟨b, off, none⟩) n cap t).heap.size (aw w (some ⟨b, off, none⟩) n cap t) (wr.alloc (.cells (pCells (q k)) 48))) := hB.alloc hB.size _
        go_wp2_with fail
        go_roundw
        case rel => exact ⟨k + 1, by omega, by go_num, no_step hNo.out Ht.out, HB2.out⟩
        case measure => simp [intOf]; omega
    · have : k = n := by omega
      subst this
      have HF : Hid (FirstIs q T k false pz) := .inr ⟨rfl, rfl, hNo.out⟩
      go_wp2_with fail
      exact bodyPost_ret (v := fOf false pz) (by simp [results, Try.results52, go_sem, rc, pz, vz]) rfl ⟨⟨false, pz, rfl, HF.out⟩, st12 hBw.out p1 _ _ _ _ _ _ _ _ _ _ _ _⟩

set_option maxRecDepth 100000 in
set_option maxHeartbeats 4000000 in
theorem specAfter_calls (a : Option Addr) (n cap : Nat) (t : Int) (q : Nat → PD) (T : Int) (w : World) (hn : n ≤ 1048576) (hq : ∀ i, i < n → (q i).wf) (hT : Tab w a n q) :
    Calls Try.prog 23 #[tOf a n cap t, .int .i64 T] w fun e w' => FoundSays (AfterSays n t q T) e ∧ Below w.heap.size w w' := by
  have hQ : Hid (∀ i, i < n → (q i).wf) := hq
  have HT : Hid (Tab (aw w a n cap t) a n q) := (hT.alloc _).alloc _
  clear hq hT
  have p1 : w.heap.size ≤ w.heap.size + 1 := Nat.le_add_right _ _
  go_enter Try.func23, Try.ntmps23
  go_wp2_with fail
  refine (specTableOk_calls a n cap t q _ hn hQ.out HT.out).mono ?_
  rintro e w2 ⟨⟨b, rfl, hbb⟩, hb2⟩
  have hB : Below (aw w a n cap t).heap.size (aw w a n cap t) w2 := hb2
  have HB : Hid (Below (aw w a n cap t).heap.size (aw w a n cap t) w2) := hb2
  obtain ⟨x0, x1, rc, rf, z0, z1⟩ := aw_cells hB
  have HBw : Hid (Below w.heap.size w w2) := below_call (below_alloc2 _ _ _) hb2
  clear hb2 hB
  cases b
  · have HF : Hid (AfterSays n t q T false pz) := .inr ⟨fun h => by (have := hbb.2 h; cases this), rfl, rfl⟩
    clear hbb
    go_wp2_with fail
    exact bodyPost_ret (v := fOf false pz) (by simp [results, Try.results23, go_sem, rc, pz, vz]) rfl ⟨⟨false, pz, rfl, HF.out⟩, st12 HBw.out p1 _ _ _ _ _ _ _ _ _ _ _ _⟩
  · have HO : Hid (TabOk n t q) := hbb.1 rfl
    clear hbb
    go_wp2_with fail
    refine (l2after_calls a n cap t q T _ hn (HT.out.below HB.out)).mono ?_
    rintro e w3 ⟨⟨f, p, rfl, hF⟩, hb3⟩
    have HF : Hid (AfterSays n t q T f p) := .inl ⟨HO.out, hF⟩
    replace HBw : Hid (Below w.heap.size w w3) := below_call HBw.out hb3
    have hB3 := below_ix HB.out hb3
    clear x0 x1 rc rf z0 z1 hb3 hF
    obtain ⟨x0, x1, rc, rf, z0, z1⟩ := aw_cells hB3
    clear hB3
    go_wp2_with fail
    exact bodyPost_ret (v := fOf f p) (by simp [results, Try.results23, go_sem, rc]) rfl ⟨⟨f, p, rfl, HF.out⟩, st12 HBw.out p1 _ _ _ _ _ _ _ _ _ _ _ _⟩

set_option maxRecDepth 100000 in
set_option maxHeartbeats 4000000 in
theorem implAfter_calls (a : Option Addr) (n cap : Nat) (t : Int) (q : Nat → PD) (T : Int) (w : World) (hn : n ≤ 1048576) (hq : ∀ i, i < n → (q i).wf) (hT : Tab w a n q) :
    Calls Try.prog 24 #[tOf a n cap t, .int .i64 T] w fun e w' => FoundSays (AfterSays n t q T) e ∧ Below w.heap.size w w' := by
  have hQ : Hid (∀ i, i < n → (q i).wf) := hq
  have HT : Hid (Tab (aw w a n cap t) a n q) := (hT.alloc _).alloc _
  clear hq hT
  have p1 : w.heap.size ≤ w.heap.size + 1 := Nat.le_add_right _ _
  go_enter Try.func24, Try.ntmps24
  go_wp2_with fail
  refine (index_calls a n cap t q _ hn hQ.out HT.out).mono ?_
  rintro e w2 ⟨⟨hok, a', cap', B, rfl, _, ho, hM⟩ | ⟨hok, rfl⟩, hb2⟩
  · have HX : Hid (XBox (w2.alloc (.cells #[.slice a' n cap', .map (some B), .int .i64 t] 78)) w2.heap.size a' n cap' B t q) := XBox.new ho hM _
    have HO : Hid (TabOk n t q) := hok
    have HB : Hid (Below (aw w a n cap t).heap.size (aw w a n cap t) (w2.alloc (.cells #[.slice a' n cap', .map (some B), .int .i64 t] 78))) := hb2.alloc hb2.size _
    have HBw : Hid (Below w.heap.size w (w2.alloc (.cells #[.slice a' n cap', .map (some B), .int .i64 t] 78))) := below_a (below_call (below_alloc2 _ _ _) hb2) _
    clear hb2 ho hM hok
    go_wp2_with fail
    refine (firstAfter_calls _ a' n cap' B t q T _ hn HX.out).mono ?_
    rintro e w3 ⟨⟨f, p, rfl, hF⟩, hb3⟩
    have HF : Hid (AfterSays n t q T f p) := .inl ⟨HO.out, hF⟩
    replace HBw : Hid (Below w.heap.size w w3) := below_call HBw.out hb3
    have hB3 := below_ix HB.out hb3
    clear hb3 hF
    obtain ⟨x0, x1, rc, rf, z0, z1⟩ := aw_cells hB3
    clear hB3
    go_wp2_with fail
    exact bodyPost_ret (v := fOf f p) (by simp [results, Try.results24, go_sem, rc]) rfl ⟨⟨f, p, rfl, HF.out⟩, st12 HBw.out p1 _ _ _ _ _ _ _ _ _ _ _ _⟩
  · have HF : Hid (AfterSays n t q T false pz) := .inr ⟨hok, rfl, rfl⟩
    have hB : Below (aw w a n cap t).heap.size (aw w a n cap t) w2 := hb2
    obtain ⟨x0, x1, rc, rf, z0, z1⟩ := aw_cells hB
    have HBw : Hid (Below w.heap.size w w2) := below_call (below_alloc2 _ _ _) hb2
    clear hb2 hB
    go_wp2_with fail
    exact bodyPost_ret (v := fOf false pz) (by simp [results, Try.results24, go_sem, rc, pz, vz, z1]) rfl ⟨⟨false, pz, rfl, HF.out⟩, below_a (st12 HBw.out p1 _ _ _ _ _ _ _ _ _ _ _ _) _⟩

set_option maxRecDepth 100000 in
set_option maxHeartbeats 4000000 in
theorem eqFound_calls (f : Bool) (p : PD) (hp : p.wf) (w : World) : Calls Try.prog 25 #[fOf f p, fOf f p] w fun e w' => e = .returned (.bool true) ∧ Below w.heap.size w w' := by
  have HP : Hid p.wf := hp
  clear hp
  go_enter Try.func25, Try.ntmps25
  go_wp2_with fail
  refine (eqPair_calls p HP.out _).mono ?_
  rintro e w2 ⟨rfl, hb2⟩
  have hB := below_call (below_alloc2 _ _ _) hb2
  clear hb2
  go_wp2_with fail
  go_ret
  exact ⟨rfl, hB⟩
theorem AfterSays.wf {n : Nat} {t : Int} {q : Nat → PD} {T : Int} {f : Bool} {p : PD} (h : AfterSays n t q T f p) (hq : ∀ i, i < n → (q i).wf) : p.wf := by
  have z : pz.wf := ⟨by show 0 ≤ maxLen; omega, by show 0 ≤ maxLen; omega, by show 0 < 2 ^ 64; decide, by show 0 < 2 ^ 64; decide, by show (-9223372036854775808 : Int) ≤ 0; omega, by show (0 : Int) ≤ 9223372036854775807; omega⟩
  rcases h with ⟨_, ⟨_, k, hk, rfl, _⟩ | ⟨_, rfl, _⟩⟩ | ⟨_, _, rfl⟩
  · exact hq k hk
  · exact z
  · exact z
end Go.Proofs.Ytiidepafifodjab
