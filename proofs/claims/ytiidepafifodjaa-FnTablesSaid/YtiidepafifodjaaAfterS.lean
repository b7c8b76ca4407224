import Derived.Test.YtiidepafifodjaaAfterF
import Derived.Test.YtiidepafifodjaaTabJ
/-! Tables: After, both. -/
namespace Go.Proofs.Ytiidepafifodjaa
open Go.RowKit
attribute [local go_sem] run_store_float
attribute [local go_sem ↓] Go.wp_at_zero Go.wp_at_succ

theorem FirstIs.one {q : Nat → PD} {T : Int} {n : Nat} {f g : Bool} {p r : PD} (h : FirstIs q T n f p) (k : FirstIs q T n g r) : f = g ∧ p = r := by
  rcases h with ⟨rfl, i, h1, rfl, h3, h4⟩ | ⟨rfl, rfl, h3⟩ <;> rcases k with ⟨rfl, j, k1, rfl, k3, k4⟩ | ⟨rfl, rfl, k3⟩
  · rcases Nat.lt_trichotomy i j with c | c | c
    · exact absurd h3 (k4 i c)
    · subst c; exact ⟨rfl, rfl⟩
    · exact absurd k3 (h4 j c)
  · exact absurd h3 (k3 i h1)
  · exact absurd k3 (h3 j k1)
  · exact ⟨rfl, rfl⟩

def AfterSays (n : Nat) (t : Int) (q : Nat → PD) (T : Int) (f : Bool) (p : PD) : Prop := (TabOk n t q ∧ FirstIs q T n f p) ∨ (¬ TabOk n t q ∧ f = false ∧ p = pz)
theorem AfterSays.one {n : Nat} {t : Int} {q : Nat → PD} {T : Int} {f g : Bool} {p r : PD} (h : AfterSays n t q T f p) (k : AfterSays n t q T g r) : f = g ∧ p = r := by
  rcases h with ⟨h1, h2⟩ | ⟨h1, rfl, rfl⟩ <;> rcases k with ⟨k1, k2⟩ | ⟨k1, rfl, rfl⟩
  · exact h2.one k2
  · exact absurd h1 k1
  · exact absurd k1 h1
  · exact ⟨rfl, rfl⟩

/-- a pair, if there is one, of which R says what it is -/
def FoundSays (R : Bool → PD → Prop) (e : Ending) : Prop := ∃ f p, e = .returned (fOf f p) ∧ R f p

abbrev fz12 : Array Value := #[.bool false, .int .i64 0, .int .i64 0, .float .f64 0, .string ⟨#[]⟩, .int .i64 0, .int .i64 0, .int .i64 0, .float .f64 0, .string ⟨#[]⟩, .int .i64 0, .int .i64 0]
abbrev aw (w : World) (a : Option Addr) (n cap : Nat) (t : Int) : World := (w.alloc (.cells #[.slice a n cap, .int .i64 t] 59)).alloc (.cells fz12 125)
theorem aw_cells {w : World} {a : Option Addr} {n cap : Nat} {t : Int} {wr : World} (hB : Below (aw w a n cap t).heap.size (aw w a n cap t) wr) :
    wr.cell? ⟨w.heap.size, 0, none⟩ = some (.slice a n cap) ∧ wr.cell? ⟨w.heap.size, 1, none⟩ = some (.int .i64 t) ∧ (∀ o, wr.cell? ⟨w.heap.size + 1, o, none⟩ = fz12[o]?) ∧ (∀ o, wr.frozen? ⟨w.heap.size + 1, o, none⟩ = false) ∧ w.heap.size < wr.heap.size ∧ w.heap.size + 1 < wr.heap.size := by
  have hs := hB.size
  simp at hs
  refine ⟨?_, ?_, fun o => ?_, fun o => ?_, by omega, by omega⟩
  · rw [hB.cell (by simp; omega)]; simp
  · rw [hB.cell (by simp; omega)]; simp
  · rw [hB.cell (by simp)]
    have := World.cell?_alloc_new (w.alloc (.cells #[.slice a n cap, .int .i64 t] 59)) fz12 125 o
    simp only [World.size_alloc] at this
    exact this
  · rw [hB.frozen (by simp)]; simp

theorem no_step {q : Nat → PD} {T : Int} {k : Nat} (h : ∀ j, j < k → ¬ T < (q j).turn) (hk : ¬ T < (q k).turn) : ∀ j, j < k + 1 → ¬ T < (q j).turn := fun j hj => by
  by_cases e : j = k
  · subst e; exact hk
  · exact h j (by omega)

set_option maxRecDepth 100000 in
set_option maxHeartbeats 4000000 in
theorem implAfter_calls (a : Option Addr) (n cap : Nat) (t : Int) (q : Nat → PD) (T : Int) (w : World) (hn : n ≤ 1048576) (hq : ∀ i, i < n → (q i).wf) (hT : Tab w a n q) :
    Calls Try.prog 81 #[tOf a n cap t, .int .i64 T] w fun e w' => FoundSays (AfterSays n t q T) e ∧ Below w.heap.size w w' := by
  have hQ : Hid (∀ i, i < n → (q i).wf) := hq
  have HT : Hid (Tab (aw w a n cap t) a n q) := (hT.alloc _).alloc _
  clear hq hT
  have p1 : w.heap.size ≤ w.heap.size + 1 := Nat.le_add_right _ _
  go_enter Try.func81, Try.ntmps81
  go_wp2_with fail
  refine (index_calls a n cap t q _ hn hQ.out HT.out).mono ?_
  rintro e w2 ⟨⟨hok, a', cap', B, rfl, _, ho, hM⟩ | ⟨hok, rfl⟩, hb2⟩
  · have HX : Hid (XBox (w2.alloc (.cells #[.slice a' n cap', .map (some B), .int .i64 t] 115)) w2.heap.size a' n cap' B t q) := XBox.new ho hM _
    have HO : Hid (TabOk n t q) := hok
    have HB : Hid (Below (aw w a n cap t).heap.size (aw w a n cap t) (w2.alloc (.cells #[.slice a' n cap', .map (some B), .int .i64 t] 115))) := hb2.alloc hb2.size _
    have HBw : Hid (Below w.heap.size w (w2.alloc (.cells #[.slice a' n cap', .map (some B), .int .i64 t] 115))) := below_a (below_call (below_alloc2 _ _ _) hb2) _
    clear hb2 ho hM hok
    go_wp2_with fail
    refine (firstAfter_calls _ a' n cap' B t q T _ hn HX.out).mono ?_
    rintro e w3 ⟨⟨f, p, rfl, hF⟩, hb3⟩
    have HF : Hid (AfterSays n t q T f p) := .inl ⟨HO.out, hF⟩
    replace HBw : Hid (Below w.heap.size w w3) := below_call HBw.out hb3
    have hB3 := below_ix HB.out hb3
    clear hb3 hF
    obtain ⟨x0, x1, rc, rf, z0, z1⟩ := aw_cells hB3
    clear hB3
    go_wp2_with fail
    exact bodyPost_ret (v := fOf f p) (by simp [results, Try.results81, go_sem, rc]) rfl ⟨⟨f, p, rfl, HF.out⟩, st12 HBw.out p1 _ _ _ _ _ _ _ _ _ _ _ _⟩
  · have HF : Hid (AfterSays n t q T false pz) := .inr ⟨hok, rfl, rfl⟩
    have hB : Below (aw w a n cap t).heap.size (aw w a n cap t) w2 := hb2
    obtain ⟨x0, x1, rc, rf, z0, z1⟩ := aw_cells hB
    have HBw : Hid (Below w.heap.size w w2) := below_call (below_alloc2 _ _ _) hb2
    clear hb2 hB
    go_wp2_with fail
    exact bodyPost_ret (v := fOf false pz) (by simp [results, Try.results81, go_sem, rc, pz, vz, z1]) rfl ⟨⟨false, pz, rfl, HF.out⟩, below_a (st12 HBw.out p1 _ _ _ _ _ _ _ _ _ _ _ _) _⟩

theorem AfterSays.wf {n : Nat} {t : Int} {q : Nat → PD} {T : Int} {f : Bool} {p : PD} (h : AfterSays n t q T f p) (hq : ∀ i, i < n → (q i).wf) : p.wf := by
  have z : pz.wf := ⟨by show 0 ≤ maxLen; omega, by show 0 ≤ maxLen; omega, by show 0 < 2 ^ 64; decide, by show 0 < 2 ^ 64; decide, by show (-9223372036854775808 : Int) ≤ 0; omega, by show (0 : Int) ≤ 9223372036854775807; omega⟩
  rcases h with ⟨_, ⟨_, k, hk, rfl, _⟩ | ⟨_, rfl, _⟩⟩ | ⟨_, _, rfl⟩
  · exact hq k hk
  · exact z
  · exact z
end Go.Proofs.Ytiidepafifodjaa
