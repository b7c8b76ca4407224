import Derived.Test.YtiidepafifodjaaDoorRowOk
import Derived.Test.YtiidepafifodjaaDoorUnA
import Derived.Deep.Slices
/-! A unit that came in, opened. -/
namespace Go.Proofs.YtiidepafifodjaaDoor
open Go.ChangeShapes Go.WideShapes Go.ChangeAt Go.RowKit Go.Deep

section
variable {H : Type} {enc : TypeId × Value → H} {w : World} {base : Nat} {spare : Nat → Bool} {held : Bool}

theorem addr_none (b off k : Nat) : (⟨b, off, none⟩ : Addr).add k = ⟨b, off + k, none⟩ := by cases k <;> simp [Addr.add]
theorem cell_lt {w : World} {b o : Nat} {v : Value} (h : w.cell? ⟨b, o, none⟩ = some v) : b < w.heap.size := by
  refine Nat.lt_of_not_le fun hle => ?_
  have : w.heap[b]? = none := Array.getElem?_eq_none hle
  simp [World.cell?, this] at h
theorem row_of_cells {w : World} {K n : Nat} {a : Addr} {q : Nat → Array Value} (hK : 0 < K) (hv : ∀ i, i < n → ∃ v, (q i)[0]? = some v) (h : ∀ i, i < n → ∀ j, j < K → w.cell? ((a.add (i * K)).add j) = (q i)[j]?) : RowN K 0 w (some a) n q := fun h0 => by
  obtain ⟨b, off, spot⟩ := a
  obtain ⟨v, hv0⟩ := hv 0 h0
  have hspot : spot = none := by
    have h1 := h 0 h0 0 hK
    rw [hv0] at h1
    simpa [Addr.add] using World.cell?_spot h1
  subst hspot
  have hcell : ∀ i, i < n → ∀ j, j < K → w.cell? ⟨b, off + i * K + j, none⟩ = (q i)[j]? := fun i hi j hj => by
    have := h i hi j hj
    rwa [addr_none, addr_none] at this
  refine ⟨b, off, rfl, Nat.zero_le _, ?_, hcell⟩
  have h1 := hcell 0 h0 0 hK
  rw [hv0] at h1
  exact cell_lt h1
theorem i64r_of {t : Int} (wt : (Lit.int .i64 t).wf = true) : I64r t := by
  simp [Lit.wf, IntKind.min, IntKind.max, IntKind.signed, IntKind.bits] at wt
  unfold I64r
  omega
/-- a slice of things of K cells each, opened by what one thing is -/
theorem open_things {α : Type} [Inhabited α] {t e : TypeId} {K : Nat} (hK : 0 < K) (ht : Tryd.prog.underlying t = some (.slice e)) (hc : Tryd.prog.cellsOf e = K) (q : α → Array Value) (hq : ∀ x, (q x).size = K) (good : α → Prop)
    (hone : ∀ {fuel : Nat} {cs : List Value} {x : DataW H × List MemPlace}, DataW.trod enc Tryd.prog w base spare held fuel e cs = some x → ∃ y, cs = (q y).toList ∧ good y)
    {fuel : Nat} {cs : List Value} {x : DataW H × List MemPlace} (h : DataW.trod enc Tryd.prog w base spare held fuel t cs = some x) :
    ∃ (a : Option Addr) (n cap : Nat) (f : Nat → α), cs = [.slice a n cap] ∧ RowN K 0 w a n (fun i => q (f i)) ∧ (∀ i, i < n → good (f i)) ∧ n ≤ maxLen := by
  rcases open_slice ht h with ⟨rfl, _⟩ | ⟨a, len, cap, m, n, D, Pl, rfl, _, hl, hm, hmm, _, hx⟩
  · exact ⟨none, 0, 0, fun _ => default, rfl, fun h => by omega, fun i hi => by omega, by unfold maxLen; omega⟩
  · have hlm : len ≤ m := by rw [hmm]; split <;> omega
    obtain ⟨f, hf⟩ := choose_lt (α := α) (n := len) (p := fun i p => good p ∧ ∀ j, j < K → w.cell? ((a.add (i * K)).add j) = (q p)[j]?) (fun i hi => by
      obtain ⟨cs', h1, h2⟩ := hx i (by omega)
      rw [hc] at h1
      obtain ⟨p, rfl, hp⟩ := hone h2
      obtain ⟨_, _, h3⟩ := World.cells?_some h1
      exact ⟨p, hp, fun j hj => by rw [h3 j hj]; simp⟩)
    exact ⟨some a, len, cap, f, rfl, row_of_cells hK (fun i _ => ⟨_, Array.getElem?_eq_getElem (by rw [hq]; exact hK)⟩) (fun i hi => (hf i hi).2), fun i hi => (hf i hi).1, Nat.le_trans hl hm⟩

theorem cellsX_int : Tryd.prog.cellsOf 3 = 1 := by kernel_rfl
theorem cellsX_int64 : Tryd.prog.cellsOf 2 = 1 := by kernel_rfl
theorem cellsX_str : Tryd.prog.cellsOf 9 = 1 := by kernel_rfl
theorem cellsX_bool : Tryd.prog.cellsOf 4 = 1 := by kernel_rfl
theorem cellsX_ints : Tryd.prog.cellsOf 68 = 1 := by kernel_rfl
theorem cellsX_strs : Tryd.prog.cellsOf 23 = 1 := by kernel_rfl
instance : Inhabited ByteArray := ⟨⟨#[]⟩⟩

theorem open_ints' {fuel : Nat} {cs : List Value} {x : DataW H × List MemPlace} (h : DataW.trod enc Tryd.prog w base spare held fuel 68 cs = some x) :
    ∃ (a : Option Addr) (n cap : Nat) (r : Nat → Int), cs = [.slice a n cap] ∧ IntsAt 0 w a n r ∧ (∀ i, i < n → I64r (r i)) ∧ n ≤ maxLen :=
  open_things (α := Int) (by omega) Tryd.underlying68 cellsX_int (fun i => #[.int .i64 i]) (fun _ => rfl) I64r (fun h => by
    obtain ⟨t, e, _, wt⟩ := DataW.trod_int Tryd.underlying3 h
    exact ⟨t, e, i64r_of wt⟩) h
theorem open_strs' {fuel : Nat} {cs : List Value} {x : DataW H × List MemPlace} (h : DataW.trod enc Tryd.prog w base spare held fuel 23 cs = some x) :
    ∃ (a : Option Addr) (n cap : Nat) (q : Nat → ByteArray), cs = [.slice a n cap] ∧ RowN 1 0 w a n (fun i => #[.string (q i)]) ∧ (∀ i, i < n → (q i).size ≤ maxLen) ∧ n ≤ maxLen :=
  open_things (α := ByteArray) (by omega) Tryd.underlying23 cellsX_str (fun s => #[.string s]) (fun _ => rfl) (fun s => s.size ≤ maxLen) (fun h => by
    obtain ⟨s, e, _, ws⟩ := DataW.trod_string Tryd.underlying9 h
    exact ⟨s, e, ws⟩) h
theorem list2 {cs : List Value} (h : cs.length = 2) : ∃ c0 c1, cs = [c0, c1] := by
  match cs, h with
  | [c0, c1], _ => exact ⟨c0, c1, rfl⟩
theorem list7 {cs : List Value} (h : cs.length = 7) : ∃ c0 c1 c2 c3 c4 c5 c6, cs = [c0, c1, c2, c3, c4, c5, c6] := by
  match cs, h with
  | [c0, c1, c2, c3, c4, c5, c6], _ => exact ⟨c0, c1, c2, c3, c4, c5, c6, rfl⟩
theorem list8 {cs : List Value} (h : cs.length = 8) : ∃ c0 c1 c2 c3 c4 c5 c6 c7, cs = [c0, c1, c2, c3, c4, c5, c6, c7] := by
  match cs, h with
  | [c0, c1, c2, c3, c4, c5, c6, c7], _ => exact ⟨c0, c1, c2, c3, c4, c5, c6, c7, rfl⟩
end
end Go.Proofs.YtiidepafifodjaaDoor
