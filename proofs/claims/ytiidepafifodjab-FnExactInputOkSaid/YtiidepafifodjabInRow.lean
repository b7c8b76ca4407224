import Derived.Test.YtiidepafifodjabRowOk
import Derived.Test.YtiidepafifodjabInA
import Derived.Deep.Slices
/-! An input that came in, opened. -/
namespace Go.Proofs.Ytiidepafifodjab
open Go.ChangeShapes Go.WideShapes Go.ChangeAt Go.RowKit Go.Deep

section
variable {H : Type} {enc : TypeId × Value → H} {w : World} {base : Nat} {spare : Nat → Bool} {held : Bool}

theorem addr_none (b off k : Nat) : (⟨b, off, none⟩ : Addr).add k = ⟨b, off + k, none⟩ := by cases k <;> simp [Addr.add]
theorem cell_lt {w : World} {b o : Nat} {v : Value} (h : w.cell? ⟨b, o, none⟩ = some v) : b < w.heap.size := by
  refine Nat.lt_of_not_le fun hle => ?_
  have : w.heap[b]? = none := Array.getElem?_eq_none hle
  simp [World.cell?, this] at h
theorem row_of_cells {w : World} {K n : Nat} {a : Addr} {q : Nat → Array Value} (hK : 0 < K) (hv : ∀ i, i < n → ∃ v, (q i)[0]? = some v) (h : ∀ i, i < n → ∀ j, j < K → w.cell? ((a.add (i * K)).add j) = (q i)[j]?) : RowN K 0 w (some a) n q := fun h0 => by
  obtain ⟨b, off, spot⟩ := a
  obtain ⟨v, hv0⟩ := hv 0 h0
  have hspot : spot = none := by
    have h1 := h 0 h0 0 hK
    rw [hv0] at h1
    simpa [Addr.add] using World.cell?_spot h1
  subst hspot
  have hcell : ∀ i, i < n → ∀ j, j < K → w.cell? ⟨b, off + i * K + j, none⟩ = (q i)[j]? := fun i hi j hj => by
    have := h i hi j hj
    rwa [addr_none, addr_none] at this
  refine ⟨b, off, rfl, Nat.zero_le _, ?_, hcell⟩
  have h1 := hcell 0 h0 0 hK
  rw [hv0] at h1
  exact cell_lt h1
theorem cells_str : Try.prog.cellsOf 9 = 1 := by kernel_rfl
theorem cells_strs : Try.prog.cellsOf 55 = 1 := by kernel_rfl
theorem cells_input : Try.prog.cellsOf 57 = 5 := by kernel_rfl
instance : Inhabited ByteArray := ⟨⟨#[]⟩⟩
theorem open_strings {fuel : Nat} {cs : List Value} {x : DataW H × List MemPlace} (h : DataW.trod enc Try.prog w base spare held fuel 55 cs = some x) :
    ∃ a n cap q, cs = [.slice a n cap] ∧ StrAt 0 w a n q ∧ (∀ i, i < n → (q i).size ≤ maxLen) ∧ n ≤ maxLen := by
  rcases open_slice Try.underlying55 h with ⟨rfl, _⟩ | ⟨a, len, cap, m, n, D, Pl, rfl, _, hl, hm, hmm, _, hx⟩
  · exact ⟨none, 0, 0, fun _ => default, rfl, fun h => by omega, fun i hi => by omega, by unfold maxLen; omega⟩
  · have hlm : len ≤ m := by rw [hmm]; split <;> omega
    obtain ⟨q, hq⟩ := choose_lt (α := ByteArray) (n := len) (p := fun i p => p.size ≤ maxLen ∧ ∀ j, j < 1 → w.cell? ((a.add (i * 1)).add j) = (#[Value.string p] : Array Value)[j]?) (fun i hi => by
      obtain ⟨cs', h1, h2⟩ := hx i (by omega)
      rw [cells_str] at h1
      obtain ⟨s, e, _, ws⟩ := DataW.trod_string Try.underlying9 h2
      subst e
      obtain ⟨_, _, h3⟩ := World.cells?_some h1
      exact ⟨s, ws, fun j hj => by rw [h3 j hj]; simp⟩)
    exact ⟨some a, len, cap, q, rfl, row_of_cells (by omega) (fun i _ => ⟨_, rfl⟩) (fun i hi => (hq i hi).2), fun i hi => (hq i hi).1, Nat.le_trans hl hm⟩
theorem list5' {cs : List Value} (h : cs.length = 5) : ∃ c0 c1 c2 c3 c4, cs = [c0, c1, c2, c3, c4] := by
  match cs, h with
  | [c0, c1, c2, c3, c4], _ => exact ⟨c0, c1, c2, c3, c4, rfl⟩
set_option maxRecDepth 100000 in
theorem open_input {r0 : Reach} {b0 : Nat} {v : Value} {d : DataW H} {p : List MemPlace} (hv : Value.okWide Try.prog w r0 b0 57 v) (h : DataW.Trod enc Try.prog w base spare held 57 v d p) :
    ∃ (D : ID) (x : IA), v = inV D x ∧ InAt 0 w D x ∧ D.wf := by
  obtain ⟨cs, rfl, hsz⟩ := okWide_struct Try.underlying57 hv
  have hsz : cs.size = 5 := hsz.trans cells_input
  obtain ⟨l⟩ := cs
  obtain ⟨c0, c1, c2, c3, c4, rfl⟩ := list5' hsz
  obtain ⟨fuel, hf⟩ := h
  obtain ⟨xs, n, _, _, _, hlen, hx⟩ := DataW.trod_struct Try.underlying57 hf
  match xs, hlen with
  | [y0, y1, y2, y3, y4], _ =>
    have g0 : DataW.trod enc Try.prog w base spare held n 55 [c0] = some y0 := by simpa [Value.cells, cells_strs] using hx 0 _ rfl
    have g1 : DataW.trod enc Try.prog w base spare held n 55 [c1] = some y1 := by simpa [Value.cells, cells_strs] using hx 1 _ rfl
    have g2 : DataW.trod enc Try.prog w base spare held n 3 [c2] = some y2 := by simpa [Value.cells, cells_int] using hx 2 _ rfl
    have g3 : DataW.trod enc Try.prog w base spare held n 3 [c3] = some y3 := by simpa [Value.cells, cells_int] using hx 3 _ rfl
    have g4 : DataW.trod enc Try.prog w base spare held n 3 [c4] = some y4 := by simpa [Value.cells, cells_int] using hx 4 _ rfl
    obtain ⟨aa, an, ac, aq, e0, hA, ha, hn⟩ := open_strings g0
    obtain ⟨la, ln, lc, lq, e1, hL, hl, hm⟩ := open_strings g1
    obtain ⟨t, e2, _, _⟩ := DataW.trod_int Try.underlying3 g2
    obtain ⟨dd, e3, _, _⟩ := DataW.trod_int Try.underlying3 g3
    obtain ⟨c, e4, _, _⟩ := DataW.trod_int Try.underlying3 g4
    simp at e0 e1 e2 e3 e4
    subst e0 e1 e2 e3 e4
    exact ⟨⟨an, aq, ln, lq, t, dd, c⟩, ⟨aa, ac, la, lc⟩, rfl, ⟨hA, hL⟩, ⟨hn, ha, hm, hl⟩⟩
end
end Go.Proofs.Ytiidepafifodjab
