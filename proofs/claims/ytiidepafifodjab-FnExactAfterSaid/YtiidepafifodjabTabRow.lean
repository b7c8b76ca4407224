import Derived.Test.YtiidepafifodjabRowOk
import Derived.Test.YtiidepafifodjabTabD
import Derived.Deep.Slices
/-! A table that came in, opened. -/
namespace Go.Proofs.Ytiidepafifodjab
open Go.ChangeShapes Go.WideShapes Go.ChangeAt Go.RowKit Go.Deep

section
variable {H : Type} {enc : TypeId × Value → H} {w : World} {base : Nat} {spare : Nat → Bool} {held : Bool}

theorem add_none'' (b off k : Nat) : (⟨b, off, none⟩ : Addr).add k = ⟨b, off + k, none⟩ := by cases k <;> simp [Addr.add]
theorem cell_lt' {w : World} {b o : Nat} {v : Value} (h : w.cell? ⟨b, o, none⟩ = some v) : b < w.heap.size := by
  refine Nat.lt_of_not_le fun hle => ?_
  have : w.heap[b]? = none := Array.getElem?_eq_none hle
  simp [World.cell?, this] at h
theorem list5 {cs : List Value} (h : cs.length = 5) : ∃ c0 c1 c2 c3 c4, cs = [c0, c1, c2, c3, c4] := by
  match cs, h with
  | [c0, c1, c2, c3, c4], _ => exact ⟨c0, c1, c2, c3, c4, rfl⟩
theorem cells_pair : Try.prog.cellsOf 110 = 11 := by kernel_rfl
theorem cells_table : Try.prog.cellsOf 35 = 2 := by kernel_rfl
theorem cells_pairs : Try.prog.cellsOf 33 = 1 := by kernel_rfl

theorem trod_value {fuel : Nat} {cs : List Value} {x : DataW H × List MemPlace} (h : DataW.trod enc Try.prog w base spare held fuel 24 cs = some x) :
    ∃ v : VD, cs = [.int .i64 v.k, .int .i64 v.n, .float .f64 v.f, .string v.s, .int .i64 v.r] ∧ v.f < 2 ^ 64 ∧ v.s.size ≤ maxLen := by
  obtain ⟨xs, n, _, _, hl, hlen, hx⟩ := DataW.trod_struct Try.underlying24 h
  obtain ⟨c0, c1, c2, c3, c4, rfl⟩ := list5 (hl.trans cells_value)
  match xs, hlen with
  | [y0, y1, y2, y3, y4], _ =>
    have g0 : DataW.trod enc Try.prog w base spare held n 3 [c0] = some y0 := by simpa [cells_int] using hx 0 _ rfl
    have g1 : DataW.trod enc Try.prog w base spare held n 2 [c1] = some y1 := by simpa [cells_int64] using hx 1 _ rfl
    have g2 : DataW.trod enc Try.prog w base spare held n 22 [c2] = some y2 := by simpa [cells_float] using hx 2 _ rfl
    have g3 : DataW.trod enc Try.prog w base spare held n 9 [c3] = some y3 := by simpa [cells_string] using hx 3 _ rfl
    have g4 : DataW.trod enc Try.prog w base spare held n 3 [c4] = some y4 := by simpa [cells_int] using hx 4 _ rfl
    obtain ⟨k, e0, _, _⟩ := DataW.trod_int Try.underlying3 g0
    obtain ⟨m, e1, _, _⟩ := DataW.trod_int Try.underlying2 g1
    obtain ⟨f, e2, wf⟩ := trod_float1 Try.underlying22 g2
    obtain ⟨s, e3, _, ws⟩ := DataW.trod_string Try.underlying9 g3
    obtain ⟨r, e4, _, _⟩ := DataW.trod_int Try.underlying3 g4
    simp at e0 e1 e2 e3 e4
    subst e0 e1 e2 e3 e4
    exact ⟨⟨k, m, f, s, r⟩, rfl, lt64 wf, ws⟩

theorem trod_pair {fuel : Nat} {cs : List Value} {x : DataW H × List MemPlace} (h : DataW.trod enc Try.prog w base spare held fuel 110 cs = some x) :
    ∃ p : PD, cs = (pCells p).toList ∧ p.wf := by
  obtain ⟨xs, n, _, _, hl, hlen, hx⟩ := DataW.trod_struct Try.underlying110 h
  have hl : cs.length = 11 := hl.trans cells_pair
  match xs, hlen with
  | [y0, y1, y2], _ =>
    have g0 : DataW.trod enc Try.prog w base spare held n 24 (cs.take 5) = some y0 := by simpa [cells_value] using hx 0 _ rfl
    have g1 : DataW.trod enc Try.prog w base spare held n 24 ((cs.drop 5).take 5) = some y1 := by simpa [cells_value] using hx 1 _ rfl
    have g2 : DataW.trod enc Try.prog w base spare held n 3 ((cs.drop 10).take 1) = some y2 := by simpa [cells_int] using hx 2 _ rfl
    obtain ⟨v, e0, f0, s0⟩ := trod_value g0
    obtain ⟨u, e1, f1, s1⟩ := trod_value g1
    obtain ⟨t, e2, _, wt⟩ := DataW.trod_int Try.underlying3 g2
    have ht : -9223372036854775808 ≤ t ∧ t ≤ 9223372036854775807 := by
      simp [Lit.wf, IntKind.min, IntKind.max, IntKind.signed, IntKind.bits] at wt
      omega
    refine ⟨⟨v, u, t⟩, ?_, ⟨s0, s1, f0, f1, ht.1, ht.2⟩⟩
    have e : cs = cs.take 5 ++ ((cs.drop 5).take 5 ++ (cs.drop 10).take 1) := by
      have h1 : (cs.drop 5).take 5 ++ (cs.drop 10) = cs.drop 5 := by
        rw [show cs.drop 10 = (cs.drop 5).drop 5 by rw [List.drop_drop]]; exact List.take_append_drop 5 _
      have h2 : (cs.drop 10).take 1 = cs.drop 10 := List.take_of_length_le (by simp; omega)
      rw [h2, h1, List.take_append_drop]
    rw [e, e0, e1, e2]; rfl

instance : Inhabited PD := ⟨⟨vz, vz, 0⟩⟩

theorem open_pairs {fuel : Nat} {cs : List Value} {x : DataW H × List MemPlace} (h : DataW.trod enc Try.prog w base spare held fuel 33 cs = some x) :
    ∃ a n cap q, cs = [.slice a n cap] ∧ Tab w a n q ∧ (∀ i, i < n → (q i).wf) ∧ n ≤ maxLen := by
  rcases open_slice Try.underlying33 h with ⟨rfl, _⟩ | ⟨a, len, cap, m, n, D, Pl, rfl, _, hl, hm, hmm, _, hx⟩
  · exact ⟨none, 0, 0, fun _ => default, rfl, fun h => by omega, fun i hi => by omega, by unfold maxLen; omega⟩
  · have hlm : len ≤ m := by rw [hmm]; split <;> omega
    obtain ⟨q, hq⟩ := choose_lt (α := PD) (n := len) (p := fun i p => p.wf ∧ ∀ j, j < 11 → w.cell? ((a.add (i * 11)).add j) = (pCells p)[j]?) (fun i hi => by
      obtain ⟨cs', h1, h2⟩ := hx i (by omega)
      rw [cells_pair] at h1
      obtain ⟨p, rfl, hp⟩ := trod_pair h2
      obtain ⟨_, _, h3⟩ := World.cells?_some h1
      exact ⟨p, hp, fun j hj => by rw [h3 j hj]; simp⟩)
    refine ⟨some a, len, cap, q, rfl, fun h0 => ?_, fun i hi => (hq i hi).1, Nat.le_trans hl hm⟩
    obtain ⟨b, off, spot⟩ := a
    have hspot : spot = none := by
      have h1 := (hq 0 h0).2 0 (by omega)
      have h2 : (pCells (q 0))[0]? = some (.int .i64 (q 0).key.k) := rfl
      rw [h2] at h1
      simpa [Addr.add] using World.cell?_spot h1
    subst hspot
    have hcell : ∀ i, i < len → ∀ j, j < 11 → w.cell? ⟨b, off + i * 11 + j, none⟩ = (pCells (q i))[j]? := fun i hi j hj => by
      have := (hq i hi).2 j hj
      rwa [add_none'', add_none''] at this
    refine ⟨b, off, rfl, ?_, hcell⟩
    have h1 := hcell 0 h0 0 (by omega)
    have h2 : (pCells (q 0))[0]? = some (.int .i64 (q 0).key.k) := rfl
    rw [h2] at h1
    exact cell_lt' h1

set_option maxRecDepth 100000 in
theorem open_table {r0 : Reach} {b0 : Nat} {v : Value} {d : DataW H} {p : List MemPlace} (hv : Value.okWide Try.prog w r0 b0 35 v) (h : DataW.Trod enc Try.prog w base spare held 35 v d p) :
    ∃ a n cap t q, v = tOf a n cap t ∧ Tab w a n q ∧ (∀ i, i < n → (q i).wf) ∧ n ≤ maxLen := by
  obtain ⟨cs, rfl, hsz⟩ := okWide_struct Try.underlying35 hv
  have hsz : cs.size = 2 := hsz.trans cells_table
  obtain ⟨l⟩ := cs
  match l, hsz with
  | [c0, c1], _ =>
    obtain ⟨fuel, hf⟩ := h
    obtain ⟨y0, y1, n, _, _, g0, g1⟩ := trod_struct2 Try.underlying35 hf
    have g0 : DataW.trod enc Try.prog w base spare held n 33 [c0] = some y0 := by simpa [Value.cells, cells_pairs] using g0
    have g1 : DataW.trod enc Try.prog w base spare held n 3 [c1] = some y1 := by simpa [Value.cells, cells_int] using g1
    obtain ⟨a, m, cap, q, e0, hT, hq, hm⟩ := open_pairs g0
    obtain ⟨t, e1, _, _⟩ := DataW.trod_int Try.underlying3 g1
    simp at e0 e1
    subst e0 e1
    exact ⟨a, m, cap, t, q, rfl, hT, hq, hm⟩
end
end Go.Proofs.Ytiidepafifodjab
