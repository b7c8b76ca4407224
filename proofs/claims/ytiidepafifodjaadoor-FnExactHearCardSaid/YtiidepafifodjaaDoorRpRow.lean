import Derived.Test.YtiidepafifodjaaDoorChRow
import Derived.Test.YtiidepafifodjaaDoorRpA
/-! A report that came in, opened. -/
namespace Go.Proofs.YtiidepafifodjaaDoor
open Go.ChangeShapes Go.WideShapes Go.ChangeAt Go.RowKit Go.Deep

section
variable {H : Type} {enc : TypeId × Value → H} {w : World} {base : Nat} {spare : Nat → Bool} {held : Bool}

theorem cellsX_rec : Tryd.prog.cellsOf 63 = 5 := by kernel_rfl
theorem cellsX_recs : Tryd.prog.cellsOf 22 = 1 := by kernel_rfl
theorem cellsX_report : Tryd.prog.cellsOf 25 = 7 := by kernel_rfl
theorem list5x {cs : List Value} (h : cs.length = 5) : ∃ c0 c1 c2 c3 c4, cs = [c0, c1, c2, c3, c4] := by
  match cs, h with
  | [c0, c1, c2, c3, c4], _ => exact ⟨c0, c1, c2, c3, c4, rfl⟩
theorem trod_rec {fuel : Nat} {cs : List Value} {x : DataW H × List MemPlace} (h : DataW.trod enc Tryd.prog w base spare held fuel 63 cs = some x) : ∃ p : RcD, cs = (rcC p).toList ∧ p.wf := by
  obtain ⟨xs, n, _, _, hl, hlen, hx⟩ := DataW.trod_struct Tryd.underlying63 h
  obtain ⟨c0, c1, c2, c3, c4, rfl⟩ := list5x (hl.trans cellsX_rec)
  match xs, hlen with
  | [y0, y1, y2, y3, y4], _ =>
    have g0 : DataW.trod enc Tryd.prog w base spare held n 3 [c0] = some y0 := by simpa [cellsX_int] using hx 0 _ rfl
    have g1 : DataW.trod enc Tryd.prog w base spare held n 3 [c1] = some y1 := by simpa [cellsX_int] using hx 1 _ rfl
    have g2 : DataW.trod enc Tryd.prog w base spare held n 3 [c2] = some y2 := by simpa [cellsX_int] using hx 2 _ rfl
    have g3 : DataW.trod enc Tryd.prog w base spare held n 3 [c3] = some y3 := by simpa [cellsX_int] using hx 3 _ rfl
    have g4 : DataW.trod enc Tryd.prog w base spare held n 9 [c4] = some y4 := by simpa [cellsX_str] using hx 4 _ rfl
    obtain ⟨k, e0, _, w0⟩ := DataW.trod_int Tryd.underlying3 g0
    obtain ⟨t, e1, _, w1⟩ := DataW.trod_int Tryd.underlying3 g1
    obtain ⟨f, e2, _, w2⟩ := DataW.trod_int Tryd.underlying3 g2
    obtain ⟨l, e3, _, w3⟩ := DataW.trod_int Tryd.underlying3 g3
    obtain ⟨s, e4, _, w4⟩ := DataW.trod_string Tryd.underlying9 g4
    simp at e0 e1 e2 e3 e4
    subst e0 e1 e2 e3 e4
    exact ⟨⟨k, t, f, l, s⟩, rfl, ⟨i64r_of w0, i64r_of w1, i64r_of w2, i64r_of w3, w4⟩⟩
theorem open_recs {fuel : Nat} {cs : List Value} {x : DataW H × List MemPlace} (h : DataW.trod enc Tryd.prog w base spare held fuel 22 cs = some x) :
    ∃ (a : Option Addr) (n cap : Nat) (q : Nat → RcD), cs = [.slice a n cap] ∧ RowN 5 0 w a n (fun i => rcC (q i)) ∧ (∀ i, i < n → (q i).wf) ∧ n ≤ maxLen :=
  open_things (α := RcD) (by omega) Tryd.underlying22 cellsX_rec rcC (fun _ => rfl) (fun p => p.wf) (fun h => trod_rec h) h
set_option maxRecDepth 100000 in
theorem open_report {r0 : Reach} {b0 : Nat} {v : Value} {d : DataW H} {p : List MemPlace} (hv : Value.okWide Tryd.prog w r0 b0 25 v) (h : DataW.Trod enc Tryd.prog w base spare held 25 v d p) :
    ∃ (D : RpD) (x : RpX), v = rpV D x ∧ RpAt 0 w D x ∧ D.wf := by
  obtain ⟨cs, rfl, hsz⟩ := okWide_struct Tryd.underlying25 hv
  have hsz : cs.size = 7 := hsz.trans cellsX_report
  obtain ⟨l⟩ := cs
  obtain ⟨c0, c1, c2, c3, c4, c5, c6, rfl⟩ := list7 hsz
  obtain ⟨fuel, hf⟩ := h
  obtain ⟨xs, n, _, _, _, hlen, hx⟩ := DataW.trod_struct Tryd.underlying25 hf
  match xs, hlen with
  | [y0, y1, y2, y3, y4, y5, y6], _ =>
    have g0 : DataW.trod enc Tryd.prog w base spare held n 3 [c0] = some y0 := by simpa [Value.cells, cellsX_int] using hx 0 _ rfl
    have g1 : DataW.trod enc Tryd.prog w base spare held n 22 [c1] = some y1 := by simpa [Value.cells, cellsX_recs] using hx 1 _ rfl
    have g2 : DataW.trod enc Tryd.prog w base spare held n 23 [c2] = some y2 := by simpa [Value.cells, cellsX_strs] using hx 2 _ rfl
    have g3 : DataW.trod enc Tryd.prog w base spare held n 9 [c3] = some y3 := by simpa [Value.cells, cellsX_str] using hx 3 _ rfl
    have g4 : DataW.trod enc Tryd.prog w base spare held n 9 [c4] = some y4 := by simpa [Value.cells, cellsX_str] using hx 4 _ rfl
    have g5 : DataW.trod enc Tryd.prog w base spare held n 3 [c5] = some y5 := by simpa [Value.cells, cellsX_int] using hx 5 _ rfl
    have g6 : DataW.trod enc Tryd.prog w base spare held n 3 [c6] = some y6 := by simpa [Value.cells, cellsX_int] using hx 6 _ rfl
    obtain ⟨co, e0, _, w0⟩ := DataW.trod_int Tryd.underlying3 g0
    obtain ⟨ra, rn, rc, rq, e1, h1, b1, m1⟩ := open_recs g1
    obtain ⟨va, vn, vc, vq, e2, h2, b2, m2⟩ := open_strs' g2
    obtain ⟨er, e3, _, w3⟩ := DataW.trod_string Tryd.underlying9 g3
    obtain ⟨tr, e4, _, w4⟩ := DataW.trod_string Tryd.underlying9 g4
    obtain ⟨ti, e5, _, w5⟩ := DataW.trod_int Tryd.underlying3 g5
    obtain ⟨ma, e6, _, w6⟩ := DataW.trod_int Tryd.underlying3 g6
    simp at e0 e1 e2 e3 e4 e5 e6
    subst e0 e1 e2 e3 e4 e5 e6
    exact ⟨⟨co, rn, rq, vn, vq, er, tr, ti, ma⟩, ⟨ra, rc, va, vc⟩, rfl, ⟨h1, h2⟩, ⟨i64r_of w0, m1, b1, m2, b2, w3, w4, i64r_of w5, i64r_of w6⟩⟩
end
end Go.Proofs.YtiidepafifodjaaDoor
