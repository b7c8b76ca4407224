import Derived.Test.YtcpjnddkibbddaaGreatRowOk
import Derived.Test.YtcpjnddkibbddaaGreatPlain
import Derived.Deep.Slices
/-! A unit that came in, opened. -/
namespace Go.Proofs.YtcpjnddkibbddaaGreat
open Go.ChangeShapes Go.WideShapes Go.ChangeAt Go.RowKit Go.Deep

section
variable {H : Type} {enc : TypeId × Value → H} {w : World} {base : Nat} {spare : Nat → Bool} {held : Bool}

theorem addr_none (b off k : Nat) : (⟨b, off, none⟩ : Addr).add k = ⟨b, off + k, none⟩ := by cases k <;> simp [Addr.add]
theorem cell_lt {w : World} {b o : Nat} {v : Value} (h : w.cell? ⟨b, o, none⟩ = some v) : b < w.heap.size := by
  refine Nat.lt_of_not_le fun hle => ?_
  have : w.heap[b]? = none := Array.getElem?_eq_none hle
  simp [World.cell?, this] at h
theorem row_of_cells {w : World} {K n : Nat} {a : Addr} {q : Nat → Array Value} (hK : 0 < K) (hv : ∀ i, i < n → ∃ v, (q i)[0]? = some v) (h : ∀ i, i < n → ∀ j, j < K → w.cell? ((a.add (i * K)).add j) = (q i)[j]?) : RowN K 0 w (some a) n q := fun h0 => by
  obtain ⟨b, off, spot⟩ := a
  obtain ⟨v, hv0⟩ := hv 0 h0
  have hspot : spot = none := by
    have h1 := h 0 h0 0 hK
    rw [hv0] at h1
    simpa [Addr.add] using World.cell?_spot h1
  subst hspot
  have hcell : ∀ i, i < n → ∀ j, j < K → w.cell? ⟨b, off + i * K + j, none⟩ = (q i)[j]? := fun i hi j hj => by
    have := h i hi j hj
    rwa [addr_none, addr_none] at this
  refine ⟨b, off, rfl, Nat.zero_le _, ?_, hcell⟩
  have h1 := hcell 0 h0 0 hK
  rw [hv0] at h1
  exact cell_lt h1
theorem i64r_of {t : Int} (wt : (Lit.int .i64 t).wf = true) : I64r t := by
  simp [Lit.wf, IntKind.min, IntKind.max, IntKind.signed, IntKind.bits] at wt
  unfold I64r
  omega
/-- a slice of things of K cells each, opened by what one thing is -/
theorem open_things {α : Type} [Inhabited α] {t e : TypeId} {K : Nat} (hK : 0 < K) (ht : Tryz.prog.underlying t = some (.slice e)) (hc : Tryz.prog.cellsOf e = K) (q : α → Array Value) (hq : ∀ x, (q x).size = K) (good : α → Prop)
    (hone : ∀ {fuel : Nat} {cs : List Value} {x : DataW H × List MemPlace}, DataW.trod enc Tryz.prog w base spare held fuel e cs = some x → ∃ y, cs = (q y).toList ∧ good y)
    {fuel : Nat} {cs : List Value} {x : DataW H × List MemPlace} (h : DataW.trod enc Tryz.prog w base spare held fuel t cs = some x) :
    ∃ (a : Option Addr) (n cap : Nat) (f : Nat → α), cs = [.slice a n cap] ∧ RowN K 0 w a n (fun i => q (f i)) ∧ (∀ i, i < n → good (f i)) ∧ n ≤ maxLen := by
  rcases open_slice ht h with ⟨rfl, _⟩ | ⟨a, len, cap, m, n, D, Pl, rfl, _, hl, hm, hmm, _, hx⟩
  · exact ⟨none, 0, 0, fun _ => default, rfl, fun h => by omega, fun i hi => by omega, by unfold maxLen; omega⟩
  · have hlm : len ≤ m := by rw [hmm]; split <;> omega
    obtain ⟨f, hf⟩ := choose_lt (α := α) (n := len) (p := fun i p => good p ∧ ∀ j, j < K → w.cell? ((a.add (i * K)).add j) = (q p)[j]?) (fun i hi => by
      obtain ⟨cs', h1, h2⟩ := hx i (by omega)
      rw [hc] at h1
      obtain ⟨p, rfl, hp⟩ := hone h2
      obtain ⟨_, _, h3⟩ := World.cells?_some h1
      exact ⟨p, hp, fun j hj => by rw [h3 j hj]; simp⟩)
    exact ⟨some a, len, cap, f, rfl, row_of_cells hK (fun i _ => ⟨_, Array.getElem?_eq_getElem (by rw [hq]; exact hK)⟩) (fun i hi => (hf i hi).2), fun i hi => (hf i hi).1, Nat.le_trans hl hm⟩

theorem cellsX_int : Tryz.prog.cellsOf 3 = 1 := by kernel_rfl
theorem cellsX_int64 : Tryz.prog.cellsOf 2 = 1 := by kernel_rfl
theorem cellsX_float : Tryz.prog.cellsOf 46 = 1 := by kernel_rfl
theorem cellsX_str : Tryz.prog.cellsOf 9 = 1 := by kernel_rfl
theorem cellsX_bool : Tryz.prog.cellsOf 4 = 1 := by kernel_rfl
theorem cellsX_ints : Tryz.prog.cellsOf 26 = 1 := by kernel_rfl
theorem cellsX_strs : Tryz.prog.cellsOf 41 = 1 := by kernel_rfl
theorem cellsX_ups : Tryz.prog.cellsOf 59 = 1 := by kernel_rfl
theorem cellsX_nodes : Tryz.prog.cellsOf 60 = 1 := by kernel_rfl
theorem cellsX_fns : Tryz.prog.cellsOf 22 = 1 := by kernel_rfl
theorem cellsX_up : Tryz.prog.cellsOf 120 = 2 := by kernel_rfl
theorem cellsX_node : Tryz.prog.cellsOf 116 = 8 := by kernel_rfl
theorem cellsX_fn : Tryz.prog.cellsOf 62 = 7 := by kernel_rfl
theorem cellsX_unit : Tryz.prog.cellsOf 24 = 1 := by kernel_rfl
instance : Inhabited ByteArray := ⟨⟨#[]⟩⟩

theorem open_ints' {fuel : Nat} {cs : List Value} {x : DataW H × List MemPlace} (h : DataW.trod enc Tryz.prog w base spare held fuel 26 cs = some x) :
    ∃ (a : Option Addr) (n cap : Nat) (r : Nat → Int), cs = [.slice a n cap] ∧ IntsAt 0 w a n r ∧ (∀ i, i < n → I64r (r i)) ∧ n ≤ maxLen :=
  open_things (α := Int) (by omega) Tryz.underlying26 cellsX_int (fun i => #[.int .i64 i]) (fun _ => rfl) I64r (fun h => by
    obtain ⟨t, e, _, wt⟩ := DataW.trod_int Tryz.underlying3 h
    exact ⟨t, e, i64r_of wt⟩) h
theorem open_strs' {fuel : Nat} {cs : List Value} {x : DataW H × List MemPlace} (h : DataW.trod enc Tryz.prog w base spare held fuel 41 cs = some x) :
    ∃ (a : Option Addr) (n cap : Nat) (q : Nat → ByteArray), cs = [.slice a n cap] ∧ RowN 1 0 w a n (fun i => #[.string (q i)]) ∧ (∀ i, i < n → (q i).size ≤ maxLen) ∧ n ≤ maxLen :=
  open_things (α := ByteArray) (by omega) Tryz.underlying41 cellsX_str (fun s => #[.string s]) (fun _ => rfl) (fun s => s.size ≤ maxLen) (fun h => by
    obtain ⟨s, e, _, ws⟩ := DataW.trod_string Tryz.underlying9 h
    exact ⟨s, e, ws⟩) h
theorem list2 {cs : List Value} (h : cs.length = 2) : ∃ c0 c1, cs = [c0, c1] := by
  match cs, h with
  | [c0, c1], _ => exact ⟨c0, c1, rfl⟩
theorem list7 {cs : List Value} (h : cs.length = 7) : ∃ c0 c1 c2 c3 c4 c5 c6, cs = [c0, c1, c2, c3, c4, c5, c6] := by
  match cs, h with
  | [c0, c1, c2, c3, c4, c5, c6], _ => exact ⟨c0, c1, c2, c3, c4, c5, c6, rfl⟩
theorem list8 {cs : List Value} (h : cs.length = 8) : ∃ c0 c1 c2 c3 c4 c5 c6 c7, cs = [c0, c1, c2, c3, c4, c5, c6, c7] := by
  match cs, h with
  | [c0, c1, c2, c3, c4, c5, c6, c7], _ => exact ⟨c0, c1, c2, c3, c4, c5, c6, c7, rfl⟩
theorem trod_up {fuel : Nat} {cs : List Value} {x : DataW H × List MemPlace} (h : DataW.trod enc Tryz.prog w base spare held fuel 120 cs = some x) : ∃ q : UPD, cs = (upC q).toList ∧ I64r q.ix := by
  obtain ⟨xs, n, _, _, hl, hlen, hx⟩ := DataW.trod_struct Tryz.underlying120 h
  obtain ⟨c0, c1, rfl⟩ := list2 (hl.trans cellsX_up)
  match xs, hlen with
  | [y0, y1], _ =>
    have g0 : DataW.trod enc Tryz.prog w base spare held n 4 [c0] = some y0 := by simpa [cellsX_bool] using hx 0 _ rfl
    have g1 : DataW.trod enc Tryz.prog w base spare held n 3 [c1] = some y1 := by simpa [cellsX_int] using hx 1 _ rfl
    obtain ⟨l, e0, _⟩ := DataW.trod_bool Tryz.underlying4 g0
    obtain ⟨t, e1, _, wt⟩ := DataW.trod_int Tryz.underlying3 g1
    simp at e0 e1
    subst e0 e1
    exact ⟨⟨l, t⟩, rfl, i64r_of wt⟩
theorem open_ups' {fuel : Nat} {cs : List Value} {x : DataW H × List MemPlace} (h : DataW.trod enc Tryz.prog w base spare held fuel 59 cs = some x) :
    ∃ (a : Option Addr) (n cap : Nat) (q : Nat → UPD), cs = [.slice a n cap] ∧ RowN 2 0 w a n (fun i => upC (q i)) ∧ (∀ i, i < n → I64r (q i).ix) ∧ n ≤ maxLen :=
  open_things (α := UPD) (by omega) Tryz.underlying59 cellsX_up upC (fun _ => rfl) (fun p => I64r p.ix) (fun h => trod_up h) h
theorem trod_node {fuel : Nat} {cs : List Value} {x : DataW H × List MemPlace} (h : DataW.trod enc Tryz.prog w base spare held fuel 116 cs = some x) : ∃ p : ND × NA, cs = (nodeC p.1 p.2).toList ∧ p.1.wf ∧ NodeAt 0 w p.1 p.2 := by
  obtain ⟨xs, n, _, _, hl, hlen, hx⟩ := DataW.trod_struct Tryz.underlying116 h
  obtain ⟨c0, c1, c2, c3, c4, c5, c6, c7, rfl⟩ := list8 (hl.trans cellsX_node)
  match xs, hlen with
  | [y0, y1, y2, y3, y4, y5, y6, y7], _ =>
    have g0 : DataW.trod enc Tryz.prog w base spare held n 3 [c0] = some y0 := by simpa [cellsX_int] using hx 0 _ rfl
    have g1 : DataW.trod enc Tryz.prog w base spare held n 3 [c1] = some y1 := by simpa [cellsX_int] using hx 1 _ rfl
    have g2 : DataW.trod enc Tryz.prog w base spare held n 3 [c2] = some y2 := by simpa [cellsX_int] using hx 2 _ rfl
    have g3 : DataW.trod enc Tryz.prog w base spare held n 2 [c3] = some y3 := by simpa [cellsX_int64] using hx 3 _ rfl
    have g4 : DataW.trod enc Tryz.prog w base spare held n 46 [c4] = some y4 := by simpa [cellsX_float] using hx 4 _ rfl
    have g5 : DataW.trod enc Tryz.prog w base spare held n 9 [c5] = some y5 := by simpa [cellsX_str] using hx 5 _ rfl
    have g6 : DataW.trod enc Tryz.prog w base spare held n 26 [c6] = some y6 := by simpa [cellsX_ints] using hx 6 _ rfl
    have g7 : DataW.trod enc Tryz.prog w base spare held n 26 [c7] = some y7 := by simpa [cellsX_ints] using hx 7 _ rfl
    obtain ⟨k, e0, _, w0⟩ := DataW.trod_int Tryz.underlying3 g0
    obtain ⟨l, e1, _, w1⟩ := DataW.trod_int Tryz.underlying3 g1
    obtain ⟨o, e2, _, w2⟩ := DataW.trod_int Tryz.underlying3 g2
    obtain ⟨m, e3, _, w3⟩ := DataW.trod_int Tryz.underlying2 g3
    obtain ⟨f, e4, w4⟩ := trod_float1 Tryz.underlying46 g4
    obtain ⟨s, e5, _, w5⟩ := DataW.trod_string Tryz.underlying9 g5
    obtain ⟨ra, rn, rc, r, e6, h6, b6, m6⟩ := open_ints' g6
    obtain ⟨ka, kn, kc, c, e7, h7, b7, m7⟩ := open_ints' g7
    simp at e0 e1 e2 e3 e4 e5 e6 e7
    subst e0 e1 e2 e3 e4 e5 e6 e7
    exact ⟨(⟨k, l, o, m, f, s, rn, r, kn, c⟩, ⟨ra, rc, ka, kc⟩), rfl, ⟨w5, by simpa [Lit.wf] using w4, m6, m7, i64r_of w0, i64r_of w1, i64r_of w2, i64r_of w3, b6, b7⟩, ⟨h6, h7⟩⟩
theorem open_nodes' {fuel : Nat} {cs : List Value} {x : DataW H × List MemPlace} (h : DataW.trod enc Tryz.prog w base spare held fuel 60 cs = some x) :
    ∃ (a : Option Addr) (n cap : Nat) (f : Nat → ND × NA), cs = [.slice a n cap] ∧ RowN 8 0 w a n (fun i => nodeC (f i).1 (f i).2) ∧ (∀ i, i < n → (f i).1.wf ∧ NodeAt 0 w (f i).1 (f i).2) ∧ n ≤ maxLen :=
  open_things (α := ND × NA) (by omega) Tryz.underlying60 cellsX_node (fun p => nodeC p.1 p.2) (fun _ => rfl) (fun p => p.1.wf ∧ NodeAt 0 w p.1 p.2) (fun h => trod_node h) h
theorem trod_fn {fuel : Nat} {cs : List Value} {x : DataW H × List MemPlace} (h : DataW.trod enc Tryz.prog w base spare held fuel 62 cs = some x) : ∃ p : FD × FA, cs = (fnC p.1 p.2).toList ∧ p.1.wf ∧ FnAt 0 w p.1 p.2 := by
  obtain ⟨xs, n, _, _, hl, hlen, hx⟩ := DataW.trod_struct Tryz.underlying62 h
  obtain ⟨c0, c1, c2, c3, c4, c5, c6, rfl⟩ := list7 (hl.trans cellsX_fn)
  match xs, hlen with
  | [y0, y1, y2, y3, y4, y5, y6], _ =>
    have g0 : DataW.trod enc Tryz.prog w base spare held n 9 [c0] = some y0 := by simpa [cellsX_str] using hx 0 _ rfl
    have g1 : DataW.trod enc Tryz.prog w base spare held n 3 [c1] = some y1 := by simpa [cellsX_int] using hx 1 _ rfl
    have g2 : DataW.trod enc Tryz.prog w base spare held n 3 [c2] = some y2 := by simpa [cellsX_int] using hx 2 _ rfl
    have g3 : DataW.trod enc Tryz.prog w base spare held n 4 [c3] = some y3 := by simpa [cellsX_bool] using hx 3 _ rfl
    have g4 : DataW.trod enc Tryz.prog w base spare held n 41 [c4] = some y4 := by simpa [cellsX_strs] using hx 4 _ rfl
    have g5 : DataW.trod enc Tryz.prog w base spare held n 59 [c5] = some y5 := by simpa [cellsX_ups] using hx 5 _ rfl
    have g6 : DataW.trod enc Tryz.prog w base spare held n 60 [c6] = some y6 := by simpa [cellsX_nodes] using hx 6 _ rfl
    obtain ⟨s, e0, _, w0⟩ := DataW.trod_string Tryz.underlying9 g0
    obtain ⟨l, e1, _, w1⟩ := DataW.trod_int Tryz.underlying3 g1
    obtain ⟨p, e2, _, w2⟩ := DataW.trod_int Tryz.underlying3 g2
    obtain ⟨r, e3, _⟩ := DataW.trod_bool Tryz.underlying4 g3
    obtain ⟨va, vn, vc, v, e4, h4, b4, m4⟩ := open_strs' g4
    obtain ⟨ua, un, uc, u, e5, h5, b5, m5⟩ := open_ups' g5
    obtain ⟨na, nn, nc, f, e6, h6, b6, m6⟩ := open_nodes' g6
    simp at e0 e1 e2 e3 e4 e5 e6
    subst e0 e1 e2 e3 e4 e5 e6
    exact ⟨(⟨s, l, p, r, vn, v, un, u, nn, fun i => (f i).1⟩, ⟨va, vc, ua, uc, na, nc, fun i => (f i).2⟩), rfl, ⟨w0, i64r_of w1, i64r_of w2, m4, b4, m5, b5, m6, fun i hi => (b6 i hi).1⟩, ⟨h4, h5, h6, fun i hi => (b6 i hi).2⟩⟩
theorem open_fns' {fuel : Nat} {cs : List Value} {x : DataW H × List MemPlace} (h : DataW.trod enc Tryz.prog w base spare held fuel 22 cs = some x) :
    ∃ (a : Option Addr) (n cap : Nat) (f : Nat → FD × FA), cs = [.slice a n cap] ∧ RowN 7 0 w a n (fun i => fnC (f i).1 (f i).2) ∧ (∀ i, i < n → (f i).1.wf ∧ FnAt 0 w (f i).1 (f i).2) ∧ n ≤ maxLen :=
  open_things (α := FD × FA) (by omega) Tryz.underlying22 cellsX_fn (fun p => fnC p.1 p.2) (fun _ => rfl) (fun p => p.1.wf ∧ FnAt 0 w p.1 p.2) (fun h => trod_fn h) h
set_option maxRecDepth 100000 in
theorem open_unit {r0 : Reach} {b0 : Nat} {v : Value} {d : DataW H} {p : List MemPlace} (hv : Value.okWide Tryz.prog w r0 b0 24 v) (h : DataW.Trod enc Tryz.prog w base spare held 24 v d p) :
    ∃ (D : UD) (a : Option Addr) (c : Nat) (fas : Nat → FA), v = unV D a c ∧ FnsAt 0 w D.n D.fn a fas ∧ D.wf := by
  obtain ⟨cs, rfl, hsz⟩ := okWide_struct Tryz.underlying24 hv
  have hsz : cs.size = 1 := hsz.trans cellsX_unit
  obtain ⟨l⟩ := cs
  match l, hsz with
  | [c0], _ =>
    obtain ⟨fuel, hf⟩ := h
    obtain ⟨xs, n, _, _, _, hlen, hx⟩ := DataW.trod_struct Tryz.underlying24 hf
    match xs, hlen with
    | [y0], _ =>
      have g0 : DataW.trod enc Tryz.prog w base spare held n 22 [c0] = some y0 := by simpa [Value.cells, cellsX_fns] using hx 0 _ rfl
      obtain ⟨a, n, cap, f, e0, h0, b0, m0⟩ := open_fns' g0
      simp at e0
      subst e0
      exact ⟨⟨n, fun i => (f i).1⟩, a, cap, fun i => (f i).2, rfl, ⟨h0, fun i hi => (b0 i hi).2⟩, ⟨m0, fun i hi => (b0 i hi).1⟩⟩
end
end Go.Proofs.YtcpjnddkibbddaaGreat
