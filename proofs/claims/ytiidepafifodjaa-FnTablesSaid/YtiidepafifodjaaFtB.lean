import Derived.Test.YtiidepafifodjaaFtA
import Derived.Test.YtiidepafifodjaaRowB
import Derived.Test.YtiidepafifodjaaTabO
import Derived.Laws.StructEq
import Derived.Deep.DeepCutAuto
import Derived.Deep.DrawnRows
import Derived.Deep.RegionHeld3
import Derived.Deep.RegionWith
/-! FnTables: rows of ints; what wTable stands on. -/
namespace Go.Proofs.Ytiidepafifodjaa
open Go.RowKit

theorem eqf_any {P : Program} (w : World) (d : Nat) (t : TypeId) (k k' : FloatKind) (a b : Nat) (h : P.underlying t = some (.float k')) : (Op.equalIn (d + 1) t (.float k a) (.float k b)).run P w = .ok (Op.floatEq k a b) w := by
  simp [Op.equalIn, run_underlying h]
theorem eqf_zero (w : World) : (Op.equalIn 9999 40 (.float .f64 0) (.float .f64 0)).run Try.prog w = .ok true w := by
  rw [eqf_any w 9998 _ .f64 .f64 0 0 Try.underlying40]
  simp [Op.floatEq, order00]
theorem field_found (f : Bool) (p : PD) (w : World) : (Instr.field 125 (fOf f p) 0).run Try.prog w = .ok (.bool f) w := by kernel_rfl

theorem cell_in {w : World} {p : Addr} {v : Value} (h : w.cell? p = some v) : p.block < w.heap.size := by
  refine Nat.lt_of_not_le fun hle => ?_
  have : w.heap[p.block]? = none := Array.getElem?_eq_none hle
  simp [World.cell?, this] at h
theorem cell_call {u w : World} {p : Addr} {v : Value} (h : u.cell? p = some v) (hb : Below u.heap.size u w) : w.cell? p = some v := (hb.cell (cell_in h)).trans h

/-- a row of ints -/
def IRow (w : World) (a : Option Addr) (n : Nat) (K : Nat → Int) : Prop := 0 < n → ∃ b off, a = some ⟨b, off, none⟩ ∧ ∀ i, i < n → w.cell? ⟨b, off + i, none⟩ = some (.int .i64 (K i))
theorem IRow.below {w w' : World} {a : Option Addr} {n : Nat} {K : Nat → Int} (h : IRow w a n K) (hb : Below w.heap.size w w') : IRow w' a n K := fun hn => by
  obtain ⟨b, off, e, hc⟩ := h hn
  exact ⟨b, off, e, fun i hi => cell_call (hc i hi) hb⟩
theorem IRow.drew {w : World} {a : Option Addr} {n : Nat} {K : Nat → Int} (h : IRow w a n K) : IRow w.drew a n K := h

/-- wTable under way -/
structure WT (w : World) (a : Option Addr) (n cap : Nat) (t : Int) (q : Nat → PD) (K V : Nat → Int) (ka va : Option Addr) (u : World) : Prop where
  x : Has u w.heap.size #[.slice a n cap, .int .i64 t]
  tb : Tab u a n q
  kr : IRow u ka n K
  vr : IRow u va n V
  b : Below w.heap.size w u
theorem WT.call {w : World} {a : Option Addr} {n cap : Nat} {t : Int} {q : Nat → PD} {K V : Nat → Int} {ka va : Option Addr} {u u' : World} (h : WT w a n cap t q K V ka va u) (hb : Below u.heap.size u u') : WT w a n cap t q K V ka va u' :=
  ⟨h.x.call hb, h.tb.below hb, h.kr.below hb, h.vr.below hb, below_call h.b hb⟩
theorem WT.drew {w : World} {a : Option Addr} {n cap : Nat} {t : Int} {q : Nat → PD} {K V : Nat → Int} {ka va : Option Addr} {u : World} (h : WT w a n cap t q K V ka va u) : WT w a n cap t q K V ka va u.drew :=
  ⟨h.x, h.tb.drew, h.kr, h.vr, h.b.drew⟩
theorem WT.alloc {w : World} {a : Option Addr} {n cap : Nat} {t : Int} {q : Nat → PD} {K V : Nat → Int} {ka va : Option Addr} {u : World} (h : WT w a n cap t q K V ka va u) (o : Obj) : WT w a n cap t q K V ka va (u.alloc o) := h.call (below_alloc u o)
theorem WT.c {w : World} {a : Option Addr} {n cap : Nat} {t : Int} {q : Nat → PD} {K V : Nat → Int} {ka va : Option Addr} {u : World} (h : WT w a n cap t q K V ka va u) : u.cell? ⟨w.heap.size, 0, none⟩ = some (.slice a n cap) ∧ u.cell? ⟨w.heap.size, 1, none⟩ = some (.int .i64 t) := ⟨h.x.at 0, h.x.at 1⟩
theorem WT.new {w : World} {a : Option Addr} {n cap : Nat} {t : Int} {q : Nat → PD} {K V : Nat → Int} {ka va : Option Addr} (hT : Tab w a n q) (hK : IRow w ka n K) (hV : IRow w va n V) : WT w a n cap t q K V ka va (w.alloc (.cells #[.slice a n cap, .int .i64 t] 59)) :=
  ⟨Has.new _ _ _, hT.alloc _, hK.below (below_alloc _ _), hV.below (below_alloc _ _), below_alloc _ _⟩

/-- the cells that the first loop's test reads -/
structure R6 (F : Nat) (x y T : Int) (pk pv : Addr) (u : World) : Prop where
  c : u.cell? ⟨F, 0, none⟩ = some (.bool true) ∧ u.cell? ⟨F, 1, none⟩ = some (.int .i64 2) ∧ u.cell? ⟨F, 2, none⟩ = some (.int .i64 x) ∧ u.cell? ⟨F, 3, none⟩ = some (.float .f64 0) ∧ u.cell? ⟨F, 4, none⟩ = some (.string ⟨#[]⟩) ∧ u.cell? ⟨F, 5, none⟩ = some (.int .i64 0) ∧ u.cell? ⟨F, 6, none⟩ = some (.int .i64 2) ∧ u.cell? ⟨F, 7, none⟩ = some (.int .i64 y) ∧ u.cell? ⟨F, 8, none⟩ = some (.float .f64 0) ∧ u.cell? ⟨F, 9, none⟩ = some (.string ⟨#[]⟩) ∧ u.cell? ⟨F, 10, none⟩ = some (.int .i64 0) ∧ u.cell? ⟨F, 11, none⟩ = some (.int .i64 T) ∧ u.cell? pk = some (.int .i64 x) ∧ u.cell? pv = some (.int .i64 y)
theorem R6.call {F : Nat} {x y T : Int} {pk pv : Addr} {u u' : World} (h : R6 F x y T pk pv u) (hb : Below u.heap.size u u') : R6 F x y T pk pv u' := by
  obtain ⟨c0, c1, c2, c3, c4, c5, c6, c7, c8, c9, c10, c11, c12, c13⟩ := h.c
  exact ⟨cell_call c0 hb, cell_call c1 hb, cell_call c2 hb, cell_call c3 hb, cell_call c4 hb, cell_call c5 hb, cell_call c6 hb, cell_call c7 hb, cell_call c8 hb, cell_call c9 hb, cell_call c10 hb, cell_call c11 hb, cell_call c12 hb, cell_call c13 hb⟩
theorem R6.drew {F : Nat} {x y T : Int} {pk pv : Addr} {u : World} (h : R6 F x y T pk pv u) : R6 F x y T pk pv u.drew := ⟨h.c⟩
theorem R6.new {w : World} {x y T : Int} {pk pv : Addr} (h1 : w.cell? pk = some (.int .i64 x)) (h2 : w.cell? pv = some (.int .i64 y)) (Q : TypeId) : R6 w.heap.size x y T pk pv (w.alloc (.cells (fC true ⟨iv x, iv y, T⟩) Q)) := by
  have h := World.cell?_alloc_new w (fC true ⟨iv x, iv y, T⟩) Q
  exact ⟨h 0, h 1, h 2, h 3, h 4, h 5, h 6, h 7, h 8, h 9, h 10, h 11, cell_call h1 (below_alloc _ _), cell_call h2 (below_alloc _ _)⟩

/-- more: whether a key has been met -/
def MoreIs (K : Nat → Int) (k : Nat) (r : Int) (m : Value) : Prop := ∃ b : Bool, m = .bool b ∧ (b = true ↔ ∃ j, j < k ∧ K j = r)
theorem MoreIs.zero (K : Nat → Int) (r : Int) : MoreIs K 0 r (.bool false) := ⟨false, rfl, by simp⟩
theorem MoreIs.yes {K : Nat → Int} {k : Nat} {r : Int} (e : K k = r) : MoreIs K (k + 1) r (.bool true) := ⟨true, rfl, by simp; exact ⟨k, by omega, e⟩⟩
theorem MoreIs.no {K : Nat → Int} {k : Nat} {r : Int} {m : Value} (h : MoreIs K k r m) (e : K k ≠ r) : MoreIs K (k + 1) r m := by
  obtain ⟨b, rfl, hb⟩ := h
  refine ⟨b, rfl, hb.trans ⟨fun ⟨j, hj, c⟩ => ⟨j, by omega, c⟩, fun ⟨j, hj, c⟩ => ⟨j, ?_, c⟩⟩⟩
  by_cases d : j = k
  · subst d; exact absurd c e
  · omega
/-- the outer loop: how far the keys have been met -/
structure RunIs (K : Nat → Int) (n r : Nat) (b : Bool) : Prop where
  all : ∀ i, i < r → ∃ j, j < n ∧ K j = ((i + 1 : Nat) : Int)
  stop : b = false → ¬ ∃ j, j < n ∧ K j = ((r + 1 : Nat) : Int)
def RunAt (K : Nat → Int) (n : Nat) (r m : Value) : Prop := ∃ (k : Nat) (b : Bool), k ≤ n ∧ r = .int .i64 k ∧ m = .bool b ∧ RunIs K n k b
theorem IsT.runle {n : Nat} {t : Int} {q : Nat → PD} {K V : Nat → Int} (h : IsT n t q K V) {r : Nat} (hall : ∀ i, i < r → ∃ j, j < n ∧ K j = ((i + 1 : Nat) : Int)) : r ≤ n :=
  pres_le (q := q) fun i hi => (h.pres (i + 1)).2 (hall i hi)

/-- what is wanted of a key -/
def WantIs (K V : Nat → Int) (k : Nat) (c : Int) (y : VD) : Prop := (∃ j, j < k ∧ K j = c ∧ y = iv (V j)) ∨ ((∀ j, j < k → K j ≠ c) ∧ y = vz)
theorem WantIs.no {K V : Nat → Int} {k : Nat} {c : Int} {y : VD} (h : WantIs K V k c y) (e : K k ≠ c) : WantIs K V (k + 1) c y := by
  rcases h with ⟨j, hj, h1, h2⟩ | ⟨h1, h2⟩
  · exact .inl ⟨j, by omega, h1, h2⟩
  · refine .inr ⟨fun j hj => ?_, h2⟩
    by_cases d : j = k
    · subst d; exact e
    · exact h1 j (by omega)
theorem WantIs.yes {K V : Nat → Int} {k : Nat} {c : Int} (e : K k = c) : WantIs K V (k + 1) c (iv (V k)) := .inl ⟨k, by omega, e, rfl⟩
theorem WantIs.got {n : Nat} {t : Int} {q : Nat → PD} {K V : Nat → Int} {c : Int} {y v : VD} (h : WantIs K V n c y) (hI : IsT n t q K V) (hg : GetSays n t q (iv c) v) : v = y := by
  rcases hI.get hg with ⟨j, hj, h1, rfl⟩ | ⟨h1, rfl⟩ <;> rcases h with ⟨i, hi, k1, rfl⟩ | ⟨k1, rfl⟩
  · rw [hI.inj hi hj (by rw [k1, h1])]
  · exact absurd h1 (k1 j hj)
  · exact absurd k1 (h1 i hi)
  · rfl
theorem WantIs.cases {K V : Nat → Int} {k : Nat} {c : Int} {y : VD} (h : WantIs K V k c y) : y = vz ∨ ∃ z, y = iv z := by
  rcases h with ⟨j, _, _, h⟩ | ⟨_, h⟩
  · exact .inr ⟨_, h⟩
  · exact .inl h

/-- a local value of one's own -/
structure WB (B : Nat) (y : VD) (u : World) : Prop where
  h : Has u B (vCs y)
  fr : ∀ o, u.frozen? ⟨B, o, none⟩ = false
theorem WB.call {B : Nat} {y : VD} {u u' : World} (h : WB B y u) (hb : Below u.heap.size u u') : WB B y u' := ⟨h.h.call hb, fun o => (hb.frozen (p := ⟨B, o, none⟩) h.h.lt).trans (h.fr o)⟩
theorem WB.drew {B : Nat} {y : VD} {u : World} (h : WB B y u) : WB B y u.drew := ⟨h.h, h.fr⟩
theorem WB.new (w : World) (y : VD) (t : TypeId) : WB w.heap.size y (w.alloc (.cells (vCs y) t)) := ⟨Has.new _ _ _, fun o => by simp⟩
theorem WB.c {B : Nat} {y : VD} {u : World} (h : WB B y u) : u.cell? ⟨B, 0, none⟩ = some (.int .i64 y.k) ∧ u.cell? ⟨B, 1, none⟩ = some (.int .i64 y.n) ∧ u.cell? ⟨B, 2, none⟩ = some (.float .f64 y.f) ∧ u.cell? ⟨B, 3, none⟩ = some (.string y.s) ∧ u.cell? ⟨B, 4, none⟩ = some (.int .i64 y.r) := ⟨h.h.at 0, h.h.at 1, h.h.at 2, h.h.at 3, h.h.at 4⟩
theorem WB.set5 {B : Nat} {y : VD} {w : World} (h : WB B y w) (z : VD) :
    WB B z (((((w.setCell ⟨B, 0, none⟩ (.int .i64 z.k)).setCell ⟨B, 1, none⟩ (.int .i64 z.n)).setCell ⟨B, 2, none⟩ (.float .f64 z.f)).setCell ⟨B, 3, none⟩ (.string z.s)).setCell ⟨B, 4, none⟩ (.int .i64 z.r)) := by
  obtain ⟨h0, h1, h2, h3, h4⟩ := h.c
  have h5 : ∀ o, w.cell? ⟨B, o + 5, none⟩ = none := fun o => h.h.at (o + 5)
  have hf := h.fr
  refine ⟨⟨by have := h.h.lt; simpa using this, fun o => ?_⟩, fun o => ?_⟩
  · rcases o with _ | _ | _ | _ | _ | o
    · simp [go_sem, h0]
    · simp [go_sem, h1]
    · simp [go_sem, h2]
    · simp [go_sem, h3]
    · simp [go_sem, h4]
    · simp [go_sem, h5]
  · simp [go_sem, hf]
theorem WB.cz {B : Nat} {u : World} (h : WB B vz u) : u.cell? ⟨B, 0, none⟩ = some (.int .i64 0) ∧ u.cell? ⟨B, 1, none⟩ = some (.int .i64 0) ∧ u.cell? ⟨B, 2, none⟩ = some (.float .f64 0) ∧ u.cell? ⟨B, 3, none⟩ = some (.string ⟨#[]⟩) ∧ u.cell? ⟨B, 4, none⟩ = some (.int .i64 0) := h.c
theorem WB.ci {B : Nat} {z : Int} {u : World} (h : WB B (iv z) u) : u.cell? ⟨B, 0, none⟩ = some (.int .i64 2) ∧ u.cell? ⟨B, 1, none⟩ = some (.int .i64 z) ∧ u.cell? ⟨B, 2, none⟩ = some (.float .f64 0) ∧ u.cell? ⟨B, 3, none⟩ = some (.string ⟨#[]⟩) ∧ u.cell? ⟨B, 4, none⟩ = some (.int .i64 0) := h.c
theorem vz_v : vz.v = vOf 0 0 0 ⟨#[]⟩ 0 := rfl
theorem iv_v (z : Int) : (iv z).v = vOf 2 z 0 ⟨#[]⟩ 0 := rfl
def moreN : Value → Nat
  | .bool true => 1
  | _ => 0
end Go.Proofs.Ytiidepafifodjaa
