import Derived.Test.YtdialodjllpgaaaGreatDoorSpP
import Derived.Test.YtdialodjllpgaaaGreatDoorOwA
import Derived.Test.YtdialodjllpgaaaGreatDoorVdP
import Derived.Deep.DeepCutAuto
import Derived.Deep.RegionWith
import Derived.Deep.RegionHeld3
import Derived.Deep.DrawnRows
import Derived.Deep.QuietTactic
import Derived.BigQuiet
import Derived.Test.YtdialodjllpgaaaGreatDoorCnA
import Derived.Test.YtdialodjllpgaaaGreatDoorDcA
import Derived.Test.YtdialodjllpgaaaGreatDoorSet
import Derived.Deep.OwnRows
import Derived.Laws.StructEq
import Derived.OwnWalk
/-! The specification's check of a unit: a statement's form. -/
namespace Go.Proofs.YtdialodjllpgaaaGreatDoor
open Go.RowKit
attribute [local go_sem] run_store_float
attribute [local go_sem ↓] Go.wp_at_zero Go.wp_at_succ

/-- the last kid is a block -/
def blkB (nd : Nat → ND) (m : Nat) : Bool := decide (0 < (nd m).kn) && kidK nd m ((nd m).kn - 1) == 1
/-- the form of a statement, as the specification asks it -/
def stBs (nd : Nat → ND) (m : Nat) : Bool :=
  if (nd m).k = 1 then allB (fun i => stK (kidK nd m i)) 0 (nd m).kn && bareB (nd m) false false false false 0
  else if (nd m).k = 2 then decide (0 < (nd m).rn) && bareB (nd m) false false false false (nd m).rn && exsB nd m 0 (nd m).kn
  else if (nd m).k = 3 then !(decide ((nd m).n < 1) || decide (((nd m).kn : Int) ≤ (nd m).n)) && allB (fun i => tgK (kidK nd m i)) 0 (nd m).n.toNat && bareB (nd m) false true false false 0 && exsB nd m (nd m).n.toNat (nd m).kn
  else if (nd m).k = 4 ∨ (nd m).k = 14 then ((nd m).kn : Int) == 1 && kidK nd m 0 == 34 && bareB (nd m) false false false false 0
  else if (nd m).k = 5 then (((nd m).kn : Int) == 2 || ((nd m).kn : Int) == 3 && (kidK nd m 2 == 1 || kidK nd m 2 == 5)) && exsB nd m 0 1 && kidK nd m 1 == 1 && bareB (nd m) false false false false 0
  else if (nd m).k = 6 then ((nd m).kn : Int) == 2 && exsB nd m 0 1 && blkB nd m && bareB (nd m) false false false false 0
  else if (nd m).k = 7 then ((nd m).kn : Int) == 4 && exsB nd m 0 3 && blkB nd m && bareB (nd m) false false false false 1
  else if (nd m).k = 8 then ((nd m).kn : Int) == 2 && decide ((1 : Int) ≤ (nd m).rn) && decide (((nd m).rn : Int) ≤ 4) && exsB nd m 0 1 && blkB nd m && bareB (nd m) false false false false (nd m).rn
  else if (nd m).k = 9 ∨ (nd m).k = 10 then ((nd m).kn : Int) == 0 && bareB (nd m) false false false false 0
  else if (nd m).k = 11 then exsB nd m 0 (nd m).kn && bareB (nd m) false false false false 0
  else if (nd m).k = 12 then ((nd m).kn : Int) == 2 && kidK nd m 0 == 1 && blkB nd m && bareB (nd m) false false false false 2
  else if (nd m).k = 13 then ((nd m).kn : Int) == 1 && exsB nd m 0 1 && bareB (nd m) false false false false 0
  else false

/-- what the walks of one statement share -/
structure StAt (L : Nat) (w : World) (n : Nat) (nd : Nat → ND) (a : Option Addr) (nas : Nat → NA) (m : Nat) : Prop where
  at' : NodesAt L w n nd a nas
  lt : m < n
  sm : (nd m).sm

end Go.Proofs.YtdialodjllpgaaaGreatDoor

/-! The specification's check of a unit: statements. -/
namespace Go.Proofs.YtdialodjllpgaaaGreatDoor
open Go.RowKit
attribute [local go_sem] run_store_float
attribute [local go_sem ↓] Go.wp_at_zero Go.wp_at_succ

end Go.Proofs.YtdialodjllpgaaaGreatDoor

/-! The specification's check of a unit: statements. -/
namespace Go.Proofs.YtdialodjllpgaaaGreatDoor
open Go.RowKit
attribute [local go_sem] run_store_float
attribute [local go_sem ↓] Go.wp_at_zero Go.wp_at_succ

end Go.Proofs.YtdialodjllpgaaaGreatDoor

/-! The specification's check of a unit: statements. -/
namespace Go.Proofs.YtdialodjllpgaaaGreatDoor
open Go.RowKit
attribute [local go_sem] run_store_float
attribute [local go_sem ↓] Go.wp_at_zero Go.wp_at_succ

end Go.Proofs.YtdialodjllpgaaaGreatDoor

/-! The specification's check of a unit: statements with many kids; all statements. -/
namespace Go.Proofs.YtdialodjllpgaaaGreatDoor
open Go.RowKit
attribute [local go_sem] run_store_float
attribute [local go_sem ↓] Go.wp_at_zero Go.wp_at_succ

end Go.Proofs.YtdialodjllpgaaaGreatDoor

/-! The specification's check of a unit: an expression's form. -/
namespace Go.Proofs.YtdialodjllpgaaaGreatDoor
open Go.RowKit
attribute [local go_sem] run_store_float
attribute [local go_sem ↓] Go.wp_at_zero Go.wp_at_succ

/-- a float that is not a NaN -/
def nnB (f : Nat) : Bool := FloatKind.f64.format.order f f == some .eq
/-- the form of an expression, as the specification asks it -/
def epB (nd : Nat → ND) (m : Nat) : Bool :=
  if (nd m).k = 20 ∨ (nd m).k = 21 ∨ (nd m).k = 22 ∨ (nd m).k = 37 then ((nd m).kn : Int) == 0 && bareB (nd m) false false false false 0
  else if (nd m).k = 23 then ((nd m).kn : Int) == 0 && bareB (nd m) false true false false 0
  else if (nd m).k = 24 then ((nd m).kn : Int) == 0 && nnB (nd m).f && bareB (nd m) false false true false 0
  else if (nd m).k = 25 then ((nd m).kn : Int) == 0 && decide (((nd m).s.size : Int) ≤ 4000) && bareB (nd m) false false false true 0
  else if (nd m).k = 26 ∨ (nd m).k = 27 ∨ (nd m).k = 36 then ((nd m).kn : Int) == 0 && bareB (nd m) false false false false 1
  else if (nd m).k = 28 then ((nd m).kn : Int) == 0 && decide (0 ≤ (nd m).n) && decide ((nd m).n < 15) && bareB (nd m) false true false false 0
  else if (nd m).k = 29 ∨ (nd m).k = 30 ∨ (nd m).k = 33 then ((nd m).kn : Int) == 2 && exsB nd m 0 (nd m).kn && bareB (nd m) false false false false 0
  else if (nd m).k = 31 then ((nd m).kn : Int) == 1 && exsB nd m 0 (nd m).kn && decide (19 ≤ (nd m).o) && decide ((nd m).o ≤ 22) && bareB (nd m) true false false false 0
  else if (nd m).k = 32 then ((nd m).kn : Int) == 2 && exsB nd m 0 (nd m).kn && decide (1 ≤ (nd m).o) && decide ((nd m).o ≤ 18) && bareB (nd m) true false false false 0
  else if (nd m).k = 34 then decide ((1 : Int) ≤ (nd m).kn) && exsB nd m 0 (nd m).kn && bareB (nd m) false false false false 0
  else if (nd m).k = 35 then ((nd m).kn : Int) % 2 == 0 && exsB nd m 0 (nd m).kn && ((nd m).o == 0 || (nd m).o == 1 && decide ((2 : Int) ≤ (nd m).kn) && kidK nd m ((nd m).kn - 2) == 23 && mnK (kidK nd m ((nd m).kn - 1))) && bareB (nd m) true false false false 0
  else if (nd m).k = 38 then ((nd m).kn : Int) == 1 && mnK (kidK nd m 0) && bareB (nd m) false false false false 0
  else false

end Go.Proofs.YtdialodjllpgaaaGreatDoor

/-! The specification's check of a unit: expressions. -/
namespace Go.Proofs.YtdialodjllpgaaaGreatDoor
open Go.RowKit
attribute [local go_sem] run_store_float
attribute [local go_sem ↓] Go.wp_at_zero Go.wp_at_succ

end Go.Proofs.YtdialodjllpgaaaGreatDoor

/-! The specification's check of a unit: expressions. -/
namespace Go.Proofs.YtdialodjllpgaaaGreatDoor
open Go.RowKit
attribute [local go_sem] run_store_float
attribute [local go_sem ↓] Go.wp_at_zero Go.wp_at_succ

end Go.Proofs.YtdialodjllpgaaaGreatDoor

/-! The specification's check of a unit: expressions. -/
namespace Go.Proofs.YtdialodjllpgaaaGreatDoor
open Go.RowKit
attribute [local go_sem] run_store_float
attribute [local go_sem ↓] Go.wp_at_zero Go.wp_at_succ

end Go.Proofs.YtdialodjllpgaaaGreatDoor

/-! The specification's check of a unit: expressions. -/
namespace Go.Proofs.YtdialodjllpgaaaGreatDoor
open Go.RowKit
attribute [local go_sem] run_store_float
attribute [local go_sem ↓] Go.wp_at_zero Go.wp_at_succ

end Go.Proofs.YtdialodjllpgaaaGreatDoor

/-! The specification's check of a unit: expressions. -/
namespace Go.Proofs.YtdialodjllpgaaaGreatDoor
open Go.RowKit
attribute [local go_sem] run_store_float
attribute [local go_sem ↓] Go.wp_at_zero Go.wp_at_succ

end Go.Proofs.YtdialodjllpgaaaGreatDoor

/-! The specification's check of a unit: the form of a node. -/
namespace Go.Proofs.YtdialodjllpgaaaGreatDoor
open Go.RowKit
attribute [local go_sem] run_store_float
attribute [local go_sem ↓] Go.wp_at_zero Go.wp_at_succ

/-- the form of a node, as the specification asks it -/
def shB (nd : Nat → ND) (m : Nat) : Bool :=
  !decide ((200 : Int) < (nd m).kn) && allB (fun i => !(decide ((nd m).c i < 0) || decide ((m : Int) ≤ (nd m).c i))) 0 (nd m).kn &&
    (if stK (nd m).k then decide (1 ≤ (nd m).l) && decide ((nd m).l ≤ 100000) && stBs nd m else (nd m).l == 0 && epB nd m)

end Go.Proofs.YtdialodjllpgaaaGreatDoor

/-! The specification's check of a unit: parents and depths. -/
namespace Go.Proofs.YtdialodjllpgaaaGreatDoor
open Go.RowKit
attribute [local go_sem] run_store_float
attribute [local go_sem ↓] Go.wp_at_zero Go.wp_at_succ

theorem rowMade (w : World) (z : Value) (t : TypeId) {b n : Nat} (hb : b = w.heap.size) : (w.alloc (.cells (madeCells #[z] n) t)).rowIs b t n (fun _ => z) := by
  subst hb
  exact World.rowIs_made w z n t

/-- two cells -/
def two (x y : Value) (i : Nat) : Value := if i = 0 then x else y
/-- the cells that one step of the depths reads -/
abbrev GR (T P D n i k : Nat) (dk : Int) (w' : World) : Prop := w'.cell? ⟨T, 0, none⟩ = some (.slice (some ⟨P, 0, none⟩) n n) ∧ w'.cell? ⟨T, 1, none⟩ = some (.slice (some ⟨D, 0, none⟩) n n) ∧ w'.cell? ⟨P, i, none⟩ = some (.int .i64 (k : Int)) ∧ w'.cell? ⟨D, k, none⟩ = some (.int .i64 dk)
end Go.Proofs.YtdialodjllpgaaaGreatDoor

/-! The laws' own equality of lists of strings. -/
namespace Go.Proofs.YtdialodjllpgaaaGreatDoor
open Go.RowKit
attribute [local go_sem] run_store_float

end Go.Proofs.YtdialodjllpgaaaGreatDoor

/-! impl.keyOf, impl.Key. -/
namespace Go.Proofs.YtdialodjllpgaaaGreatDoor
open Go.RowKit
attribute [local go_sem] run_store_float
attribute [local go_sem] ta_nil_absent ta_absent_absent ta_flag_absent ta_whole_absent ta_float_absent ta_word_absent ta_builtin_absent ta_made_absent ta_nil_flag ta_absent_flag ta_flag_flag ta_whole_flag ta_float_flag ta_word_flag ta_builtin_flag ta_made_flag ta_nil_whole ta_absent_whole ta_flag_whole ta_whole_whole ta_float_whole ta_word_whole ta_builtin_whole ta_made_whole ta_nil_float ta_absent_float ta_flag_float ta_whole_float ta_float_float ta_word_float ta_builtin_float ta_made_float ta_nil_word ta_absent_word ta_flag_word ta_whole_word ta_float_word ta_word_word ta_builtin_word ta_made_word

def kyG (k n : Int) (f : Nat) (s : ByteArray) (r : Int) : Value :=
  if okB k n f s r = false then gV 1 0 0 0 ⟨#[]⟩ 0 else if k = 0 then gV 5 0 0 0 ⟨#[]⟩ 0 else if k = 3 then fkG f else gV 0 k n f s r

end Go.Proofs.YtdialodjllpgaaaGreatDoor

/-! spec.Key, FnExactKey. -/
namespace Go.Proofs.YtdialodjllpgaaaGreatDoor
open Go.RowKit
attribute [local go_sem] run_store_float

end Go.Proofs.YtdialodjllpgaaaGreatDoor

/-! Tables: plain facts on keys, marks and places. -/
namespace Go.Proofs.YtdialodjllpgaaaGreatDoor
open Go.RowKit

/-- a pair -/
structure PD where
  key : VD
  val : VD
  turn : Int
abbrev VD.ok (x : VD) : Bool := okB x.k x.n x.f x.s x.r
abbrev VD.same (x y : VD) : Bool := smG x.k x.n x.f x.s x.r y.k y.n y.f y.s y.r

/-- Key's code and value -/
def kc (x : VD) : Int := if x.ok = false then 1 else if x.k = 0 then 5 else if x.k = 3 then (if FloatKind.f64.format.order x.f x.f ≠ some .eq then 5 else 0) else 0
def kv (x : VD) : VD := if x.ok = false then vz else if x.k = 0 then vz else if x.k = 3 then (if FloatKind.f64.format.order x.f x.f ≠ some .eq then vz else if whB x.f then ⟨2, (floatToIntVal .f64 x.f .i64).getD 0, 0, ⟨#[]⟩, 0⟩ else ⟨3, 0, x.f, ⟨#[]⟩, 0⟩) else x
abbrev kgV (c : Int) (x : VD) : Value := gV c x.k x.n x.f x.s x.r

/-- a key that stands as Key makes it -/
def kOk (x : VD) : Bool := kc x == 0 && (kv x).k == x.k

/-- the comparison of two structs, field by field -/
def eqV (x y : VD) : Bool := x.k == y.k && x.n == y.n && FloatKind.f64.format.order x.f y.f == some .eq && x.s == y.s && x.r == y.r

theorem bbeq_eq {s t : ByteArray} : (s == t) = decide (s = t) := by
  show (s.data == t.data) = decide (s = t)
  obtain ⟨a⟩ := s
  obtain ⟨b⟩ := t
  by_cases h : a = b
  · subst h; simp
  · simp [h]

/-- what a key is told apart by -/
def mk (x : VD) : Mk := (x.k, x.n, if x.k = 3 then x.f else 0, x.s, x.r)

/-- where each key of the first n stands -/
def places (q : Nat → PD) : Nat → List (Mk × Nat)
  | 0 => []
  | i + 1 => upd (places q i) (mk (q i).key) i

theorem upd_fresh : ∀ (L : List (Mk × Nat)) (m : Mk) (i : Nat), m ∉ L.map (·.1) → upd L m i = L ++ [(m, i)]
  | [], _, _, _ => rfl
  | (m', j) :: L, m, i, h => by
    simp only [List.map_cons, List.mem_cons, not_or] at h
    rw [upd, if_neg h.1, upd_fresh L m i h.2]; rfl
theorem upd_keys : ∀ (L : List (Mk × Nat)) (m : Mk) (i : Nat), m ∈ L.map (·.1) → (upd L m i).map (·.1) = L.map (·.1)
  | [], _, _, h => by simp at h
  | (m', j) :: L, m, i, h => by
    by_cases c : m = m'
    · rw [upd, if_pos c, c]; rfl
    · simp only [List.map_cons, List.mem_cons] at h
      rw [upd, if_neg c, List.map_cons, upd_keys L m i (h.resolve_left c)]; rfl

theorem places_mem (q : Nat → PD) : ∀ (n : Nat) (m : Mk), m ∈ (places q n).map (·.1) ↔ ∃ j, j < n ∧ m = mk (q j).key
  | 0, m => by simp [places]
  | n + 1, m => by
    have ih := places_mem q n
    unfold places
    by_cases c : mk (q n).key ∈ (places q n).map (·.1)
    · rw [upd_keys _ _ _ c, ih]
      constructor
      · rintro ⟨j, hj, e⟩; exact ⟨j, by omega, e⟩
      · rintro ⟨j, hj, e⟩
        by_cases hn : j = n
        · subst hn; rw [e]; exact (ih _).1 c
        · exact ⟨j, by omega, e⟩
    · rw [upd_fresh _ _ _ c]
      simp only [List.map_append, List.mem_append, ih, List.map_cons, List.map_nil, List.mem_singleton]
      constructor
      · rintro (⟨j, hj, e⟩ | e)
        · exact ⟨j, by omega, e⟩
        · exact ⟨n, by omega, e⟩
      · rintro ⟨j, hj, e⟩
        by_cases hn : j = n
        · subst hn; exact .inr e
        · exact .inl ⟨j, by omega, e⟩

theorem places_all (q : Nat → PD) : ∀ n, (∀ i j, j < i → i < n → mk (q j).key ≠ mk (q i).key) → places q n = (List.range n).map fun i => (mk (q i).key, i)
  | 0, _ => rfl
  | n + 1, h => by
    have ih := places_all q n fun i j h1 h2 => h i j h1 (by omega)
    unfold places
    rw [upd_fresh _ _ _ (fun c => by obtain ⟨j, h1, h2⟩ := (places_mem q n _).1 c; exact h n j h1 (by omega) h2.symm), ih, List.range_succ, List.map_append]; rfl
end Go.Proofs.YtdialodjllpgaaaGreatDoor

/-! Tables: the laws' own size, copy and comparison, pair by pair. -/
namespace Go.Proofs.YtdialodjllpgaaaGreatDoor
open Go.RowKit
attribute [local go_sem] run_store_float

abbrev pOf (p : PD) : Value := .agg #[.int .i64 p.key.k, .int .i64 p.key.n, .float .f64 p.key.f, .string p.key.s, .int .i64 p.key.r, .int .i64 p.val.k, .int .i64 p.val.n, .float .f64 p.val.f, .string p.val.s, .int .i64 p.val.r, .int .i64 p.turn]
abbrev pCells (p : PD) : Array Value := #[.int .i64 p.key.k, .int .i64 p.key.n, .float .f64 p.key.f, .string p.key.s, .int .i64 p.key.r, .int .i64 p.val.k, .int .i64 p.val.n, .float .f64 p.val.f, .string p.val.s, .int .i64 p.val.r, .int .i64 p.turn]

/-- what the fields of a pair are known to be -/
structure PD.wf (p : PD) : Prop where
  s1 : p.key.s.size ≤ maxLen
  s2 : p.val.s.size ≤ maxLen
  f1 : p.key.f < 2 ^ 64
  f2 : p.val.f < 2 ^ 64
  t1 : -9223372036854775808 ≤ p.turn
  t2 : p.turn ≤ 9223372036854775807

theorem st1 {B blk o : Nat} {a w : World} (h : Below B a w) (hp : B ≤ blk) (v : Value) : Below B a (w.setCell ⟨blk, o, none⟩ v) := h.setCell (p := ⟨blk, o, none⟩) hp v
/-- a slice of n pairs -/
def Tab (w : World) (a : Option Addr) (n : Nat) (q : Nat → PD) : Prop :=
  0 < n → ∃ b off, a = some ⟨b, off, none⟩ ∧ b < w.heap.size ∧ ∀ i, i < n → ∀ j, j < 11 → w.cell? ⟨b, off + i * 11 + j, none⟩ = (pCells (q i))[j]?

theorem Tab.below {w w' : World} {a : Option Addr} {n : Nat} {q : Nat → PD} (h : Tab w a n q) (hb : Below w.heap.size w w') : Tab w' a n q := fun hn => by
  obtain ⟨b, off, e, h1, h2⟩ := h hn
  exact ⟨b, off, e, Nat.lt_of_lt_of_le h1 hb.size, fun i hi j hj => (hb.cell (p := ⟨b, off + i * 11 + j, none⟩) h1).trans (h2 i hi j hj)⟩

end Go.Proofs.YtdialodjllpgaaaGreatDoor

/-! Tables: a slice of pairs copied. -/
namespace Go.Proofs.YtdialodjllpgaaaGreatDoor
open Go.RowKit
attribute [local go_sem] run_store_float

/-- the cells of a row of pairs -/
def fl (q : Nat → PD) (m : Nat) : Value := ((pCells (q (m / 11)))[m % 11]?).getD undef

theorem fl_at (q : Nat → PD) (k j : Nat) (hj : j < 11) : fl q (k * 11 + j) = ((pCells (q k))[j]?).getD undef := by
  unfold fl
  rw [show (k * 11 + j) / 11 = k by omega, show (k * 11 + j) % 11 = j by omega]
theorem pCells_at (p : PD) (j : Nat) (hj : j < 11) : (pCells p)[j]? = some (((pCells p)[j]?).getD undef) := by
  have : j < (pCells p).size := hj
  rw [Array.getElem?_eq_getElem this]; rfl

theorem infoPair : (Tryz.prog.info? 277).map (fun i => (i.zero, i.size, i.bytes)) = some (some (.agg #[.int .i64 0, .int .i64 0, .float .f64 0, .string ⟨#[]⟩, .int .i64 0, .int .i64 0, .int .i64 0, .float .f64 0, .string ⟨#[]⟩, .int .i64 0, .int .i64 0]), 11, 104) := by kernel_rfl

end Go.Proofs.YtdialodjllpgaaaGreatDoor

/-! Tables: two slices of pairs held against each other; the laws' copy of a table. -/
namespace Go.Proofs.YtdialodjllpgaaaGreatDoor
open Go.RowKit
attribute [local go_sem] run_store_float
attribute [local go_sem ↓] Go.wp_at_zero Go.wp_at_succ

end Go.Proofs.YtdialodjllpgaaaGreatDoor

/-! Tables: the laws' size, copy and comparison of a whole table. -/
namespace Go.Proofs.YtdialodjllpgaaaGreatDoor
open Go.RowKit
attribute [local go_sem] run_store_float

abbrev tOf (a : Option Addr) (n cap : Nat) (t : Int) : Value := .agg #[.slice a n cap, .int .i64 t]

end Go.Proofs.YtdialodjllpgaaaGreatDoor

/-! Tables: a key's mark, a pair's check. -/
namespace Go.Proofs.YtdialodjllpgaaaGreatDoor
open Go.RowKit
attribute [local go_sem] run_store_float

theorem f64bits_run (f : Nat) (w : World) : (callFunc 234 #[.float .f64 f]).run Tryz.prog w = .ok (.value (.int .u64 (f : Int))) w := by
  rw [run_callFunc_extern Tryz.func234 (by kernel_rfl) (by kernel_rfl) (by kernel_rfl) (show Extern.find Tryz.f234 = some Extern.MathFloatBits.float64bits by kernel_rfl)]
  rfl

set_option maxRecDepth 100000 in
set_option maxHeartbeats 2000000 in
theorem markOf_calls (x : VD) (w : World) : Calls Tryz.prog 184 #[x.v] w fun e w' => e = .returned (mkV (mk x)) ∧ Below w.heap.size w w' := by
  have hx := f64bits_run x.f
  by_cases h : x.k = 3
  · have h' : (x.k == 3) = true := by simpa using h
    have e : mk x = (x.k, x.n, x.f, x.s, x.r) := by simp [mk, h]
    rw [e]
    clear h e
    go_enter Tryz.func184, Tryz.ntmps184
    go_wp2_with fail
    exact bodyPost_ret (v := mkV (x.k, x.n, x.f, x.s, x.r)) (by simp [results, Tryz.results184, go_sem]) rfl ⟨rfl, below_alloc3 _ _ _ _⟩
  · have h' : (x.k == 3) = false := by simpa using h
    have e : mk x = (x.k, x.n, 0, x.s, x.r) := by simp [mk, h]
    rw [e]
    clear h e
    go_enter Tryz.func184, Tryz.ntmps184
    go_wp2_with fail
    exact bodyPost_ret (v := mkV (x.k, x.n, 0, x.s, x.r)) (by simp [results, Tryz.results184, go_sem]) rfl ⟨rfl, below_alloc3 _ _ _ _⟩

end Go.Proofs.YtdialodjllpgaaaGreatDoor

/-! Tables: a pair's check; where each key stands. -/
namespace Go.Proofs.YtdialodjllpgaaaGreatDoor
open Go.RowKit
attribute [local go_sem] run_store_float

/-- a pair that may stand in a table, its turn aside -/
def pOkB (p : PD) : Bool := kOk p.key && p.val.ok && !(p.val.k == 0)

/-! the map -/
theorem mark_und : Tryz.prog.underlying 281 = some (.struct (Tryz.prog.fieldsOf 281)) := by kernel_rfl
theorem mark_not : Tryz.prog.stoodInHeld 281 = false := by kernel_rfl
theorem eq_MM (x y : Mk) (w : World) : (Op.equal 281 (mkV x) (mkV y)).run Tryz.prog w = .ok (decide (x = y)) w := by
  obtain ⟨x1, x2, x3, x4, x5⟩ := x
  obtain ⟨y1, y2, y3, y4, y5⟩ := y
  show (Op.equalIn 10000 _ _ _).run _ _ = _
  rw [run_equalIn_agg w 9999 _ _ _ mark_und mark_not]
  simp only [Program.fieldsOf, Tryz.underlying281]
  have p0 : ∀ (a b c d e : Value) (w : World), (part 3 #[a, b, c, d, e] 0).run Tryz.prog w = .ok a w := fun _ _ _ _ _ _ => by kernel_rfl
  have p1 : ∀ (a b c d e : Value) (w : World), (part 2 #[a, b, c, d, e] 1).run Tryz.prog w = .ok b w := fun _ _ _ _ _ _ => by kernel_rfl
  have p2 : ∀ (a b c d e : Value) (w : World), (part 73 #[a, b, c, d, e] 2).run Tryz.prog w = .ok c w := fun _ _ _ _ _ _ => by kernel_rfl
  have p3 : ∀ (a b c d e : Value) (w : World), (part 9 #[a, b, c, d, e] 3).run Tryz.prog w = .ok d w := fun _ _ _ _ _ _ => by kernel_rfl
  have p4 : ∀ (a b c d e : Value) (w : World), (part 3 #[a, b, c, d, e] 4).run Tryz.prog w = .ok e w := fun _ _ _ _ _ _ => by kernel_rfl
  have q0 := fun (a b : Int) (w : World) => run_equalIn_int (P := Tryz.prog) w 9998 3 .i64 .i64 a b Tryz.underlying3
  have q1 := fun (a b : Int) (w : World) => run_equalIn_int (P := Tryz.prog) w 9998 2 .i64 .i64 a b Tryz.underlying2
  have q2 := fun (a b : Int) (w : World) => run_equalIn_int (P := Tryz.prog) w 9998 73 .u64 .u64 a b Tryz.underlying73
  have q3 := fun (a b : ByteArray) (w : World) => run_equalIn_string (P := Tryz.prog) w 9998 9 a b Tryz.underlying9
  by_cases h0 : x1 = y1
  · by_cases h1 : x2 = y2
    · by_cases h2 : x3 = y3
      · by_cases h3 : x4 = y4
        · by_cases h4 : x5 = y5
          · simp [Op.eqFields, p0, p1, p2, p3, p4, q0, q1, q2, q3, h0, h1, h2, h3, h4]
          · simp [Op.eqFields, p0, p1, p2, p3, p4, q0, q1, q2, q3, h0, h1, h2, h3, h4]
        · have h3' : (x4.toList == y4.toList) = false := by
            rw [← beq_toListBytes, bbeq_eq]; simpa using h3
          simp [Op.eqFields, p0, p1, p2, p3, q0, q1, q2, q3, h0, h1, h2, h3, h3']
      · have h2' : ((x3 : Int) == (y3 : Int)) = false := by simp; omega
        simp [Op.eqFields, p0, p1, p2, q0, q1, q2, h0, h1, h2, h2']
    · simp [Op.eqFields, p0, p1, q0, q1, h0, h1]
  · simp [Op.eqFields, p0, q0, h0]
theorem chk_M (e : Bool) (m : Mk) (w : World) : (Instr.checkKey e 10000 281 (mkV m)).run Tryz.prog w = .ok () w := by
  kernel_rfl
theorem markT : KeyT Tryz.prog 281 := ⟨⟨_, mark_und⟩, eq_MM, chk_M⟩
end Go.Proofs.YtdialodjllpgaaaGreatDoor

/-! Tables: where each key stands (placesOf). -/
namespace Go.Proofs.YtdialodjllpgaaaGreatDoor
open Go.RowKit
attribute [local go_sem] run_store_float

end Go.Proofs.YtdialodjllpgaaaGreatDoor

/-! Tables: slices.Clone of the pairs. -/
namespace Go.Proofs.YtdialodjllpgaaaGreatDoor
open Go.RowKit
attribute [local go_sem] run_store_float

/-- the cells of the first n pairs -/
def cellsOf (q : Nat → PD) (n : Nat) : List Value := (List.range (n * 11)).map (fl q)

end Go.Proofs.YtdialodjllpgaaaGreatDoor
