import Derived.Test.YtcpjnddkibbddaaGreatChecked
import Derived.WalkKit
import Derived.WalkLawsBesides
import Derived.Below
import Derived.Deep.OwnRows
import Derived.Deep.RegionHeld
/-! Plain words over the five fields of a value, and small laws for the walks. -/
namespace Go.Proofs.YtcpjnddkibbddaaGreat
open Go.RowKit

theorem run_store_float (P : Program) (w : World) (a : Addr) (m : Mode) (k : FloatKind) (b : Nat) : (store a (.float k b) m).run P w = stored P w a (.float k b) m := run_store P w a _ m rfl
theorem unary_neg_float (k : FloatKind) (b : Nat) : Op.unary .neg (.float k b) = pure (.float k (Op.negFloat k b)) := rfl
theorem order00 : FloatKind.f64.format.order 0 0 = some Ordering.eq := by decide

/-- a float field that is a zero of either sign -/
def fz (f : Nat) : Bool := FloatKind.f64.format.order f 0 == some Ordering.eq
/-- an empty string -/
def se (s : ByteArray) : Bool := s.toList.isEmpty

/-- the fields that the kind does not use are empty -/
def ueB (k n : Int) (f : Nat) (s : ByteArray) (r : Int) : Bool :=
  if k = 1 ∨ k = 2 ∨ k = 8 then fz f && se s && r == 0
  else if k = 3 then n == 0 && se s && r == 0
  else if k = 4 then n == 0 && fz f && r == 0
  else if k = 5 ∨ k = 6 ∨ k = 7 then n == 0 && fz f && se s
  else n == 0 && fz f && se s && r == 0

/-- what the kind asks of the fields that it uses -/
def usB (k n : Int) (s : ByteArray) (r : Int) : Bool :=
  if k = 0 then true
  else if k = 1 then n == 0 || n == 1
  else if k = 2 then true
  else if k = 3 then true
  else if k = 4 then decide ((s.size : Int) ≤ 4000)
  else if k = 5 ∨ k = 6 ∨ k = 7 then decide (0 ≤ r)
  else if k = 8 then decide (0 ≤ n) && decide (n < 15)
  else false

def okB (k n : Int) (f : Nat) (s : ByteArray) (r : Int) : Bool := ueB k n f s r && usB k n s r

/-- the five fields as a value -/
abbrev vOf (k n : Int) (f : Nat) (s : ByteArray) (r : Int) : Value := .agg #[.int .i64 k, .int .i64 n, .float .f64 f, .string s, .int .i64 r]

theorem ret_bool {a b : Bool} (h : a = b) : Ending.returned (.bool a) = .returned (.bool b) := by rw [h]
theorem ret_int {k : IntKind} {a b : Int} (h : a = b) : Ending.returned (.int k a) = .returned (.int k b) := by rw [h]

theorem bcell {W w1 : World} (hb : Below W.heap.size W w1) : (∀ b o, b < W.heap.size → w1.cell? ⟨b, o, none⟩ = W.cell? ⟨b, o, none⟩) ∧ (∀ b o, b < W.heap.size → w1.frozen? ⟨b, o, none⟩ = W.frozen? ⟨b, o, none⟩) :=
  ⟨fun b o h => hb.cell (p := ⟨b, o, none⟩) h, fun b o h => hb.frozen (p := ⟨b, o, none⟩) h⟩
theorem below_call {w w1 w2 : World} (h1 : Below w.heap.size w w1) (h2 : Below w1.heap.size w1 w2) : Below w.heap.size w w2 := h1.trans (h2.mono h1.size)
theorem below_alloc (w : World) (o : Obj) : Below w.heap.size w (w.alloc o) := (Below.refl _ _).alloc (Nat.le_refl _) _
theorem ret_val {a b : Value} (h : a = b) : Ending.returned a = .returned b := by rw [h]
end Go.Proofs.YtcpjnddkibbddaaGreat

/-! Six stores into one's own result, and the frame. -/
namespace Go.Proofs.YtcpjnddkibbddaaGreat
open Go.RowKit
theorem set6 {B blk : Nat} {a w : World} (h : Below B a w) (hp : B ≤ blk) (v0 v1 v2 v3 v4 v5 : Value) :
    Below B a ((((((w.setCell ⟨blk, 0, none⟩ v0).setCell ⟨blk, 1, none⟩ v1).setCell ⟨blk, 2, none⟩ v2).setCell ⟨blk, 3, none⟩ v3).setCell ⟨blk, 4, none⟩ v4).setCell ⟨blk, 5, none⟩ v5) :=
  (((((h.setCell (p := ⟨blk, 0, none⟩) hp v0).setCell (p := ⟨blk, 1, none⟩) hp v1).setCell (p := ⟨blk, 2, none⟩) hp v2).setCell (p := ⟨blk, 3, none⟩) hp v3).setCell (p := ⟨blk, 4, none⟩) hp v4).setCell (p := ⟨blk, 5, none⟩) hp v5
theorem set5 {B blk : Nat} {a w : World} (h : Below B a w) (hp : B ≤ blk) (v0 v1 v2 v3 v4 : Value) :
    Below B a (((((w.setCell ⟨blk, 0, none⟩ v0).setCell ⟨blk, 1, none⟩ v1).setCell ⟨blk, 2, none⟩ v2).setCell ⟨blk, 3, none⟩ v3).setCell ⟨blk, 4, none⟩ v4) :=
  ((((h.setCell (p := ⟨blk, 0, none⟩) hp v0).setCell (p := ⟨blk, 1, none⟩) hp v1).setCell (p := ⟨blk, 2, none⟩) hp v2).setCell (p := ⟨blk, 3, none⟩) hp v3).setCell (p := ⟨blk, 4, none⟩) hp v4
theorem below_alloc2 (w : World) (o o' : Obj) : Below w.heap.size w ((w.alloc o).alloc o') := (below_alloc w o).alloc (by simp) _
theorem below_alloc3 (w : World) (o o' o'' : Obj) : Below w.heap.size w (((w.alloc o).alloc o').alloc o'') := (below_alloc2 w o o').alloc (by simp; omega) _
theorem below_a {w u : World} (h : Below w.heap.size w u) (o : Obj) : Below w.heap.size w (u.alloc o) := h.alloc h.size _
end Go.Proofs.YtcpjnddkibbddaaGreat

/-! Units: plain data, how they lie in memory, and the laws' own size of them. -/
namespace Go.Proofs.YtcpjnddkibbddaaGreat
open Go.RowKit
attribute [local go_sem] run_store_float

/-- a node -/
structure ND where
  k : Int
  l : Int
  o : Int
  n : Int
  f : Nat
  s : ByteArray
  rn : Nat
  r : Nat → Int
  kn : Nat
  c : Nat → Int
/-- an up -/
structure UPD where
  loc : Bool
  ix : Int
/-- a fn -/
structure FD where
  name : ByteArray
  line : Int
  params : Int
  rest : Bool
  vn : Nat
  v : Nat → ByteArray
  un : Nat
  u : Nat → UPD
  nn : Nat
  nd : Nat → ND
/-- a unit -/
structure UD where
  n : Nat
  fn : Nat → FD

instance : Inhabited ND := ⟨⟨0, 0, 0, 0, 0, ⟨#[]⟩, 0, fun _ => 0, 0, fun _ => 0⟩⟩
instance : Inhabited UPD := ⟨⟨false, 0⟩⟩
instance : Inhabited FD := ⟨⟨⟨#[]⟩, 0, 0, false, 0, fun _ => ⟨#[]⟩, 0, fun _ => default, 0, fun _ => default⟩⟩

def I64r (v : Int) : Prop := -9223372036854775808 ≤ v ∧ v ≤ 9223372036854775807

/-- what is known of a node that came in -/
structure ND.wf (d : ND) : Prop where
  s : d.s.size ≤ maxLen
  f : d.f < 2 ^ 64
  rn : d.rn ≤ maxLen
  kn : d.kn ≤ maxLen
  k : I64r d.k
  l : I64r d.l
  o : I64r d.o
  n : I64r d.n
  r : ∀ i, i < d.rn → I64r (d.r i)
  c : ∀ i, i < d.kn → I64r (d.c i)
structure FD.wf (d : FD) : Prop where
  name : d.name.size ≤ maxLen
  line : I64r d.line
  params : I64r d.params
  vn : d.vn ≤ maxLen
  v : ∀ i, i < d.vn → (d.v i).size ≤ maxLen
  un : d.un ≤ maxLen
  u : ∀ i, i < d.un → I64r (d.u i).ix
  nn : d.nn ≤ maxLen
  nd : ∀ i, i < d.nn → (d.nd i).wf
structure UD.wf (d : UD) : Prop where
  n : d.n ≤ maxLen
  fn : ∀ i, i < d.n → (d.fn i).wf

/-- what is known of them behind the law's own size -/
structure ND.sm (d : ND) : Prop where
  s : d.s.size ≤ 1048576
  rn : d.rn ≤ 1048576
  kn : d.kn ≤ 1048576
structure FD.sm (d : FD) : Prop where
  name : d.name.size ≤ 1048576
  vn : d.vn ≤ 1048576
  v : ∀ i, i < d.vn → (d.v i).size ≤ 1048576
  un : d.un ≤ 1048576
  nn : d.nn ≤ 1048576
  nd : ∀ i, i < d.nn → (d.nd i).sm
structure UD.sm (d : UD) : Prop where
  n : d.n ≤ 1048576
  fn : ∀ i, i < d.n → (d.fn i).sm

/-- where a node's lists lie -/
structure NA where
  ra : Option Addr
  rc : Nat
  ka : Option Addr
  kc : Nat
/-- where a fn's lists lie -/
structure FA where
  va : Option Addr
  vc : Nat
  ua : Option Addr
  uc : Nat
  na : Option Addr
  nc : Nat
  nas : Nat → NA

instance : Inhabited NA := ⟨⟨none, 0, none, 0⟩⟩
instance : Inhabited FA := ⟨⟨none, 0, none, 0, none, 0, fun _ => default⟩⟩

abbrev nodeC (d : ND) (x : NA) : Array Value := #[.int .i64 d.k, .int .i64 d.l, .int .i64 d.o, .int .i64 d.n, .float .f64 d.f, .string d.s, .slice x.ra d.rn x.rc, .slice x.ka d.kn x.kc]
abbrev upC (d : UPD) : Array Value := #[.bool d.loc, .int .i64 d.ix]
abbrev fnC (d : FD) (x : FA) : Array Value := #[.string d.name, .int .i64 d.line, .int .i64 d.params, .bool d.rest, .slice x.va d.vn x.vc, .slice x.ua d.un x.uc, .slice x.na d.nn x.nc]
abbrev nodeV (d : ND) (x : NA) : Value := .agg #[.int .i64 d.k, .int .i64 d.l, .int .i64 d.o, .int .i64 d.n, .float .f64 d.f, .string d.s, .slice x.ra d.rn x.rc, .slice x.ka d.kn x.kc]
abbrev upV (d : UPD) : Value := .agg #[.bool d.loc, .int .i64 d.ix]
abbrev fnV (d : FD) (x : FA) : Value := .agg #[.string d.name, .int .i64 d.line, .int .i64 d.params, .bool d.rest, .slice x.va d.vn x.vc, .slice x.ua d.un x.uc, .slice x.na d.nn x.nc]
abbrev unV (d : UD) (a : Option Addr) (c : Nat) : Value := .agg #[.slice a d.n c]

/-- n things of K cells each in a block from L on -/
def RowN (K L : Nat) (w : World) (a : Option Addr) (n : Nat) (q : Nat → Array Value) : Prop :=
  0 < n → ∃ b off, a = some ⟨b, off, none⟩ ∧ L ≤ b ∧ b < w.heap.size ∧ ∀ i, i < n → ∀ j, j < K → w.cell? ⟨b, off + i * K + j, none⟩ = (q i)[j]?

theorem RowN.less {K L L' : Nat} {w : World} {a : Option Addr} {n : Nat} {q : Nat → Array Value} (h : RowN K L w a n q) (hl : L' ≤ L) : RowN K L' w a n q := fun hn => by
  obtain ⟨b, off, e, h0, h1, h2⟩ := h hn
  exact ⟨b, off, e, Nat.le_trans hl h0, h1, h2⟩
theorem RowN.below {K L : Nat} {w w' : World} {a : Option Addr} {n : Nat} {q : Nat → Array Value} (h : RowN K L w a n q) (hb : Below w.heap.size w w') : RowN K L w' a n q := fun hn => by
  obtain ⟨b, off, e, h0, h1, h2⟩ := h hn
  exact ⟨b, off, e, h0, Nat.lt_of_lt_of_le h1 hb.size, fun i hi j hj => (hb.cell (p := ⟨b, off + i * K + j, none⟩) h1).trans (h2 i hi j hj)⟩
theorem RowN.alloc {K L : Nat} {w : World} {a : Option Addr} {n : Nat} {q : Nat → Array Value} (h : RowN K L w a n q) (o : Obj) : RowN K L (w.alloc o) a n q := h.below (below_alloc w o)
theorem RowN.drew {K L : Nat} {w : World} {a : Option Addr} {n : Nat} {q : Nat → Array Value} (h : RowN K L w a n q) : RowN K L w.drew a n q := h
theorem RowN.set {K L : Nat} {w : World} {a : Option Addr} {n : Nat} {q : Nat → Array Value} (h : RowN K L w a n q) {p : Addr} (hp : p.block < L) (v : Value) : RowN K L (w.setCell p v) a n q := fun hn => by
  obtain ⟨b, off, e, h0, h1, h2⟩ := h hn
  refine ⟨b, off, e, h0, by simpa using h1, fun i hi j hj => ?_⟩
  rw [World.cell?_setCell_far w p ⟨b, off + i * K + j, none⟩ v (by show p.block ≠ b; omega)]
  exact h2 i hi j hj
theorem RowN.congr {K L : Nat} {w : World} {a : Option Addr} {n : Nat} {q q' : Nat → Array Value} (h : RowN K L w a n q) (e : ∀ i, i < n → q i = q' i) : RowN K L w a n q' := fun hn => by
  obtain ⟨b, off, e0, h0, h1, h2⟩ := h hn
  exact ⟨b, off, e0, h0, h1, fun i hi j hj => by rw [← e i hi]; exact h2 i hi j hj⟩

def IntsAt (L : Nat) (w : World) (a : Option Addr) (n : Nat) (r : Nat → Int) : Prop := RowN 1 L w a n fun i => #[.int .i64 (r i)]
def NodeAt (L : Nat) (w : World) (d : ND) (x : NA) : Prop := IntsAt L w x.ra d.rn d.r ∧ IntsAt L w x.ka d.kn d.c
def NodesAt (L : Nat) (w : World) (n : Nat) (nd : Nat → ND) (a : Option Addr) (nas : Nat → NA) : Prop := RowN 8 L w a n (fun i => nodeC (nd i) (nas i)) ∧ ∀ i, i < n → NodeAt L w (nd i) (nas i)
def FnAt (L : Nat) (w : World) (d : FD) (x : FA) : Prop := RowN 1 L w x.va d.vn (fun i => #[.string (d.v i)]) ∧ RowN 2 L w x.ua d.un (fun i => upC (d.u i)) ∧ NodesAt L w d.nn d.nd x.na x.nas
def FnsAt (L : Nat) (w : World) (n : Nat) (fn : Nat → FD) (a : Option Addr) (fas : Nat → FA) : Prop := RowN 7 L w a n (fun i => fnC (fn i) (fas i)) ∧ ∀ i, i < n → FnAt L w (fn i) (fas i)

theorem NodeAt.less {L L' : Nat} {w : World} {d : ND} {x : NA} (h : NodeAt L w d x) (hl : L' ≤ L) : NodeAt L' w d x := ⟨RowN.less h.1 hl, RowN.less h.2 hl⟩
theorem NodeAt.below {L : Nat} {w w' : World} {d : ND} {x : NA} (h : NodeAt L w d x) (hb : Below w.heap.size w w') : NodeAt L w' d x := ⟨RowN.below h.1 hb, RowN.below h.2 hb⟩
theorem NodeAt.set {L : Nat} {w : World} {d : ND} {x : NA} (h : NodeAt L w d x) {p : Addr} (hp : p.block < L) (v : Value) : NodeAt L (w.setCell p v) d x := ⟨RowN.set h.1 hp v, RowN.set h.2 hp v⟩
theorem NodesAt.less {L L' : Nat} {w : World} {n : Nat} {nd : Nat → ND} {a : Option Addr} {nas : Nat → NA} (h : NodesAt L w n nd a nas) (hl : L' ≤ L) : NodesAt L' w n nd a nas := ⟨h.1.less hl, fun i hi => (h.2 i hi).less hl⟩
theorem NodesAt.below {L : Nat} {w w' : World} {n : Nat} {nd : Nat → ND} {a : Option Addr} {nas : Nat → NA} (h : NodesAt L w n nd a nas) (hb : Below w.heap.size w w') : NodesAt L w' n nd a nas := ⟨h.1.below hb, fun i hi => (h.2 i hi).below hb⟩
theorem NodesAt.set {L : Nat} {w : World} {n : Nat} {nd : Nat → ND} {a : Option Addr} {nas : Nat → NA} (h : NodesAt L w n nd a nas) {p : Addr} (hp : p.block < L) (v : Value) : NodesAt L (w.setCell p v) n nd a nas := ⟨h.1.set hp v, fun i hi => (h.2 i hi).set hp v⟩
theorem FnAt.less {L L' : Nat} {w : World} {d : FD} {x : FA} (h : FnAt L w d x) (hl : L' ≤ L) : FnAt L' w d x := ⟨h.1.less hl, h.2.1.less hl, h.2.2.less hl⟩
theorem FnAt.below {L : Nat} {w w' : World} {d : FD} {x : FA} (h : FnAt L w d x) (hb : Below w.heap.size w w') : FnAt L w' d x := ⟨h.1.below hb, h.2.1.below hb, h.2.2.below hb⟩
theorem FnAt.set {L : Nat} {w : World} {d : FD} {x : FA} (h : FnAt L w d x) {p : Addr} (hp : p.block < L) (v : Value) : FnAt L (w.setCell p v) d x := ⟨h.1.set hp v, h.2.1.set hp v, h.2.2.set hp v⟩
theorem FnsAt.less {L L' : Nat} {w : World} {n : Nat} {fn : Nat → FD} {a : Option Addr} {fas : Nat → FA} (h : FnsAt L w n fn a fas) (hl : L' ≤ L) : FnsAt L' w n fn a fas := ⟨h.1.less hl, fun i hi => (h.2 i hi).less hl⟩
theorem FnsAt.below {L : Nat} {w w' : World} {n : Nat} {fn : Nat → FD} {a : Option Addr} {fas : Nat → FA} (h : FnsAt L w n fn a fas) (hb : Below w.heap.size w w') : FnsAt L w' n fn a fas := ⟨h.1.below hb, fun i hi => (h.2 i hi).below hb⟩
theorem FnsAt.alloc {L : Nat} {w : World} {n : Nat} {fn : Nat → FD} {a : Option Addr} {fas : Nat → FA} (h : FnsAt L w n fn a fas) (o : Obj) : FnsAt L (w.alloc o) n fn a fas := h.below (below_alloc w o)
theorem FnAt.alloc {L : Nat} {w : World} {d : FD} {x : FA} (h : FnAt L w d x) (o : Obj) : FnAt L (w.alloc o) d x := h.below (below_alloc w o)
theorem NodesAt.alloc {L : Nat} {w : World} {n : Nat} {nd : Nat → ND} {a : Option Addr} {nas : Nat → NA} (h : NodesAt L w n nd a nas) (o : Obj) : NodesAt L (w.alloc o) n nd a nas := h.below (below_alloc w o)
theorem NodeAt.alloc {L : Nat} {w : World} {d : ND} {x : NA} (h : NodeAt L w d x) (o : Obj) : NodeAt L (w.alloc o) d x := h.below (below_alloc w o)

/-- the eight cells of node k -/
theorem cells8 {L : Nat} {w : World} {n : Nat} {nd : Nat → ND} {a : Option Addr} {nas : Nat → NA} (h : RowN 8 L w a n (fun i => nodeC (nd i) (nas i))) {k : Nat} (hk : k < n) :
    ∃ b off, a = some ⟨b, off, none⟩ ∧ L ≤ b ∧ b < w.heap.size ∧ w.cell? ⟨b, off + k * 8, none⟩ = some (.int .i64 (nd k).k) ∧ w.cell? ⟨b, off + k * 8 + 1, none⟩ = some (.int .i64 (nd k).l) ∧ w.cell? ⟨b, off + k * 8 + 2, none⟩ = some (.int .i64 (nd k).o) ∧ w.cell? ⟨b, off + k * 8 + 3, none⟩ = some (.int .i64 (nd k).n) ∧ w.cell? ⟨b, off + k * 8 + 4, none⟩ = some (.float .f64 (nd k).f) ∧ w.cell? ⟨b, off + k * 8 + 5, none⟩ = some (.string (nd k).s) ∧ w.cell? ⟨b, off + k * 8 + 6, none⟩ = some (.slice (nas k).ra (nd k).rn (nas k).rc) ∧ w.cell? ⟨b, off + k * 8 + 7, none⟩ = some (.slice (nas k).ka (nd k).kn (nas k).kc) := by
  obtain ⟨b, off, e, h0, h1, h2⟩ := h (by omega)
  have hc := h2 k hk
  exact ⟨b, off, e, h0, h1, hc 0 (by omega), hc 1 (by omega), hc 2 (by omega), hc 3 (by omega), hc 4 (by omega), hc 5 (by omega), hc 6 (by omega), hc 7 (by omega)⟩
theorem cells7 {L : Nat} {w : World} {n : Nat} {fn : Nat → FD} {a : Option Addr} {fas : Nat → FA} (h : RowN 7 L w a n (fun i => fnC (fn i) (fas i))) {k : Nat} (hk : k < n) :
    ∃ b off, a = some ⟨b, off, none⟩ ∧ L ≤ b ∧ b < w.heap.size ∧ w.cell? ⟨b, off + k * 7, none⟩ = some (.string (fn k).name) ∧ w.cell? ⟨b, off + k * 7 + 1, none⟩ = some (.int .i64 (fn k).line) ∧ w.cell? ⟨b, off + k * 7 + 2, none⟩ = some (.int .i64 (fn k).params) ∧ w.cell? ⟨b, off + k * 7 + 3, none⟩ = some (.bool (fn k).rest) ∧ w.cell? ⟨b, off + k * 7 + 4, none⟩ = some (.slice (fas k).va (fn k).vn (fas k).vc) ∧ w.cell? ⟨b, off + k * 7 + 5, none⟩ = some (.slice (fas k).ua (fn k).un (fas k).uc) ∧ w.cell? ⟨b, off + k * 7 + 6, none⟩ = some (.slice (fas k).na (fn k).nn (fas k).nc) := by
  obtain ⟨b, off, e, h0, h1, h2⟩ := h (by omega)
  have hc := h2 k hk
  exact ⟨b, off, e, h0, h1, hc 0 (by omega), hc 1 (by omega), hc 2 (by omega), hc 3 (by omega), hc 4 (by omega), hc 5 (by omega), hc 6 (by omega)⟩
theorem cells2 {L : Nat} {w : World} {n : Nat} {u : Nat → UPD} {a : Option Addr} (h : RowN 2 L w a n (fun i => upC (u i))) {k : Nat} (hk : k < n) :
    ∃ b off, a = some ⟨b, off, none⟩ ∧ L ≤ b ∧ b < w.heap.size ∧ w.cell? ⟨b, off + k * 2, none⟩ = some (.bool (u k).loc) ∧ w.cell? ⟨b, off + k * 2 + 1, none⟩ = some (.int .i64 (u k).ix) := by
  obtain ⟨b, off, e, h0, h1, h2⟩ := h (by omega)
  have hc := h2 k hk
  exact ⟨b, off, e, h0, h1, hc 0 (by omega), hc 1 (by omega)⟩
theorem cells1 {L : Nat} {w : World} {n : Nat} {q : Nat → Value} {a : Option Addr} (h : RowN 1 L w a n (fun i => #[q i])) {k : Nat} (hk : k < n) :
    ∃ b off, a = some ⟨b, off, none⟩ ∧ L ≤ b ∧ b < w.heap.size ∧ w.cell? ⟨b, off + k, none⟩ = some (q k) := by
  obtain ⟨b, off, e, h0, h1, h2⟩ := h (by omega)
  have hc := h2 k hk 0 (by omega)
  rw [Nat.mul_one, Nat.add_zero] at hc
  exact ⟨b, off, e, h0, h1, hc⟩

end Go.Proofs.YtcpjnddkibbddaaGreat

/-! Units: the laws' own size. -/
namespace Go.Proofs.YtcpjnddkibbddaaGreat
open Go.RowKit
attribute [local go_sem] run_store_float

/-- what a size says -/
def SzSays (left v : Int) (ok : Prop) : Prop := v = -1 ∨ (0 ≤ v ∧ v ≤ left ∧ ok)

set_option maxRecDepth 100000 in
set_option maxHeartbeats 2000000 in
theorem szIntS_calls (a : Option Addr) (n cap : Nat) (left : Int) (w : World) (h0 : 0 ≤ left) (h1 : left ≤ 1048576) (hn : n ≤ maxLen) :
    Calls Tryz.prog 136 #[.slice a n cap, .int .i64 left] w fun e w' => (∃ v : Int, e = .returned (.int .i64 v) ∧ SzSays left v (n ≤ 1048576)) ∧ Below w.heap.size w w' := by
  unfold maxLen at hn
  by_cases c : left < n
  · go_enter Tryz.func136, Tryz.ntmps136
    go_wp2_with fail
    go_ret
    exact ⟨⟨_, rfl, .inl rfl⟩, Below.refl _ _⟩
  · go_enter Tryz.func136, Tryz.ntmps136
    go_wp2_with fail
    go_ret
    exact ⟨⟨_, rfl, .inr ⟨by omega, by omega, by omega⟩⟩, Below.refl _ _⟩

set_option maxRecDepth 100000 in
set_option maxHeartbeats 2000000 in
theorem szUpS_calls (a : Option Addr) (n cap : Nat) (left : Int) (w : World) (h0 : 0 ≤ left) (h1 : left ≤ 1048576) (hn : n ≤ maxLen) :
    Calls Tryz.prog 43 #[.slice a n cap, .int .i64 left] w fun e w' => (∃ v : Int, e = .returned (.int .i64 v) ∧ SzSays left v (n ≤ 1048576)) ∧ Below w.heap.size w w' := by
  unfold maxLen at hn
  by_cases c : left < n
  · go_enter Tryz.func43, Tryz.ntmps43
    go_wp2_with fail
    go_ret
    exact ⟨⟨_, rfl, .inl rfl⟩, Below.refl _ _⟩
  · go_enter Tryz.func43, Tryz.ntmps43
    go_wp2_with fail
    go_ret
    exact ⟨⟨_, rfl, .inr ⟨by omega, by omega, by omega⟩⟩, Below.refl _ _⟩

set_option maxRecDepth 100000 in
set_option maxHeartbeats 4000000 in
theorem szStringS_calls (L : Nat) (a : Option Addr) (n cap : Nat) (q : Nat → ByteArray) (left : Int) (w : World) (h0 : 0 ≤ left) (h1 : left ≤ 1048576) (hn : n ≤ maxLen) (hq : ∀ i, i < n → (q i).size ≤ maxLen) (hT : RowN 1 L w a n fun i => #[.string (q i)]) :
    Calls Tryz.prog 42 #[.slice a n cap, .int .i64 left] w fun e w' => (∃ v : Int, e = .returned (.int .i64 v) ∧ SzSays left v (n ≤ 1048576 ∧ ∀ i, i < n → (q i).size ≤ 1048576)) ∧ Below w.heap.size w w' := by
  have hQ : Hid (∀ i, i < n → (q i).size ≤ maxLen) := hq
  have HT : Hid (RowN 1 L w a n fun i => #[.string (q i)]) := hT
  clear hq hT
  unfold maxLen at hn
  by_cases c : left < n
  · go_enter Tryz.func42, Tryz.ntmps42
    go_wp2_with fail
    go_ret
    exact ⟨⟨_, rfl, .inl rfl⟩, Below.refl _ _⟩
  · go_enter Tryz.func42, Tryz.ntmps42
    go_wp2_with fail
    go_loopw [1, 5] (fun l i wr => ∃ (k : Nat) (u : Int), k ≤ n ∧ i = .int .i64 k ∧ l = .int .i64 u ∧ 0 ≤ u ∧ u ≤ left ∧ (∀ j, j < k → (q j).size ≤ 1048576) ∧ Below w.heap.size w wr) (fun _ i _ => n - (intOf i).toNat)
    case atStart => exact ⟨0, _, Nat.zero_le _, rfl, rfl, by omega, by omega, fun j hj => by omega, Below.refl _ _⟩
    case round =>
      obtain ⟨k, u, hk, rfl, rfl, u0, u1, hS, hB⟩ := hrel
      have HS : Hid (∀ j, j < k → (q j).size ≤ 1048576) := hS
      clear hS
      by_cases hkn : k < n
      · obtain ⟨b, off, rfl, _, hb, hc⟩ := cells1 HT.out hkn
        have d0 : wr.cell? ⟨b, off + k, none⟩ = some (.string (q k)) := (hB.cell (p := ⟨b, off + k, none⟩) hb).trans hc
        have hm := hQ.out k hkn
        unfold maxLen at hm
        clear hc
        by_cases cu : u < (q k).size
        · go_wp2_with fail
          go_ret
          exact ⟨⟨_, rfl, .inl rfl⟩, hB⟩
        · go_wp2_with fail
          go_roundw
          case rel => exact ⟨k + 1, u - (q k).size, by omega, by go_num, by go_num, by omega, by omega, fun j hj => by
            by_cases e : j = k
            · subst e; omega
            · exact HS.out j (by omega), hB⟩
          case measure => simp [intOf]; omega
      · go_wp2_with fail
        go_ret
        exact ⟨⟨_, rfl, .inr ⟨by omega, by omega, by omega, fun i hi => HS.out i (by omega)⟩⟩, hB⟩

set_option maxRecDepth 100000 in
set_option maxHeartbeats 2000000 in
theorem szNode_calls (d : ND) (x : NA) (left : Int) (w : World) (h0 : 0 ≤ left) (h1 : left ≤ 1048576) (hd : d.wf) :
    Calls Tryz.prog 79 #[nodeV d x, .int .i64 left] w fun e w' => (∃ v : Int, e = .returned (.int .i64 v) ∧ SzSays left v d.sm) ∧ Below w.heap.size w w' := by
  have hW : Hid d.wf := hd
  have hs := hd.s
  unfold maxLen at hs
  clear hd
  by_cases c1 : left < d.s.size
  · go_enter Tryz.func79, Tryz.ntmps79
    go_wp2_with fail
    go_ret
    exact ⟨⟨_, rfl, .inl rfl⟩, below_alloc _ _⟩
  · go_enter Tryz.func79, Tryz.ntmps79
    go_wp2_with fail
    refine (szIntS_calls _ _ _ _ _ (by omega) (by omega) hW.out.rn).mono ?_
    rintro e w2 ⟨⟨v, rfl, hv⟩, hb2⟩
    have hB : Hid (Below w.heap.size w w2) := below_call (below_alloc _ _) hb2
    have hc := (bcell hb2).1 w.heap.size 7 (by simp)
    rw [World.cell?_alloc_new] at hc
    simp only [List.getElem?_toArray, List.getElem?_cons_zero, List.getElem?_cons_succ] at hc
    clear hb2
    rcases hv with rfl | ⟨v0, v1, v2⟩
    · go_wp2_with fail
      go_ret
      exact ⟨⟨_, rfl, .inl rfl⟩, hB.out⟩
    · go_wp2_with fail
      refine (szIntS_calls _ _ _ _ _ (by omega) (by omega) hW.out.kn).mono ?_
      rintro e w3 ⟨⟨u, rfl, hu⟩, hb3⟩
      replace hB : Hid (Below w.heap.size w w3) := below_call hB.out hb3
      clear hb3 hc
      rcases hu with rfl | ⟨u0, u1, u2⟩
      · go_wp2_with fail
        go_ret
        exact ⟨⟨_, rfl, .inl rfl⟩, hB.out⟩
      · go_wp2_with fail
        go_ret
        exact ⟨⟨_, rfl, .inr ⟨by omega, by omega, ⟨by omega, v2, u2⟩⟩⟩, hB.out⟩

set_option maxRecDepth 100000 in
set_option maxHeartbeats 4000000 in
theorem szNodeS_calls (L : Nat) (a : Option Addr) (n cap : Nat) (q : Nat → ND) (x : Nat → NA) (left : Int) (w : World) (h0 : 0 ≤ left) (h1 : left ≤ 1048576) (hn : n ≤ maxLen) (hq : ∀ i, i < n → (q i).wf) (hT : RowN 8 L w a n fun i => nodeC (q i) (x i)) :
    Calls Tryz.prog 44 #[.slice a n cap, .int .i64 left] w fun e w' => (∃ v : Int, e = .returned (.int .i64 v) ∧ SzSays left v (n ≤ 1048576 ∧ ∀ i, i < n → (q i).sm)) ∧ Below w.heap.size w w' := by
  have hQ : Hid (∀ i, i < n → (q i).wf) := hq
  have HT : Hid (RowN 8 L w a n fun i => nodeC (q i) (x i)) := hT
  clear hq hT
  unfold maxLen at hn
  by_cases c : left < n
  · go_enter Tryz.func44, Tryz.ntmps44
    go_wp2_with fail
    go_ret
    exact ⟨⟨_, rfl, .inl rfl⟩, Below.refl _ _⟩
  · go_enter Tryz.func44, Tryz.ntmps44
    go_wp2_with fail
    go_loopw [1, 5] (fun l i wr => ∃ (k : Nat) (u : Int), k ≤ n ∧ i = .int .i64 k ∧ l = .int .i64 u ∧ 0 ≤ u ∧ u ≤ left ∧ Hid (∀ j, j < k → (q j).sm) ∧ Below w.heap.size w wr) (fun _ i _ => n - (intOf i).toNat)
    case atStart => exact ⟨0, _, Nat.zero_le _, rfl, rfl, by omega, by omega, fun j hj => by omega, Below.refl _ _⟩
    case round =>
      obtain ⟨k, u, hk, rfl, rfl, u0, u1, HS, hB⟩ := hrel
      by_cases hkn : k < n
      · obtain ⟨b, off, rfl, _, hb, d0, d1, d2, d3, d4, d5, d6, d7⟩ := cells8 (HT.out.below hB) hkn
        go_wp2_with fail
        refine (szNode_calls (q k) (x k) u wr u0 (by omega) (hQ.out k hkn)).mono ?_
        rintro e w2 ⟨⟨v, rfl, hv⟩, hb2⟩
        replace hB := below_call hB hb2
        clear d0 d1 d2 d3 d4 d5 d6 d7 hb2
        rcases hv with rfl | ⟨v0, v1, v2⟩
        · go_wp2_with fail
          go_ret
          exact ⟨⟨_, rfl, .inl rfl⟩, hB⟩
        · have HV : Hid (q k).sm := v2
          clear v2
          go_wp2_with fail
          go_roundw
          case rel => exact ⟨k + 1, v, by omega, by go_num, rfl, v0, by omega, fun j hj => by
            by_cases e : j = k
            · subst e; exact HV.out
            · exact HS.out j (by omega), hB⟩
          case measure => simp [intOf]; omega
      · go_wp2_with fail
        go_ret
        exact ⟨⟨_, rfl, .inr ⟨by omega, by omega, by omega, fun i hi => HS.out i (by omega)⟩⟩, hB⟩
end Go.Proofs.YtcpjnddkibbddaaGreat

/-! What a local holds, carried over calls. -/
namespace Go.Proofs.YtcpjnddkibbddaaGreat
open Go.RowKit

/-- block B of the world holds these cells -/
def Has (w : World) (B : Nat) (A : Array Value) : Prop := B < w.heap.size ∧ ∀ o, w.cell? ⟨B, o, none⟩ = A[o]?

theorem Has.lt {w : World} {B : Nat} {A : Array Value} (h : Has w B A) : B < w.heap.size := h.1
theorem Has.at {w : World} {B : Nat} {A : Array Value} (h : Has w B A) : ∀ o, w.cell? ⟨B, o, none⟩ = A[o]? := h.2
theorem Has.call {u w : World} {B : Nat} {A : Array Value} (h : Has u B A) (hb : Below u.heap.size u w) : Has w B A :=
  ⟨Nat.lt_of_lt_of_le h.1 hb.size, fun o => (hb.cell (p := ⟨B, o, none⟩) h.1).trans (h.2 o)⟩
theorem Has.new (w : World) (A : Array Value) (t : TypeId) : Has (w.alloc (.cells A t)) w.heap.size A :=
  ⟨by simp, fun o => World.cell?_alloc_new w A t o⟩
theorem Has.alloc {w : World} {B : Nat} {A : Array Value} (h : Has w B A) (o : Obj) : Has (w.alloc o) B A :=
  ⟨by have := h.1; simp; omega, fun i => (World.cell?_alloc_lt w o ⟨B, i, none⟩ h.1).trans (h.2 i)⟩
theorem Has.drew {w : World} {B : Nat} {A : Array Value} (h : Has w B A) : Has w.drew B A := h
theorem Has.next {u w : World} {B : Nat} {A : Array Value} {o : Obj} (h : Has u B A) (hb : Below (u.alloc o).heap.size (u.alloc o) w) : Has w B A := (h.alloc o).call hb
theorem Has.made {u w : World} {A : Array Value} {t : TypeId} (hb : Below (u.alloc (.cells A t)).heap.size (u.alloc (.cells A t)) w) : Has w u.heap.size A := (Has.new u A t).call hb
end Go.Proofs.YtcpjnddkibbddaaGreat
