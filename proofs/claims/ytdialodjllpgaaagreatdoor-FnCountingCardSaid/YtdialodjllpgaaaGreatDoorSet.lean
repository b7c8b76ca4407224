import Derived.Test.YtdialodjllpgaaaGreatDoorPlain
import Derived.Deep.OwnRows
import Derived.Deep.RegionHeld
import Ieee.Arith
import Derived.Laws.FloatBits
import Derived.Laws.FloatArith
import Derived.Laws.Externs
import Derived.Lib.Bytealg
import Derived.Deep.QuietTactic
import Derived.BigQuiet
/-! Six stores into one's own result, and the frame. -/
namespace Go.Proofs.YtdialodjllpgaaaGreatDoor
open Go.RowKit
theorem set5 {B blk : Nat} {a w : World} (h : Below B a w) (hp : B ≤ blk) (v0 v1 v2 v3 v4 : Value) :
    Below B a (((((w.setCell ⟨blk, 0, none⟩ v0).setCell ⟨blk, 1, none⟩ v1).setCell ⟨blk, 2, none⟩ v2).setCell ⟨blk, 3, none⟩ v3).setCell ⟨blk, 4, none⟩ v4) :=
  ((((h.setCell (p := ⟨blk, 0, none⟩) hp v0).setCell (p := ⟨blk, 1, none⟩) hp v1).setCell (p := ⟨blk, 2, none⟩) hp v2).setCell (p := ⟨blk, 3, none⟩) hp v3).setCell (p := ⟨blk, 4, none⟩) hp v4
theorem below_alloc2 (w : World) (o o' : Obj) : Below w.heap.size w ((w.alloc o).alloc o') := (below_alloc w o).alloc (by simp) _
theorem below_alloc3 (w : World) (o o' o'' : Obj) : Below w.heap.size w (((w.alloc o).alloc o').alloc o'') := (below_alloc2 w o o').alloc (by simp; omega) _
theorem below_a {w u : World} (h : Below w.heap.size w u) (o : Obj) : Below w.heap.size w (u.alloc o) := h.alloc h.size _
end Go.Proofs.YtdialodjllpgaaaGreatDoor

/-! Units: plain data, how they lie in memory, and the laws' own size of them. -/
namespace Go.Proofs.YtdialodjllpgaaaGreatDoor
open Go.RowKit
attribute [local go_sem] run_store_float

/-- a node -/
structure ND where
  k : Int
  l : Int
  o : Int
  n : Int
  f : Nat
  s : ByteArray
  rn : Nat
  r : Nat → Int
  kn : Nat
  c : Nat → Int
/-- an up -/
structure UPD where
  loc : Bool
  ix : Int
/-- a fn -/
structure FD where
  name : ByteArray
  line : Int
  params : Int
  rest : Bool
  vn : Nat
  v : Nat → ByteArray
  un : Nat
  u : Nat → UPD
  nn : Nat
  nd : Nat → ND
/-- a unit -/
structure UD where
  n : Nat
  fn : Nat → FD

instance : Inhabited ND := ⟨⟨0, 0, 0, 0, 0, ⟨#[]⟩, 0, fun _ => 0, 0, fun _ => 0⟩⟩
instance : Inhabited UPD := ⟨⟨false, 0⟩⟩
instance : Inhabited FD := ⟨⟨⟨#[]⟩, 0, 0, false, 0, fun _ => ⟨#[]⟩, 0, fun _ => default, 0, fun _ => default⟩⟩

def I64r (v : Int) : Prop := -9223372036854775808 ≤ v ∧ v ≤ 9223372036854775807

/-- what is known of a node that came in -/
structure ND.wf (d : ND) : Prop where
  s : d.s.size ≤ maxLen
  f : d.f < 2 ^ 64
  rn : d.rn ≤ maxLen
  kn : d.kn ≤ maxLen
  k : I64r d.k
  l : I64r d.l
  o : I64r d.o
  n : I64r d.n
  r : ∀ i, i < d.rn → I64r (d.r i)
  c : ∀ i, i < d.kn → I64r (d.c i)
structure FD.wf (d : FD) : Prop where
  name : d.name.size ≤ maxLen
  line : I64r d.line
  params : I64r d.params
  vn : d.vn ≤ maxLen
  v : ∀ i, i < d.vn → (d.v i).size ≤ maxLen
  un : d.un ≤ maxLen
  u : ∀ i, i < d.un → I64r (d.u i).ix
  nn : d.nn ≤ maxLen
  nd : ∀ i, i < d.nn → (d.nd i).wf
structure UD.wf (d : UD) : Prop where
  n : d.n ≤ maxLen
  fn : ∀ i, i < d.n → (d.fn i).wf

/-- what is known of them behind the law's own size -/
structure ND.sm (d : ND) : Prop where
  s : d.s.size ≤ 1048576
  rn : d.rn ≤ 1048576
  kn : d.kn ≤ 1048576
structure FD.sm (d : FD) : Prop where
  name : d.name.size ≤ 1048576
  vn : d.vn ≤ 1048576
  v : ∀ i, i < d.vn → (d.v i).size ≤ 1048576
  un : d.un ≤ 1048576
  nn : d.nn ≤ 1048576
  nd : ∀ i, i < d.nn → (d.nd i).sm
structure UD.sm (d : UD) : Prop where
  n : d.n ≤ 1048576
  fn : ∀ i, i < d.n → (d.fn i).sm

/-- where a node's lists lie -/
structure NA where
  ra : Option Addr
  rc : Nat
  ka : Option Addr
  kc : Nat
/-- where a fn's lists lie -/
structure FA where
  va : Option Addr
  vc : Nat
  ua : Option Addr
  uc : Nat
  na : Option Addr
  nc : Nat
  nas : Nat → NA

instance : Inhabited NA := ⟨⟨none, 0, none, 0⟩⟩
instance : Inhabited FA := ⟨⟨none, 0, none, 0, none, 0, fun _ => default⟩⟩

abbrev nodeC (d : ND) (x : NA) : Array Value := #[.int .i64 d.k, .int .i64 d.l, .int .i64 d.o, .int .i64 d.n, .float .f64 d.f, .string d.s, .slice x.ra d.rn x.rc, .slice x.ka d.kn x.kc]
abbrev upC (d : UPD) : Array Value := #[.bool d.loc, .int .i64 d.ix]
abbrev fnC (d : FD) (x : FA) : Array Value := #[.string d.name, .int .i64 d.line, .int .i64 d.params, .bool d.rest, .slice x.va d.vn x.vc, .slice x.ua d.un x.uc, .slice x.na d.nn x.nc]
abbrev nodeV (d : ND) (x : NA) : Value := .agg #[.int .i64 d.k, .int .i64 d.l, .int .i64 d.o, .int .i64 d.n, .float .f64 d.f, .string d.s, .slice x.ra d.rn x.rc, .slice x.ka d.kn x.kc]
abbrev upV (d : UPD) : Value := .agg #[.bool d.loc, .int .i64 d.ix]
abbrev fnV (d : FD) (x : FA) : Value := .agg #[.string d.name, .int .i64 d.line, .int .i64 d.params, .bool d.rest, .slice x.va d.vn x.vc, .slice x.ua d.un x.uc, .slice x.na d.nn x.nc]
abbrev unV (d : UD) (a : Option Addr) (c : Nat) : Value := .agg #[.slice a d.n c]

/-- n things of K cells each in a block from L on -/
def RowN (K L : Nat) (w : World) (a : Option Addr) (n : Nat) (q : Nat → Array Value) : Prop :=
  0 < n → ∃ b off, a = some ⟨b, off, none⟩ ∧ L ≤ b ∧ b < w.heap.size ∧ ∀ i, i < n → ∀ j, j < K → w.cell? ⟨b, off + i * K + j, none⟩ = (q i)[j]?

theorem RowN.less {K L L' : Nat} {w : World} {a : Option Addr} {n : Nat} {q : Nat → Array Value} (h : RowN K L w a n q) (hl : L' ≤ L) : RowN K L' w a n q := fun hn => by
  obtain ⟨b, off, e, h0, h1, h2⟩ := h hn
  exact ⟨b, off, e, Nat.le_trans hl h0, h1, h2⟩
theorem RowN.below {K L : Nat} {w w' : World} {a : Option Addr} {n : Nat} {q : Nat → Array Value} (h : RowN K L w a n q) (hb : Below w.heap.size w w') : RowN K L w' a n q := fun hn => by
  obtain ⟨b, off, e, h0, h1, h2⟩ := h hn
  exact ⟨b, off, e, h0, Nat.lt_of_lt_of_le h1 hb.size, fun i hi j hj => (hb.cell (p := ⟨b, off + i * K + j, none⟩) h1).trans (h2 i hi j hj)⟩
theorem RowN.alloc {K L : Nat} {w : World} {a : Option Addr} {n : Nat} {q : Nat → Array Value} (h : RowN K L w a n q) (o : Obj) : RowN K L (w.alloc o) a n q := h.below (below_alloc w o)
theorem RowN.congr {K L : Nat} {w : World} {a : Option Addr} {n : Nat} {q q' : Nat → Array Value} (h : RowN K L w a n q) (e : ∀ i, i < n → q i = q' i) : RowN K L w a n q' := fun hn => by
  obtain ⟨b, off, e0, h0, h1, h2⟩ := h hn
  exact ⟨b, off, e0, h0, h1, fun i hi j hj => by rw [← e i hi]; exact h2 i hi j hj⟩

def IntsAt (L : Nat) (w : World) (a : Option Addr) (n : Nat) (r : Nat → Int) : Prop := RowN 1 L w a n fun i => #[.int .i64 (r i)]
def NodeAt (L : Nat) (w : World) (d : ND) (x : NA) : Prop := IntsAt L w x.ra d.rn d.r ∧ IntsAt L w x.ka d.kn d.c
def NodesAt (L : Nat) (w : World) (n : Nat) (nd : Nat → ND) (a : Option Addr) (nas : Nat → NA) : Prop := RowN 8 L w a n (fun i => nodeC (nd i) (nas i)) ∧ ∀ i, i < n → NodeAt L w (nd i) (nas i)
def FnAt (L : Nat) (w : World) (d : FD) (x : FA) : Prop := RowN 1 L w x.va d.vn (fun i => #[.string (d.v i)]) ∧ RowN 2 L w x.ua d.un (fun i => upC (d.u i)) ∧ NodesAt L w d.nn d.nd x.na x.nas
def FnsAt (L : Nat) (w : World) (n : Nat) (fn : Nat → FD) (a : Option Addr) (fas : Nat → FA) : Prop := RowN 7 L w a n (fun i => fnC (fn i) (fas i)) ∧ ∀ i, i < n → FnAt L w (fn i) (fas i)

theorem NodeAt.less {L L' : Nat} {w : World} {d : ND} {x : NA} (h : NodeAt L w d x) (hl : L' ≤ L) : NodeAt L' w d x := ⟨RowN.less h.1 hl, RowN.less h.2 hl⟩
theorem NodeAt.below {L : Nat} {w w' : World} {d : ND} {x : NA} (h : NodeAt L w d x) (hb : Below w.heap.size w w') : NodeAt L w' d x := ⟨RowN.below h.1 hb, RowN.below h.2 hb⟩
theorem NodesAt.less {L L' : Nat} {w : World} {n : Nat} {nd : Nat → ND} {a : Option Addr} {nas : Nat → NA} (h : NodesAt L w n nd a nas) (hl : L' ≤ L) : NodesAt L' w n nd a nas := ⟨h.1.less hl, fun i hi => (h.2 i hi).less hl⟩
theorem NodesAt.below {L : Nat} {w w' : World} {n : Nat} {nd : Nat → ND} {a : Option Addr} {nas : Nat → NA} (h : NodesAt L w n nd a nas) (hb : Below w.heap.size w w') : NodesAt L w' n nd a nas := ⟨h.1.below hb, fun i hi => (h.2 i hi).below hb⟩
theorem FnAt.below {L : Nat} {w w' : World} {d : FD} {x : FA} (h : FnAt L w d x) (hb : Below w.heap.size w w') : FnAt L w' d x := ⟨h.1.below hb, h.2.1.below hb, h.2.2.below hb⟩
theorem FnsAt.below {L : Nat} {w w' : World} {n : Nat} {fn : Nat → FD} {a : Option Addr} {fas : Nat → FA} (h : FnsAt L w n fn a fas) (hb : Below w.heap.size w w') : FnsAt L w' n fn a fas := ⟨h.1.below hb, fun i hi => (h.2 i hi).below hb⟩
theorem FnAt.alloc {L : Nat} {w : World} {d : FD} {x : FA} (h : FnAt L w d x) (o : Obj) : FnAt L (w.alloc o) d x := h.below (below_alloc w o)
theorem NodesAt.alloc {L : Nat} {w : World} {n : Nat} {nd : Nat → ND} {a : Option Addr} {nas : Nat → NA} (h : NodesAt L w n nd a nas) (o : Obj) : NodesAt L (w.alloc o) n nd a nas := h.below (below_alloc w o)
/-- the eight cells of node k -/
theorem cells8 {L : Nat} {w : World} {n : Nat} {nd : Nat → ND} {a : Option Addr} {nas : Nat → NA} (h : RowN 8 L w a n (fun i => nodeC (nd i) (nas i))) {k : Nat} (hk : k < n) :
    ∃ b off, a = some ⟨b, off, none⟩ ∧ L ≤ b ∧ b < w.heap.size ∧ w.cell? ⟨b, off + k * 8, none⟩ = some (.int .i64 (nd k).k) ∧ w.cell? ⟨b, off + k * 8 + 1, none⟩ = some (.int .i64 (nd k).l) ∧ w.cell? ⟨b, off + k * 8 + 2, none⟩ = some (.int .i64 (nd k).o) ∧ w.cell? ⟨b, off + k * 8 + 3, none⟩ = some (.int .i64 (nd k).n) ∧ w.cell? ⟨b, off + k * 8 + 4, none⟩ = some (.float .f64 (nd k).f) ∧ w.cell? ⟨b, off + k * 8 + 5, none⟩ = some (.string (nd k).s) ∧ w.cell? ⟨b, off + k * 8 + 6, none⟩ = some (.slice (nas k).ra (nd k).rn (nas k).rc) ∧ w.cell? ⟨b, off + k * 8 + 7, none⟩ = some (.slice (nas k).ka (nd k).kn (nas k).kc) := by
  obtain ⟨b, off, e, h0, h1, h2⟩ := h (by omega)
  have hc := h2 k hk
  exact ⟨b, off, e, h0, h1, hc 0 (by omega), hc 1 (by omega), hc 2 (by omega), hc 3 (by omega), hc 4 (by omega), hc 5 (by omega), hc 6 (by omega), hc 7 (by omega)⟩
theorem cells7 {L : Nat} {w : World} {n : Nat} {fn : Nat → FD} {a : Option Addr} {fas : Nat → FA} (h : RowN 7 L w a n (fun i => fnC (fn i) (fas i))) {k : Nat} (hk : k < n) :
    ∃ b off, a = some ⟨b, off, none⟩ ∧ L ≤ b ∧ b < w.heap.size ∧ w.cell? ⟨b, off + k * 7, none⟩ = some (.string (fn k).name) ∧ w.cell? ⟨b, off + k * 7 + 1, none⟩ = some (.int .i64 (fn k).line) ∧ w.cell? ⟨b, off + k * 7 + 2, none⟩ = some (.int .i64 (fn k).params) ∧ w.cell? ⟨b, off + k * 7 + 3, none⟩ = some (.bool (fn k).rest) ∧ w.cell? ⟨b, off + k * 7 + 4, none⟩ = some (.slice (fas k).va (fn k).vn (fas k).vc) ∧ w.cell? ⟨b, off + k * 7 + 5, none⟩ = some (.slice (fas k).ua (fn k).un (fas k).uc) ∧ w.cell? ⟨b, off + k * 7 + 6, none⟩ = some (.slice (fas k).na (fn k).nn (fas k).nc) := by
  obtain ⟨b, off, e, h0, h1, h2⟩ := h (by omega)
  have hc := h2 k hk
  exact ⟨b, off, e, h0, h1, hc 0 (by omega), hc 1 (by omega), hc 2 (by omega), hc 3 (by omega), hc 4 (by omega), hc 5 (by omega), hc 6 (by omega)⟩
theorem cells2 {L : Nat} {w : World} {n : Nat} {u : Nat → UPD} {a : Option Addr} (h : RowN 2 L w a n (fun i => upC (u i))) {k : Nat} (hk : k < n) :
    ∃ b off, a = some ⟨b, off, none⟩ ∧ L ≤ b ∧ b < w.heap.size ∧ w.cell? ⟨b, off + k * 2, none⟩ = some (.bool (u k).loc) ∧ w.cell? ⟨b, off + k * 2 + 1, none⟩ = some (.int .i64 (u k).ix) := by
  obtain ⟨b, off, e, h0, h1, h2⟩ := h (by omega)
  have hc := h2 k hk
  exact ⟨b, off, e, h0, h1, hc 0 (by omega), hc 1 (by omega)⟩
theorem cells1 {L : Nat} {w : World} {n : Nat} {q : Nat → Value} {a : Option Addr} (h : RowN 1 L w a n (fun i => #[q i])) {k : Nat} (hk : k < n) :
    ∃ b off, a = some ⟨b, off, none⟩ ∧ L ≤ b ∧ b < w.heap.size ∧ w.cell? ⟨b, off + k, none⟩ = some (q k) := by
  obtain ⟨b, off, e, h0, h1, h2⟩ := h (by omega)
  have hc := h2 k hk 0 (by omega)
  rw [Nat.mul_one, Nat.add_zero] at hc
  exact ⟨b, off, e, h0, h1, hc⟩

end Go.Proofs.YtdialodjllpgaaaGreatDoor

/-! What a local holds, carried over calls. -/
namespace Go.Proofs.YtdialodjllpgaaaGreatDoor
open Go.RowKit

/-- block B of the world holds these cells -/
def Has (w : World) (B : Nat) (A : Array Value) : Prop := B < w.heap.size ∧ ∀ o, w.cell? ⟨B, o, none⟩ = A[o]?

theorem Has.lt {w : World} {B : Nat} {A : Array Value} (h : Has w B A) : B < w.heap.size := h.1
theorem Has.at {w : World} {B : Nat} {A : Array Value} (h : Has w B A) : ∀ o, w.cell? ⟨B, o, none⟩ = A[o]? := h.2
theorem Has.call {u w : World} {B : Nat} {A : Array Value} (h : Has u B A) (hb : Below u.heap.size u w) : Has w B A :=
  ⟨Nat.lt_of_lt_of_le h.1 hb.size, fun o => (hb.cell (p := ⟨B, o, none⟩) h.1).trans (h.2 o)⟩
theorem Has.new (w : World) (A : Array Value) (t : TypeId) : Has (w.alloc (.cells A t)) w.heap.size A :=
  ⟨by simp, fun o => World.cell?_alloc_new w A t o⟩
theorem Has.alloc {w : World} {B : Nat} {A : Array Value} (h : Has w B A) (o : Obj) : Has (w.alloc o) B A :=
  ⟨by have := h.1; simp; omega, fun i => (World.cell?_alloc_lt w o ⟨B, i, none⟩ h.1).trans (h.2 i)⟩
theorem Has.drew {w : World} {B : Nat} {A : Array Value} (h : Has w B A) : Has w.drew B A := h
theorem Has.made {u w : World} {A : Array Value} {t : TypeId} (hb : Below (u.alloc (.cells A t)).heap.size (u.alloc (.cells A t)) w) : Has w u.heap.size A := (Has.new u A t).call hb
end Go.Proofs.YtdialodjllpgaaaGreatDoor

/-! Type assertions on a thing: closed facts of the program's tables. -/
namespace Go.Proofs.YtdialodjllpgaaaGreatDoor
open Go.RowKit
theorem ta_nil_absent (w : World) : (Instr.typeAssert .nilIface 194 247 true).run Tryz.prog w = .ok (.tuple #[.agg #[], .bool false]) w := by kernel_rfl
theorem ta_absent_absent (x : Value) (w : World) : (Instr.typeAssert (.iface 247 x) 194 247 true).run Tryz.prog w = .ok (.tuple #[x, .bool true]) w := by kernel_rfl
theorem ta_flag_absent (x : Value) (w : World) : (Instr.typeAssert (.iface 248 x) 194 247 true).run Tryz.prog w = .ok (.tuple #[.agg #[], .bool false]) w := by kernel_rfl
theorem ta_whole_absent (x : Value) (w : World) : (Instr.typeAssert (.iface 249 x) 194 247 true).run Tryz.prog w = .ok (.tuple #[.agg #[], .bool false]) w := by kernel_rfl
theorem ta_float_absent (x : Value) (w : World) : (Instr.typeAssert (.iface 250 x) 194 247 true).run Tryz.prog w = .ok (.tuple #[.agg #[], .bool false]) w := by kernel_rfl
theorem ta_word_absent (x : Value) (w : World) : (Instr.typeAssert (.iface 167 x) 194 247 true).run Tryz.prog w = .ok (.tuple #[.agg #[], .bool false]) w := by kernel_rfl
theorem ta_builtin_absent (x : Value) (w : World) : (Instr.typeAssert (.iface 253 x) 194 247 true).run Tryz.prog w = .ok (.tuple #[.agg #[], .bool false]) w := by kernel_rfl
theorem ta_made_absent (x : Value) (w : World) : (Instr.typeAssert (.iface 252 x) 194 247 true).run Tryz.prog w = .ok (.tuple #[.agg #[], .bool false]) w := by kernel_rfl
theorem ta_nil_flag (w : World) : (Instr.typeAssert .nilIface 194 248 true).run Tryz.prog w = .ok (.tuple #[.bool false, .bool false]) w := by kernel_rfl
theorem ta_absent_flag (x : Value) (w : World) : (Instr.typeAssert (.iface 247 x) 194 248 true).run Tryz.prog w = .ok (.tuple #[.bool false, .bool false]) w := by kernel_rfl
theorem ta_flag_flag (x : Value) (w : World) : (Instr.typeAssert (.iface 248 x) 194 248 true).run Tryz.prog w = .ok (.tuple #[x, .bool true]) w := by kernel_rfl
theorem ta_whole_flag (x : Value) (w : World) : (Instr.typeAssert (.iface 249 x) 194 248 true).run Tryz.prog w = .ok (.tuple #[.bool false, .bool false]) w := by kernel_rfl
theorem ta_float_flag (x : Value) (w : World) : (Instr.typeAssert (.iface 250 x) 194 248 true).run Tryz.prog w = .ok (.tuple #[.bool false, .bool false]) w := by kernel_rfl
theorem ta_word_flag (x : Value) (w : World) : (Instr.typeAssert (.iface 167 x) 194 248 true).run Tryz.prog w = .ok (.tuple #[.bool false, .bool false]) w := by kernel_rfl
theorem ta_builtin_flag (x : Value) (w : World) : (Instr.typeAssert (.iface 253 x) 194 248 true).run Tryz.prog w = .ok (.tuple #[.bool false, .bool false]) w := by kernel_rfl
theorem ta_made_flag (x : Value) (w : World) : (Instr.typeAssert (.iface 252 x) 194 248 true).run Tryz.prog w = .ok (.tuple #[.bool false, .bool false]) w := by kernel_rfl
theorem ta_nil_whole (w : World) : (Instr.typeAssert .nilIface 194 249 true).run Tryz.prog w = .ok (.tuple #[.int .i64 0, .bool false]) w := by kernel_rfl
theorem ta_absent_whole (x : Value) (w : World) : (Instr.typeAssert (.iface 247 x) 194 249 true).run Tryz.prog w = .ok (.tuple #[.int .i64 0, .bool false]) w := by kernel_rfl
theorem ta_flag_whole (x : Value) (w : World) : (Instr.typeAssert (.iface 248 x) 194 249 true).run Tryz.prog w = .ok (.tuple #[.int .i64 0, .bool false]) w := by kernel_rfl
theorem ta_whole_whole (x : Value) (w : World) : (Instr.typeAssert (.iface 249 x) 194 249 true).run Tryz.prog w = .ok (.tuple #[x, .bool true]) w := by kernel_rfl
theorem ta_float_whole (x : Value) (w : World) : (Instr.typeAssert (.iface 250 x) 194 249 true).run Tryz.prog w = .ok (.tuple #[.int .i64 0, .bool false]) w := by kernel_rfl
theorem ta_word_whole (x : Value) (w : World) : (Instr.typeAssert (.iface 167 x) 194 249 true).run Tryz.prog w = .ok (.tuple #[.int .i64 0, .bool false]) w := by kernel_rfl
theorem ta_builtin_whole (x : Value) (w : World) : (Instr.typeAssert (.iface 253 x) 194 249 true).run Tryz.prog w = .ok (.tuple #[.int .i64 0, .bool false]) w := by kernel_rfl
theorem ta_made_whole (x : Value) (w : World) : (Instr.typeAssert (.iface 252 x) 194 249 true).run Tryz.prog w = .ok (.tuple #[.int .i64 0, .bool false]) w := by kernel_rfl
theorem ta_nil_float (w : World) : (Instr.typeAssert .nilIface 194 250 true).run Tryz.prog w = .ok (.tuple #[.float .f64 0, .bool false]) w := by kernel_rfl
theorem ta_absent_float (x : Value) (w : World) : (Instr.typeAssert (.iface 247 x) 194 250 true).run Tryz.prog w = .ok (.tuple #[.float .f64 0, .bool false]) w := by kernel_rfl
theorem ta_flag_float (x : Value) (w : World) : (Instr.typeAssert (.iface 248 x) 194 250 true).run Tryz.prog w = .ok (.tuple #[.float .f64 0, .bool false]) w := by kernel_rfl
theorem ta_whole_float (x : Value) (w : World) : (Instr.typeAssert (.iface 249 x) 194 250 true).run Tryz.prog w = .ok (.tuple #[.float .f64 0, .bool false]) w := by kernel_rfl
theorem ta_float_float (x : Value) (w : World) : (Instr.typeAssert (.iface 250 x) 194 250 true).run Tryz.prog w = .ok (.tuple #[x, .bool true]) w := by kernel_rfl
theorem ta_word_float (x : Value) (w : World) : (Instr.typeAssert (.iface 167 x) 194 250 true).run Tryz.prog w = .ok (.tuple #[.float .f64 0, .bool false]) w := by kernel_rfl
theorem ta_builtin_float (x : Value) (w : World) : (Instr.typeAssert (.iface 253 x) 194 250 true).run Tryz.prog w = .ok (.tuple #[.float .f64 0, .bool false]) w := by kernel_rfl
theorem ta_made_float (x : Value) (w : World) : (Instr.typeAssert (.iface 252 x) 194 250 true).run Tryz.prog w = .ok (.tuple #[.float .f64 0, .bool false]) w := by kernel_rfl
theorem ta_nil_word (w : World) : (Instr.typeAssert .nilIface 194 167 true).run Tryz.prog w = .ok (.tuple #[.string ⟨#[]⟩, .bool false]) w := by kernel_rfl
theorem ta_absent_word (x : Value) (w : World) : (Instr.typeAssert (.iface 247 x) 194 167 true).run Tryz.prog w = .ok (.tuple #[.string ⟨#[]⟩, .bool false]) w := by kernel_rfl
theorem ta_flag_word (x : Value) (w : World) : (Instr.typeAssert (.iface 248 x) 194 167 true).run Tryz.prog w = .ok (.tuple #[.string ⟨#[]⟩, .bool false]) w := by kernel_rfl
theorem ta_whole_word (x : Value) (w : World) : (Instr.typeAssert (.iface 249 x) 194 167 true).run Tryz.prog w = .ok (.tuple #[.string ⟨#[]⟩, .bool false]) w := by kernel_rfl
theorem ta_float_word (x : Value) (w : World) : (Instr.typeAssert (.iface 250 x) 194 167 true).run Tryz.prog w = .ok (.tuple #[.string ⟨#[]⟩, .bool false]) w := by kernel_rfl
theorem ta_word_word (x : Value) (w : World) : (Instr.typeAssert (.iface 167 x) 194 167 true).run Tryz.prog w = .ok (.tuple #[x, .bool true]) w := by kernel_rfl
theorem ta_builtin_word (x : Value) (w : World) : (Instr.typeAssert (.iface 253 x) 194 167 true).run Tryz.prog w = .ok (.tuple #[.string ⟨#[]⟩, .bool false]) w := by kernel_rfl
theorem ta_made_word (x : Value) (w : World) : (Instr.typeAssert (.iface 252 x) 194 167 true).run Tryz.prog w = .ok (.tuple #[.string ⟨#[]⟩, .bool false]) w := by kernel_rfl
end Go.Proofs.YtdialodjllpgaaaGreatDoor

/-! impl.failed and impl.gives. -/
namespace Go.Proofs.YtdialodjllpgaaaGreatDoor
open Go.RowKit
attribute [local go_sem] run_store_float

abbrev gV (c k n : Int) (f : Nat) (s : ByteArray) (r : Int) : Value := .agg #[.int .i64 c, .int .i64 k, .int .i64 n, .float .f64 f, .string s, .int .i64 r]

set_option maxRecDepth 100000 in
set_option maxHeartbeats 1000000 in
theorem value_whole (n : Int) (w : World) :
    Calls Tryz.prog 281 #[.int .i64 n] w fun e w' => e = .returned (vOf 2 n 0 ⟨#[]⟩ 0) ∧ Below w.heap.size w w' := by
  go_enter Tryz.func281, Tryz.ntmps281; go_wp2
  exact bodyPost_ret (v := vOf 2 n 0 ⟨#[]⟩ 0) (by simp [results, Tryz.results281, go_sem]) rfl ⟨rfl, below_alloc _ _⟩
set_option maxRecDepth 100000 in
set_option maxHeartbeats 1000000 in
theorem value_word (s : ByteArray) (w : World) :
    Calls Tryz.prog 83 #[.string s] w fun e w' => e = .returned (vOf 4 0 0 s 0) ∧ Below w.heap.size w w' := by
  go_enter Tryz.func83, Tryz.ntmps83; go_wp2
  exact bodyPost_ret (v := vOf 4 0 0 s 0) (by simp [results, Tryz.results83, go_sem]) rfl ⟨rfl, below_alloc _ _⟩
end Go.Proofs.YtdialodjllpgaaaGreatDoor

namespace Go.Proofs.YtdialodjllpgaaaGreatDoor.Fl
open Ieee

theorem bn : double.binade = 2 ^ 52 := rfl
theorem fb : double.fractionBits = 52 := rfl

/-- The word of a signed magnitude in units of the least place. -/
def enc (neg : Bool) (M : Nat) : Nat := double.nearest neg M (-1074)

/-- representable magnitudes -/
def rep (M : Nat) : Prop := ∃ q a, q < 2 ^ 53 ∧ a ≤ 2045 ∧ M = q * 2 ^ a

def Fin3 (x : Nat) (s : Bool) (M : Nat) : Prop := ∃ m i, double.read x = .number s m i ∧ -1074 ≤ i ∧ m * 2 ^ (i + 1074).toNat = M

def sv (s : Bool) (M : Nat) : Int := if s then -(M : Int) else (M : Int)

end Go.Proofs.YtdialodjllpgaaaGreatDoor.Fl

/-! The floor of a float: what the program's library gives, and what the model's own steps give. -/
namespace Go.Proofs.YtdialodjllpgaaaGreatDoor.Fl
open Ieee

/-- the word of the floor -/
def floorW (x : Nat) : Nat := double.write ((double.read x).integral .down)

end Go.Proofs.YtdialodjllpgaaaGreatDoor.Fl

/-! laws.sameFloat, laws.eqValue, laws.eqValued; spec.l1fail and its kin. -/
namespace Go.Proofs.YtdialodjllpgaaaGreatDoor
open Go.RowKit
attribute [local go_sem] run_store_float

/-- two floats that sameFloat takes for one -/
def oneF (f g : Nat) : Prop := (f = g ∧ f < 2 ^ 64) ∨ (FloatKind.f64.format.order f f = none ∧ FloatKind.f64.format.order g g = none)

end Go.Proofs.YtdialodjllpgaaaGreatDoor

/-! spec.l1nan, spec.l1floor, math.IsNaN, math.Floor. -/
namespace Go.Proofs.YtdialodjllpgaaaGreatDoor
open Go.RowKit

abbrev two63 : Nat := 4890909195324358656
abbrev ntwo63 : Nat := 14114281232179134464
abbrev oneW : Nat := 4607182418800017408

set_option maxRecDepth 100000 in
set_option maxHeartbeats 1000000 in
theorem isNaN_calls (f : Nat) (w : World) : Calls Tryz.prog 156 #[.float .f64 f] w fun e w' => e = .returned (.bool (FloatKind.f64.format.order f f != some .eq)) ∧ w' = w := by
  go_enter Tryz.func156, Tryz.ntmps156; go_wp2
  go_ret; exact ⟨rfl, rfl⟩

end Go.Proofs.YtdialodjllpgaaaGreatDoor

/-! spec.l1strings and strings.Compare: both are compareBytes. -/
namespace Go.Proofs.YtdialodjllpgaaaGreatDoor
open Go.RowKit

abbrev cbs (a b : ByteArray) : Int := Lib.compareBytes a.data.toList b.data.toList

def cbAt (a b : ByteArray) (k : Nat) : Int := Lib.compareBytes (a.data.toList.drop k) (b.data.toList.drop k)

end Go.Proofs.YtdialodjllpgaaaGreatDoor
