import Derived.Test.YtdialodjllpgaaaGreatDoorOwA
import Derived.Test.YtdialodjllpgaaaGreatDoorVdP
import Derived.Test.YtdialodjllpgaaaGreatDoorUnB
import Derived.Maps.AppendAt
import Derived.Deep.RegionWith
import Derived.Deep.RegionLaw
import Derived.Deep.RegionHeld3
import Derived.Deep.DrawnRows
import Derived.Maps.OwnSet
import Derived.WalkKit
/-! A run of a text of one call, as it lies in memory: the machine, its task, its frame. -/
namespace Go.Proofs.YtdialodjllpgaaaGreatDoor
open Go.RowKit

/-- cells of a value, of a record -/
def v5 (x : VD) : List Value := [.int .i64 x.k, .int .i64 x.n, .float .f64 x.f, .string x.s, .int .i64 x.r]
def r5 (x : RcD) : List Value := [.int .i64 x.k, .int .i64 x.t, .int .i64 x.f, .int .i64 x.l, .string x.s]
def hL (l : List VD) : List Value := l.flatMap v5
def rL (l : List RcD) : List Value := l.flatMap r5
def iL (l : List Int) : List Value := l.map fun v => .int .i64 v
theorem hL_len (l : List VD) : (hL l).length = l.length * 5 := by
  induction l with
  | nil => rfl
  | cons x l ih => simp [hL, v5] at ih ⊢; omega
theorem hL_app (a b : List VD) : hL (a ++ b) = hL a ++ hL b := by simp [hL]
theorem rL_app (a b : List RcD) : rL (a ++ b) = rL a ++ rL b := by simp [rL]
theorem iL_app (a b : List Int) : iL (a ++ b) = iL a ++ iL b := by simp [iL]
theorem hL_take (l : List VD) (n : Nat) : hL (l.take n) = (hL l).take (n * 5) := by
  induction l generalizing n with
  | nil => simp [hL]
  | cons x l ih =>
    cases n with
    | zero => simp [hL]
    | succ n =>
      have := ih n
      simp only [List.take_succ_cons]
      show v5 x ++ hL (l.take n) = (v5 x ++ hL l).take ((n + 1) * 5)
      rw [this, show (n + 1) * 5 = (v5 x).length + n * 5 by simp [v5]; omega, List.take_length_add_append]

/-- what changes while a text is run -/
structure MD where
  recs : List RcD
  ra : Option Addr
  rc : Nat
  ti : Nat
  tab : Value
  liv : Value
  held : List VD
  ha : Option Addr
  hc : Nat
  sc : List Int
  sa : Option Addr
  sp : Nat
  line : Int
  vp : Value
/-- what stays -/
structure RX where
  M : Nat
  T : Nat
  F : Nat
  V : Nat
  R : Nat
  N : Nat
  W : World
  fns : Value
  bod : Value
  tks : Value
  en : Value
  c1 : Value
  c2 : Value
  c3 : Value
  frc : Nat
  rA : Array Value
abbrev wchV : Value := .func (.func 11) #[] #[]
abbrev mA (X : RX) (d : MD) : Array Value := #[X.fns, .slice none 0 0, .slice none 0 0, .int .i64 1000, .int .i64 2, .int .i64 0, wchV, X.bod, .int .i64 0, .slice d.ra d.recs.length d.rc, .slice none 0 0, .string ⟨#[]⟩, .string ⟨#[]⟩, .int .i64 (d.ti : Int), .int .i64 0, .int .i64 0, d.tab, .slice none 0 0, X.tks, d.liv, .int .i64 0, .int .i64 0, .int .i64 0, .pointer (some ⟨X.T, 0, none⟩), X.en, .int .u64 0, .int .u32 0]
abbrev tA (X : RX) (d : MD) : Array Value := #[.int .i64 0, .int .i64 2, .int .i64 0, .int .i64 0, .float .f64 0, .string ⟨#[]⟩, .int .i64 0, .slice (some ⟨X.R, 0, none⟩) 1 X.frc, .slice d.ha d.held.length d.hc, .pointer none, X.c1, X.c2, X.c3, .bool false, .pointer none, .int .i64 0, .int .i64 0]
abbrev fA (X : RX) (d : MD) : Array Value := #[.pointer (some ⟨X.T, 0, none⟩), .int .i64 0, .int .i64 0, .int .i64 0, .float .f64 0, .string ⟨#[]⟩, .int .i64 0, .slice none 0 0, .slice (some ⟨X.V, 0, none⟩) 1 1, .slice none 0 0, .slice d.sa d.sc.length d.sp, .slice none 0 0, .int .i64 d.line]
/-- the blocks that a run writes -/
def stB (X : RX) (d : MD) (k : Nat) : Prop := k = X.M ∨ k = X.T ∨ k = X.F ∨ k = X.V ∨ bkOf d.ra = some k ∨ bkOf d.ha = some k ∨ bkOf d.sa = some k
abbrev OwR (N : Nat) (u : World) (d : MD) : Prop := u.ownsRow N 53 5 (.slice d.ra d.recs.length d.rc) d.recs.length (rL d.recs)
abbrev OwH (N : Nat) (u : World) (d : MD) : Prop := u.ownsRow N 56 5 (.slice d.ha d.held.length d.hc) d.held.length (hL d.held)
abbrev OwS (N : Nat) (u : World) (d : MD) : Prop := u.ownsRow N 3 1 (.slice d.sa d.sc.length d.sp) d.sc.length (iL d.sc)
structure RX.ok (X : RX) : Prop where
  m : X.M < X.W.heap.size
  t : X.W.heap.size ≤ X.T
  f : X.W.heap.size ≤ X.F
  v : X.W.heap.size ≤ X.V
  r : X.W.heap.size ≤ X.R
  tN : X.T < X.N
  fN : X.F < X.N
  vN : X.V < X.N
  rN : X.R < X.N
  tf : X.T ≠ X.F
  tv : X.T ≠ X.V
  fv : X.F ≠ X.V
  rt : X.R ≠ X.T
  rf : X.R ≠ X.F
  rv : X.R ≠ X.V
  r0 : X.rA[0]? = some (.pointer (some ⟨X.F, 0, none⟩))
structure St (X : RX) (d : MD) (u : World) : Prop where
  x : X.ok
  m : OwnB u X.M (mA X d)
  t : OwnB u X.T (tA X d)
  f : OwnB u X.F (fA X d)
  v : OwnB u X.V #[d.vp]
  r : OwnB u X.R X.rA
  rr : OwR X.N u d
  hr : OwH X.N u d
  sr : OwS X.N u d
  k : Gx (fun k => k = X.M ∨ X.W.heap.size ≤ k) X.W u
  n : X.N ≤ u.heap.size
theorem own_ge {N : Nat} {u : World} {t : TypeId} {K n m cap : Nat} {a : Option Addr} {xs : List Value} (h : u.ownsRow N t K (.slice a m cap) n xs) {k : Nat} (e : bkOf a = some k) : N ≤ k ∧ k < u.heap.size := h.lt k ((own_bk a m cap).trans e)
theorem own_ty {N : Nat} {u : World} {t t' : TypeId} {K K' n n' m m' cap cap' : Nat} {a a' : Option Addr} {xs xs' : List Value} (h : u.ownsRow N t K (.slice a m cap) n xs) (h' : u.ownsRow N t' K' (.slice a' m' cap') n' xs') (ht : t ≠ t') {k : Nat} (e : bkOf a = some k) : bkOf a' ≠ some k := fun e' => by
  rcases h.2 with ⟨c, _⟩ | ⟨g, _, cur, c, _, hg, _⟩
  · cases c; cases e
  · rcases h'.2 with ⟨c', _⟩ | ⟨g', _, cur', c', _, hg', _⟩
    · cases c'; cases e'
    · cases c; cases c'
      cases e; cases e'
      rw [hg] at hg'
      cases hg'
      exact ht rfl
section
variable {X : RX} {d d' d'' : MD} {u u' u'' : World}
theorem St.lt (h : St X d u) {k : Nat} (e : stB X d k) : k < u.heap.size := by
  rcases e with rfl | rfl | rfl | rfl | e | e | e
  · exact h.m.1.1
  · exact h.t.1.1
  · exact h.f.1.1
  · exact h.v.1.1
  · exact (own_ge h.rr e).2
  · exact (own_ge h.hr e).2
  · exact (own_ge h.sr e).2
theorem St.other (h : St X d u) {B : Nat} (hB : u.heap.size ≤ B) : ¬ stB X d B := fun e => by have := h.lt e; omega
/-- a step of a run -/
structure Sp (X : RX) (d : MD) (u : World) (d' : MD) (u' : World) : Prop where
  s : St X d' u'
  g : Gx (stB X d) u u'
  mv : ∀ k, k < u.heap.size → stB X d' k → stB X d k
theorem Sp.refl (h : St X d u) : Sp X d u d u := ⟨h, Gx.refl _ _, fun _ _ e => e⟩
theorem Sp.trans (h : Sp X d u d' u') (k : Sp X d' u' d'' u'') : Sp X d u d'' u'' :=
  ⟨k.s, h.g.trans k.g (fun i hi e => h.mv i hi e), fun i hi e => h.mv i hi (k.mv i (Nat.lt_of_lt_of_le hi h.g.size) e)⟩
theorem Gx.ownB {S : Nat → Prop} {w w' : World} (h : Gx S w w') {B : Nat} {A : Array Value} (hh : OwnB w B A) (hn : ¬ S B) : OwnB w' B A := hh.block h.size (h.block B hh.1.1 hn)
theorem Sp.below (h : St X d u) (hb : Below u.heap.size u u') : Sp X d u d u' := by
  have hk : ∀ k, k < u.heap.size → u'.heap[k]? = u.heap[k]? := fun k hk => hb.block k hk
  have ho : ∀ {B : Nat} {A : Array Value}, OwnB u B A → OwnB u' B A := fun hh => hh.block hb.size (hk _ hh.1.1)
  exact ⟨⟨h.x, ho h.m, ho h.t, ho h.f, ho h.v, ho h.r, ownsK_below h.rr hb, ownsK_below h.hr hb, ownsK_below h.sr hb, h.k.trans (Gx.below _ hb) (fun _ _ e => e), Nat.le_trans h.n hb.size⟩, Gx.below _ hb, fun _ _ e => e⟩
theorem St.call (h : St X d u) (hb : Below u.heap.size u u') : St X d u' := (Sp.below h hb).s
theorem St.alloc (h : St X d u) (o : Obj) : St X d (u.alloc o) := h.call (below_alloc u o)
theorem St.drew (h : St X d u) : St X d u.drew := h.call (Below.refl _ _).drew
theorem Sp.alloc (h : Sp X d u d' u') (o : Obj) : Sp X d u d' (u'.alloc o) := h.trans (Sp.below h.s (below_alloc _ _))
theorem Sp.drew (h : Sp X d u d' u') : Sp X d u d' u'.drew := h.trans (Sp.below h.s (Below.refl _ _).drew)
theorem Sp.call (h : Sp X d u d' u') (hb : Below u'.heap.size u' u'') : Sp X d u d' u'' := h.trans (Sp.below h.s hb)
theorem Sp.first {o : Obj} (h0 : St X d u) (h : Sp X d (u.alloc o) d' u') : Sp X d u d' u' := (Sp.below h0 (below_alloc u o)).trans h
/-- a box that is none of a run's blocks -/
def Bx (X : RX) (d : MD) (u : World) (B : Nat) (A : Array Value) : Prop := Has u B A ∧ ¬ stB X d B
theorem Bx.step {B : Nat} {A : Array Value} (h : Bx X d u B A) (k : Sp X d u d' u') : Bx X d' u' B A := ⟨k.g.has h.1 h.2, fun e => h.2 (k.mv B h.1.1 e)⟩
theorem Bx.new (h : St X d u) (A : Array Value) (t : TypeId) : Bx X d (u.alloc (.cells A t)) u.heap.size A := ⟨Has.new u A t, h.other (Nat.le_refl _)⟩
theorem Bx.alloc {B : Nat} {A : Array Value} (h : Bx X d u B A) (o : Obj) : Bx X d (u.alloc o) B A := ⟨h.1.alloc o, h.2⟩
theorem Bx.cell {B : Nat} {A : Array Value} (h : Bx X d u B A) (o : Nat) {v : Value} (e : A[o]? = some v) : u.cell? ⟨B, o, none⟩ = some v := (h.1.2 o).trans e
/-- what was there when the bodies were made -/
theorem St.old (h : St X d u) {B : Nat} {A : Array Value} (hB : Has X.W B A) (hn : B ≠ X.M) : Has u B A := h.k.has hB (fun e => by
  rcases e with e | e
  · exact hn e
  · have := hB.1; omega)
theorem St.oldRow (h : St X d u) {K L n : Nat} {a : Option Addr} {q : Nat → Array Value} (hr : RowN K L X.W a n q) (hn : ∀ b, a = some b → b.block ≠ X.M) : RowN K L u a n q := fun h0 => by
  obtain ⟨b, off, e, h1, h2, h3⟩ := hr h0
  exact ⟨b, off, e, h1, Nat.lt_of_lt_of_le h2 h.k.size, fun i hi j hj => (World.cell?_of_block (a := ⟨b, off + i * K + j, none⟩) (h.k.block b h2 (fun c => by
    rcases c with c | c
    · exact hn _ e c
    · omega))).trans (h3 i hi j hj)⟩
/-- a store into one of the four -/
theorem St.put (h : St X d u) {B o : Nat} (v : Value) (hB : B = X.M ∨ B = X.T ∨ B = X.F ∨ B = X.V) (m : OwnB (u.setCell ⟨B, o, none⟩ v) X.M (mA X d')) (t : OwnB (u.setCell ⟨B, o, none⟩ v) X.T (tA X d')) (f : OwnB (u.setCell ⟨B, o, none⟩ v) X.F (fA X d')) (w : OwnB (u.setCell ⟨B, o, none⟩ v) X.V #[d'.vp])
    (rr : OwR X.N u d') (hr : OwH X.N u d') (sr : OwS X.N u d') (hd : ∀ k, k < u.heap.size → stB X d' k → stB X d k) : Sp X d u d' (u.setCell ⟨B, o, none⟩ v) := by
  have hx := h.x
  have hBN : ∀ k, X.N ≤ k → k ≠ B := fun k hk e => by
    have := hx.m; have := hx.tN; have := hx.fN; have := hx.vN; have := hx.t
    rcases hB with e' | e' | e' | e' <;> omega
  have hBR : X.R ≠ B := by
    have := hx.m; have := hx.r
    rcases hB with e' | e' | e' | e'
    · omega
    · rw [e']; exact hx.rt
    · rw [e']; exact hx.rf
    · rw [e']; exact hx.rv
  have g : Gx (stB X d) u (u.setCell ⟨B, o, none⟩ v) := (Gx.set u B o v).mono (fun k e => by
    subst e
    rcases hB with e | e | e | e
    · exact .inl e
    · exact .inr (.inl e)
    · exact .inr (.inr (.inl e))
    · exact .inr (.inr (.inr (.inl e))))
  refine ⟨⟨hx, m, t, f, w, h.r.block (by simp) (Below.heap_setCell _ _ _ _ hBR), ownsK_set rr _ fun k e => hBN k (own_ge rr ((own_bk _ _ _).symm.trans e)).1, ownsK_set hr _ fun k e => hBN k (own_ge hr ((own_bk _ _ _).symm.trans e)).1, ownsK_set sr _ fun k e => hBN k (own_ge sr ((own_bk _ _ _).symm.trans e)).1, ?_, by simpa using h.n⟩, g, hd⟩
  exact h.k.trans (Gx.set u B o v) (fun k _ e => by
    subst e
    rcases hB with e | e | e | e
    · exact .inl e
    · exact .inr (e ▸ hx.t)
    · exact .inr (e ▸ hx.f)
    · exact .inr (e ▸ hx.v))
end
end Go.Proofs.YtdialodjllpgaaaGreatDoor

/-! A run in memory: its steps. -/
namespace Go.Proofs.YtdialodjllpgaaaGreatDoor
open Go.RowKit
section
variable {X : RX} {d d' : MD} {u u' w7 : World}
theorem ownB_other {w : World} {B C o : Nat} {A : Array Value} {v : Value} (h : OwnB w C A) (hB : C ≠ B) : OwnB (w.setCell ⟨B, o, none⟩ v) C A := h.block (by simp) (Below.heap_setCell _ _ _ _ hB)
theorem RX.ok.tm (h : X.ok) : X.T ≠ X.M := by have := h.m; have := h.t; omega
theorem RX.ok.fm (h : X.ok) : X.F ≠ X.M := by have := h.m; have := h.f; omega
theorem RX.ok.vm (h : X.ok) : X.V ≠ X.M := by have := h.m; have := h.v; omega
theorem Sp.tick (h : St X d u) : Sp X d u { d with ti := d.ti + 1 } (u.setCell ⟨X.M, 13, none⟩ (.int .i64 ((d.ti : Int) + 1))) := by
  have hx := h.x
  refine h.put _ (.inl rfl) ?_ (ownB_other h.t hx.tm) (ownB_other h.f hx.fm) (ownB_other h.v hx.vm) h.rr h.hr h.sr (fun _ _ e => e)
  have := h.m.set (o := 13) (by show 13 < 27; omega) (.int .i64 ((d.ti : Int) + 1))
  exact this
theorem Sp.line (h : St X d u) (z : Int) : Sp X d u { d with line := z } (u.setCell ⟨X.F, 12, none⟩ (.int .i64 z)) := by
  have hx := h.x
  refine h.put _ (.inr (.inr (.inl rfl))) (ownB_other h.m (Ne.symm hx.fm)) (ownB_other h.t hx.tf) ?_ (ownB_other h.v (Ne.symm hx.fv)) h.rr h.hr h.sr (fun _ _ e => e)
  exact h.f.set (o := 12) (by show 12 < 13; omega) (.int .i64 z)
theorem Sp.var (h : St X d u) (z : Value) : Sp X d u { d with vp := z } (u.setCell ⟨X.V, 0, none⟩ z) := by
  have hx := h.x
  refine h.put _ (.inr (.inr (.inr rfl))) (ownB_other h.m (Ne.symm hx.vm)) (ownB_other h.t hx.tv) (ownB_other h.f hx.fv) ?_ h.rr h.hr h.sr (fun _ _ e => e)
  exact h.v.set (o := 0) (by show 0 < 1; omega) z
theorem own_cut {N : Nat} {w : World} {t : TypeId} {K n m cap : Nat} {a : Option Addr} {xs : List Value} (h : w.ownsRow N t K (.slice a n cap) n xs) (hm : m ≤ n) : w.ownsRow N t K (.slice a m cap) m (xs.take (m * K)) := by
  have h0 := h.1
  refine ⟨by rw [List.length_take, h0, Nat.min_eq_left (Nat.mul_le_mul_right K hm)], ?_⟩
  rcases h.2 with ⟨h2, h3⟩ | ⟨g, cap', cur, e2, h3, h4, h5, h6, h7, h8⟩
  · obtain ⟨rfl, _, rfl⟩ : a = none ∧ n = 0 ∧ cap = 0 := by simpa using h2
    exact .inl ⟨by rw [show m = 0 by omega], by omega⟩
  · cases e2
    refine .inr ⟨g, cap, cur, rfl, h3, h4, by omega, h6, h7, ?_⟩
    rw [← h8, List.take_take]
    congr 1
    exact (Nat.min_eq_left (Nat.mul_le_mul_right K hm)).symm
theorem Sp.cutH (h : St X d u) {m : Nat} (hm : m ≤ d.held.length) : Sp X d u { d with held := d.held.take m } (u.setCell ⟨X.T, 8, none⟩ (.slice d.ha m d.hc)) := by
  have hx := h.x
  have hlen : (d.held.take m).length = m := by rw [List.length_take]; omega
  refine h.put _ (.inr (.inl rfl)) (ownB_other h.m (Ne.symm hx.tm)) ?_ (ownB_other h.f (Ne.symm hx.tf)) (ownB_other h.v (Ne.symm hx.tv)) h.rr ?_ h.sr (fun _ _ e => e)
  · have := h.t.set (o := 8) (by show 8 < 17; omega) (.slice d.ha m d.hc)
    show OwnB _ _ (tA X { d with held := d.held.take m })
    simp only [tA, hlen]
    exact this
  · have := own_cut h.hr hm
    show World.ownsRow _ _ _ _ (.slice d.ha (d.held.take m).length d.hc) (d.held.take m).length (hL (d.held.take m))
    rw [hlen, hL_take]
    exact this
theorem Sp.cutS (h : St X d u) {m : Nat} (hm : m ≤ d.sc.length) : Sp X d u { d with sc := d.sc.take m } (u.setCell ⟨X.F, 10, none⟩ (.slice d.sa m d.sp)) := by
  have hx := h.x
  have hlen : (d.sc.take m).length = m := by rw [List.length_take]; omega
  refine h.put _ (.inr (.inr (.inl rfl))) (ownB_other h.m (Ne.symm hx.fm)) (ownB_other h.t hx.tf) ?_ (ownB_other h.v (Ne.symm hx.fv)) h.rr h.hr ?_ (fun _ _ e => e)
  · have := h.f.set (o := 10) (by show 10 < 13; omega) (.slice d.sa m d.sp)
    show OwnB _ _ (fA X { d with sc := d.sc.take m })
    simp only [fA, hlen]
    exact this
  · have := own_cut h.sr hm
    show World.ownsRow _ _ _ _ (.slice d.sa (d.sc.take m).length d.sp) (d.sc.take m).length (iL (d.sc.take m))
    rw [hlen]
    rw [show iL (d.sc.take m) = (iL d.sc).take (m * 1) by simp [iL, List.map_take]]
    exact this
/-- behind an append onto a row of one's own -/
theorem St.mid (h : St X d u) {a : Option Addr} (hg : u.grownBy w7 (bkOf a)) (hN : ∀ k, bkOf a = some k → X.N ≤ k) {B : Nat} {A : Array Value} (hB : OwnB u B A) (hlt : B < X.N) : OwnB w7 B A := by
  have := h.n
  exact hB.block hg.size (hg.block _ hB.1.1 (fun e => by have := hN _ e.symm; omega))
theorem own_grown {N K n m cap : Nat} {t : TypeId} {a b : Option Addr} {xs : List Value} (hg : u.grownBy w7 (bkOf a)) (h : u.ownsRow N t K (.slice b m cap) n xs) (hne : ∀ k, bkOf b = some k → bkOf a ≠ some k) : w7.ownsRow N t K (.slice b m cap) n xs :=
  ownsK_block h fun k e => hg.block k (h.lt k e).2 (fun c => hne k ((own_bk _ _ _).symm.trans e) c.symm)
theorem St.mids (h : St X d u) {a : Option Addr} (hg : u.grownBy w7 (bkOf a)) (hN : ∀ k, bkOf a = some k → X.N ≤ k) : OwnB w7 X.M (mA X d) ∧ OwnB w7 X.T (tA X d) ∧ OwnB w7 X.F (fA X d) ∧ OwnB w7 X.V #[d.vp] ∧ OwnB w7 X.R X.rA := by
  have hx := h.x
  exact ⟨h.mid hg hN h.m (by have := hx.m; have := hx.t; have := hx.tN; omega), h.mid hg hN h.t hx.tN, h.mid hg hN h.f hx.fN, h.mid hg hN h.v hx.vN, h.mid hg hN h.r hx.rN⟩
/-- a row of a run was appended to, and its cell in block B is written -/
theorem St.grow (h : St X d u) {a : Option Addr} (hg : u.grownBy w7 (bkOf a)) (hN : ∀ k, bkOf a = some k → X.N ≤ k) (ha : ∀ k, bkOf a = some k → stB X d k) {B o : Nat} {v : Value} (hB : B = X.M ∨ B = X.T ∨ B = X.F ∨ B = X.V) (m : OwnB (w7.setCell ⟨B, o, none⟩ v) X.M (mA X d')) (t : OwnB (w7.setCell ⟨B, o, none⟩ v) X.T (tA X d')) (f : OwnB (w7.setCell ⟨B, o, none⟩ v) X.F (fA X d')) (w : OwnB (w7.setCell ⟨B, o, none⟩ v) X.V #[d'.vp])
    (rr : OwR X.N w7 d') (hr : OwH X.N w7 d') (sr : OwS X.N w7 d') (hd : ∀ k, k < u.heap.size → stB X d' k → stB X d k) : Sp X d u d' (w7.setCell ⟨B, o, none⟩ v) := by
  have hx := h.x
  have hBN : ∀ k, X.N ≤ k → k ≠ B := fun k hk e => by
    have := hx.m; have := hx.tN; have := hx.fN; have := hx.vN; have := hx.t
    rcases hB with e' | e' | e' | e' <;> omega
  have hBR : X.R ≠ B := by
    have := hx.m; have := hx.r
    rcases hB with e' | e' | e' | e'
    · omega
    · rw [e']; exact hx.rt
    · rw [e']; exact hx.rf
    · rw [e']; exact hx.rv
  have hsB : stB X d B := by
    rcases hB with e | e | e | e
    · exact .inl e
    · exact .inr (.inl e)
    · exact .inr (.inr (.inl e))
    · exact .inr (.inr (.inr (.inl e)))
  have g0 : Gx (stB X d) u w7 := (Gx.grown hg).mono (fun k e => ha k e)
  have hWs : X.W.heap.size ≤ X.N := by have := hx.t; have := hx.tN; omega
  refine ⟨⟨hx, m, t, f, w, (h.mids hg hN).2.2.2.2.block (by simp) (Below.heap_setCell _ _ _ _ hBR), ownsK_set rr _ fun k e => hBN k (own_ge rr ((own_bk _ _ _).symm.trans e)).1, ownsK_set hr _ fun k e => hBN k (own_ge hr ((own_bk _ _ _).symm.trans e)).1, ownsK_set sr _ fun k e => hBN k (own_ge sr ((own_bk _ _ _).symm.trans e)).1, ?_, by have := h.n; have := hg.size; simp; omega⟩, g0.trans (Gx.set _ _ _ _) (fun k _ e => by subst e; exact hsB), hd⟩
  refine (h.k.trans (Gx.grown hg) (fun k _ e => .inr (by have := hN k e; omega))).trans (Gx.set w7 B o v) (fun k _ e => ?_)
  subst e
  rcases hB with e | e | e | e
  · exact .inl e
  · exact .inr (e ▸ hx.t)
  · exact .inr (e ▸ hx.f)
  · exact .inr (e ▸ hx.v)
theorem tyRV : (53 : TypeId) ≠ 56 := by decide
theorem tyRI : (53 : TypeId) ≠ 3 := by decide
theorem tyVI : (56 : TypeId) ≠ 3 := by decide
theorem bk_next {a a' : Option Addr} {n cap m cap' : Nat} (hat : (Value.slice a' m cap').ownBlock = (Value.slice a n cap).ownBlock ∨ (Value.slice a' m cap').ownBlock = some u.heap.size) {k : Nat} (hk : k < u.heap.size) (e : bkOf a' = some k) : bkOf a = some k := by
  rw [own_bk, own_bk] at hat
  rcases hat with c | c
  · rw [← c]; exact e
  · rw [c] at e; have := Option.some.inj e; omega
theorem Sp.recs (h : St X d u) {x : RcD} {v' : Value} (ho : w7.ownsRow X.N 53 5 v' (d.recs.length + 1) (rL d.recs ++ r5 x)) (hg : u.grownBy w7 (Value.slice d.ra d.recs.length d.rc).ownBlock) (hat : v'.ownBlock = (Value.slice d.ra d.recs.length d.rc).ownBlock ∨ v'.ownBlock = some u.heap.size) :
    ∃ a c, v' = .slice a (d.recs.length + 1) c ∧ Sp X d u { d with recs := d.recs ++ [x], ra := a, rc := c } (w7.setCell ⟨X.M, 9, none⟩ v') := by
  obtain ⟨a, c, rfl⟩ := ownsK_form ho
  rw [own_bk] at hg
  have hx := h.x
  have hN : ∀ k, bkOf d.ra = some k → X.N ≤ k := fun k e => (own_ge h.rr e).1
  have hm := h.mids hg hN
  have hlen : (d.recs ++ [x]).length = d.recs.length + 1 := by simp
  refine ⟨a, c, rfl, h.grow hg hN (fun k e => .inr (.inr (.inr (.inr (.inl e))))) (.inl rfl) ?_ (ownB_other hm.2.1 hx.tm) (ownB_other hm.2.2.1 hx.fm) (ownB_other hm.2.2.2.1 hx.vm) ?_ (own_grown hg h.hr (fun k e c => own_ty h.rr h.hr tyRV c e)) (own_grown hg h.sr (fun k e c => own_ty h.rr h.sr tyRI c e)) ?_⟩
  · have := hm.1.set (o := 9) (by show 9 < 27; omega) (.slice a (d.recs.length + 1) c)
    show OwnB _ _ (mA X { d with recs := d.recs ++ [x], ra := a, rc := c })
    simp only [mA, hlen]
    exact this
  · show World.ownsRow _ _ _ _ (.slice a (d.recs ++ [x]).length c) (d.recs ++ [x]).length (rL (d.recs ++ [x]))
    rw [hlen, rL_app]
    simpa [rL] using ho
  · intro k hk e
    rcases e with e | e | e | e | e | e | e
    · exact .inl e
    · exact .inr (.inl e)
    · exact .inr (.inr (.inl e))
    · exact .inr (.inr (.inr (.inl e)))
    · exact .inr (.inr (.inr (.inr (.inl (bk_next hat hk e)))))
    · exact .inr (.inr (.inr (.inr (.inr (.inl e)))))
    · exact .inr (.inr (.inr (.inr (.inr (.inr e)))))
theorem Sp.hold (h : St X d u) {l : List VD} {v' : Value} (ho : w7.ownsRow X.N 56 5 v' (d.held.length + l.length) (hL d.held ++ hL l)) (hg : u.grownBy w7 (Value.slice d.ha d.held.length d.hc).ownBlock) (hat : v'.ownBlock = (Value.slice d.ha d.held.length d.hc).ownBlock ∨ v'.ownBlock = some u.heap.size) :
    ∃ a c, v' = .slice a (d.held.length + l.length) c ∧ Sp X d u { d with held := d.held ++ l, ha := a, hc := c } (w7.setCell ⟨X.T, 8, none⟩ v') := by
  obtain ⟨a, c, rfl⟩ := ownsK_form ho
  rw [own_bk] at hg
  have hx := h.x
  have hN : ∀ k, bkOf d.ha = some k → X.N ≤ k := fun k e => (own_ge h.hr e).1
  have hm := h.mids hg hN
  have hlen : (d.held ++ l).length = d.held.length + l.length := by simp
  refine ⟨a, c, rfl, h.grow hg hN (fun k e => .inr (.inr (.inr (.inr (.inr (.inl e)))))) (.inr (.inl rfl)) (ownB_other hm.1 (Ne.symm hx.tm)) ?_ (ownB_other hm.2.2.1 (Ne.symm hx.tf)) (ownB_other hm.2.2.2.1 (Ne.symm hx.tv)) (own_grown hg h.rr (fun k e c => own_ty h.rr h.hr tyRV e c)) ?_ (own_grown hg h.sr (fun k e c => own_ty h.hr h.sr tyVI c e)) ?_⟩
  · have := hm.2.1.set (o := 8) (by show 8 < 17; omega) (.slice a (d.held.length + l.length) c)
    show OwnB _ _ (tA X { d with held := d.held ++ l, ha := a, hc := c })
    simp only [tA, hlen]
    exact this
  · show World.ownsRow _ _ _ _ (.slice a (d.held ++ l).length c) (d.held ++ l).length (hL (d.held ++ l))
    rw [hlen, hL_app]
    exact ho
  · intro k hk e
    rcases e with e | e | e | e | e | e | e
    · exact .inl e
    · exact .inr (.inl e)
    · exact .inr (.inr (.inl e))
    · exact .inr (.inr (.inr (.inl e)))
    · exact .inr (.inr (.inr (.inr (.inl e))))
    · exact .inr (.inr (.inr (.inr (.inr (.inl (bk_next hat hk e))))))
    · exact .inr (.inr (.inr (.inr (.inr (.inr e)))))
theorem Sp.scope (h : St X d u) {z : Int} {v' : Value} (ho : w7.ownsRow X.N 3 1 v' (d.sc.length + 1) (iL d.sc ++ [.int .i64 z])) (hg : u.grownBy w7 (Value.slice d.sa d.sc.length d.sp).ownBlock) (hat : v'.ownBlock = (Value.slice d.sa d.sc.length d.sp).ownBlock ∨ v'.ownBlock = some u.heap.size) :
    ∃ a c, v' = .slice a (d.sc.length + 1) c ∧ Sp X d u { d with sc := d.sc ++ [z], sa := a, sp := c } (w7.setCell ⟨X.F, 10, none⟩ v') := by
  obtain ⟨a, c, rfl⟩ := ownsK_form ho
  rw [own_bk] at hg
  have hx := h.x
  have hN : ∀ k, bkOf d.sa = some k → X.N ≤ k := fun k e => (own_ge h.sr e).1
  have hm := h.mids hg hN
  have hlen : (d.sc ++ [z]).length = d.sc.length + 1 := by simp
  refine ⟨a, c, rfl, h.grow hg hN (fun k e => .inr (.inr (.inr (.inr (.inr (.inr e)))))) (.inr (.inr (.inl rfl))) (ownB_other hm.1 (Ne.symm hx.fm)) (ownB_other hm.2.1 hx.tf) ?_ (ownB_other hm.2.2.2.1 (Ne.symm hx.fv)) (own_grown hg h.rr (fun k e c => own_ty h.rr h.sr tyRI e c)) (own_grown hg h.hr (fun k e c => own_ty h.hr h.sr tyVI e c)) ?_ ?_⟩
  · have := hm.2.2.1.set (o := 10) (by show 10 < 13; omega) (.slice a (d.sc.length + 1) c)
    show OwnB _ _ (fA X { d with sc := d.sc ++ [z], sa := a, sp := c })
    simp only [fA, hlen]
    exact this
  · show World.ownsRow _ _ _ _ (.slice a (d.sc ++ [z]).length c) (d.sc ++ [z]).length (iL (d.sc ++ [z]))
    rw [hlen, iL_app]
    exact ho
  · intro k hk e
    rcases e with e | e | e | e | e | e | e
    · exact .inl e
    · exact .inr (.inl e)
    · exact .inr (.inr (.inl e))
    · exact .inr (.inr (.inr (.inl e)))
    · exact .inr (.inr (.inr (.inr (.inl e))))
    · exact .inr (.inr (.inr (.inr (.inr (.inl e)))))
    · exact .inr (.inr (.inr (.inr (.inr (.inr (bk_next hat hk e))))))
end
/-- what a run has shown and holds, without where it lies -/
structure DP where
  recs : List RcD
  ti : Nat
  held : List VD
  sc : List Int
  line : Int
  vp : Value
  tab : Value
  liv : Value
def MD.p (d : MD) : DP := ⟨d.recs, d.ti, d.held, d.sc, d.line, d.vp, d.tab, d.liv⟩
def DP.tick (p : DP) : DP := { p with ti := p.ti + 1 }
def DP.rcd (p : DP) (x : RcD) : DP := { p with recs := p.recs ++ [x] }
def DP.hold (p : DP) (l : List VD) : DP := { p with held := p.held ++ l }
def DP.cutH (p : DP) (m : Nat) : DP := { p with held := p.held.take m }
def DP.scope (p : DP) (z : Int) : DP := { p with sc := p.sc ++ [z] }
def DP.cutS (p : DP) (m : Nat) : DP := { p with sc := p.sc.take m }
def DP.ln (p : DP) (z : Int) : DP := { p with line := z }
def DP.var (p : DP) (v : Value) : DP := { p with vp := v }
/-- a run comes to this -/
def To (X : RX) (d : MD) (u : World) (q : DP) (w' : World) : Prop := ∃ d', Sp X d u d' w' ∧ d'.p = q
theorem To.mk {X : RX} {d d' : MD} {u w' : World} {q : DP} (h : Sp X d u d' w') (e : d'.p = q) : To X d u q w' := ⟨d', h, e⟩
theorem To.step {X : RX} {d d' : MD} {u u' w' : World} {q : DP} (h : Sp X d u d' u') (k : To X d' u' q w') : To X d u q w' := by
  obtain ⟨d2, h2, e⟩ := k
  exact ⟨d2, h.trans h2, e⟩
end Go.Proofs.YtdialodjllpgaaaGreatDoor

/-! The program's run: tick, record. -/
namespace Go.Proofs.YtdialodjllpgaaaGreatDoor
open Go.RowKit
attribute [local go_sem] run_store_float
attribute [local go_sem ↓] Go.wp_at_zero Go.wp_at_succ

set_option maxRecDepth 100000 in
set_option maxHeartbeats 4000000 in
theorem tick_calls (X : RX) (d : MD) (u : World) (h : St X d u) (ht : d.ti < 1000) :
    Calls Tryz.prog 144 #[.pointer (some ⟨X.M, 0, none⟩)] u fun e w' => e = .returned (.tuple #[]) ∧ To X d u d.p.tick w' := by
  have HS : Hid (St X d u) := h
  have c13 := h.m.1.cell 13 rfl
  have c3 := h.m.1.cell 3 rfl
  have z := h.m.2
  have hne : ((d.ti : Int) == 1000) = false := by simpa using (show (d.ti : Int) ≠ 1000 by omega)
  clear h
  go_enter Tryz.func144, Tryz.ntmps144
  go_wp2_with fail
  go_region_with fail
  all_goals go_wp2_with fail
  all_goals go_end0
  all_goals exact ⟨rfl, .mk (Sp.tick HS.out).drew rfl⟩

set_option maxRecDepth 100000 in
set_option maxHeartbeats 4000000 in
theorem watch_calls (a b : Value) (u : World) : Calls Tryz.prog 11 #[a, b] u fun e w' => e = .returned (.bool true) ∧ w' = u := by
  go_enter Tryz.func11, Tryz.ntmps11
  go_wp2_with fail
  go_ret
  exact ⟨rfl, rfl⟩

theorem step_app {P : Program} {ops : Array Oper} {o : Oper} {a : Act} {w : World} {K : Act → World → Prop} {Q : Exit → Act → World → Prop} {E : Prop} (hgd : o.guard = none) (sl x : Operand) (t u : TypeId) (ho : o.op = .call { callee := .builtin .append, args := #[sl, x], argTypes := #[t, u] })
    (v xv v' : Value) (w' : World) (hs : a.eval sl = v) (hx : a.eval x = xv) (hr : (Builtin.append_ #[t, u] o.type #[v, xv]).run P w = .ok v' w') (h : K (a.put o.dst v') w') :
    if Region.wanted o (yielded ops a.tmps) = true then Oper.wp P o a w K Q else E := by
  have hw : Region.wanted o (yielded ops a.tmps) = true := by simp [Region.wanted, hgd]
  rw [if_pos hw]
  unfold Oper.wp execOp
  simp only [ho, resolve, invoke, builtin, Sem.run_bind, Sem.run_pure, Result.andThen_ok, List.map_toArray, List.map_cons, List.map_nil, hs, hx, hr]
  exact h

theorem infoRec' : (Tryz.prog.info? 53).map (fun i => (i.zero, i.size, i.bytes)) = some (some (.agg #[.int .i64 0, .int .i64 0, .int .i64 0, .int .i64 0, .string ⟨#[]⟩]), 5, 48) := by kernel_rfl
theorem infoVal' : (Tryz.prog.info? 56).map (fun i => (i.zero, i.size, i.bytes)) = some (some (.agg #[.int .i64 0, .int .i64 0, .float .f64 0, .string ⟨#[]⟩, .int .i64 0]), 5, 48) := by kernel_rfl
theorem infoI' : (Tryz.prog.info? 3).map (fun i => (i.zero, i.size, i.bytes)) = some (some (.int .i64 0), 1, 8) := by kernel_rfl
theorem r5_one (x : RcD) : ∀ y ∈ r5 x, y.oneCell' = true := by simp [r5, Value.oneCell']
theorem v5_one (x : VD) : ∀ y ∈ v5 x, y.oneCell' = true := by simp [v5, Value.oneCell']

set_option maxRecDepth 100000 in
set_option maxHeartbeats 4000000 in
theorem record_calls (X : RX) (d : MD) (k f l : Int) (s : ByteArray) (u : World) (h : St X d u) (hn : d.recs.length < 5000) :
    Calls Tryz.prog 145 #[.pointer (some ⟨X.M, 0, none⟩), .int .i64 k, .int .i64 f, .int .i64 l, .string s] u fun e w' => e = .returned (.tuple #[]) ∧ To X d u (d.p.rcd ⟨k, 0, f, l, s⟩) w' := by
  have HS : Hid (St X d u) := h
  have c9 := h.m.1.cell 9 rfl
  have c6 := h.m.1.cell 6 rfl
  have c23 := h.m.1.cell 23 rfl
  have t0 := h.t.1.cell 0 rfl
  have z := h.m.2
  have hM := h.m.1.1
  have hT := h.t.1.1
  have hne : ((d.recs.length : Int) == 100000) = false := by simpa using (show (d.recs.length : Int) ≠ 100000 by omega)
  obtain ⟨i0, hi0, hy0, hy1, hy2⟩ := info_parts infoRec'
  clear h
  obtain ⟨v', w7, happ, hown, hgrow, _, hat⟩ := run_append_own_at (P := Tryz.prog) (u.alloc (.cells #[.int .i64 k, .int .i64 0, .int .i64 f, .int .i64 l, .string s] 53)).drew X.N 24 24 53 i0 _ 5 48 Tryz.underlying24 hi0 hy0 hy1 hy2 rfl (by decide) (.slice d.ra d.recs.length d.rc) d.recs.length (rL d.recs) (HS.out.alloc _).drew.rr ⟨u.heap.size, 0, none⟩ 1 1 (r5 ⟨k, 0, f, l, s⟩) rfl (new_news u #[.int .i64 k, .int .i64 0, .int .i64 f, .int .i64 l, .string s] _) (r5_one _) (by unfold maxLen; omega) (by omega) (by have := HS.out.n; simp; omega)
  have hm := (HS.out.alloc (.cells #[.int .i64 k, .int .i64 0, .int .i64 f, .int .i64 l, .string s] 53)).drew.mids (by rw [own_bk] at hgrow; exact hgrow) (fun q e => (own_ge HS.out.rr e).1)
  obtain ⟨a2, c2, rfl, hs2⟩ := Sp.recs (x := ⟨k, 0, f, l, s⟩) (HS.out.alloc (.cells #[.int .i64 k, .int .i64 0, .int .i64 f, .int .i64 l, .string s] 53)).drew hown hgrow hat
  have HF : Hid (To X d u (d.p.rcd ⟨k, 0, f, l, s⟩) (w7.setCell ⟨X.M, 9, none⟩ (.slice a2 (d.recs.length + 1) c2))) := .mk ((Sp.refl HS.out |>.alloc _).drew.trans hs2) rfl
  have d9 := hm.1.1.cell 9 rfl
  have dz := hm.1.2
  clear hown hgrow hat hs2 hm
  go_enter Tryz.func145, Tryz.ntmps145
  go_wp2_with (go_at_call 11; refine (watch_calls _ _ _).mono ?_; rintro e w1 ⟨rfl, rfl⟩)
  go_region_law ((refine step_app (by rfl) _ _ _ _ (by rfl) (.slice d.ra d.recs.length d.rc) (.slice (some ⟨w1.heap.size, 0, none⟩) 1 1) _ _ (by rfl) (by rfl) happ ?_))
  all_goals go_end0
  all_goals exact ⟨rfl, HF.out⟩
end Go.Proofs.YtdialodjllpgaaaGreatDoor

/-! A map whose keys are structs: read and written as a list of entries. -/
namespace Go.Proofs.YtdialodjllpgaaaGreatDoor
open Go.RowKit Go.ChangeMaps Go.MapKept

abbrev Mk := Int × Int × Nat × ByteArray × Int
abbrev mkV (m : Mk) : Value := .agg #[.int .i64 m.1, .int .i64 m.2.1, .int .u64 (m.2.2.1 : Int), .string m.2.2.2.1, .int .i64 m.2.2.2.2]

/-- where each key stands: the last place counts -/
def upd : List (Mk × Nat) → Mk → Nat → List (Mk × Nat)
  | [], m, i => [(m, i)]
  | (m', j) :: L, m, i => if m = m' then (m, i) :: L else (m', j) :: upd L m i
def idx : List (Mk × Nat) → Mk → Option (Nat × Nat)
  | [], _ => none
  | (m', j) :: L, m => if m = m' then some (0, j) else (idx L m).map fun p => (p.1 + 1, p.2)

/-- block b of the world is a map with these entries -/
def MapIs (w : World) (b : Nat) (L : List (Mk × Nat)) : Prop :=
  ∃ es c, w.heap[b]? = some (.map es c) ∧ es.toList.map (fun e => (e.key, e.val)) = L.map (fun p => (mkV p.1, Value.int .i64 (p.2 : Int)))

/-- what is asked of the key's type -/
structure KeyT (P : Program) (K : TypeId) : Prop where
  und : ∃ fs, P.underlying K = some (.struct fs)
  eq : ∀ a b w, (Op.equal K (mkV a) (mkV b)).run P w = .ok (decide (a = b)) w
  chk : ∀ e a w, (Instr.checkKey e 10000 K (mkV a)).run P w = .ok () w

theorem find_run {P : Program} {K : TypeId} (hK : KeyT P K) (m : Mk) (w : World) : ∀ (es : List MapEntry) (L : List (Mk × Nat)) (i : Nat), es.map (fun e => (e.key, e.val)) = L.map (fun p => (mkV p.1, Value.int .i64 (p.2 : Int))) →
    (Instr.findAsking K (mkV m) es i).run P w = .ok ((idx L m).map fun p => (p.1 + i, Value.int .i64 (p.2 : Int))) w
  | [], [], i, _ => by simp [Instr.findAsking, idx]
  | [], _ :: _, _, h => by simp at h
  | _ :: _, [], _, h => by simp at h
  | e :: es, (m', j) :: L, i, h => by
    simp only [List.map_cons, List.cons.injEq, Prod.mk.injEq] at h
    obtain ⟨⟨h1, h2⟩, h3⟩ := h
    have ih := find_run hK m w es L (i + 1) h3
    by_cases c : m = m'
    · simp [Instr.findAsking, h1, h2, hK.eq, c, idx, Result.andThen]
    · have : (idx ((m', j) :: L) m).map (fun p => (p.1 + i, Value.int .i64 (p.2 : Int))) = (idx L m).map (fun p => (p.1 + (i + 1), Value.int .i64 (p.2 : Int))) := by
        rw [idx, if_neg c, Option.map_map]
        congr 1
        funext p
        simp; omega
      rw [this, ← ih]
      simp [Instr.findAsking, h1, hK.eq, c, Result.andThen]

theorem findKey_run {P : Program} {K : TypeId} (hK : KeyT P K) (m : Mk) (w : World) (es : List MapEntry) (L : List (Mk × Nat)) (h : es.map (fun e => (e.key, e.val)) = L.map (fun p => (mkV p.1, Value.int .i64 (p.2 : Int)))) :
    (Instr.findKey K (mkV m) es).run P w = .ok ((idx L m).map fun p => (p.1, Value.int .i64 (p.2 : Int))) w := by
  obtain ⟨fs, hu⟩ := hK.und
  have hf := find_run hK m w es L 0 h
  simp only [Nat.add_zero] at hf
  cases es with
  | nil =>
    cases L with
    | nil => simp [Instr.findKey, run_underlying hu, Instr.findNow, idx, Result.andThen]
    | cons _ _ => simp at h
  | cons e es =>
    have : Instr.findNow (.struct fs) (mkV m) (e :: es) 0 = none := by simp [Instr.findNow, Instr.sameNow]
    simp only [Instr.findKey, Sem.run_bind, run_underlying hu, Result.andThen, this]
    exact hf

theorem same_bits (m : Mk) : Instr.sameBits 10000 (mkV m) (mkV m) = true := by
  show (_ && _) = true
  simp [Instr.sameBits]
  exact (by show (m.2.2.2.1.data == m.2.2.2.1.data) = true; simp)

theorem idx_lt : ∀ (L : List (Mk × Nat)) (m : Mk) (p v : Nat), idx L m = some (p, v) → L[p]? = some (m, v)
  | [], _, _, _, h => by simp [idx] at h
  | (m', j) :: L, m, p, v, h => by
    rw [idx] at h
    by_cases c : m = m'
    · rw [if_pos c] at h; simp at h; obtain ⟨rfl, rfl⟩ := h; simp [c]
    · rw [if_neg c] at h
      cases hi : idx L m with
      | none => rw [hi] at h; simp at h
      | some q =>
        rw [hi] at h; simp at h
        obtain ⟨rfl, rfl⟩ := h
        simpa using idx_lt L m q.1 q.2 (by rw [hi])
theorem upd_none : ∀ (L : List (Mk × Nat)) (m : Mk) (i : Nat), idx L m = none → upd L m i = L ++ [(m, i)]
  | [], _, _, _ => rfl
  | (m', j) :: L, m, i, h => by
    rw [idx] at h
    by_cases c : m = m'
    · rw [if_pos c] at h; simp at h
    · rw [if_neg c] at h
      rw [upd, if_neg c, upd_none L m i (by simpa using h)]; rfl
theorem upd_some : ∀ (L : List (Mk × Nat)) (m : Mk) (i p v : Nat), idx L m = some (p, v) → upd L m i = L.modify p fun _ => (m, i)
  | [], _, _, _, _, h => by simp [idx] at h
  | (m', j) :: L, m, i, p, v, h => by
    rw [idx] at h
    by_cases c : m = m'
    · rw [if_pos c] at h; simp at h; obtain ⟨rfl, rfl⟩ := h; rw [upd, if_pos c]; rfl
    · rw [if_neg c] at h
      cases hi : idx L m with
      | none => rw [hi] at h; simp at h
      | some q =>
        rw [hi] at h; simp at h
        obtain ⟨rfl, rfl⟩ := h
        rw [upd, if_neg c, upd_some L m i q.1 q.2 (by rw [hi])]; rfl

theorem map_modify {α β : Type} (f : α → β) (g : α → α) (g' : β → β) (h : ∀ x, f (g x) = g' (f x)) : ∀ (l : List α) (i : Nat), (l.modify i g).map f = (l.map f).modify i g'
  | [], i => by simp
  | x :: l, 0 => by simp [h]
  | x :: l, i + 1 => by simp [map_modify f g g' h l i]

theorem update_run {P : Program} {T K E : TypeId} (ht : P.underlying T = some (.map K E)) (hK : KeyT P K) {w : World} {b : Nat} {L : List (Mk × Nat)} (h : MapIs w b L) (m : Mk) (i : Nat) :
    ∃ w', (Instr.mapUpdate T (.map (some b)) (mkV m) (.int .i64 (i : Int))).run P w = .ok () w' ∧ MapIs w' b (upd L m i) ∧ w.mapTurned w' b := by
  obtain ⟨es, c, hb, he⟩ := h
  have hf := findKey_run hK m w es.toList L he
  cases hi : idx L m with
  | none =>
    rw [hi] at hf
    refine ⟨setBlock w b (.map (es.push { key := mkV m, val := .int .i64 (i : Int), born := c }) (c + 1)), ?_, ?_, ⟨es, c, _, _, hb, rfl⟩⟩
    · simp [Instr.mapUpdate, run_underlying ht, MapKept.run_getObj_map hb, hK.chk, hf, MapKept.run_setObj_map _ hb, Result.andThen, setBlock]
    · refine ⟨_, _, heap_setBlock_same hb _, ?_⟩
      rw [upd_none L m i hi]
      simp [he]
  | some q =>
    obtain ⟨p, v⟩ := q
    rw [hi] at hf
    have hl := idx_lt L m p v hi
    have hk : (es[p]?).map (·.key) = some (mkV m) := by
      have : (es.toList.map (fun e => (e.key, e.val)))[p]? = some (mkV m, Value.int .i64 (v : Int)) := by rw [he]; simp [hl]
      simp only [List.getElem?_map, Array.getElem?_toList, Option.map_eq_some_iff] at this
      obtain ⟨e, h1, h2⟩ := this
      rw [h1]
      simp only [Prod.mk.injEq] at h2
      simp [h2.1]
    refine ⟨setBlock w b (.map (es.modify p fun e => { e with key := mkV m, val := .int .i64 (i : Int) }) c), ?_, ?_, ⟨es, c, _, _, hb, rfl⟩⟩
    · simp [Instr.mapUpdate, run_underlying ht, MapKept.run_getObj_map hb, hK.chk, hf, hk, Instr.keyThatStays, same_bits, MapKept.run_setObj_map _ hb, Result.andThen, setBlock]
    · refine ⟨_, _, heap_setBlock_same hb _, ?_⟩
      rw [upd_some L m i p v hi, Array.toList_modify, map_modify (fun e : MapEntry => (e.key, e.val)) _ (fun _ => (mkV m, Value.int .i64 (i : Int))) (fun _ => rfl), he, map_modify (fun p : Mk × Nat => (mkV p.1, Value.int .i64 (p.2 : Int))) _ (fun _ => (mkV m, Value.int .i64 (i : Int))) (fun _ => rfl)]

theorem lookup_run {P : Program} {T K E : TypeId} (ht : P.underlying T = some (.map K E)) (hK : KeyT P K) {w : World} {b : Nat} {L : List (Mk × Nat)} (h : MapIs w b L) (m : Mk) (hz : (zeroValue E).run P w = .ok (.int .i64 0) w) :
    (Instr.lookup T (.map (some b)) (mkV m) true).run P w = .ok (.tuple #[.int .i64 (((idx L m).map (·.2)).getD 0 : Nat), .bool (idx L m).isSome]) w := by
  obtain ⟨es, c, hb, he⟩ := h
  have hf := findKey_run hK m w es.toList L he
  cases hi : idx L m with
  | none =>
    rw [hi] at hf
    simp [Instr.lookup, run_underlying ht, MapKept.run_getObj_map hb, hK.chk, hf, hz, Result.andThen]
  | some q =>
    rw [hi] at hf
    simp [Instr.lookup, run_underlying ht, MapKept.run_getObj_map hb, hK.chk, hf, Result.andThen]

theorem MapIs.lt {w : World} {b : Nat} {L : List (Mk × Nat)} (h : MapIs w b L) : b < w.heap.size := by
  obtain ⟨es, c, hb, _⟩ := h
  exact (Array.getElem?_eq_some_iff.1 hb).1
theorem MapIs.below {w w' : World} {b : Nat} {L : List (Mk × Nat)} (h : MapIs w b L) (hb : Below w.heap.size w w') : MapIs w' b L := by
  have hl := h.lt
  obtain ⟨es, c, he, e⟩ := h
  exact ⟨es, c, (hb.block b hl).trans he, e⟩
theorem MapIs.alloc {w : World} {b : Nat} {L : List (Mk × Nat)} (h : MapIs w b L) (o : Obj) : MapIs (w.alloc o) b L := h.below ((Below.refl _ _).alloc (Nat.le_refl _) _)
end Go.Proofs.YtdialodjllpgaaaGreatDoor
