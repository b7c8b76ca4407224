import Derived.Test.YtiidepafifodjabGreatImN
import Derived.Test.YtiidepafifodjabGreatImV
import Derived.Test.YtiidepafifodjabGreatSpW
import Derived.Test.YtiidepafifodjabGreatUnH
import Derived.Maps.AppendAt
/-! The program's check of a unit: the first of two faults. -/
namespace Go.Proofs.YtiidepafifodjabGreat
open Go.RowKit
attribute [local go_sem] run_store_float
attribute [local go_sem ↓] Go.wp_at_zero Go.wp_at_succ

def cmpI (a b : Int) : Int := if a < b then -1 else if b < a then 1 else 0
set_option maxRecDepth 100000 in
set_option maxHeartbeats 2000000 in
theorem isNaNI_calls (a : Int) (w : World) : Calls Tryz.prog 214 #[.int .i64 a] w fun e w' => e = .returned (.bool false) ∧ w' = w := by
  go_enter Tryz.func214, Tryz.ntmps214
  go_wp2_with fail
  go_ret
  exact ⟨by simp, rfl⟩
set_option maxRecDepth 100000 in
set_option maxHeartbeats 2000000 in
theorem compareI_calls (a b : Int) (w : World) : Calls Tryz.prog 157 #[.int .i64 a, .int .i64 b] w fun e w' => e = .returned (.int .i64 (cmpI a b)) ∧ w' = w := by
  go_enter Tryz.func157, Tryz.ntmps157
  go_wp2_with (go_at_call 214; refine (isNaNI_calls _ _).mono ?_; rintro e w1 ⟨rfl, rfl⟩)
  all_goals go_ret
  all_goals exact ⟨ret_int (by unfold cmpI; (repeat split) <;> first | rfl | omega), rfl⟩
def or3 (x y z : Int) : Int := if x = 0 then (if y = 0 then z else y) else x
set_option maxRecDepth 100000 in
set_option maxHeartbeats 2000000 in
theorem orI_calls (x y z : Int) (R : Nat) (w : World) (h0 : w.cell? ⟨R, 0, none⟩ = some (.int .i64 x)) (h1 : w.cell? ⟨R, 1, none⟩ = some (.int .i64 y)) (h2 : w.cell? ⟨R, 2, none⟩ = some (.int .i64 z)) : Calls Tryz.prog 156 #[.slice (some ⟨R, 0, none⟩) 3 3] w fun e w' => e = .returned (.int .i64 (or3 x y z)) ∧ w' = w := by
  by_cases c0 : x = 0
  · by_cases c1 : y = 0
    · by_cases c2 : z = 0
      · subst c0 c1 c2
        go_enter Tryz.func156, Tryz.ntmps156
        go_wp2_with fail
        refine wp_loop_rounds 4 ?_
        rw [rounds_succ]; go_wp2_with fail
        rw [rounds_succ]; go_wp2_with fail
        rw [rounds_succ]; go_wp2_with fail
        rw [rounds_succ]; go_wp2_with fail
        go_ret
        exact ⟨rfl, rfl⟩
      · have q2 : (z != 0) = true := by simpa using c2
        subst c0 c1
        go_enter Tryz.func156, Tryz.ntmps156
        go_wp2_with fail
        refine wp_loop_rounds 3 ?_
        rw [rounds_succ]; go_wp2_with fail
        rw [rounds_succ]; go_wp2_with fail
        rw [rounds_succ]; go_wp2_with fail
        go_ret
        exact ⟨rfl, rfl⟩
    · have q1 : (y != 0) = true := by simpa using c1
      have hv : or3 x y z = y := by unfold or3; rw [if_pos c0, if_neg c1]
      rw [hv]
      subst c0
      go_enter Tryz.func156, Tryz.ntmps156
      go_wp2_with fail
      refine wp_loop_rounds 2 ?_
      rw [rounds_succ]; go_wp2_with fail
      rw [rounds_succ]; go_wp2_with fail
      go_ret
      exact ⟨rfl, rfl⟩
  · have q0 : (x != 0) = true := by simpa using c0
    have hv : or3 x y z = x := by unfold or3; rw [if_neg c0]
    rw [hv]
    go_enter Tryz.func156, Tryz.ntmps156
    go_wp2_with fail
    refine wp_loop_rounds 1 ?_
    rw [rounds_succ]; go_wp2_with fail
    go_ret
    exact ⟨rfl, rfl⟩

theorem comes_iff (a b : FT) : 0 < or3 (cmpI a.c b.c) (cmpI a.f b.f) (cmpI a.n b.n) ↔ ¬ a.le b := by
  unfold or3 cmpI FT.le
  (repeat split) <;> omega

/-- behind the boxes of two faults and the result -/
abbrev f2W (w : World) (a b : FT) : World := ((w.alloc (.cells #[.int .i64 (a.c : Int), .int .i64 (a.f : Int), .int .i64 (a.n : Int)] 27)).alloc (.cells #[.int .i64 (b.c : Int), .int .i64 (b.f : Int), .int .i64 (b.n : Int)] 27)).alloc (.cells #[.int .i64 0, .int .i64 0, .int .i64 0] 27)

abbrev F2S (B ac af an bc bf bn : Nat) (w' : World) : Prop := w'.cell? ⟨B, 0, none⟩ = some (.int .i64 (ac : Int)) ∧ w'.cell? ⟨B, 1, none⟩ = some (.int .i64 (af : Int)) ∧ w'.cell? ⟨B, 2, none⟩ = some (.int .i64 (an : Int)) ∧ w'.cell? ⟨B + 1, 0, none⟩ = some (.int .i64 (bc : Int)) ∧ w'.cell? ⟨B + 1, 1, none⟩ = some (.int .i64 (bf : Int)) ∧ w'.cell? ⟨B + 1, 2, none⟩ = some (.int .i64 (bn : Int))
theorem f2_below {w wr : World} {a b : FT} (h : Below (f2W w a b).heap.size (f2W w a b) wr) : Below w.heap.size w wr := below_call (below_alloc3 w _ _ _) h
theorem f2_cells {w wr : World} {ac af an bc bf bn : Nat} (h : Below (f2W w ⟨ac, af, an⟩ ⟨bc, bf, bn⟩).heap.size (f2W w ⟨ac, af, an⟩ ⟨bc, bf, bn⟩) wr) : F2S w.heap.size ac af an bc bf bn wr := by
  have h1 : Has wr w.heap.size #[.int .i64 (ac : Int), .int .i64 (af : Int), .int .i64 (an : Int)] := (((Has.new w _ _).alloc _).alloc _).call h
  have h2 : Has wr (w.heap.size + 1) #[.int .i64 (bc : Int), .int .i64 (bf : Int), .int .i64 (bn : Int)] := by
    have := ((Has.new (w.alloc (.cells #[.int .i64 (ac : Int), .int .i64 (af : Int), .int .i64 (an : Int)] 27)) #[.int .i64 (bc : Int), .int .i64 (bf : Int), .int .i64 (bn : Int)] 27).alloc (.cells #[.int .i64 0, .int .i64 0, .int .i64 0] 27)).call h
    simpa using this
  exact ⟨h1.cell 0 rfl, h1.cell 1 rfl, h1.cell 2 rfl, h2.cell 0 rfl, h2.cell 1 rfl, h2.cell 2 rfl⟩
theorem f2_row {w wr : World} {a b : FT} (h : Below (f2W w a b).heap.size (f2W w a b) wr) : wr.rowIs (w.heap.size + 1 + 1) 27 3 (fun _ => .int .i64 0) := by
  have h1 := World.rowIs_alloc ((w.alloc (.cells #[.int .i64 (a.c : Int), .int .i64 (a.f : Int), .int .i64 (a.n : Int)] 27)).alloc (.cells #[.int .i64 (b.c : Int), .int .i64 (b.f : Int), .int .i64 (b.n : Int)] 27)) #[.int .i64 0, .int .i64 0, .int .i64 0] 27 (fun _ => .int .i64 0) (fun i hi => by
    have : i = 0 ∨ i = 1 ∨ i = 2 := by simp at hi; omega
    rcases this with rfl | rfl | rfl <;> rfl)
  have h2 := h1.of_block (h.block _ h1.lt)
  simpa using h2

set_option maxRecDepth 100000 in
set_option maxHeartbeats 4000000 in
theorem firstOf_calls (a b : FT) (w : World) : Calls Tryz.prog 91 #[ftV a, ftV b] w fun e w' => e = .returned (ftV (fstOf a b)) ∧ Below w.heap.size w w' := by
  obtain ⟨ac, af, an⟩ := a
  obtain ⟨bc, bf, bn⟩ := b
  go_enter Tryz.func91, Tryz.ntmps91
  go_upto_region 1 with fail
  obtain ⟨w3, HB, hw3⟩ : ∃ w3, Hid (Below (f2W w ⟨ac, af, an⟩ ⟨bc, bf, bn⟩).heap.size (f2W w ⟨ac, af, an⟩ ⟨bc, bf, bn⟩) w3) ∧ f2W w ⟨ac, af, an⟩ ⟨bc, bf, bn⟩ = w3 := ⟨_, Below.refl _ _, rfl⟩
  simp only [f2W] at hw3
  rw [hw3]
  clear hw3
  have HS : Hid (∀ W, Below w3.heap.size w3 W → F2S w.heap.size ac af an bc bf bn W) := fun W hW => f2_cells (below_call HB.out hW)
  have HBw : Hid (Below w.heap.size w w3) := f2_below HB.out
  go_region_held3 (fun w' => w'.cell? ⟨w.heap.size, 0, none⟩ = some (.int .i64 (ac : Int)) ∧ w'.cell? ⟨w.heap.size, 1, none⟩ = some (.int .i64 (af : Int)) ∧ w'.cell? ⟨w.heap.size, 2, none⟩ = some (.int .i64 (an : Int)) ∧ w'.cell? ⟨w.heap.size + 1, 0, none⟩ = some (.int .i64 (bc : Int)) ∧ w'.cell? ⟨w.heap.size + 1, 1, none⟩ = some (.int .i64 (bf : Int)) ∧ w'.cell? ⟨w.heap.size + 1, 2, none⟩ = some (.int .i64 (bn : Int))) (first | (with_reducible exact HS.out _ (Below.refl _ _)) | (with_reducible exact HS.out _ (below_alloc _ _)) | (with_reducible exact HS.out _ (Below.refl _ _).drew) | (with_reducible exact HS.out _ (below_alloc _ _).drew)) (first | (go_at_call 157; refine (compareI_calls _ _ _).mono ?_; rintro e w1 ⟨rfl, rfl⟩) | (go_at_call 156; refine (orI_calls (cmpI (ac : Int) (bc : Int)) (cmpI (af : Int) (bf : Int)) (cmpI (an : Int) (bn : Int)) _ _ (by simp) (by simp) (by simp)).mono ?_; rintro e w1 ⟨rfl, rfl⟩))
  obtain ⟨w4, hw4⟩ : ∃ w4, w4 = (w3.alloc (.cells #[.int .i64 (cmpI (ac : Int) (bc : Int)), .int .i64 (cmpI (af : Int) (bf : Int)), .int .i64 (cmpI (an : Int) (bn : Int))] 3)).drew := ⟨_, rfl⟩
  have HB4 : Hid (Below (f2W w ⟨ac, af, an⟩ ⟨bc, bf, bn⟩).heap.size (f2W w ⟨ac, af, an⟩ ⟨bc, bf, bn⟩) w4) := by show Below _ _ _; rw [hw4]; exact (below_a' HB.out _).drew
  rw [← hw4]
  clear hw4 HB HBw
  have HB4w : Hid (Below w.heap.size w w4) := f2_below HB4.out
  obtain ⟨a0, a1, a2, b0, b1, b2⟩ := f2_cells HB4.out
  have s0 := (f2_row HB4.out).cell (i := 0) (by omega)
  have s1 := (f2_row HB4.out).cell (i := 1) (by omega)
  have s2 := (f2_row HB4.out).cell (i := 2) (by omega)
  have sz := (f2_row HB4.out).frozen
  by_cases c0 : ac = 0
  · subst c0
    go_wp2_with fail
    refine bodyPost_ret (v := ftV ⟨bc, bf, bn⟩) (by simp [results, Tryz.results91, go_sem, s0, s1, s2]) rfl ?_
    refine ⟨?_, frS (frS (frS HB4w.out (Nat.le_add_right _ 2) _) (Nat.le_add_right _ 2) _) (Nat.le_add_right _ 2) _⟩
    exact ret_val (by unfold fstOf; rw [if_pos rfl])
  · have q0 : ((ac : Int) == 0) = false := by simp; omega
    by_cases c1 : bc = 0
    · subst c1
      go_wp2_with fail
      refine bodyPost_ret (v := ftV ⟨ac, af, an⟩) (by simp [results, Tryz.results91, go_sem, s0, s1, s2]) rfl ?_
      refine ⟨?_, frS (frS (frS HB4w.out (Nat.le_add_right _ 2) _) (Nat.le_add_right _ 2) _) (Nat.le_add_right _ 2) _⟩
      exact ret_val (by unfold fstOf; rw [if_neg c0, if_neg (fun h => h.1 rfl)])
    · have q1 : ((bc : Int) != 0) = true := by simp; omega
      have hle := comes_iff ⟨ac, af, an⟩ ⟨bc, bf, bn⟩
      by_cases c2 : 0 < or3 (cmpI (ac : Int) (bc : Int)) (cmpI (af : Int) (bf : Int)) (cmpI (an : Int) (bn : Int))
      · have HV : Hid (fstOf ⟨ac, af, an⟩ ⟨bc, bf, bn⟩ = ⟨bc, bf, bn⟩) := by show _ = _; unfold fstOf; rw [if_neg c0, if_pos ⟨c1, hle.1 c2⟩]
        clear hle
        go_wp2_with fail
        refine bodyPost_ret (v := ftV ⟨bc, bf, bn⟩) (by simp [results, Tryz.results91, go_sem, s0, s1, s2]) rfl ?_
        refine ⟨?_, frS (frS (frS HB4w.out (Nat.le_add_right _ 2) _) (Nat.le_add_right _ 2) _) (Nat.le_add_right _ 2) _⟩
        exact ret_val (by rw [HV.out])
      · have HV : Hid (fstOf ⟨ac, af, an⟩ ⟨bc, bf, bn⟩ = ⟨ac, af, an⟩) := by show _ = _; unfold fstOf; rw [if_neg c0, if_neg (fun h => c2 (hle.2 h.2))]
        clear hle
        go_wp2_with fail
        refine bodyPost_ret (v := ftV ⟨ac, af, an⟩) (by simp [results, Tryz.results91, go_sem, s0, s1, s2]) rfl ?_
        refine ⟨?_, frS (frS (frS HB4w.out (Nat.le_add_right _ 2) _) (Nat.le_add_right _ 2) _) (Nat.le_add_right _ 2) _⟩
        exact ret_val (by rw [HV.out])
end Go.Proofs.YtiidepafifodjabGreat

/-! Scopes as the program keeps them: where they lie. Plain but for the cells. -/
namespace Go.Proofs.YtiidepafifodjabGreat
open Go.RowKit

/-- a block of one's own -/
def OwnB (w : World) (B : Nat) (A : Array Value) : Prop := Has w B A ∧ ∀ o, w.frozen? ⟨B, o, none⟩ = false
theorem OwnB.block {w w' : World} {B : Nat} {A : Array Value} (h : OwnB w B A) (hs : w.heap.size ≤ w'.heap.size) (hk : w'.heap[B]? = w.heap[B]?) : OwnB w' B A :=
  ⟨⟨Nat.lt_of_lt_of_le h.1.1 hs, fun o => (World.cell?_of_block (a := ⟨B, o, none⟩) hk).trans (h.1.2 o)⟩, fun o => (World.frozen?_of_block (a := ⟨B, o, none⟩) hk).trans (h.2 o)⟩
theorem OwnB.set {w : World} {B : Nat} {A : Array Value} (h : OwnB w B A) {o : Nat} (ho : o < A.size) (v : Value) : OwnB (w.setCell ⟨B, o, none⟩ v) B (A.setIfInBounds o v) := by
  refine ⟨⟨by have := h.1.1; simpa using this, fun i => ?_⟩, fun i => by rw [World.frozen?_setCell]; exact h.2 i⟩
  have h0 : w.cell? ⟨B, o, none⟩ = some (A[o]'ho) := by rw [h.1.2 o, Array.getElem?_eq_getElem ho]
  rw [Array.getElem?_setIfInBounds]
  by_cases e : o = i
  · subst e
    rw [if_pos rfl, if_pos ho]
    simp [go_sem, h0]
  · rw [if_neg e, ← h.1.2 i]
    exact World.cell?_setCell_other _ _ _ _ (by intro c; cases c; exact e rfl)
theorem OwnB.new (w : World) (A : Array Value) (t : TypeId) : OwnB (w.alloc (.cells A t)) w.heap.size A := ⟨Has.new w A t, fun o => by simp⟩

def bkOf (a : Option Addr) : Option Nat := a.map (·.block)
theorem own_bk (a : Option Addr) (n cap : Nat) : (Value.slice a n cap).ownBlock = bkOf a := by cases a <;> rfl

/-- all but three blocks stays -/
structure Kp (S T : Nat) (r : Option Nat) (w w' : World) : Prop where
  os : w'.os = w.os
  tape : w'.tape = w.tape
  output : w'.output = w.output
  size : w.heap.size ≤ w'.heap.size
  block : ∀ k, k < w.heap.size → k ≠ S → k ≠ T → r ≠ some k → w'.heap[k]? = w.heap[k]?
def NewB (r : Option Nat) (w : World) (r' : Option Nat) : Prop := r' = r ∨ ∃ k, r' = some k ∧ w.heap.size ≤ k
/-- one step of the scopes -/
structure Mv (S T : Nat) (a : Option Addr) (w : World) (a' : Option Addr) (w' : World) : Prop where
  kp : Kp S T (bkOf a) w w'
  nw : NewB (bkOf a) w (bkOf a')
theorem Kp.refl (S T : Nat) (r : Option Nat) (w : World) : Kp S T r w w := ⟨rfl, rfl, rfl, Nat.le_refl _, fun _ _ _ _ _ => rfl⟩
theorem Mv.refl (S T : Nat) (a : Option Addr) (w : World) : Mv S T a w a w := ⟨Kp.refl S T _ w, .inl rfl⟩
theorem Mv.trans {S T : Nat} {a a' a'' : Option Addr} {w w' w'' : World} (h : Mv S T a w a' w') (k : Mv S T a' w' a'' w'') : Mv S T a w a'' w'' := by
  refine ⟨⟨k.kp.os.trans h.kp.os, k.kp.tape.trans h.kp.tape, k.kp.output.trans h.kp.output, Nat.le_trans h.kp.size k.kp.size, fun i hi h1 h2 h3 => ?_⟩, ?_⟩
  · refine (k.kp.block i (Nat.lt_of_lt_of_le hi h.kp.size) h1 h2 ?_).trans (h.kp.block i hi h1 h2 h3)
    rcases h.nw with e | ⟨q, e, hq⟩
    · rw [e]; exact h3
    · rw [e]; intro c; cases c; omega
  · rcases k.nw with e | ⟨q, e, hq⟩
    · unfold NewB; rw [e]; exact h.nw
    · exact .inr ⟨q, e, Nat.le_trans h.kp.size hq⟩
theorem Mv.alloc {S T : Nat} {a a' : Option Addr} {w w' : World} (h : Mv S T a w a' w') (o : Obj) : Mv S T a w a' (w'.alloc o) := h.trans ⟨⟨rfl, rfl, rfl, by simp, fun i hi _ _ _ => Below.heap_alloc w' o i hi⟩, .inl rfl⟩
theorem Mv.first {S T : Nat} {a a' : Option Addr} {w w' : World} {o : Obj} (h : Mv S T a (w.alloc o) a' w') : Mv S T a w a' w' := ((Mv.refl S T a w).alloc o).trans h
theorem Mv.drew {S T : Nat} {a a' : Option Addr} {w w' : World} (h : Mv S T a w a' w') : Mv S T a w a' w'.drew := ⟨⟨h.kp.os, h.kp.tape, h.kp.output, h.kp.size, h.kp.block⟩, h.nw⟩
theorem Mv.call {S T : Nat} {a a' : Option Addr} {w w' w'' : World} (h : Mv S T a w a' w') (hb : Below w'.heap.size w' w'') : Mv S T a w a' w'' := h.trans ⟨⟨hb.os, hb.tape, hb.output, hb.size, fun i hi _ _ _ => hb.block i hi⟩, .inl rfl⟩
/-- a store into one of the three -/
theorem Mv.set {S T : Nat} {a a' : Option Addr} {w w' : World} (h : Mv S T a w a' w') {p : Addr} (hp : p.block = S ∨ p.block = T ∨ bkOf a' = some p.block) (v : Value) : Mv S T a w a' (w'.setCell p v) := h.trans ⟨⟨rfl, rfl, rfl, by simp, fun i _ h1 h2 h3 => Below.heap_setCell w' p v i (fun e => by
  subst e
  rcases hp with e | e | e
  · exact h1 e
  · exact h2 e
  · exact h3 e)⟩, .inl rfl⟩
theorem Mv.below {S T N : Nat} {a a' : Option Addr} {w w' : World} (h : Mv S T a w a' w') (hN : N ≤ w.heap.size) (hS : N ≤ S) (hT : N ≤ T) (ha : ∀ k, bkOf a = some k → N ≤ k) : Below N w w' :=
  ⟨h.kp.os, h.kp.tape, h.kp.output, h.kp.size, fun k hk => h.kp.block k (by omega) (by omega) (by omega) (fun e => by have := ha k e; omega)⟩
/-- a box that is none of the three is carried over -/
theorem Mv.has {S T : Nat} {a a' : Option Addr} {w w' : World} (h : Mv S T a w a' w') {B : Nat} {A : Array Value} (hb : Has w B A) (h1 : B ≠ S) (h2 : B ≠ T) (h3 : bkOf a ≠ some B) : Has w' B A :=
  ⟨Nat.lt_of_lt_of_le hb.1 h.kp.size, fun o => (World.cell?_of_block (a := ⟨B, o, none⟩) (h.kp.block B hb.1 h1 h2 h3)).trans (hb.2 o)⟩

/-- the stack's values -/
def sv (st : List Int) : List Value := st.map fun v => .int .i64 v
theorem sv_len (st : List Int) : (sv st).length = st.length := by simp [sv]
theorem sv_add (st : List Int) (v : Int) : sv (st ++ [v]) = sv st ++ [.int .i64 v] := by simp [sv]
theorem sv_take (st : List Int) (n : Nat) : sv (st.take n) = (sv st).take n := by simp [sv, List.map_take]
/-- how often v stands there -/
def cnt (st : List Int) (v : Nat) : Int := (st.filter (fun y => decide (y = (v : Int)))).length
theorem cnt_rng (st : List Int) (v : Nat) : 0 ≤ cnt st v ∧ cnt st v ≤ st.length := by
  unfold cnt
  have := List.length_filter_le (fun y => decide (y = (v : Int))) st
  omega
theorem cnt_nil (v : Nat) : cnt [] v = 0 := rfl
theorem cnt_add (st : List Int) (y v : Nat) : cnt (st ++ [(y : Int)]) v = if v = y then cnt st y + 1 else cnt st v := by
  unfold cnt
  rw [List.filter_append, List.length_append]
  by_cases e : v = y
  · subst e
    simp
  · rw [if_neg e]
    have : ¬ ((y : Int) = (v : Int)) := by omega
    simp [this]
theorem cnt_pos {st : List Int} {v : Nat} : 0 < cnt st v ↔ (v : Int) ∈ st := by
  unfold cnt
  constructor
  · intro h
    have h : 0 < (st.filter (fun y => decide (y = (v : Int)))).length := by omega
    obtain ⟨y, hy⟩ := List.exists_mem_of_length_pos h
    rw [List.mem_filter] at hy
    have := of_decide_eq_true hy.2
    exact this ▸ hy.1
  · intro h
    have : (v : Int) ∈ st.filter (fun y => decide (y = (v : Int))) := List.mem_filter.2 ⟨h, decide_eq_true rfl⟩
    have := List.length_pos_of_mem this
    omega
end Go.Proofs.YtiidepafifodjabGreat
