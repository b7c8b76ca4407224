import Derived.Test.YtiidepafifodjaaPutF
import Derived.Test.YtiidepafifodjaaTabQ
/-! Tables: the specification's Put. -/
namespace Go.Proofs.Ytiidepafifodjaa
open Go.RowKit
attribute [local go_sem] run_store_float
attribute [local go_sem ↓] Go.wp_at_zero Go.wp_at_succ

/-- the pairs that are kept of the first k -/
def oN (q : Nat → PD) (m : Mk) (v : VD) (k : Nat) : Nat := match fnd q m k with
  | some _ => if v.k = 0 then k - 1 else k
  | none => k
def oQ (q : Nat → PD) (m : Mk) (v : VD) (k : Nat) : Nat → PD := match fnd q m k with
  | some i => if v.k = 0 then rmv q i else setV q i v
  | none => q
theorem oN_le (q : Nat → PD) (m : Mk) (v : VD) (k : Nat) : oN q m v k ≤ k := by
  unfold oN
  split
  · split <;> omega
  · omega
theorem cells_add (q : Nat → PD) (n : Nat) (p : PD) : cellsOf q n ++ (pCells p).toList = cellsOf (addP q n p) (n + 1) := by
  have h : cellsOf q n = cellsOf (addP q n p) n := cellsOf_congr fun j hj => by
    unfold addP
    rw [if_neg (by omega)]
  rw [cellsOf_succ, show addP q n p n = p from if_pos rfl, h]
/-- a pair of another key is added -/
theorem o_other {q : Nat → PD} {m : Mk} {k : Nat} (v : VD) (h : mk (q k).key ≠ m) : oN q m v (k + 1) = oN q m v k + 1 ∧ cellsOf (addP (oQ q m v k) (oN q m v k) (q k)) (oN q m v k + 1) = cellsOf (oQ q m v (k + 1)) (oN q m v k + 1) := by
  have hs : fnd q m (k + 1) = fnd q m k := by
    rw [fnd_succ]
    cases fnd q m k with
    | some i => rfl
    | none => simp [h]
  unfold oN oQ
  rw [hs]
  cases hf : fnd q m k with
  | none =>
    refine ⟨rfl, cellsOf_congr fun j hj => ?_⟩
    simp only [addP]
    split
    · rename_i e; rw [e]
    · rfl
  | some i =>
    have hi := (fnd_at hf).1
    by_cases hv : v.k = 0
    · simp only [hv, if_true]
      refine ⟨by omega, cellsOf_congr fun j hj => ?_⟩
      simp only [addP]
      split
      · rename_i e
        rw [e]; unfold rmv
        rw [if_neg (by omega), show k - 1 + 1 = k by omega]
      · rfl
    · simp only [hv, if_false]
      refine ⟨by first | rfl | trivial, cellsOf_congr fun j hj => ?_⟩
      simp only [addP]
      split
      · rename_i e
        rw [e]; unfold setV
        rw [if_neg (by omega)]
      · rfl
/-- the key's own pair is met -/
theorem o_same {q : Nat → PD} {m : Mk} {k : Nat} (v : VD) (h : mk (q k).key = m) (hl : ∀ j, j < k → mk (q j).key ≠ m) : fnd q m (k + 1) = some k ∧ oN q m v k = k ∧ (v.k = 0 → oN q m v (k + 1) = k ∧ cellsOf (oQ q m v k) k = cellsOf (oQ q m v (k + 1)) k) ∧ (v.k ≠ 0 → oN q m v (k + 1) = k + 1 ∧ cellsOf (addP (oQ q m v k) k ⟨(q k).key, v, (q k).turn⟩) (k + 1) = cellsOf (oQ q m v (k + 1)) (k + 1)) := by
  have hn := fnd_none hl
  have hs := fnd_some h hl (Nat.lt_succ_self k)
  unfold oN oQ
  rw [hs, hn]
  refine ⟨rfl, rfl, fun hv => ?_, fun hv => ?_⟩
  · simp only [hv, if_true]
    refine ⟨rfl, cellsOf_congr fun j hj => ?_⟩
    unfold rmv
    rw [if_pos hj]
  · simp only [hv, if_false]
    refine ⟨by first | rfl | trivial, cellsOf_congr fun j hj => ?_⟩
    simp only [addP, setV]

/-- a local that holds a table whose pairs lie in a row of one's own -/
structure XT (w : World) (O : Nat) (a : Option Addr) (n cap : Nat) (t : Int) (xs : List Value) : Prop where
  lt : O < w.heap.size
  c0 : w.cell? ⟨O, 0, none⟩ = some (.slice a n cap)
  c1 : w.cell? ⟨O, 1, none⟩ = some (.int .i64 t)
  fr : ∀ o, w.frozen? ⟨O, o, none⟩ = false
  own : w.ownsRow (O + 1) 123 11 (.slice a n cap) n xs
theorem XT.call {u w : World} {O : Nat} {a : Option Addr} {n cap : Nat} {t : Int} {xs : List Value} (h : XT u O a n cap t xs) (hb : Below u.heap.size u w) : XT w O a n cap t xs :=
  ⟨Nat.lt_of_lt_of_le h.lt hb.size, (hb.cell (p := ⟨O, 0, none⟩) h.lt).trans h.c0, (hb.cell (p := ⟨O, 1, none⟩) h.lt).trans h.c1, fun o => (hb.frozen (p := ⟨O, o, none⟩) h.lt).trans (h.fr o), own_below h.own hb⟩
theorem XT.alloc {w : World} {O : Nat} {a : Option Addr} {n cap : Nat} {t : Int} {xs : List Value} (h : XT w O a n cap t xs) (o : Obj) : XT (w.alloc o) O a n cap t xs := h.call (below_alloc w o)
theorem XT.set {w : World} {O : Nat} {a : Option Addr} {n cap : Nat} {t : Int} {xs : List Value} (h : XT w O a n cap t xs) {b : Nat} (hb : b ≠ O) (hr : ∀ g off sp, a = some ⟨g, off, sp⟩ → g ≠ b) (o : Nat) (v : Value) : XT (w.setCell ⟨b, o, none⟩ v) O a n cap t xs := by
  have hk : (w.setCell ⟨b, o, none⟩ v).heap[O]? = w.heap[O]? := Below.heap_setCell w ⟨b, o, none⟩ v O (fun e => hb e.symm)
  exact ⟨by have := h.lt; simpa using this, (World.cell?_of_block (a := ⟨O, 0, none⟩) hk).trans h.c0, (World.cell?_of_block (a := ⟨O, 1, none⟩) hk).trans h.c1, fun o => (World.frozen?_of_block (a := ⟨O, o, none⟩) hk).trans (h.fr o), own_set h.own hr o v⟩
theorem XT.grown {u w : World} {O : Nat} {a : Option Addr} {n cap : Nat} {t : Int} {xs : List Value} (h : XT u O a n cap t xs) {v' : Value} {n' : Nat} {xs' : List Value} (hg : u.grownBy w (Value.slice a n cap).ownBlock) (ho : w.ownsRow (O + 1) 123 11 v' n' xs') :
    ∃ a' cap', v' = .slice a' n' cap' ∧ w.cell? ⟨O, 0, none⟩ = some (.slice a n cap) ∧ w.frozen? ⟨O, 0, none⟩ = false ∧ XT (w.setCell ⟨O, 0, none⟩ (.slice a' n' cap')) O a' n' cap' t xs' := by
  obtain ⟨a', cap', rfl⟩ := own_form ho
  have hne : some O ≠ (Value.slice a n cap).ownBlock := fun e => by
    cases a with
    | none => cases e
    | some x =>
      obtain ⟨b, off, sp⟩ := x
      have := own_ge h.own b off sp rfl
      simp [Value.ownBlock] at e
      omega
  have X' : ∀ o', w.cell? ⟨O, o', none⟩ = u.cell? ⟨O, o', none⟩ := fun o' => hg.cell_far ⟨O, o', none⟩ h.lt hne
  have F' : ∀ o', w.frozen? ⟨O, o', none⟩ = u.frozen? ⟨O, o', none⟩ := fun o' => hg.frozen_far ⟨O, o', none⟩ h.lt hne
  have k0 := (X' 0).trans h.c0
  have k1 := (X' 1).trans h.c1
  refine ⟨a', cap', rfl, k0, (F' 0).trans (h.fr 0), by have := h.lt; have := hg.size; simp; omega, by simp [go_sem, k0], by simp [go_sem, k1], fun o => by simp [go_sem, (F' o).trans (h.fr o)], own_set ho (fun b off sp e => by have := own_ge ho b off sp e; omega) 0 _⟩
theorem XT.row_lo {u : World} {O : Nat} {a : Option Addr} {n cap : Nat} {t : Int} {xs : List Value} (h : XT u O a n cap t xs) : ∀ k, (Value.slice a n cap).ownBlock = some k → O ≤ k := fun k e => by
  cases a with
  | none => cases e
  | some x =>
    obtain ⟨b, off, sp⟩ := x
    have := own_ge h.own b off sp rfl
    simp [Value.ownBlock] at e
    omega

abbrev w4 (w : World) (a : Option Addr) (n cap : Nat) (t : Int) (y v : VD) : World := (((w.alloc (.cells #[.slice a n cap, .int .i64 t] 59)).alloc (.cells (vCs y) 42)).alloc (.cells (vCs v) 42)).alloc (.cells #[.slice none 0 0, .int .i64 0] 59)
/-- l2put under way -/
structure PG (W : World) (O : Nat) (a : Option Addr) (n cap : Nat) (t : Int) (xs : List Value) (u : World) : Prop where
  o : XT u O a n cap t xs
  b : Below O W u
  s : O = W.heap.size
theorem PG.call {W : World} {O : Nat} {a : Option Addr} {n cap : Nat} {t : Int} {xs : List Value} {u u' : World} (h : PG W O a n cap t xs u) (hb : Below u.heap.size u u') : PG W O a n cap t xs u' := ⟨h.o.call hb, h.b.trans (hb.mono (Nat.le_of_lt h.o.lt)), h.s⟩
theorem PG.alloc {W : World} {O : Nat} {a : Option Addr} {n cap : Nat} {t : Int} {xs : List Value} {u : World} (h : PG W O a n cap t xs u) (o : Obj) : PG W O a n cap t xs (u.alloc o) := h.call (below_alloc u o)
theorem PG.set {W : World} {O : Nat} {a : Option Addr} {n cap : Nat} {t : Int} {xs : List Value} {u : World} (h : PG W O a n cap t xs u) {b : Nat} (hb : O < b) (hr : ∀ g off sp, a = some ⟨g, off, sp⟩ → g ≠ b) (o : Nat) (v : Value) : PG W O a n cap t xs (u.setCell ⟨b, o, none⟩ v) :=
  ⟨h.o.set (by omega) hr o v, h.b.setCell (p := ⟨b, o, none⟩) (Nat.le_of_lt hb) v, h.s⟩
theorem PG.grown {W : World} {O : Nat} {a : Option Addr} {n cap : Nat} {t : Int} {xs : List Value} {u w : World} (h : PG W O a n cap t xs u) {v' : Value} {n' : Nat} {xs' : List Value} (hg : u.grownBy w (Value.slice a n cap).ownBlock) (ho : w.ownsRow (O + 1) 123 11 v' n' xs') :
    ∃ a' cap', v' = .slice a' n' cap' ∧ w.cell? ⟨O, 0, none⟩ = some (.slice a n cap) ∧ w.frozen? ⟨O, 0, none⟩ = false ∧ PG W O a' n' cap' t xs' (w.setCell ⟨O, 0, none⟩ (.slice a' n' cap')) := by
  obtain ⟨a', cap', e, k0, kf, hX⟩ := h.o.grown hg ho
  exact ⟨a', cap', e, k0, kf, hX, (h.b.grown hg (Nat.le_of_lt h.o.lt) h.o.row_lo).setCell (p := ⟨O, 0, none⟩) (Nat.le_refl _) _, h.s⟩

theorem PG.grown2 {W : World} {O : Nat} {a : Option Addr} {n cap : Nat} {t : Int} {xs : List Value} {u w : World} (h : PG W O a n cap t xs u) (hg : u.grownBy w (Value.slice a n cap).ownBlock) : Below O W w ∧ w.cell? ⟨O, 1, none⟩ = some (.int .i64 t) ∧ ∀ o, w.frozen? ⟨O, o, none⟩ = false := by
  have hne : some O ≠ (Value.slice a n cap).ownBlock := fun e => by
    cases a with
    | none => cases e
    | some x =>
      obtain ⟨b, off, sp⟩ := x
      have := own_ge h.o.own b off sp rfl
      simp [Value.ownBlock] at e
      omega
  exact ⟨h.b.grown hg (Nat.le_of_lt h.o.lt) h.o.row_lo, (hg.cell_far ⟨O, 1, none⟩ h.o.lt hne).trans h.o.c1, fun o => (hg.frozen_far ⟨O, o, none⟩ h.o.lt hne).trans (h.o.fr o)⟩
theorem PG.setT {W : World} {O : Nat} {a : Option Addr} {n cap : Nat} {t : Int} {xs : List Value} {u : World} (h : PG W O a n cap t xs u) (s : Int) : PG W O a n cap s xs (u.setCell ⟨O, 1, none⟩ (.int .i64 s)) :=
  ⟨⟨by have := h.o.lt; simpa using this, by simp [go_sem, h.o.c0], by simp [go_sem, h.o.c1], fun o => by simp [go_sem, h.o.fr o], own_set h.o.own (fun b off sp e => by have := own_ge h.o.own b off sp e; omega) 1 _⟩, h.b.setCell (p := ⟨O, 1, none⟩) (Nat.le_refl _) _, h.s⟩
theorem has_lower {u w : World} {B N : Nat} {A : Array Value} (h : Has u B A) (hB : B < N) (hb : Below N u w) : Has w B A := ⟨Nat.lt_of_lt_of_le h.1 hb.size, fun o => (hb.cell (p := ⟨B, o, none⟩) hB).trans (h.2 o)⟩
theorem w4_has (w : World) (a : Option Addr) (n cap : Nat) (t : Int) (y v : VD) : Has (w4 w a n cap t y v) (w.heap.size + 1) (vCs y) ∧ Has (w4 w a n cap t y v) (w.heap.size + 1 + 1) (vCs v) ∧ Has (w4 w a n cap t y v) (w.heap.size + 1 + 1 + 1) #[.slice none 0 0, .int .i64 0] ∧ Has (w4 w a n cap t y v) w.heap.size #[.slice a n cap, .int .i64 t] := by
  have h1 := ((Has.new (w.alloc (.cells #[.slice a n cap, .int .i64 t] 59)) (vCs y) 42).alloc (.cells (vCs v) 42)).alloc (.cells #[.slice none 0 0, .int .i64 0] 59)
  have h2 := (Has.new ((w.alloc (.cells #[.slice a n cap, .int .i64 t] 59)).alloc (.cells (vCs y) 42)) (vCs v) 42).alloc (.cells #[.slice none 0 0, .int .i64 0] 59)
  have h3 := Has.new (((w.alloc (.cells #[.slice a n cap, .int .i64 t] 59)).alloc (.cells (vCs y) 42)).alloc (.cells (vCs v) 42)) #[.slice none 0 0, .int .i64 0] 59
  have h0 := (((Has.new w #[.slice a n cap, .int .i64 t] 59).alloc (.cells (vCs y) 42)).alloc (.cells (vCs v) 42)).alloc (.cells #[.slice none 0 0, .int .i64 0] 59)
  simp only [World.size_alloc] at h1 h2 h3
  exact ⟨h1, h2, h3, h0⟩
theorem frz_new (W : World) (cs : Array Value) (T : TypeId) : ∀ o, (W.alloc (.cells cs T)).frozen? ⟨W.heap.size, o, none⟩ = false := fun o => by simp
theorem PG.new (W : World) (t : Int) (T : TypeId) : PG W W.heap.size none 0 0 t [] (W.alloc (.cells #[.slice none 0 0, .int .i64 t] T)) :=
  ⟨⟨by simp, by simp, by simp, fun o => by simp, World.ownsRow_nil _ _ _ _⟩, below_alloc _ _, rfl⟩

set_option maxRecDepth 100000 in
set_option maxHeartbeats 8000000 in
theorem l2put_calls (a : Option Addr) (n cap : Nat) (t : Int) (q : Nat → PD) (y v : VD) (w : World) (hq : ∀ i, i < n → (q i).wf) (hok : TabOk n t q) (hy : kOk y = true) (yf : y.f < 2 ^ 64) (ys : y.s.size ≤ maxLen) (hT : Tab w a n q) :
    Calls Try.prog 72 #[tOf a n cap t, y.v, v.v] w fun e w' => OwnT w.heap.size (putD n t q y v) e w' ∧ Below w.heap.size w w' := by
  have HT : Hid (Tab (w4 w a n cap t y v) a n q) := (((hT.alloc _).alloc _).alloc _).alloc _
  have hS : Hid (∀ i, i < n → ∀ w, Calls Try.prog 40 #[(q i).key.v, y.v] w fun e w' => e = .returned (.bool (decide (mk (q i).key = mk y))) ∧ Below w.heap.size w w') := fun i hi w => by
    rw [← same_mark (q i).key y (hq i hi).f1 yf (row_key (hok.row i hi)) hy]
    exact specSame_calls _ _ _ _ _ _ _ _ _ _ (hq i hi).s1 ys (hq i hi).f1 yf w
  have HK : Hid (∀ i j, j < i → i < n → mk (q j).key ≠ mk (q i).key) := hok.key
  have HV : Hid (∀ i, i < n → (q i).val.k ≠ 0) := fun i hi h => by have := hok.row i hi; simp [rowOkB, pOkB, h] at this
  have hn := hok.nn
  have ht0 := hok.t0
  clear hq hok hy yf ys hT
  go_enter Try.func72, Try.ntmps72
  go_wp2_with fail
  have HP : Hid (PG (w4 w a n cap t y v) (w.heap.size + 1 + 1 + 1 + 1) none 0 0 t (cellsOf (oQ q (mk y) v 0) (oN q (mk y) v 0)) ((w4 w a n cap t y v).alloc (.cells #[.slice none 0 0, .int .i64 t] 59))) := by
    have h := PG.new (w4 w a n cap t y v) t 59
    simp only [World.size_alloc] at h
    exact h
  have HW : Hid (Has (w4 w a n cap t y v) (w.heap.size + 1) (vCs y) ∧ Has (w4 w a n cap t y v) (w.heap.size + 1 + 1) (vCs v) ∧ Has (w4 w a n cap t y v) (w.heap.size + 1 + 1 + 1) #[.slice none 0 0, .int .i64 0] ∧ Has (w4 w a n cap t y v) w.heap.size #[.slice a n cap, .int .i64 t]) := w4_has w a n cap t y v
  have HB0 : Hid (Below w.heap.size w (w4 w a n cap t y v)) := below_a (below_alloc3 _ _ _ _) _
  have HF : Hid (∀ o, (w4 w a n cap t y v).frozen? ⟨w.heap.size + 1 + 1 + 1, o, none⟩ = false) := by
    have h := frz_new (((w.alloc (.cells #[.slice a n cap, .int .i64 t] 59)).alloc (.cells (vCs y) 42)).alloc (.cells (vCs v) 42)) #[.slice none 0 0, .int .i64 0] 59
    simp only [World.size_alloc] at h
    exact h
  obtain ⟨O, hO⟩ : ∃ O, w.heap.size + 1 + 1 + 1 + 1 = O := ⟨_, rfl⟩
  obtain ⟨W, hW⟩ : ∃ W, w4 w a n cap t y v = W := ⟨_, rfl⟩
  rw [hW] at HT HP HW HB0 HF
  rw [hO] at HP
  generalize hWW : (w4 w a n cap t y v) = WW at hW ⊢
  cases hW
  rw [hO]
  generalize hm : mk y = m at hS HP
  have Hm : Hid (mk y = m) := hm
  have HO : Hid (w.heap.size + 1 + 1 + 1 + 1 = O) := hO
  have HWW : Hid (w4 w a n cap t y v = W) := hWW
  clear hm hWW
  go_loopw [8, 17] (fun met i wr => ∃ (k : Nat) (a' : Option Addr) (cap' : Nat), k ≤ n ∧ met = .bool (fnd q m k).isSome ∧ i = .int .i64 k ∧ PG W O a' (oN q m v k) cap' t (cellsOf (oQ q m v k) (oN q m v k)) wr) (fun _ i _ => n - (intOf i).toNat)
  case atStart => exact ⟨0, none, 0, Nat.zero_le _, rfl, rfl, by have h := HP.out; rw [← HWW.out] at h ⊢; exact h⟩
  case round =>
    clear HP
    obtain ⟨k, a', cap', hk, rfl, rfl, hP⟩ := hrel
    have HP : Hid (PG W O a' (oN q m v k) cap' t (cellsOf (oQ q m v k) (oN q m v k)) wr) := hP
    clear hP
    by_cases hkn : k < n
    · have hSk := hS.out k hkn
      obtain ⟨b, off, rfl, hb, hc⟩ := HT.out (by omega)
      have hbO : b < O := by rw [HP.out.s]; exact hb
      have hc' : ∀ j, j < 11 → wr.cell? ⟨b, off + k * 11 + j, none⟩ = (pCells (q k))[j]? := fun j hj => (HP.out.b.cell (p := ⟨b, off + k * 11 + j, none⟩) hbO).trans (hc k hkn j hj)
      have d0 := hc' 0 (by omega)
      have d1 := hc' 1 (by omega)
      have d2 := hc' 2 (by omega)
      have d3 := hc' 3 (by omega)
      have d4 := hc' 4 (by omega)
      have d5 := hc' 5 (by omega)
      have d6 := hc' 6 (by omega)
      have d7 := hc' 7 (by omega)
      have d8 := hc' 8 (by omega)
      have d9 := hc' 9 (by omega)
      have d10 := hc' 10 (by omega)
      simp only [List.getElem?_toArray, List.getElem?_cons_zero, List.getElem?_cons_succ, Nat.add_zero] at d0 d1 d2 d3 d4 d5 d6 d7 d8 d9 d10
      clear hc hc'
      have hOs := HO.out
      have hKh := has_lower HW.out.1 (N := O) (by omega) HP.out.b
      have kl := hKh.lt
      have k0 := hKh.at 0
      have k1 := hKh.at 1
      have k2 := hKh.at 2
      have k3 := hKh.at 3
      have k4 := hKh.at 4
      simp only [List.getElem?_toArray, List.getElem?_cons_zero, List.getElem?_cons_succ] at k0 k1 k2 k3 k4
      have HSk : Hid _ := hSk
      clear hSk hKh hOs
      go_wp2_with fail
      refine (HSk.out _).mono ?_
      rintro e w2 ⟨rfl, hb2⟩
      have HP2 : Hid (PG W O a' (oN q m v k) cap' t (cellsOf (oQ q m v k) (oN q m v k)) w2) := (HP.out.alloc _).call hb2
      have hPh := (Has.new wr (pCells (q k)) 123).call hb2
      have pl := hPh.lt
      have pf : ∀ o, w2.frozen? ⟨wr.heap.size, o, none⟩ = false := fun o => by rw [(bcell hb2).2 _ _ (by simp)]; simp
      have hr : ∀ g off sp, a' = some ⟨g, off, sp⟩ → g ≠ wr.heap.size := fun g off sp e => Nat.ne_of_lt (own_lt HP.out.o.own e)
      have hOp : O < wr.heap.size := HP.out.o.lt
      have p0 := hPh.at 0
      have p1 := hPh.at 1
      have p2 := hPh.at 2
      have p3 := hPh.at 3
      have p4 := hPh.at 4
      have p5 := hPh.at 5
      have p6 := hPh.at 6
      have p7 := hPh.at 7
      have p8 := hPh.at 8
      have p9 := hPh.at 9
      have p10 := hPh.at 10
      simp only [List.getElem?_toArray, List.getElem?_cons_zero, List.getElem?_cons_succ] at p0 p1 p2 p3 p4 p5 p6 p7 p8 p9 p10
      have o0 := HP2.out.o.c0
      have ol := HP2.out.o.lt
      have hNk : oN q m v k ≤ 500 := Nat.le_trans (oN_le q m v k) (by omega)
      obtain ⟨i0, hi, hz0, hz1, hz2⟩ := info_parts infoPair
      have HR : Hid (∀ g off sp, a' = some ⟨g, off, sp⟩ → g ≠ wr.heap.size) := hr
      have HH : Hid (Has w2 wr.heap.size (pCells (q k))) := hPh
      clear d0 d1 d2 d3 d4 d5 d6 d7 d8 d9 d10 k0 k1 k2 k3 k4 kl hb2 hb hbO HSk HP hPh hr
      by_cases hmk : mk (q k).key = m
      · rw [decide_eq_true hmk]
        have Hos : Hid _ := o_same v hmk (fun j hj => by have := HK.out k j hj hkn; rw [hmk] at this; exact this)
        clear hmk
        have hOs := HO.out
        have hVh := has_lower HW.out.2.1 (N := O) (by omega) HP2.out.b
        have v0 := hVh.at 0
        have v1 := hVh.at 1
        have v2 := hVh.at 2
        have v3 := hVh.at 3
        have v4 := hVh.at 4
        simp only [List.getElem?_toArray, List.getElem?_cons_zero, List.getElem?_cons_succ] at v0 v1 v2 v3 v4
        clear hOs hVh
        have HP3 : Hid (PG W O a' (oN q m v k) cap' t (cellsOf (oQ q m v k) (oN q m v k)) (((((w2.setCell ⟨wr.heap.size, 5, none⟩ (.int .i64 v.k)).setCell ⟨wr.heap.size, 6, none⟩ (.int .i64 v.n)).setCell ⟨wr.heap.size, 7, none⟩ (.float .f64 v.f)).setCell ⟨wr.heap.size, 8, none⟩ (.string v.s)).setCell ⟨wr.heap.size, 9, none⟩ (.int .i64 v.r))) := ((((HP2.out.set hOp HR.out _ _).set hOp HR.out _ _).set hOp HR.out _ _).set hOp HR.out _ _).set hOp HR.out _ _
        by_cases hv : v.k = 0
        · rw [hv] at HP3
          go_wp2_with fail
          go_roundw
          case rel => exact ⟨k + 1, a', cap', by omega, by rw [Hos.out.1]; rfl, by go_num, by rw [(Hos.out.2.2.1 hv).1, ← (Hos.out.2.2.1 hv).2]; have h := HP3.out; rw [Hos.out.2.1] at h; exact h⟩
          case measure => simp [intOf]; omega
        · have o3 := HP3.out.o.c0
          have hnew : Hid (∀ o, ((((((w2.setCell ⟨wr.heap.size, 5, none⟩ (.int .i64 v.k)).setCell ⟨wr.heap.size, 6, none⟩ (.int .i64 v.n)).setCell ⟨wr.heap.size, 7, none⟩ (.float .f64 v.f)).setCell ⟨wr.heap.size, 8, none⟩ (.string v.s)).setCell ⟨wr.heap.size, 9, none⟩ (.int .i64 v.r)).alloc o).heap[w2.heap.size]? = some o) := fun o => by
            have h := heap_alloc_new (((((w2.setCell ⟨wr.heap.size, 5, none⟩ (.int .i64 v.k)).setCell ⟨wr.heap.size, 6, none⟩ (.int .i64 v.n)).setCell ⟨wr.heap.size, 7, none⟩ (.float .f64 v.f)).setCell ⟨wr.heap.size, 8, none⟩ (.string v.s)).setCell ⟨wr.heap.size, 9, none⟩ (.int .i64 v.r)) o
            simpa using h
          go_wp2_with (at_builtin; refine wpList_append_own _ rfl _ _ 57 rfl (O + 1) 123 i0 _ 11 104 Try.underlying57 hi hz0 hz1 hz2 rfl (by decide) (.slice a' (oN q m v k) cap') (oN q m v k) (cellsOf (oQ q m v k) (oN q m v k)) rfl (HP3.out.alloc _).o.own ⟨w2.heap.size, 0, none⟩ 1 1 (pCells ⟨(q k).key, v, (q k).turn⟩).toList rfl rfl (World.news_of_block (cs := pCells ⟨(q k).key, v, (q k).turn⟩) (t := 123) (fr := (0, 0)) (by exact hnew.out _)) (by simp [Value.oneCell']) (by unfold maxLen; omega) (by omega) (by simp; have := HP2.out.o.lt; omega) ?_; intro v' w7 hown hgrow _; obtain ⟨a2, cap2, rfl, c02, f02, hPn⟩ := (HP3.out.alloc _).grown hgrow hown; have HPn : Hid (PG W O a2 (oN q m v k + 1) cap2 t (cellsOf (oQ q m v k) (oN q m v k) ++ (pCells ⟨(q k).key, v, (q k).turn⟩).toList) (w7.setCell ⟨O, 0, none⟩ (.slice a2 (oN q m v k + 1) cap2))) := hPn; clear hPn hown hgrow)
          go_roundw
          case rel => exact ⟨k + 1, a2, cap2, by omega, by rw [Hos.out.1]; rfl, by go_num, by rw [(Hos.out.2.2.2 hv).1, ← (Hos.out.2.2.2 hv).2, ← cells_add]; have h := HPn.out; rw [Hos.out.2.1] at h; rw [Hos.out.2.1]; exact h⟩
          case measure => simp [intOf]; omega
      · rw [decide_eq_false hmk]
        have hvk := HV.out k hkn
        have HoO : Hid _ := o_other v hmk
        have Hfs : Hid (fnd q m (k + 1) = fnd q m k) := by
          show fnd q m (k + 1) = fnd q m k
          rw [fnd_succ]
          cases fnd q m k with
          | some i => rfl
          | none => simp [hmk]
        clear hmk
        go_wp2_with (at_builtin; refine wpList_append_own _ rfl _ _ 57 rfl (O + 1) 123 i0 _ 11 104 Try.underlying57 hi hz0 hz1 hz2 rfl (by decide) (.slice a' (oN q m v k) cap') (oN q m v k) (cellsOf (oQ q m v k) (oN q m v k)) rfl (HP2.out.alloc _).o.own ⟨w2.heap.size, 0, none⟩ 1 1 (pCells (q k)).toList rfl rfl (World.news_of_block (cs := pCells (q k)) (t := 123) (fr := (0, 0)) (by exact heap_alloc_new w2 _)) (by simp [Value.oneCell']) (by unfold maxLen; omega) (by omega) (by simp; have := HP2.out.o.lt; omega) ?_; intro v' w7 hown hgrow _; obtain ⟨a2, cap2, rfl, c02, f02, hPn⟩ := (HP2.out.alloc _).grown hgrow hown; have HPn : Hid (PG W O a2 (oN q m v k + 1) cap2 t (cellsOf (oQ q m v k) (oN q m v k) ++ (pCells (q k)).toList) (w7.setCell ⟨O, 0, none⟩ (.slice a2 (oN q m v k + 1) cap2))) := hPn; clear hPn hown hgrow)
        go_roundw
        case rel => exact ⟨k + 1, a2, cap2, by omega, by rw [Hfs.out], by go_num, by rw [HoO.out.1, ← HoO.out.2, ← cells_add]; exact HPn.out⟩
        case measure => simp [intOf]; omega
    · have : k = n := by omega
      subst this
      have hOs := HO.out
      have hVh := has_lower HW.out.2.1 (N := O) (by omega) HP.out.b
      have hRh := has_lower HW.out.2.2.1 (N := O) (by omega) HP.out.b
      have hTh := has_lower HW.out.2.2.2 (N := O) (by omega) HP.out.b
      have hKh := has_lower HW.out.1 (N := O) (by omega) HP.out.b
      have rf : ∀ o, wr.frozen? ⟨w.heap.size + 1 + 1 + 1, o, none⟩ = false := fun o => (HP.out.b.frozen (p := ⟨w.heap.size + 1 + 1 + 1, o, none⟩) (show w.heap.size + 1 + 1 + 1 < O by omega)).trans (HF.out o)
      have v0 := hVh.at 0
      have v1 := hVh.at 1
      have v2 := hVh.at 2
      have v3 := hVh.at 3
      have v4 := hVh.at 4
      have k0 := hKh.at 0
      have k1 := hKh.at 1
      have k2 := hKh.at 2
      have k3 := hKh.at 3
      have k4 := hKh.at 4
      have x0 := hTh.at 0
      have x1 := hTh.at 1
      have r0 := hRh.at 0
      have r1 := hRh.at 1
      simp only [List.getElem?_toArray, List.getElem?_cons_zero, List.getElem?_cons_succ] at v0 v1 v2 v3 v4 k0 k1 k2 k3 k4 x0 x1 r0 r1
      have rl := hRh.lt
      have o0 := HP.out.o.c0
      have o1 := HP.out.o.c1
      have of := HP.out.o.fr
      have ol := HP.out.o.lt
      have HBw : Hid (Below w.heap.size w wr) := HB0.out.trans (HP.out.b.mono (by omega))
      have HRn : Hid (∀ g off sp, a' = some ⟨g, off, sp⟩ → g ≠ w.heap.size + 1 + 1 + 1) := fun g off sp e => by have := own_ge HP.out.o.own g off sp e; omega
      have p2 : w.heap.size ≤ w.heap.size + 1 + 1 + 1 := Nat.le_add_right _ 3
      have nO : O ≠ w.heap.size + 1 + 1 + 1 := by omega
      have nO' : w.heap.size + 1 + 1 + 1 ≠ O := by omega
      have HE : Hid (∀ D : TD, D.n = oN q m v k → D.t = t → D.q = oQ q m v k → putD k t q y v = D → OwnT w.heap.size (putD k t q y v) (.returned (tOf a' (oN q m v k) cap' t)) ((wr.setCell ⟨w.heap.size + 1 + 1 + 1, 0, none⟩ (.slice a' (oN q m v k) cap')).setCell ⟨w.heap.size + 1 + 1 + 1, 1, none⟩ (.int .i64 t))) := fun D h1 h2 h3 h4 => by
        rw [h4]
        refine ⟨a', cap', by rw [h1, h2], ?_⟩
        rw [h1, h3]
        exact own_mono (own_set (own_set HP.out.o.own HRn.out _ _) HRn.out _ _) (by omega)
      clear hVh hRh hTh hKh hOs
      cases hf : fnd q m k with
      | some i =>
        have HEE : Hid _ := HE.out ⟨oN q m v k, t, oQ q m v k⟩ rfl rfl rfl (by unfold putD oN oQ; rw [Hm.out, hf]; by_cases hv : v.k = 0 <;> simp [hv])
        clear hf HE
        go_wp2_with fail
        exact bodyPost_ret (v := tOf a' (oN q m v k) cap' t) (by simp [results, Try.results72, go_sem, r0, r1]) rfl ⟨HEE.out, st1 (st1 HBw.out p2 _) p2 _⟩
      | none =>
        by_cases hv : v.k = 0
        · have HEE : Hid _ := HE.out ⟨oN q m v k, t, oQ q m v k⟩ rfl rfl rfl (by unfold putD oN oQ; rw [Hm.out, hf]; simp [hv])
          clear hf HE
          go_wp2_with fail
          exact bodyPost_ret (v := tOf a' (oN q m v k) cap' t) (by simp [results, Try.results72, go_sem, r0, r1]) rfl ⟨HEE.out, st1 (st1 HBw.out p2 _) p2 _⟩
        by_cases hn5 : k < 500
        · have hn6 : (k : Int) < 500 := by omega
          by_cases ht : t < 1000000000000
          · have HP3 : Hid (PG W O a' (oN q m v k) cap' (t + 1) (cellsOf (oQ q m v k) (oN q m v k)) (wr.setCell ⟨O, 1, none⟩ (.int .i64 (t + 1)))) := HP.out.setT (t + 1)
            have hnew : Hid (∀ o, ((wr.setCell ⟨O, 1, none⟩ (.int .i64 (t + 1))).alloc o).heap[wr.heap.size]? = some o) := fun o => by
              have h := heap_alloc_new (wr.setCell ⟨O, 1, none⟩ (.int .i64 (t + 1))) o
              simpa using h
            have hRO : w.heap.size + 1 + 1 + 1 < O := by have := HO.out; omega
            have hNk : oN q m v k ≤ 500 := Nat.le_trans (oN_le q m v k) (by omega)
            obtain ⟨i0, hi, hz0, hz1, hz2⟩ := info_parts infoPair
            have HN : Hid (oN q m v k = k ∧ oQ q m v k = q ∧ putD k t q y v = ⟨k + 1, t + 1, addP q k ⟨y, v, t + 1⟩⟩) := ⟨by unfold oN; rw [hf], by unfold oQ; rw [hf], by unfold putD; rw [Hm.out, hf]; simp [hv, hn5, ht]⟩
            clear hf HE
            go_wp2_with (at_builtin; refine wpList_append_own _ rfl _ _ 57 rfl (O + 1) 123 i0 _ 11 104 Try.underlying57 hi hz0 hz1 hz2 rfl (by decide) (.slice a' (oN q m v k) cap') (oN q m v k) (cellsOf (oQ q m v k) (oN q m v k)) rfl (HP3.out.alloc _).o.own ⟨wr.heap.size, 0, none⟩ 1 1 (pCells ⟨y, v, t + 1⟩).toList rfl rfl (World.news_of_block (cs := pCells ⟨y, v, t + 1⟩) (t := 123) (fr := (0, 0)) (by exact hnew.out _)) (by simp [Value.oneCell']) (by unfold maxLen; omega) (by omega) (by simp; have := HP.out.o.lt; omega) ?_; intro v' w7 hown hgrow _; obtain ⟨b7, c17, f17⟩ := (HP3.out.alloc _).grown2 hgrow; obtain ⟨a2, cap2, rfl, c02, f02, hPn⟩ := (HP3.out.alloc _).grown hgrow hown; have HPn : Hid (PG W O a2 (oN q m v k + 1) cap2 (t + 1) (cellsOf (oQ q m v k) (oN q m v k) ++ (pCells ⟨y, v, t + 1⟩).toList) (w7.setCell ⟨O, 0, none⟩ (.slice a2 (oN q m v k + 1) cap2))) := hPn; have R0 := (has_lower HW.out.2.2.1 (N := O) hRO b7).at 0; have R1 := (has_lower HW.out.2.2.1 (N := O) hRO b7).at 1; have RF : ∀ o, w7.frozen? ⟨w.heap.size + 1 + 1 + 1, o, none⟩ = false := (fun o => (b7.frozen (p := ⟨w.heap.size + 1 + 1 + 1, o, none⟩) hRO).trans (HF.out o)); simp only [List.getElem?_toArray, List.getElem?_cons_zero, List.getElem?_cons_succ] at R0 R1; clear hPn hown hgrow b7)
            have HRm : ∀ g off sp, a2 = some ⟨g, off, sp⟩ → g ≠ w.heap.size + 1 + 1 + 1 := fun g off sp e => by have := own_ge HPn.out.o.own g off sp e; omega
            exact bodyPost_ret (v := tOf a2 (oN q m v k + 1) cap2 (t + 1)) (by simp [results, Try.results72, go_sem, R0, R1]) rfl ⟨⟨a2, cap2, by rw [HN.out.2.2, HN.out.1], by
              have h := own_mono (M := w.heap.size) (own_set (own_set HPn.out.o.own HRm 0 (.slice a2 (oN q m v k + 1) cap2)) HRm 1 (.int .i64 (t + 1))) (by omega)
              rw [HN.out.2.1, HN.out.1] at h
              rw [HN.out.2.2, HN.out.1]
              show World.ownsRow _ w.heap.size 123 11 (.slice a2 (k + 1) cap2) (k + 1) (cellsOf (addP q k ⟨y, v, t + 1⟩) (k + 1))
              rw [← cells_add]
              exact h⟩, st1 (st1 (HB0.out.trans (HPn.out.b.mono (by omega))) p2 _) p2 _⟩
          · have HEE : Hid _ := HE.out ⟨oN q m v k, t, oQ q m v k⟩ rfl rfl rfl (by unfold putD oN oQ; rw [Hm.out, hf]; simp [hv, ht])
            clear hf HE
            go_wp2_with fail
            exact bodyPost_ret (v := tOf a' (oN q m v k) cap' t) (by simp [results, Try.results72, go_sem, r0, r1]) rfl ⟨HEE.out, st1 (st1 HBw.out p2 _) p2 _⟩
        · have hn6 : ¬ (k : Int) < 500 := by omega
          have HEE : Hid _ := HE.out ⟨oN q m v k, t, oQ q m v k⟩ rfl rfl rfl (by unfold putD oN oQ; rw [Hm.out, hf]; simp [hv, hn5])
          clear hf HE
          go_wp2_with fail
          exact bodyPost_ret (v := tOf a' (oN q m v k) cap' t) (by simp [results, Try.results72, go_sem, r0, r1]) rfl ⟨HEE.out, st1 (st1 HBw.out p2 _) p2 _⟩
end Go.Proofs.Ytiidepafifodjaa
