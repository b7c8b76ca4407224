import Derived.Test.YtiidepafifodjabGreatPlain
import Derived.Deep.RegionWith
import Derived.Deep.RegionHeld3
import Derived.Deep.DrawnRows
/-! What a local holds, carried over calls. -/
namespace Go.Proofs.YtiidepafifodjabGreat
open Go.RowKit

/-- block B of the world holds these cells -/
def Has (w : World) (B : Nat) (A : Array Value) : Prop := B < w.heap.size ∧ ∀ o, w.cell? ⟨B, o, none⟩ = A[o]?

theorem Has.lt {w : World} {B : Nat} {A : Array Value} (h : Has w B A) : B < w.heap.size := h.1
theorem Has.at {w : World} {B : Nat} {A : Array Value} (h : Has w B A) : ∀ o, w.cell? ⟨B, o, none⟩ = A[o]? := h.2
theorem Has.call {u w : World} {B : Nat} {A : Array Value} (h : Has u B A) (hb : Below u.heap.size u w) : Has w B A :=
  ⟨Nat.lt_of_lt_of_le h.1 hb.size, fun o => (hb.cell (p := ⟨B, o, none⟩) h.1).trans (h.2 o)⟩
theorem Has.new (w : World) (A : Array Value) (t : TypeId) : Has (w.alloc (.cells A t)) w.heap.size A :=
  ⟨by simp, fun o => World.cell?_alloc_new w A t o⟩
theorem Has.alloc {w : World} {B : Nat} {A : Array Value} (h : Has w B A) (o : Obj) : Has (w.alloc o) B A :=
  ⟨by have := h.1; simp; omega, fun i => (World.cell?_alloc_lt w o ⟨B, i, none⟩ h.1).trans (h.2 i)⟩
theorem Has.drew {w : World} {B : Nat} {A : Array Value} (h : Has w B A) : Has w.drew B A := h
theorem Has.next {u w : World} {B : Nat} {A : Array Value} {o : Obj} (h : Has u B A) (hb : Below (u.alloc o).heap.size (u.alloc o) w) : Has w B A := (h.alloc o).call hb
theorem Has.made {u w : World} {A : Array Value} {t : TypeId} (hb : Below (u.alloc (.cells A t)).heap.size (u.alloc (.cells A t)) w) : Has w u.heap.size A := (Has.new u A t).call hb
end Go.Proofs.YtiidepafifodjabGreat

/-! Units: the laws' own size, of fns and units. -/
namespace Go.Proofs.YtiidepafifodjabGreat
open Go.RowKit
attribute [local go_sem] run_store_float

/-- a cell of a block that is held -/
theorem Has.cell {w : World} {B : Nat} {A : Array Value} (h : Has w B A) (j : Nat) {v : Value} (e : A[j]? = some v) : w.cell? ⟨B, j, none⟩ = some v := (h.at j).trans e

set_option maxRecDepth 100000 in
set_option maxHeartbeats 2000000 in
theorem szFn_calls (L : Nat) (d : FD) (x : FA) (left : Int) (w : World) (h0 : 0 ≤ left) (h1 : left ≤ 1048576) (hd : d.wf) (hT : FnAt L w d x) :
    Calls Tryz.prog 76 #[fnV d x, .int .i64 left] w fun e w' => (∃ v : Int, e = .returned (.int .i64 v) ∧ SzSays left v d.sm) ∧ Below w.heap.size w w' := by
  have hW : Hid d.wf := hd
  have hs := hd.name
  unfold maxLen at hs
  clear hd
  have HT : Hid (FnAt L w d x) := hT
  clear hT
  by_cases c1 : left < d.name.size
  · go_enter Tryz.func76, Tryz.ntmps76
    go_wp2_with fail
    go_ret
    exact ⟨⟨_, rfl, .inl rfl⟩, below_alloc _ _⟩
  · go_enter Tryz.func76, Tryz.ntmps76
    go_wp2_with fail
    refine (szStringS_calls L _ _ _ d.v _ _ (by omega) (by omega) hW.out.vn hW.out.v (HT.out.alloc _).1).mono ?_
    rintro e w2 ⟨⟨v, rfl, hv⟩, hb2⟩
    have hB : Hid (Below w.heap.size w w2) := below_call (below_alloc _ _) hb2
    have hH : Hid (Has w2 w.heap.size (fnC d x)) := Has.made hb2
    replace HT : Hid (FnAt L w2 d x) := HT.out.below hB.out
    clear hb2
    rcases hv with rfl | ⟨v0, v1, v2⟩
    · go_wp2_with fail
      go_ret
      exact ⟨⟨_, rfl, .inl rfl⟩, hB.out⟩
    · have HV : Hid (d.vn ≤ 1048576 ∧ ∀ i, i < d.vn → (d.v i).size ≤ 1048576) := v2
      clear v2
      have hc := hH.out.cell 5 rfl
      go_wp2_with fail
      refine (szUpS_calls _ _ _ _ _ (by omega) (by omega) hW.out.un).mono ?_
      rintro e w3 ⟨⟨u, rfl, hu⟩, hb3⟩
      replace hB : Hid (Below w.heap.size w w3) := below_call hB.out hb3
      replace hH : Hid (Has w3 w.heap.size (fnC d x)) := hH.out.call hb3
      replace HT : Hid (FnAt L w3 d x) := HT.out.below hb3
      clear hb3 hc
      rcases hu with rfl | ⟨u0, u1, u2⟩
      · go_wp2_with fail
        go_ret
        exact ⟨⟨_, rfl, .inl rfl⟩, hB.out⟩
      · have hc := hH.out.cell 6 rfl
        go_wp2_with fail
        refine (szNodeS_calls L _ _ _ d.nd x.nas _ _ (by omega) (by omega) hW.out.nn hW.out.nd HT.out.2.2.1).mono ?_
        rintro e w4 ⟨⟨t, rfl, ht⟩, hb4⟩
        replace hB : Hid (Below w.heap.size w w4) := below_call hB.out hb4
        clear hb4 hc
        rcases ht with rfl | ⟨t0, t1, t2⟩
        · go_wp2_with fail
          go_ret
          exact ⟨⟨_, rfl, .inl rfl⟩, hB.out⟩
        · have HN : Hid (d.nn ≤ 1048576 ∧ ∀ i, i < d.nn → (d.nd i).sm) := t2
          clear t2
          go_wp2_with fail
          go_ret
          exact ⟨⟨_, rfl, .inr ⟨by omega, by omega, ⟨by omega, HV.out.1, HV.out.2, u2, HN.out.1, HN.out.2⟩⟩⟩, hB.out⟩

set_option maxRecDepth 100000 in
set_option maxHeartbeats 4000000 in
theorem szFnS_calls (L : Nat) (a : Option Addr) (n cap : Nat) (q : Nat → FD) (x : Nat → FA) (left : Int) (w : World) (h0 : 0 ≤ left) (h1 : left ≤ 1048576) (hn : n ≤ maxLen) (hq : ∀ i, i < n → (q i).wf) (hT : FnsAt L w n q a x) :
    Calls Tryz.prog 31 #[.slice a n cap, .int .i64 left] w fun e w' => (∃ v : Int, e = .returned (.int .i64 v) ∧ SzSays left v (n ≤ 1048576 ∧ ∀ i, i < n → (q i).sm)) ∧ Below w.heap.size w w' := by
  have hQ : Hid (∀ i, i < n → (q i).wf) := hq
  have HT : Hid (FnsAt L w n q a x) := hT
  clear hq hT
  unfold maxLen at hn
  by_cases c : left < n
  · go_enter Tryz.func31, Tryz.ntmps31
    go_wp2_with fail
    go_ret
    exact ⟨⟨_, rfl, .inl rfl⟩, Below.refl _ _⟩
  · go_enter Tryz.func31, Tryz.ntmps31
    go_wp2_with fail
    go_loopw [1, 5] (fun l i wr => ∃ (k : Nat) (u : Int), k ≤ n ∧ i = .int .i64 k ∧ l = .int .i64 u ∧ 0 ≤ u ∧ u ≤ left ∧ Hid (∀ j, j < k → (q j).sm) ∧ Below w.heap.size w wr) (fun _ i _ => n - (intOf i).toNat)
    case atStart => exact ⟨0, _, Nat.zero_le _, rfl, rfl, by omega, by omega, fun j hj => by omega, Below.refl _ _⟩
    case round =>
      obtain ⟨k, u, hk, rfl, rfl, u0, u1, HS, hB⟩ := hrel
      by_cases hkn : k < n
      · obtain ⟨b, off, rfl, _, hb, d0, d1, d2, d3, d4, d5, d6⟩ := cells7 (HT.out.1.below hB) hkn
        go_wp2_with fail
        refine (szFn_calls L (q k) (x k) u wr u0 (by omega) (hQ.out k hkn) ((HT.out.below hB).2 k hkn)).mono ?_
        rintro e w2 ⟨⟨v, rfl, hv⟩, hb2⟩
        replace hB := below_call hB hb2
        clear d0 d1 d2 d3 d4 d5 d6 hb2
        rcases hv with rfl | ⟨v0, v1, v2⟩
        · go_wp2_with fail
          go_ret
          exact ⟨⟨_, rfl, .inl rfl⟩, hB⟩
        · have HV : Hid (q k).sm := v2
          clear v2
          go_wp2_with fail
          go_roundw
          case rel => exact ⟨k + 1, v, by omega, by go_num, rfl, v0, by omega, fun j hj => by
            by_cases e : j = k
            · subst e; exact HV.out
            · exact HS.out j (by omega), hB⟩
          case measure => simp [intOf]; omega
      · go_wp2_with fail
        go_ret
        exact ⟨⟨_, rfl, .inr ⟨by omega, by omega, by omega, fun i hi => HS.out i (by omega)⟩⟩, hB⟩

set_option maxRecDepth 100000 in
set_option maxHeartbeats 4000000 in
theorem szUnit_calls (L : Nat) (d : UD) (a : Option Addr) (cap : Nat) (x : Nat → FA) (left : Int) (w : World) (h0 : 0 ≤ left) (h1 : left ≤ 1048576) (hd : d.wf) (hT : FnsAt L w d.n d.fn a x) :
    Calls Tryz.prog 7 #[unV d a cap, .int .i64 left] w fun e w' => (∃ v : Int, e = .returned (.int .i64 v) ∧ SzSays left v d.sm) ∧ Below w.heap.size w w' := by
  have hW : Hid d.wf := hd
  have HT : Hid (FnsAt L w d.n d.fn a x) := hT
  clear hd hT
  go_enter Tryz.func7, Tryz.ntmps7
  go_wp2_with fail
  refine (szFnS_calls L a d.n cap d.fn x left _ h0 h1 hW.out.n hW.out.fn (by first | exact HT.out | exact HT.out.alloc _)).mono ?_
  rintro e w2 ⟨⟨v, rfl, hv⟩, hb2⟩
  have hB : Hid (Below w.heap.size w w2) := by first | exact below_call (below_alloc _ _) hb2 | exact hb2
  clear hb2
  rcases hv with rfl | ⟨v0, v1, v2⟩
  · go_wp2_with fail
    go_ret
    exact ⟨⟨_, rfl, .inl rfl⟩, hB.out⟩
  · have HV : Hid (d.n ≤ 1048576 ∧ ∀ i, i < d.n → (d.fn i).sm) := v2
    clear v2
    go_wp2_with fail
    go_ret
    exact ⟨⟨_, rfl, .inr ⟨v0, v1, ⟨HV.out.1, HV.out.2⟩⟩⟩, hB.out⟩
end Go.Proofs.YtiidepafifodjabGreat

/-! The specification's check of a unit: kinds, kids, fields. -/
namespace Go.Proofs.YtiidepafifodjabGreat
open Go.RowKit
attribute [local go_sem] run_store_float
attribute [local go_sem ↓] Go.wp_at_zero Go.wp_at_succ

def stK (k : Int) : Bool := decide (1 ≤ k) && decide (k ≤ 14)
def exK (k : Int) : Bool := decide (20 ≤ k) && decide (k ≤ 38)
def tgK (k : Int) : Bool := k == 26 || k == 27 || k == 33
def mnK (k : Int) : Bool := k == 34 || k == 37
/-- the kind of kid i of a node; 0 when it is not ahead of it -/
def kidK (nd : Nat → ND) (m i : Nat) : Int := if i < (nd m).kn then (if 0 ≤ (nd m).c i ∧ (nd m).c i < m then (nd ((nd m).c i).toNat).k else 0) else 0
/-- all from lo to below hi -/
def allB (p : Nat → Bool) (lo hi : Nat) : Bool := decide (∀ i, i < hi → lo ≤ i → p i = true)
theorem allB_true {p : Nat → Bool} {lo hi : Nat} : allB p lo hi = true ↔ ∀ i, lo ≤ i → i < hi → p i = true := by
  unfold allB
  rw [decide_eq_true_iff]
  exact ⟨fun h i a b => h i b a, fun h i a b => h i b a⟩
theorem allB_none {p : Nat → Bool} {lo hi : Nat} (h : hi ≤ lo) : allB p lo hi = true := allB_true.2 fun i a b => by omega
theorem allB_no {p : Nat → Bool} {lo hi k : Nat} (h1 : lo ≤ k) (h2 : k < hi) (h : p k = false) : allB p lo hi = false := by
  cases e : allB p lo hi
  · rfl
  · rw [allB_true.1 e k h1 h2] at h; cases h
def exsB (nd : Nat → ND) (m lo hi : Nat) : Bool := allB (fun i => exK (kidK nd m i)) lo hi
/-- the fields that are not allowed are empty -/
def bareG (o' n' : Int) (f' : Nat) (s' : ByteArray) (rn : Nat) (o n f s : Bool) (r : Int) : Bool := (o || o' == 0) && (n || n' == 0) && (f || fz f') && (s || se s') && ((rn : Int) == r)
def bareB (d : ND) (o n f s : Bool) (r : Int) : Bool := bareG d.o d.n d.f d.s d.rn o n f s r

set_option maxRecDepth 100000 in
set_option maxHeartbeats 2000000 in
theorem l3stat_calls (k : Int) (w : World) : Calls Tryz.prog 43 #[.int .i64 k] w fun e w' => e = .returned (.bool (stK k)) ∧ w' = w := by
  go_enter Tryz.func43, Tryz.ntmps43
  go_wp2_with fail
  all_goals go_ret
  all_goals exact ⟨by simp [stK, *] <;> omega, rfl⟩

set_option maxRecDepth 100000 in
set_option maxHeartbeats 2000000 in
theorem l3expr_calls (k : Int) (w : World) : Calls Tryz.prog 235 #[.int .i64 k] w fun e w' => e = .returned (.bool (exK k)) ∧ w' = w := by
  go_enter Tryz.func235, Tryz.ntmps235
  go_wp2_with fail
  all_goals go_ret
  all_goals exact ⟨by simp [exK, *] <;> omega, rfl⟩

set_option maxRecDepth 100000 in
set_option maxHeartbeats 2000000 in
theorem l3target_calls (k : Int) (w : World) : Calls Tryz.prog 203 #[.int .i64 k] w fun e w' => e = .returned (.bool (tgK k)) ∧ w' = w := by
  go_enter Tryz.func203, Tryz.ntmps203
  go_wp2_with fail
  all_goals go_ret
  all_goals exact ⟨by simp [tgK, *], rfl⟩

set_option maxRecDepth 100000 in
set_option maxHeartbeats 2000000 in
theorem l3many_calls (k : Int) (w : World) : Calls Tryz.prog 204 #[.int .i64 k] w fun e w' => e = .returned (.bool (mnK k)) ∧ w' = w := by
  go_enter Tryz.func204, Tryz.ntmps204
  go_wp2_with fail
  all_goals go_ret
  all_goals exact ⟨by simp [mnK, *], rfl⟩

set_option maxRecDepth 100000 in
set_option maxHeartbeats 4000000 in
theorem l3kid_calls (L : Nat) (n : Nat) (nd : Nat → ND) (a : Option Addr) (cap : Nat) (nas : Nat → NA) (m i : Nat) (w : World) (hm : m < n) (hT : NodesAt L w n nd a nas) :
    Calls Tryz.prog 200 #[.slice a n cap, .int .i64 m, .int .i64 i] w fun e w' => e = .returned (.int .i64 (kidK nd m i)) ∧ w' = w := by
  have HT : Hid (NodesAt L w n nd a nas) := hT
  clear hT
  obtain ⟨b, off, rfl, _, hb, d0, d1, d2, d3, d4, d5, d6, d7⟩ := cells8 HT.out.1 hm
  clear d0 d1 d2 d3 d4 d5 d6
  by_cases c1 : i < (nd m).kn
  · obtain ⟨b', off', e0, _, hb', g0⟩ := cells1 (HT.out.2 m hm).2 c1
    rw [e0] at d7
    by_cases c2 : 0 ≤ (nd m).c i
    · by_cases c3 : (nd m).c i < m
      · obtain ⟨k, hk'⟩ : ∃ k : Nat, (nd m).c i = k := ⟨((nd m).c i).toNat, by omega⟩
        rw [hk'] at g0 c2 c3
        obtain ⟨b2, off2, e2, _, _, f0, _⟩ := cells8 HT.out.1 (show k < n by omega)
        obtain ⟨rfl, rfl⟩ : b2 = b ∧ off2 = off := by simpa [eq_comm] using e2
        have hv : kidK nd m i = (nd k).k := by unfold kidK; rw [if_pos c1, if_pos (by omega), hk']; simp
        rw [hv]
        clear hv e2
        go_enter Tryz.func200, Tryz.ntmps200
        go_wp2_with fail
        go_ret
        exact ⟨rfl, rfl⟩
      · have hv : kidK nd m i = 0 := by unfold kidK; rw [if_pos c1, if_neg (by omega)]
        rw [hv]
        clear hv
        go_enter Tryz.func200, Tryz.ntmps200
        go_wp2_with fail
        go_ret
        exact ⟨rfl, rfl⟩
    · have hv : kidK nd m i = 0 := by unfold kidK; rw [if_pos c1, if_neg (by omega)]
      rw [hv]
      clear hv
      go_enter Tryz.func200, Tryz.ntmps200
      go_wp2_with fail
      go_ret
      exact ⟨rfl, rfl⟩
  · have hv : kidK nd m i = 0 := by unfold kidK; rw [if_neg c1]
    rw [hv]
    clear hv
    go_enter Tryz.func200, Tryz.ntmps200
    go_wp2_with fail
    go_ret
    exact ⟨rfl, rfl⟩
end Go.Proofs.YtiidepafifodjabGreat

/-! Parents and depths of nodes: plain. -/
namespace Go.Proofs.YtiidepafifodjabGreat

def stepP (p : Nat → Int) (i k : Nat) : Nat → Int := fun x => if x = k then (if p k = -2 then (i : Int) else -3) else p x
def kidsP (nd : Nat → ND) (i : Nat) (p : Nat → Int) : Nat → Nat → Int
  | 0 => p
  | j + 1 => stepP (kidsP nd i p j) i ((nd i).c j).toNat
/-- the parents that the first nodes give -/
def nodesP (nd : Nat → ND) : Nat → Nat → Int
  | 0 => fun _ => -2
  | i + 1 => kidsP nd i (nodesP nd i) (nd i).kn
def parP (nd : Nat → ND) (n : Nat) : Nat → Int := fun x => if x = n - 1 ∧ nodesP nd n (n - 1) = -2 then -1 else nodesP nd n x
/-- the depths of the last nodes -/
def depP (p : Nat → Int) (n : Nat) : Nat → Nat → Int
  | 0 => fun _ => 0
  | j + 1 => fun x => if x = n - 2 - j ∧ 0 ≤ p (n - 2 - j) then depP p n j (p (n - 2 - j)).toNat + 1 else depP p n j x

/-- kids stand ahead of their node -/
def KidsIn (nd : Nat → ND) (n : Nat) : Prop := ∀ i, i < n → ∀ j, j < (nd i).kn → 0 ≤ (nd i).c j ∧ (nd i).c j < i

/-- what the parents are -/
def PRng (n : Nat) (p : Nat → Int) : Prop := ∀ x, (p x = -2 ∨ p x = -3 ∨ (x < p x ∧ p x < n))

theorem kidsP_rng {nd : Nat → ND} {n i : Nat} (hi : i < n) (hk : KidsIn nd n) {p : Nat → Int} (hp : PRng n p) : ∀ j, j ≤ (nd i).kn → PRng n (kidsP nd i p j)
  | 0, _ => hp
  | j + 1, hj => fun x => by
    have ih := kidsP_rng hi hk hp j (by omega)
    have h := hk i hi j (by omega)
    unfold kidsP stepP
    by_cases e : x = ((nd i).c j).toNat
    · rw [if_pos e]
      split
      · right; right; omega
      · right; left; rfl
    · rw [if_neg e]
      exact ih x
theorem nodesP_rng {nd : Nat → ND} {n : Nat} (hk : KidsIn nd n) : ∀ i, i ≤ n → PRng n (nodesP nd i)
  | 0, _ => fun _ => .inl rfl
  | i + 1, hi => kidsP_rng (by omega) hk (nodesP_rng hk i (by omega)) _ (Nat.le_refl _)
theorem parP_rng {nd : Nat → ND} {n : Nat} (hk : KidsIn nd n) (x : Nat) : parP nd n x = -1 ∨ parP nd n x = -2 ∨ parP nd n x = -3 ∨ (x < parP nd n x ∧ parP nd n x < n) := by
  unfold parP
  split
  · exact .inl rfl
  · exact .inr (nodesP_rng hk n (Nat.le_refl _) x)
theorem kidsP_last {nd : Nat → ND} {n i : Nat} (hi : i < n) (hk : KidsIn nd n) {p : Nat → Int} (hp : p (n - 1) = -2) : ∀ j, j ≤ (nd i).kn → kidsP nd i p j (n - 1) = -2
  | 0, _ => hp
  | j + 1, hj => by
    have ih := kidsP_last hi hk hp j (by omega)
    have h := hk i hi j (by omega)
    unfold kidsP stepP
    rw [if_neg (by omega)]
    exact ih
theorem nodesP_last {nd : Nat → ND} {n : Nat} (hk : KidsIn nd n) : ∀ i, i ≤ n → nodesP nd i (n - 1) = -2
  | 0, _ => rfl
  | i + 1, hi => kidsP_last (by omega) hk (nodesP_last hk i (by omega)) _ (Nat.le_refl _)
theorem parP_eq {nd : Nat → ND} {n : Nat} (hk : KidsIn nd n) (x : Nat) : parP nd n x = if x = n - 1 then -1 else nodesP nd n x := by
  unfold parP
  rw [nodesP_last hk n (Nat.le_refl _)]
  simp
theorem depP_rng (p : Nat → Int) (n : Nat) : ∀ j x, 0 ≤ depP p n j x ∧ depP p n j x ≤ j
  | 0, _ => ⟨Int.le_refl _, Int.le_refl _⟩
  | j + 1, x => by
    unfold depP
    split
    · have := depP_rng p n j (p (n - 2 - j)).toNat; omega
    · have := depP_rng p n j x; omega
end Go.Proofs.YtiidepafifodjabGreat
