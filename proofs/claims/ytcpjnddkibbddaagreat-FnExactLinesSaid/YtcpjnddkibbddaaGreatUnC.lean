import Derived.Test.YtcpjnddkibbddaaGreatPlain
import Derived.Deep.RegionWith
import Derived.Deep.RegionHeld3
import Derived.Deep.DrawnRows
/-! Units: the laws' own size, of fns and units. -/
namespace Go.Proofs.YtcpjnddkibbddaaGreat
open Go.RowKit
attribute [local go_sem] run_store_float

/-- a cell of a block that is held -/
theorem Has.cell {w : World} {B : Nat} {A : Array Value} (h : Has w B A) (j : Nat) {v : Value} (e : A[j]? = some v) : w.cell? ⟨B, j, none⟩ = some v := (h.at j).trans e

set_option maxRecDepth 100000 in
set_option maxHeartbeats 2000000 in
theorem szFn_calls (L : Nat) (d : FD) (x : FA) (left : Int) (w : World) (h0 : 0 ≤ left) (h1 : left ≤ 1048576) (hd : d.wf) (hT : FnAt L w d x) :
    Calls Tryz.prog 24 #[fnV d x, .int .i64 left] w fun e w' => (∃ v : Int, e = .returned (.int .i64 v) ∧ SzSays left v d.sm) ∧ Below w.heap.size w w' := by
  have hW : Hid d.wf := hd
  have hs := hd.name
  unfold maxLen at hs
  clear hd
  have HT : Hid (FnAt L w d x) := hT
  clear hT
  by_cases c1 : left < d.name.size
  · go_enter Tryz.func24, Tryz.ntmps24
    go_wp2_with fail
    go_ret
    exact ⟨⟨_, rfl, .inl rfl⟩, below_alloc _ _⟩
  · go_enter Tryz.func24, Tryz.ntmps24
    go_wp2_with fail
    refine (szStringS_calls L _ _ _ d.v _ _ (by omega) (by omega) hW.out.vn hW.out.v (HT.out.alloc _).1).mono ?_
    rintro e w2 ⟨⟨v, rfl, hv⟩, hb2⟩
    have hB : Hid (Below w.heap.size w w2) := below_call (below_alloc _ _) hb2
    have hH : Hid (Has w2 w.heap.size (fnC d x)) := Has.made hb2
    replace HT : Hid (FnAt L w2 d x) := HT.out.below hB.out
    clear hb2
    rcases hv with rfl | ⟨v0, v1, v2⟩
    · go_wp2_with fail
      go_ret
      exact ⟨⟨_, rfl, .inl rfl⟩, hB.out⟩
    · have HV : Hid (d.vn ≤ 1048576 ∧ ∀ i, i < d.vn → (d.v i).size ≤ 1048576) := v2
      clear v2
      have hc := hH.out.cell 5 rfl
      go_wp2_with fail
      refine (szUpS_calls _ _ _ _ _ (by omega) (by omega) hW.out.un).mono ?_
      rintro e w3 ⟨⟨u, rfl, hu⟩, hb3⟩
      replace hB : Hid (Below w.heap.size w w3) := below_call hB.out hb3
      replace hH : Hid (Has w3 w.heap.size (fnC d x)) := hH.out.call hb3
      replace HT : Hid (FnAt L w3 d x) := HT.out.below hb3
      clear hb3 hc
      rcases hu with rfl | ⟨u0, u1, u2⟩
      · go_wp2_with fail
        go_ret
        exact ⟨⟨_, rfl, .inl rfl⟩, hB.out⟩
      · have hc := hH.out.cell 6 rfl
        go_wp2_with fail
        refine (szNodeS_calls L _ _ _ d.nd x.nas _ _ (by omega) (by omega) hW.out.nn hW.out.nd HT.out.2.2.1).mono ?_
        rintro e w4 ⟨⟨t, rfl, ht⟩, hb4⟩
        replace hB : Hid (Below w.heap.size w w4) := below_call hB.out hb4
        clear hb4 hc
        rcases ht with rfl | ⟨t0, t1, t2⟩
        · go_wp2_with fail
          go_ret
          exact ⟨⟨_, rfl, .inl rfl⟩, hB.out⟩
        · have HN : Hid (d.nn ≤ 1048576 ∧ ∀ i, i < d.nn → (d.nd i).sm) := t2
          clear t2
          go_wp2_with fail
          go_ret
          exact ⟨⟨_, rfl, .inr ⟨by omega, by omega, ⟨by omega, HV.out.1, HV.out.2, u2, HN.out.1, HN.out.2⟩⟩⟩, hB.out⟩

set_option maxRecDepth 100000 in
set_option maxHeartbeats 4000000 in
theorem szFnS_calls (L : Nat) (a : Option Addr) (n cap : Nat) (q : Nat → FD) (x : Nat → FA) (left : Int) (w : World) (h0 : 0 ≤ left) (h1 : left ≤ 1048576) (hn : n ≤ maxLen) (hq : ∀ i, i < n → (q i).wf) (hT : FnsAt L w n q a x) :
    Calls Tryz.prog 13 #[.slice a n cap, .int .i64 left] w fun e w' => (∃ v : Int, e = .returned (.int .i64 v) ∧ SzSays left v (n ≤ 1048576 ∧ ∀ i, i < n → (q i).sm)) ∧ Below w.heap.size w w' := by
  have hQ : Hid (∀ i, i < n → (q i).wf) := hq
  have HT : Hid (FnsAt L w n q a x) := hT
  clear hq hT
  unfold maxLen at hn
  by_cases c : left < n
  · go_enter Tryz.func13, Tryz.ntmps13
    go_wp2_with fail
    go_ret
    exact ⟨⟨_, rfl, .inl rfl⟩, Below.refl _ _⟩
  · go_enter Tryz.func13, Tryz.ntmps13
    go_wp2_with fail
    go_loopw [1, 5] (fun l i wr => ∃ (k : Nat) (u : Int), k ≤ n ∧ i = .int .i64 k ∧ l = .int .i64 u ∧ 0 ≤ u ∧ u ≤ left ∧ Hid (∀ j, j < k → (q j).sm) ∧ Below w.heap.size w wr) (fun _ i _ => n - (intOf i).toNat)
    case atStart => exact ⟨0, _, Nat.zero_le _, rfl, rfl, by omega, by omega, fun j hj => by omega, Below.refl _ _⟩
    case round =>
      obtain ⟨k, u, hk, rfl, rfl, u0, u1, HS, hB⟩ := hrel
      by_cases hkn : k < n
      · obtain ⟨b, off, rfl, _, hb, d0, d1, d2, d3, d4, d5, d6⟩ := cells7 (HT.out.1.below hB) hkn
        go_wp2_with fail
        refine (szFn_calls L (q k) (x k) u wr u0 (by omega) (hQ.out k hkn) ((HT.out.below hB).2 k hkn)).mono ?_
        rintro e w2 ⟨⟨v, rfl, hv⟩, hb2⟩
        replace hB := below_call hB hb2
        clear d0 d1 d2 d3 d4 d5 d6 hb2
        rcases hv with rfl | ⟨v0, v1, v2⟩
        · go_wp2_with fail
          go_ret
          exact ⟨⟨_, rfl, .inl rfl⟩, hB⟩
        · have HV : Hid (q k).sm := v2
          clear v2
          go_wp2_with fail
          go_roundw
          case rel => exact ⟨k + 1, v, by omega, by go_num, rfl, v0, by omega, fun j hj => by
            by_cases e : j = k
            · subst e; exact HV.out
            · exact HS.out j (by omega), hB⟩
          case measure => simp [intOf]; omega
      · go_wp2_with fail
        go_ret
        exact ⟨⟨_, rfl, .inr ⟨by omega, by omega, by omega, fun i hi => HS.out i (by omega)⟩⟩, hB⟩

set_option maxRecDepth 100000 in
set_option maxHeartbeats 4000000 in
theorem szUnit_calls (L : Nat) (d : UD) (a : Option Addr) (cap : Nat) (x : Nat → FA) (left : Int) (w : World) (h0 : 0 ≤ left) (h1 : left ≤ 1048576) (hd : d.wf) (hT : FnsAt L w d.n d.fn a x) :
    Calls Tryz.prog 4 #[unV d a cap, .int .i64 left] w fun e w' => (∃ v : Int, e = .returned (.int .i64 v) ∧ SzSays left v d.sm) ∧ Below w.heap.size w w' := by
  have hW : Hid d.wf := hd
  have HT : Hid (FnsAt L w d.n d.fn a x) := hT
  clear hd hT
  go_enter Tryz.func4, Tryz.ntmps4
  go_wp2_with fail
  refine (szFnS_calls L a d.n cap d.fn x left _ h0 h1 hW.out.n hW.out.fn (by first | exact HT.out | exact HT.out.alloc _)).mono ?_
  rintro e w2 ⟨⟨v, rfl, hv⟩, hb2⟩
  have hB : Hid (Below w.heap.size w w2) := by first | exact below_call (below_alloc _ _) hb2 | exact hb2
  clear hb2
  rcases hv with rfl | ⟨v0, v1, v2⟩
  · go_wp2_with fail
    go_ret
    exact ⟨⟨_, rfl, .inl rfl⟩, hB.out⟩
  · have HV : Hid (d.n ≤ 1048576 ∧ ∀ i, i < d.n → (d.fn i).sm) := v2
    clear v2
    go_wp2_with fail
    go_ret
    exact ⟨⟨_, rfl, .inr ⟨v0, v1, ⟨HV.out.1, HV.out.2⟩⟩⟩, hB.out⟩
end Go.Proofs.YtcpjnddkibbddaaGreat

/-! The specification's check of a unit: kinds, kids, fields. -/
namespace Go.Proofs.YtcpjnddkibbddaaGreat
open Go.RowKit
attribute [local go_sem] run_store_float
attribute [local go_sem ↓] Go.wp_at_zero Go.wp_at_succ

def stK (k : Int) : Bool := decide (1 ≤ k) && decide (k ≤ 14)
def exK (k : Int) : Bool := decide (20 ≤ k) && decide (k ≤ 38)
def tgK (k : Int) : Bool := k == 26 || k == 27 || k == 33
def mnK (k : Int) : Bool := k == 34 || k == 37
/-- the kind of kid i of a node; 0 when it is not ahead of it -/
def kidK (nd : Nat → ND) (m i : Nat) : Int := if i < (nd m).kn then (if 0 ≤ (nd m).c i ∧ (nd m).c i < m then (nd ((nd m).c i).toNat).k else 0) else 0
/-- all from lo to below hi -/
def allB (p : Nat → Bool) (lo hi : Nat) : Bool := decide (∀ i, i < hi → lo ≤ i → p i = true)
theorem allB_true {p : Nat → Bool} {lo hi : Nat} : allB p lo hi = true ↔ ∀ i, lo ≤ i → i < hi → p i = true := by
  unfold allB
  rw [decide_eq_true_iff]
  exact ⟨fun h i a b => h i b a, fun h i a b => h i b a⟩
theorem allB_none {p : Nat → Bool} {lo hi : Nat} (h : hi ≤ lo) : allB p lo hi = true := allB_true.2 fun i a b => by omega
theorem allB_no {p : Nat → Bool} {lo hi k : Nat} (h1 : lo ≤ k) (h2 : k < hi) (h : p k = false) : allB p lo hi = false := by
  cases e : allB p lo hi
  · rfl
  · rw [allB_true.1 e k h1 h2] at h; cases h
def exsB (nd : Nat → ND) (m lo hi : Nat) : Bool := allB (fun i => exK (kidK nd m i)) lo hi
/-- the fields that are not allowed are empty -/
def bareG (o' n' : Int) (f' : Nat) (s' : ByteArray) (rn : Nat) (o n f s : Bool) (r : Int) : Bool := (o || o' == 0) && (n || n' == 0) && (f || fz f') && (s || se s') && ((rn : Int) == r)
def bareB (d : ND) (o n f s : Bool) (r : Int) : Bool := bareG d.o d.n d.f d.s d.rn o n f s r

set_option maxRecDepth 100000 in
set_option maxHeartbeats 2000000 in
theorem l3stat_calls (k : Int) (w : World) : Calls Tryz.prog 15 #[.int .i64 k] w fun e w' => e = .returned (.bool (stK k)) ∧ w' = w := by
  go_enter Tryz.func15, Tryz.ntmps15
  go_wp2_with fail
  all_goals go_ret
  all_goals exact ⟨by simp [stK, *] <;> omega, rfl⟩

set_option maxRecDepth 100000 in
set_option maxHeartbeats 2000000 in
theorem l3expr_calls (k : Int) (w : World) : Calls Tryz.prog 158 #[.int .i64 k] w fun e w' => e = .returned (.bool (exK k)) ∧ w' = w := by
  go_enter Tryz.func158, Tryz.ntmps158
  go_wp2_with fail
  all_goals go_ret
  all_goals exact ⟨by simp [exK, *] <;> omega, rfl⟩

set_option maxRecDepth 100000 in
set_option maxHeartbeats 2000000 in
theorem l3target_calls (k : Int) (w : World) : Calls Tryz.prog 140 #[.int .i64 k] w fun e w' => e = .returned (.bool (tgK k)) ∧ w' = w := by
  go_enter Tryz.func140, Tryz.ntmps140
  go_wp2_with fail
  all_goals go_ret
  all_goals exact ⟨by simp [tgK, *], rfl⟩

set_option maxRecDepth 100000 in
set_option maxHeartbeats 2000000 in
theorem l3many_calls (k : Int) (w : World) : Calls Tryz.prog 141 #[.int .i64 k] w fun e w' => e = .returned (.bool (mnK k)) ∧ w' = w := by
  go_enter Tryz.func141, Tryz.ntmps141
  go_wp2_with fail
  all_goals go_ret
  all_goals exact ⟨by simp [mnK, *], rfl⟩

set_option maxRecDepth 100000 in
set_option maxHeartbeats 4000000 in
theorem l3kid_calls (L : Nat) (n : Nat) (nd : Nat → ND) (a : Option Addr) (cap : Nat) (nas : Nat → NA) (m i : Nat) (w : World) (hm : m < n) (hT : NodesAt L w n nd a nas) :
    Calls Tryz.prog 137 #[.slice a n cap, .int .i64 m, .int .i64 i] w fun e w' => e = .returned (.int .i64 (kidK nd m i)) ∧ w' = w := by
  have HT : Hid (NodesAt L w n nd a nas) := hT
  clear hT
  obtain ⟨b, off, rfl, _, hb, d0, d1, d2, d3, d4, d5, d6, d7⟩ := cells8 HT.out.1 hm
  clear d0 d1 d2 d3 d4 d5 d6
  by_cases c1 : i < (nd m).kn
  · obtain ⟨b', off', e0, _, hb', g0⟩ := cells1 (HT.out.2 m hm).2 c1
    rw [e0] at d7
    by_cases c2 : 0 ≤ (nd m).c i
    · by_cases c3 : (nd m).c i < m
      · obtain ⟨k, hk'⟩ : ∃ k : Nat, (nd m).c i = k := ⟨((nd m).c i).toNat, by omega⟩
        rw [hk'] at g0 c2 c3
        obtain ⟨b2, off2, e2, _, _, f0, _⟩ := cells8 HT.out.1 (show k < n by omega)
        obtain ⟨rfl, rfl⟩ : b2 = b ∧ off2 = off := by simpa [eq_comm] using e2
        have hv : kidK nd m i = (nd k).k := by unfold kidK; rw [if_pos c1, if_pos (by omega), hk']; simp
        rw [hv]
        clear hv e2
        go_enter Tryz.func137, Tryz.ntmps137
        go_wp2_with fail
        go_ret
        exact ⟨rfl, rfl⟩
      · have hv : kidK nd m i = 0 := by unfold kidK; rw [if_pos c1, if_neg (by omega)]
        rw [hv]
        clear hv
        go_enter Tryz.func137, Tryz.ntmps137
        go_wp2_with fail
        go_ret
        exact ⟨rfl, rfl⟩
    · have hv : kidK nd m i = 0 := by unfold kidK; rw [if_pos c1, if_neg (by omega)]
      rw [hv]
      clear hv
      go_enter Tryz.func137, Tryz.ntmps137
      go_wp2_with fail
      go_ret
      exact ⟨rfl, rfl⟩
  · have hv : kidK nd m i = 0 := by unfold kidK; rw [if_neg c1]
    rw [hv]
    clear hv
    go_enter Tryz.func137, Tryz.ntmps137
    go_wp2_with fail
    go_ret
    exact ⟨rfl, rfl⟩
end Go.Proofs.YtcpjnddkibbddaaGreat

/-! Parents and depths of nodes: plain. -/
namespace Go.Proofs.YtcpjnddkibbddaaGreat

def stepP (p : Nat → Int) (i k : Nat) : Nat → Int := fun x => if x = k then (if p k = -2 then (i : Int) else -3) else p x
def kidsP (nd : Nat → ND) (i : Nat) (p : Nat → Int) : Nat → Nat → Int
  | 0 => p
  | j + 1 => stepP (kidsP nd i p j) i ((nd i).c j).toNat
/-- the parents that the first nodes give -/
def nodesP (nd : Nat → ND) : Nat → Nat → Int
  | 0 => fun _ => -2
  | i + 1 => kidsP nd i (nodesP nd i) (nd i).kn
def parP (nd : Nat → ND) (n : Nat) : Nat → Int := fun x => if x = n - 1 ∧ nodesP nd n (n - 1) = -2 then -1 else nodesP nd n x
/-- the depths of the last nodes -/
def depP (p : Nat → Int) (n : Nat) : Nat → Nat → Int
  | 0 => fun _ => 0
  | j + 1 => fun x => if x = n - 2 - j ∧ 0 ≤ p (n - 2 - j) then depP p n j (p (n - 2 - j)).toNat + 1 else depP p n j x

/-- kids stand ahead of their node -/
def KidsIn (nd : Nat → ND) (n : Nat) : Prop := ∀ i, i < n → ∀ j, j < (nd i).kn → 0 ≤ (nd i).c j ∧ (nd i).c j < i

/-- what the parents are -/
def PRng (n : Nat) (p : Nat → Int) : Prop := ∀ x, (p x = -2 ∨ p x = -3 ∨ (x < p x ∧ p x < n))

theorem kidsP_rng {nd : Nat → ND} {n i : Nat} (hi : i < n) (hk : KidsIn nd n) {p : Nat → Int} (hp : PRng n p) : ∀ j, j ≤ (nd i).kn → PRng n (kidsP nd i p j)
  | 0, _ => hp
  | j + 1, hj => fun x => by
    have ih := kidsP_rng hi hk hp j (by omega)
    have h := hk i hi j (by omega)
    unfold kidsP stepP
    by_cases e : x = ((nd i).c j).toNat
    · rw [if_pos e]
      split
      · right; right; omega
      · right; left; rfl
    · rw [if_neg e]
      exact ih x
theorem nodesP_rng {nd : Nat → ND} {n : Nat} (hk : KidsIn nd n) : ∀ i, i ≤ n → PRng n (nodesP nd i)
  | 0, _ => fun _ => .inl rfl
  | i + 1, hi => kidsP_rng (by omega) hk (nodesP_rng hk i (by omega)) _ (Nat.le_refl _)
theorem parP_rng {nd : Nat → ND} {n : Nat} (hk : KidsIn nd n) (x : Nat) : parP nd n x = -1 ∨ parP nd n x = -2 ∨ parP nd n x = -3 ∨ (x < parP nd n x ∧ parP nd n x < n) := by
  unfold parP
  split
  · exact .inl rfl
  · exact .inr (nodesP_rng hk n (Nat.le_refl _) x)
theorem kidsP_last {nd : Nat → ND} {n i : Nat} (hi : i < n) (hk : KidsIn nd n) {p : Nat → Int} (hp : p (n - 1) = -2) : ∀ j, j ≤ (nd i).kn → kidsP nd i p j (n - 1) = -2
  | 0, _ => hp
  | j + 1, hj => by
    have ih := kidsP_last hi hk hp j (by omega)
    have h := hk i hi j (by omega)
    unfold kidsP stepP
    rw [if_neg (by omega)]
    exact ih
theorem nodesP_last {nd : Nat → ND} {n : Nat} (hk : KidsIn nd n) : ∀ i, i ≤ n → nodesP nd i (n - 1) = -2
  | 0, _ => rfl
  | i + 1, hi => kidsP_last (by omega) hk (nodesP_last hk i (by omega)) _ (Nat.le_refl _)
theorem parP_eq {nd : Nat → ND} {n : Nat} (hk : KidsIn nd n) (x : Nat) : parP nd n x = if x = n - 1 then -1 else nodesP nd n x := by
  unfold parP
  rw [nodesP_last hk n (Nat.le_refl _)]
  simp
theorem depP_rng (p : Nat → Int) (n : Nat) : ∀ j x, 0 ≤ depP p n j x ∧ depP p n j x ≤ j
  | 0, _ => ⟨Int.le_refl _, Int.le_refl _⟩
  | j + 1, x => by
    unfold depP
    split
    · have := depP_rng p n j (p (n - 2 - j)).toNat; omega
    · have := depP_rng p n j x; omega
end Go.Proofs.YtcpjnddkibbddaaGreat

/-! Trees of nodes: parents, places, depths. Plain. -/
namespace Go.Proofs.YtcpjnddkibbddaaGreat

/-- what has been seen of kids up to kid j of node i -/
def Seen (nd : Nat → ND) (i j : Nat) (x a b : Nat) : Prop := (a < i ∧ b < (nd a).kn ∨ a = i ∧ b < j) ∧ (nd a).c b = x

/-- what a parent's number says of what has been seen -/
def PSays (p : Int) (Q : Nat → Nat → Prop) : Prop :=
  (p = -2 → ∀ a b, ¬ Q a b) ∧ (0 ≤ p → ∃ b, Q p.toNat b ∧ ∀ a' b', Q a' b' → a' = p.toNat ∧ b' = b)

theorem PSays.congr {p : Int} {Q R : Nat → Nat → Prop} (h : PSays p Q) (e : ∀ a b, Q a b ↔ R a b) : PSays p R :=
  ⟨fun h0 a b hr => h.1 h0 a b ((e a b).2 hr), fun h0 => by
    obtain ⟨b, h1, h2⟩ := h.2 h0
    exact ⟨b, (e _ _).1 h1, fun a' b' hr => h2 a' b' ((e _ _).2 hr)⟩⟩

theorem kidsP_says {nd : Nat → ND} {n i : Nat} (hi : i < n) (hk : KidsIn nd n) {p : Nat → Int} (hp : ∀ x, PSays (p x) (Seen nd i 0 x)) :
    ∀ j, j ≤ (nd i).kn → ∀ x, PSays (kidsP nd i p j x) (Seen nd i j x)
  | 0, _ => hp
  | j + 1, hj => fun x => by
    have ih := kidsP_says hi hk hp j (by omega) x
    have h := hk i hi j (by omega)
    have hs : ∀ a b, Seen nd i (j + 1) x a b ↔ (Seen nd i j x a b ∨ a = i ∧ b = j ∧ (nd i).c j = x) := by
      intro a b
      unfold Seen
      constructor
      · rintro ⟨h1 | h1, h2⟩
        · exact .inl ⟨.inl h1, h2⟩
        · by_cases e : b = j
          · obtain ⟨rfl, _⟩ := h1
            subst e
            exact .inr ⟨rfl, rfl, h2⟩
          · exact .inl ⟨.inr ⟨h1.1, by omega⟩, h2⟩
      · rintro (⟨h1 | h1, h2⟩ | ⟨rfl, rfl, h2⟩)
        · exact ⟨.inl h1, h2⟩
        · exact ⟨.inr ⟨h1.1, by omega⟩, h2⟩
        · exact ⟨.inr ⟨rfl, by omega⟩, h2⟩
    unfold kidsP stepP
    by_cases e : x = ((nd i).c j).toNat
    · have ex : (nd i).c j = (x : Int) := by omega
      rw [if_pos e, ← e]
      by_cases e2 : kidsP nd i p j x = -2
      · rw [if_pos e2]
        refine ⟨fun h0 => by omega, fun _ => ⟨j, (hs _ _).2 (.inr ⟨Int.toNat_natCast _, rfl, ex⟩), fun a' b' hr => ?_⟩⟩
        rcases (hs _ _).1 hr with h1 | h1
        · exact absurd h1 (ih.1 e2 _ _)
        · rw [Int.toNat_natCast]; exact ⟨h1.1, h1.2.1⟩
      · rw [if_neg e2]
        exact ⟨fun h0 => by omega, fun h0 => by omega⟩
    · rw [if_neg e]
      refine ih.congr fun a b => ⟨fun h1 => (hs _ _).2 (.inl h1), fun h1 => ?_⟩
      rcases (hs _ _).1 h1 with h1 | h1
      · exact h1
      · exact absurd h1.2.2 (by omega)

theorem nodesP_says {nd : Nat → ND} {n : Nat} (hk : KidsIn nd n) : ∀ i, i ≤ n → ∀ x, PSays (nodesP nd i x) (Seen nd i 0 x)
  | 0, _ => fun x => ⟨fun _ a b h => by unfold Seen at h; omega, fun h => by unfold nodesP at h; omega⟩
  | i + 1, hi => fun x => by
    refine (kidsP_says (by omega) hk (nodesP_says hk i (by omega)) (nd i).kn (Nat.le_refl _) x).congr fun a b => ?_
    unfold Seen
    constructor
    · rintro ⟨h1 | ⟨rfl, h1⟩, h2⟩
      · exact ⟨.inl ⟨by omega, h1.2⟩, h2⟩
      · exact ⟨.inl ⟨by omega, h1⟩, h2⟩
    · rintro ⟨h1 | h1, h2⟩
      · by_cases e : a = i
        · subst e; exact ⟨.inr ⟨rfl, h1.2⟩, h2⟩
        · exact ⟨.inl ⟨by omega, h1.2⟩, h2⟩
      · omega

/-- x is kid j of node p -/
def KidAt (nd : Nat → ND) (n p j x : Nat) : Prop := p < n ∧ j < (nd p).kn ∧ (nd p).c j = x

theorem par_says {nd : Nat → ND} {n : Nat} (hk : KidsIn nd n) {x : Nat} (h : 0 ≤ parP nd n x) :
    ∃ j, KidAt nd n (parP nd n x).toNat j x ∧ ∀ p' j', KidAt nd n p' j' x → p' = (parP nd n x).toNat ∧ j' = j := by
  have hx : parP nd n x = nodesP nd n x := by
    unfold parP at h ⊢
    split
    · rename_i c
      rw [if_pos c] at h
      omega
    · rfl
  rw [hx] at h ⊢
  obtain ⟨b, h1, h2⟩ := (nodesP_says hk n (Nat.le_refl _) x).2 h
  have hq : ∀ a b, Seen nd n 0 x a b ↔ KidAt nd n a b x := by
    intro a b
    unfold Seen KidAt
    constructor
    · rintro ⟨h1 | h1, h2⟩
      · exact ⟨h1.1, h1.2, h2⟩
      · omega
    · rintro ⟨h1, h2, h3⟩
      exact ⟨.inl ⟨h1, h2⟩, h3⟩
  exact ⟨b, (hq _ _).1 h1, fun p' j' h => h2 _ _ ((hq _ _).2 h)⟩

/-- how often each is a kid -/
def stepC (c : Nat → Int) (k : Nat) : Nat → Int := fun x => if x = k then c k + 1 else c x
def kidsC (nd : Nat → ND) (i : Nat) (c : Nat → Int) : Nat → Nat → Int
  | 0 => c
  | j + 1 => stepC (kidsC nd i c j) ((nd i).c j).toNat
def nodesC (nd : Nat → ND) : Nat → Nat → Int
  | 0 => fun _ => 0
  | i + 1 => kidsC nd i (nodesC nd i) (nd i).kn
def PC (p c : Int) : Prop := (p = -2 ∧ c = 0) ∨ (0 ≤ p ∧ c = 1) ∨ (p = -3 ∧ 2 ≤ c)
theorem kidsC_says (nd : Nat → ND) (i : Nat) {p c : Nat → Int} (h : ∀ x, PC (p x) (c x)) : ∀ j x, PC (kidsP nd i p j x) (kidsC nd i c j x)
  | 0 => h
  | j + 1 => fun x => by
    have ih := kidsC_says nd i h j
    unfold kidsP kidsC stepP stepC
    by_cases e : x = ((nd i).c j).toNat
    · rw [if_pos e, if_pos e]
      have := ih ((nd i).c j).toNat
      unfold PC at this ⊢
      split <;> omega
    · rw [if_neg e, if_neg e]
      exact ih x
theorem nodesC_says (nd : Nat → ND) : ∀ i x, PC (nodesP nd i x) (nodesC nd i x)
  | 0 => fun _ => .inl ⟨rfl, rfl⟩
  | i + 1 => kidsC_says nd i (nodesC_says nd i) _
theorem kidsC_rng (nd : Nat → ND) (i : Nat) {c : Nat → Int} {N : Int} (h : ∀ x, 0 ≤ c x ∧ c x ≤ N) : ∀ (j x : Nat), 0 ≤ kidsC nd i c j x ∧ kidsC nd i c j x ≤ N + j
  | 0 => fun x => by have := h x; unfold kidsC; omega
  | j + 1 => fun x => by
    have ih := kidsC_rng nd i h j
    unfold kidsC stepC
    split
    · have := ih ((nd i).c j).toNat; omega
    · have := ih x; omega
/-- of a tree's node, counted -/
theorem count_one {nd : Nat → ND} {n : Nat} (hk : KidsIn nd n) {x : Nat} (hx : x < n - 1) : nodesC nd n x = 1 ↔ 0 ≤ parP nd n x := by
  rw [parP_eq hk, if_neg (by omega)]
  have := nodesC_says nd n x
  unfold PC at this
  omega

/-- the fn's nodes are a tree -/
structure TreeOk (nd : Nat → ND) (n : Nat) : Prop where
  pos : 0 < n
  kids : KidsIn nd n
  par : ∀ x, x < n - 1 → 0 ≤ parP nd n x
  last : (nd (n - 1)).k = 1

theorem TreeOk.up {nd : Nat → ND} {n : Nat} (h : TreeOk nd n) {x : Nat} (hx : x < n - 1) : ∃ p j : Nat, parP nd n x = (p : Int) ∧ x < p ∧ KidAt nd n p j x ∧ ∀ p' j', KidAt nd n p' j' x → p' = p ∧ j' = j := by
  have h0 := h.par x hx
  obtain ⟨j, h1, h2⟩ := par_says h.kids h0
  have h3 := parP_rng h.kids x
  exact ⟨(parP nd n x).toNat, j, by omega, by omega, h1, h2⟩
theorem TreeOk.kid {nd : Nat → ND} {n : Nat} (h : TreeOk nd n) {p j : Nat} (hp : p < n) (hj : j < (nd p).kn) : ∃ x : Nat, (nd p).c j = (x : Int) ∧ x < p ∧ x < n - 1 ∧ parP nd n x = p ∧ ∀ j', j' < (nd p).kn → (nd p).c j' = x → j' = j := by
  have hc := h.kids p hp j hj
  have hx : (nd p).c j = (((nd p).c j).toNat : Nat) := by omega
  have hlt : ((nd p).c j).toNat < n - 1 := by omega
  obtain ⟨p', j0, h1, h2, h3, h4⟩ := h.up hlt
  have ha := h4 p j ⟨hp, hj, hx⟩
  exact ⟨_, hx, by omega, hlt, by rw [h1, ha.1], fun j' hj' he => by have hb := h4 p j' ⟨hp, hj', he⟩; omega⟩
theorem TreeOk.root {nd : Nat → ND} {n : Nat} (h : TreeOk nd n) : parP nd n (n - 1) = -1 := by rw [parP_eq h.kids, if_pos rfl]

/-- n and what stands below it -/
inductive Sub (nd : Nat → ND) : Nat → Nat → Prop
  | self (x : Nat) : Sub nd x x
  | kid (p j c x : Nat) (hj : j < (nd p).kn) (hc : (nd p).c j = (c : Int)) (h : Sub nd c x) : Sub nd p x

theorem Sub.up {nd : Nat → ND} {r p : Nat} (h : Sub nd r p) : ∀ {j x : Nat}, j < (nd p).kn → (nd p).c j = (x : Int) → Sub nd r x := by
  induction h with
  | self y => intro j x hj hc; exact .kid y j x x hj hc (.self x)
  | kid p' j' c' x' hj' hc' h' ih => intro j x hj hc; exact .kid p' j' c' x hj' hc' (ih hj hc)

/-- all stand below the last -/
theorem TreeOk.all {nd : Nat → ND} {n : Nat} (h : TreeOk nd n) : ∀ d x, x + d = n - 1 → Sub nd (n - 1) x := by
  intro d
  induction d using Nat.strongRecOn with
  | ind d ih =>
    intro x hx
    by_cases e : d = 0
    · subst e
      have : x = n - 1 := by omega
      subst this
      exact .self _
    · obtain ⟨p, j, h1, h2, h3, _⟩ := h.up (x := x) (by omega)
      have hp := h3.1
      exact (ih (n - 1 - p) (by omega) p (by omega)).up h3.2.1 h3.2.2

/-- what the depths are -/
def DepOk (nd : Nat → ND) (n : Nat) (D : Nat → Int) : Prop := D (n - 1) = 0 ∧ ∀ x, x < n - 1 → D x = D (parP nd n x).toNat + 1
theorem DepOk.uniq {nd : Nat → ND} {n : Nat} (h : TreeOk nd n) {D E : Nat → Int} (hD : DepOk nd n D) (hE : DepOk nd n E) : ∀ d x, x + d = n - 1 → D x = E x := by
  intro d
  induction d using Nat.strongRecOn with
  | ind d ih =>
    intro x hx
    by_cases e : d = 0
    · subst e
      have : x = n - 1 := by omega
      subst this
      rw [hD.1, hE.1]
    · obtain ⟨p, j, h1, h2, h3, _⟩ := h.up (x := x) (by omega)
      have hp := h3.1
      rw [hD.2 x (by omega), hE.2 x (by omega), h1, Int.toNat_natCast, ih (n - 1 - p) (by omega) p (by omega)]

theorem depP_keep (p : Nat → Int) (n : Nat) : ∀ (k j x : Nat), j + k ≤ n - 1 → n - 1 - j ≤ x → depP p n (j + k) x = depP p n j x
  | 0, _, _, _, _ => rfl
  | k + 1, j, x, hk, h => by
    rw [← Nat.add_assoc]
    show (if x = n - 2 - (j + k) ∧ 0 ≤ p (n - 2 - (j + k)) then depP p n (j + k) (p (n - 2 - (j + k))).toNat + 1 else depP p n (j + k) x) = _
    rw [if_neg (fun h => by omega)]
    exact depP_keep p n k j x (by omega) h
theorem depP_ok {nd : Nat → ND} {n : Nat} (h : TreeOk nd n) : DepOk nd n (depP (parP nd n) n (n - 1)) := by
  have hk : ∀ j x, j ≤ n - 1 → n - 1 - j ≤ x → depP (parP nd n) n (n - 1) x = depP (parP nd n) n j x := fun j x hj hx => by
    have := depP_keep (parP nd n) n (n - 1 - j) j x (by omega) hx
    rwa [show j + (n - 1 - j) = n - 1 by omega] at this
  refine ⟨hk 0 _ (by omega) (by omega), fun x hx => ?_⟩
  obtain ⟨p, j, h1, h2, h3, _⟩ := h.up hx
  have hp := h3.1
  rw [hk (n - 2 - x + 1) x (by omega) (by omega)]
  show (if x = n - 2 - (n - 2 - x) ∧ 0 ≤ parP nd n (n - 2 - (n - 2 - x)) then depP (parP nd n) n (n - 2 - x) (parP nd n (n - 2 - (n - 2 - x))).toNat + 1 else depP (parP nd n) n (n - 2 - x) x) = _
  rw [show n - 2 - (n - 2 - x) = x by omega, h1, if_pos ⟨rfl, by omega⟩, Int.toNat_natCast, hk (n - 2 - x) p (by omega) (by omega)]

/-- the depths as the program has them: from the last node down -/
def kidsD (nd : Nat → ND) (i : Nat) (D : Nat → Int) : Nat → Nat → Int
  | 0 => D
  | j + 1 => fun x => if x = ((nd i).c j).toNat then kidsD nd i D j i + 1 else kidsD nd i D j x
def nodesD (nd : Nat → ND) (n : Nat) : Nat → Nat → Int
  | 0 => fun _ => 0
  | k + 1 => kidsD nd (n - 1 - k) (nodesD nd n k) (nd (n - 1 - k)).kn
theorem kidsD_far {nd : Nat → ND} {i : Nat} {D : Nat → Int} {x : Nat} : ∀ j, (∀ b, b < j → ((nd i).c b).toNat ≠ x) → kidsD nd i D j x = D x
  | 0, _ => rfl
  | j + 1, h => by
    show (if x = ((nd i).c j).toNat then _ else _) = _
    rw [if_neg (fun e => h j (by omega) e.symm)]
    exact kidsD_far j fun b hb => h b (by omega)
theorem kidsD_at {nd : Nat → ND} {n i : Nat} (hi : i < n) (hk : KidsIn nd n) {D : Nat → Int} {x : Nat} : ∀ j, j ≤ (nd i).kn → (∃ b, b < j ∧ ((nd i).c b).toNat = x) → kidsD nd i D j x = D i + 1
  | 0, _, ⟨_, h, _⟩ => by omega
  | j + 1, hj, ⟨b, hb, he⟩ => by
    have hself : kidsD nd i D j i = D i := kidsD_far j fun b hb => by have := hk i hi b (by omega); omega
    show (if x = ((nd i).c j).toNat then kidsD nd i D j i + 1 else kidsD nd i D j x) = _
    by_cases e : x = ((nd i).c j).toNat
    · rw [if_pos e, hself]
    · rw [if_neg e]
      have : b ≠ j := fun h => e (by rw [← h]; exact he.symm)
      exact kidsD_at hi hk j (by omega) ⟨b, by omega, he⟩
theorem kidsD_rng {nd : Nat → ND} {i : Nat} {D : Nat → Int} {N : Int} (h : ∀ x, 0 ≤ D x ∧ D x ≤ N) : ∀ (j x : Nat), 0 ≤ kidsD nd i D j x ∧ kidsD nd i D j x ≤ N + j
  | 0 => fun x => by have := h x; unfold kidsD; omega
  | j + 1 => fun x => by
    have ih := kidsD_rng (nd := nd) (i := i) h j
    unfold kidsD
    show 0 ≤ (if x = ((nd i).c j).toNat then kidsD nd i D j i + 1 else kidsD nd i D j x) ∧ (if x = ((nd i).c j).toNat then kidsD nd i D j i + 1 else kidsD nd i D j x) ≤ _
    split
    · have := ih i; omega
    · have := ih x; omega
theorem nodesD_keep {nd : Nat → ND} {n : Nat} (hk : KidsIn nd n) : ∀ (m k x : Nat), k + m ≤ n → n - 1 - k ≤ x → nodesD nd n (k + m) x = nodesD nd n k x
  | 0, _, _, _, _ => rfl
  | m + 1, k, x, hm, hx => by
    rw [← Nat.add_assoc]
    show kidsD nd (n - 1 - (k + m)) (nodesD nd n (k + m)) (nd (n - 1 - (k + m))).kn x = _
    rw [kidsD_far _ (fun b hb => by have := hk (n - 1 - (k + m)) (by omega) b hb; omega)]
    exact nodesD_keep hk m k x (by omega) hx
theorem nodesD_ok {nd : Nat → ND} {n : Nat} (h : TreeOk nd n) : DepOk nd n (nodesD nd n n) := by
  have hpos := h.pos
  have hk : ∀ j x, j ≤ n → n - 1 - j ≤ x → nodesD nd n n x = nodesD nd n j x := fun j x hj hx => by
    have := nodesD_keep h.kids (n - j) j x (by omega) hx
    rwa [show j + (n - j) = n by omega] at this
  refine ⟨hk 0 _ (by omega) (by omega), fun x hx => ?_⟩
  obtain ⟨p, j, h1, h2, h3, h4⟩ := h.up hx
  have hp := h3.1
  rw [h1, Int.toNat_natCast]
  have hstep : ∀ m, n - 1 - p + 1 + m ≤ n → nodesD nd n (n - 1 - p + 1 + m) x = nodesD nd n (n - 1 - p) p + 1 := by
    intro m
    induction m with
    | zero =>
      intro hm
      show kidsD nd (n - 1 - (n - 1 - p)) (nodesD nd n (n - 1 - p)) (nd (n - 1 - (n - 1 - p))).kn x = _
      rw [show n - 1 - (n - 1 - p) = p by omega]
      exact kidsD_at hp h.kids _ (Nat.le_refl _) ⟨j, h3.2.1, by rw [h3.2.2]; exact Int.toNat_natCast _⟩
    | succ m ih =>
      intro hm
      show kidsD nd (n - 1 - (n - 1 - p + 1 + m)) (nodesD nd n (n - 1 - p + 1 + m)) (nd (n - 1 - (n - 1 - p + 1 + m))).kn x = _
      rw [kidsD_far _ (fun b hb e => by
        have hc := h.kids (n - 1 - (n - 1 - p + 1 + m)) (by omega) b hb
        have := h4 (n - 1 - (n - 1 - p + 1 + m)) b ⟨by omega, hb, by omega⟩
        omega)]
      exact ih (by omega)
  have := hstep (n - (n - 1 - p + 1)) (by omega)
  rw [show n - 1 - p + 1 + (n - (n - 1 - p + 1)) = n by omega] at this
  rw [this, hk (n - 1 - p) p (by omega) (by omega)]
theorem dep_same {nd : Nat → ND} {n : Nat} (h : TreeOk nd n) {x : Nat} (hx : x < n) : nodesD nd n n x = depP (parP nd n) n (n - 1) x :=
  DepOk.uniq h (nodesD_ok h) (depP_ok h) (n - 1 - x) x (by omega)
end Go.Proofs.YtcpjnddkibbddaaGreat
