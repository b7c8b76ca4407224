import Derived.Test.YtcpjnddkibbddaaGreatPlain
import Derived.Test.YtcpjnddkibbddaaGreatUnC
/-! Faults: the least of those that are there. Plain. -/
namespace Go.Proofs.YtcpjnddkibbddaaGreat

/-- a fault -/
structure FT where
  c : Nat
  f : Nat
  n : Nat

def FT.le (x y : FT) : Prop := x.c < y.c ∨ x.c = y.c ∧ (x.f < y.f ∨ x.f = y.f ∧ x.n ≤ y.n)
instance (x y : FT) : Decidable (x.le y) := by unfold FT.le; infer_instance
abbrev ft0 : FT := ⟨0, 0, 0⟩
/-- x is the least of those that P says, or nought when there is none -/
def Least (P : FT → Prop) (x : FT) : Prop := (x = ft0 ∧ ∀ y, ¬ P y) ∨ (0 < x.c ∧ P x ∧ ∀ y, P y → x.le y)

theorem FT.ext {x y : FT} (h1 : x.c = y.c) (h2 : x.f = y.f) (h3 : x.n = y.n) : x = y := by
  cases x; cases y; simp_all
theorem FT.le_anti {x y : FT} (h : x.le y) (k : y.le x) : x = y := by
  unfold FT.le at h k
  exact FT.ext (by omega) (by omega) (by omega)
theorem FT.le_trans {x y z : FT} (h : x.le y) (k : y.le z) : x.le z := by
  unfold FT.le at *
  omega
theorem FT.le_total (x y : FT) : x.le y ∨ y.le x := by
  unfold FT.le
  omega
theorem FT.le_refl (x : FT) : x.le x := by
  unfold FT.le
  omega
theorem Least.uniq {P : FT → Prop} {x y : FT} (h : Least P x) (k : Least P y) : x = y := by
  rcases h with ⟨rfl, h⟩ | ⟨h0, h1, h2⟩ <;> rcases k with ⟨rfl, k⟩ | ⟨k0, k1, k2⟩
  · rfl
  · exact absurd k1 (h _)
  · exact absurd h1 (k _)
  · exact FT.le_anti (h2 _ k1) (k2 _ h1)
theorem Least.congr {P Q : FT → Prop} {x : FT} (h : Least P x) (e : ∀ y, P y ↔ Q y) : Least Q x := by
  rcases h with ⟨rfl, h⟩ | ⟨h0, h1, h2⟩
  · exact .inl ⟨rfl, fun y hy => h y ((e y).2 hy)⟩
  · exact .inr ⟨h0, (e _).1 h1, fun y hy => h2 y ((e y).2 hy)⟩
theorem Least.none {P : FT → Prop} (h : Least P ft0) : ∀ y, ¬ P y := by
  rcases h with ⟨_, h⟩ | ⟨h0, _, _⟩
  · exact h
  · exact absurd h0 (by decide)
theorem Least.zero {P : FT → Prop} (h : ∀ y, ¬ P y) : Least P ft0 := .inl ⟨rfl, h⟩
theorem Least.nil {P : FT → Prop} {x : FT} (h : Least P x) (h0 : x.c = 0) : x = ft0 := by
  rcases h with ⟨rfl, _⟩ | ⟨h1, _, _⟩
  · rfl
  · omega
theorem Least.behind {P Q : FT → Prop} {x : FT} (h : ∀ y, ¬ P y) (k : Least Q x) : Least (fun y => P y ∨ Q y) x :=
  k.congr fun y => ⟨.inr, fun h' => h'.resolve_left (h y)⟩
theorem Least.ahead {P Q : FT → Prop} {x : FT} (h : Least P x) (h0 : x.c ≠ 0) (k : ∀ y, Q y → x.c < y.c) : Least (fun y => P y ∨ Q y) x := by
  rcases h with ⟨rfl, h⟩ | ⟨h1, h2, h3⟩
  · exact absurd rfl h0
  · refine .inr ⟨h1, .inl h2, fun y hy => ?_⟩
    rcases hy with hy | hy
    · exact h3 y hy
    · exact .inl (k y hy)

/-- the program's own way to take the first of two -/
def fstOf (a b : FT) : FT := if a.c = 0 then b else if b.c ≠ 0 ∧ ¬ a.le b then b else a
theorem Least.first {P Q : FT → Prop} {a b : FT} (h : Least P a) (k : Least Q b) : Least (fun y => P y ∨ Q y) (fstOf a b) := by
  unfold fstOf
  rcases h with ⟨rfl, h⟩ | ⟨h0, h1, h2⟩
  · rw [if_pos rfl]
    exact Least.behind h k
  · rw [if_neg (by omega)]
    rcases k with ⟨rfl, k⟩ | ⟨k0, k1, k2⟩
    · rw [if_neg (by simp)]
      refine .inr ⟨h0, .inl h1, fun y hy => ?_⟩
      rcases hy with hy | hy
      · exact h2 y hy
      · exact absurd hy (k y)
    · by_cases e : a.le b
      · rw [if_neg (fun h => h.2 e)]
        refine .inr ⟨h0, .inl h1, fun y hy => ?_⟩
        rcases hy with hy | hy
        · exact h2 y hy
        · exact FT.le_trans e (k2 y hy)
      · rw [if_pos ⟨by omega, e⟩]
        refine .inr ⟨k0, .inr k1, fun y hy => ?_⟩
        rcases hy with hy | hy
        · exact FT.le_trans ((FT.le_total a b).resolve_left e) (h2 y hy)
        · exact k2 y hy
theorem Least.one {b : FT} (h : 0 < b.c) : Least (fun y => y = b) b := .inr ⟨h, rfl, fun y hy => by rw [hy]; exact FT.le_refl _⟩
theorem Least.note {P : FT → Prop} {a b : FT} (h : Least P a) (h0 : 0 < b.c) : Least (fun y => P y ∨ y = b) (fstOf a b) := h.first (Least.one h0)

/-- a proposition as a bool -/
noncomputable def dB (p : Prop) : Bool := @decide p (Classical.propDecidable p)
theorem dB_true {p : Prop} (h : p) : dB p = true := by unfold dB; exact @decide_eq_true p (Classical.propDecidable p) h
theorem dB_false {p : Prop} (h : ¬ p) : dB p = false := by unfold dB; exact @decide_eq_false p (Classical.propDecidable p) h
theorem dB_iff {p : Prop} : dB p = true ↔ p :=
  ⟨fun h => Classical.byContradiction fun k => Bool.noConfusion ((dB_false k).symm.trans h), dB_true⟩
theorem dB_not {p : Prop} : dB p = false ↔ ¬ p :=
  ⟨fun h k => Bool.noConfusion (h.symm.trans (dB_true k)), dB_false⟩
end Go.Proofs.YtcpjnddkibbddaaGreat

/-! Scopes, loops and faults of a unit: plain. -/
namespace Go.Proofs.YtcpjnddkibbddaaGreat

/-- a node's refs hold v -/
def RefIn (a : ND) (v : Int) : Prop := ∃ b, b < a.rn ∧ a.r b = v
/-- what node p brings into scope for its kid number j -/
def AddP (nd : Nat → ND) (p j : Nat) (v : Int) : Prop :=
  ((nd p).k = 1 ∧ ∃ i, i < j ∧ (nd ((nd p).c i).toNat).k = 2 ∧ RefIn (nd ((nd p).c i).toNat) v)
  ∨ (((nd p).k = 7 ∨ (nd p).k = 8 ∨ (nd p).k = 12) ∧ j + 1 = (nd p).kn ∧ RefIn (nd p) v)
/-- v is brought into scope around x -/
inductive Vis (nd : Nat → ND) (n : Nat) (v : Int) : Nat → Prop
  | here (x p j : Nat) (h : KidAt nd n p j x) (h' : AddP nd p j v) : Vis nd n v x
  | up (x p j : Nat) (h : KidAt nd n p j x) (h' : Vis nd n v p) : Vis nd n v x
/-- x stands in a loop's block -/
inductive InL (nd : Nat → ND) (n : Nat) : Nat → Prop
  | here (x p j : Nat) (h : KidAt nd n p j x) (h' : ((nd p).k = 6 ∨ (nd p).k = 7 ∨ (nd p).k = 8) ∧ j + 1 = (nd p).kn) : InL nd n x
  | up (x p j : Nat) (h : KidAt nd n p j x) (h' : InL nd n p) : InL nd n x

theorem TreeOk.same {nd : Nat → ND} {n : Nat} (h : TreeOk nd n) {x p j p' j' : Nat} (h1 : KidAt nd n p j x) (h2 : KidAt nd n p' j' x) : p' = p ∧ j' = j := by
  have hc := h.kids p h1.1 j h1.2.1
  have h1' := h1.2.2
  have hp := h1.1
  obtain ⟨q, i, _, _, _, h4⟩ := h.up (x := x) (by omega)
  have a := h4 p j h1
  have b := h4 p' j' h2
  omega
theorem TreeOk.noUp {nd : Nat → ND} {n : Nat} (h : TreeOk nd n) {p j : Nat} (h1 : KidAt nd n p j (n - 1)) : False := by
  have hc := h.kids p h1.1 j h1.2.1
  have h1' := h1.2.2
  have hp := h1.1
  omega
theorem Vis.iff {nd : Nat → ND} {n : Nat} (h : TreeOk nd n) {v : Int} {x p j : Nat} (hk : KidAt nd n p j x) : Vis nd n v x ↔ (AddP nd p j v ∨ Vis nd n v p) := by
  constructor
  · intro hv
    cases hv with
    | here _ p' j' h1 h2 => obtain ⟨rfl, rfl⟩ := h.same hk h1; exact .inl h2
    | up _ p' j' h1 h2 => obtain ⟨rfl, rfl⟩ := h.same hk h1; exact .inr h2
  · rintro (h1 | h1)
    · exact .here x p j hk h1
    · exact .up x p j hk h1
theorem Vis.root {nd : Nat → ND} {n : Nat} (h : TreeOk nd n) {v : Int} : ¬ Vis nd n v (n - 1) := by
  intro hv
  cases hv with
  | here _ p' j' h1 h2 => exact h.noUp h1
  | up _ p' j' h1 h2 => exact h.noUp h1
theorem InL.iff {nd : Nat → ND} {n : Nat} (h : TreeOk nd n) {x p j : Nat} (hk : KidAt nd n p j x) : InL nd n x ↔ (((nd p).k = 6 ∨ (nd p).k = 7 ∨ (nd p).k = 8) ∧ j + 1 = (nd p).kn) ∨ InL nd n p := by
  constructor
  · intro hv
    cases hv with
    | here _ p' j' h1 h2 => obtain ⟨rfl, rfl⟩ := h.same hk h1; exact .inl h2
    | up _ p' j' h1 h2 => obtain ⟨rfl, rfl⟩ := h.same hk h1; exact .inr h2
  · rintro (h1 | h1)
    · exact .here x p j hk h1
    · exact .up x p j hk h1
theorem InL.root {nd : Nat → ND} {n : Nat} (h : TreeOk nd n) : ¬ InL nd n (n - 1) := by
  intro hv
  cases hv with
  | here _ p' j' h1 h2 => exact h.noUp h1
  | up _ p' j' h1 h2 => exact h.noUp h1

/-- v is in scope at x -/
def Scoped (d : FD) (x : Nat) (v : Int) : Prop := v < d.params ∨ Vis d.nd d.nn v x
def DeclK (k : Int) : Prop := k = 2 ∨ k = 7 ∨ k = 8 ∨ k = 12
/-- v is declared ahead of ref j of node x -/
def SeenV (d : FD) (x j : Nat) (v : Int) : Prop := v < d.params ∨ (∃ m, m < x ∧ DeclK (d.nd m).k ∧ RefIn (d.nd m) v) ∨ ∃ b, b < j ∧ (d.nd x).r b = v
def InR (v : Int) (n : Nat) : Prop := 0 ≤ v ∧ v < n
/-- code 6 is not there -/
def RefsOk (u : UD) (f x : Nat) : Prop :=
  ((((u.fn f).nd x).k = 27 → InR (((u.fn f).nd x).r 0) (u.fn f).un))
  ∧ ((((u.fn f).nd x).k = 36 → InR (((u.fn f).nd x).r 0) u.n))
  ∧ ((((u.fn f).nd x).k = 26 → InR (((u.fn f).nd x).r 0) (u.fn f).vn ∧ Scoped (u.fn f) x (((u.fn f).nd x).r 0)))
  ∧ (DeclK ((u.fn f).nd x).k → ∀ j, j < ((u.fn f).nd x).rn → InR (((u.fn f).nd x).r j) (u.fn f).vn ∧ ¬ SeenV (u.fn f) x j (((u.fn f).nd x).r j))
/-- all that fn g closes over is there at node x of fn f -/
def UpsOk (u : UD) (f x g : Nat) : Prop := ∀ i, i < (u.fn g).un →
  ((((u.fn g).u i).loc = true → InR ((u.fn g).u i).ix (u.fn f).vn ∧ Scoped (u.fn f) x ((u.fn g).u i).ix)
  ∧ (((u.fn g).u i).loc = false → InR ((u.fn g).u i).ix (u.fn f).un))
/-- node x of fn f makes fn g -/
def MakesAt (u : UD) (f x : Nat) (g : Int) : Prop := f < u.n ∧ x < (u.fn f).nn ∧ ((u.fn f).nd x).k = 36 ∧ ((u.fn f).nd x).r 0 = g
def MadeBefore (u : UD) (f x : Nat) (g : Int) : Prop := ∃ f' x', (f' < f ∨ f' = f ∧ x' < x) ∧ MakesAt u f' x' g
def JumpBad (d : FD) (x : Nat) : Prop := ((d.nd x).k = 9 ∨ (d.nd x).k = 10) ∧ ¬ InL d.nd d.nn x
/-- code 8, seen from the node alone -/
def MakeBad (u : UD) (f x : Nat) : Prop :=
  (((u.fn f).nd x).k = 37 ∧ (u.fn f).rest = false)
  ∨ (((u.fn f).nd x).k = 36 ∧ InR (((u.fn f).nd x).r 0) u.n ∧ ((((u.fn f).nd x).r 0) ≤ f ∨ ¬ UpsOk u f x (((u.fn f).nd x).r 0).toNat))
def TwiceBad (u : UD) (f x : Nat) : Prop := ((u.fn f).nd x).k = 36 ∧ InR (((u.fn f).nd x).r 0) u.n ∧ MadeBefore u f x (((u.fn f).nd x).r 0)

/-- the faults with the codes 6 to 9 -/
def Bad6 (u : UD) (y : FT) : Prop := y.c = 6 ∧ y.f < u.n ∧ y.n < (u.fn y.f).nn ∧ ¬ RefsOk u y.f y.n
def Bad7 (u : UD) (y : FT) : Prop := y.c = 7 ∧ y.f < u.n ∧ y.n < (u.fn y.f).nn ∧ JumpBad (u.fn y.f) y.n
def Bad8 (u : UD) (y : FT) : Prop := y.c = 8 ∧ y.f < u.n ∧ y.n < (u.fn y.f).nn ∧ (MakeBad u y.f y.n ∨ TwiceBad u y.f y.n)
def Bad9 (u : UD) (y : FT) : Prop := y.c = 9 ∧ y.n = 0 ∧ 1 ≤ y.f ∧ y.f < u.n ∧ ¬ ∃ f' x', MakesAt u f' x' y.f
def BadS (u : UD) (y : FT) : Prop := Bad6 u y ∨ Bad7 u y ∨ Bad8 u y ∨ Bad9 u y
end Go.Proofs.YtcpjnddkibbddaaGreat

/-! The specification's check of a unit: places and declarations. -/
namespace Go.Proofs.YtcpjnddkibbddaaGreat
open Go.RowKit
attribute [local go_sem] run_store_float
attribute [local go_sem ↓] Go.wp_at_zero Go.wp_at_succ

/-- the place of v in a list, or -1 -/
def PlcSays (r : Nat → Int) (n : Nat) (v p : Int) : Prop := (p = -1 ∧ ∀ i, i < n → r i ≠ v) ∨ (∃ i : Nat, p = i ∧ i < n ∧ r i = v ∧ ∀ j, j < i → r j ≠ v)

set_option maxRecDepth 100000 in
set_option maxHeartbeats 4000000 in
theorem l3place_calls (L : Nat) (a : Option Addr) (n cap : Nat) (r : Nat → Int) (v : Int) (w : World) (hn : n ≤ 1048576) (hT : IntsAt L w a n r) :
    Calls Tryz.prog 142 #[.slice a n cap, .int .i64 v] w fun e w' => (∃ p : Int, e = .returned (.int .i64 p) ∧ PlcSays r n v p) ∧ w' = w := by
  have HT : Hid (RowN 1 L w a n fun i => #[.int .i64 (r i)]) := hT
  clear hT
  go_enter Tryz.func142, Tryz.ntmps142
  go_wp2_with fail
  go_loopw [9] (fun i wr => ∃ (k : Nat), k ≤ n ∧ i = .int .i64 k ∧ Hid (∀ j, j < k → r j ≠ v) ∧ wr = w) (fun i _ => n - (intOf i).toNat)
  case atStart => exact ⟨0, Nat.zero_le _, rfl, fun j hj => by omega, rfl⟩
  case round =>
    obtain ⟨k, hk, rfl, HK, rfl⟩ := hrel
    by_cases hkn : k < n
    · obtain ⟨b, off, rfl, _, hb, d0⟩ := cells1 HT.out hkn
      by_cases hv : r k = v
      · have q : (r k == v) = true := by simpa using hv
        have HV : Hid (r k = v) := hv
        clear hv
        go_wp2_with fail
        go_ret
        exact ⟨⟨_, rfl, .inr ⟨k, rfl, hkn, HV.out, HK.out⟩⟩, rfl⟩
      · have q : (r k == v) = false := by simpa using hv
        go_wp2_with fail
        go_roundw
        case rel => exact ⟨k + 1, by omega, by go_num, fun j hj => by
          by_cases e : j = k
          · subst e; exact hv
          · exact HK.out j (by omega), by first | rfl | trivial⟩
        case measure => simp [intOf]; omega
    · go_wp2_with fail
      go_ret
      exact ⟨⟨_, rfl, .inl ⟨rfl, fun i hi => HK.out i (by omega)⟩⟩, rfl⟩

theorem plc_ref {a : ND} {v p : Int} (h : PlcSays a.r a.rn v p) : decide (0 ≤ p) = dB (RefIn a v) := by
  rcases h with ⟨rfl, h⟩ | ⟨i, rfl, h1, h2, _⟩
  · rw [dB_false]
    · rfl
    · rintro ⟨b, hb, he⟩
      exact h b hb he
  · rw [dB_true ⟨i, h1, h2⟩]
    simp

set_option maxRecDepth 100000 in
set_option maxHeartbeats 4000000 in
theorem l3declares_calls (L : Nat) (d : ND) (x : NA) (v : Int) (w : World) (hs : d.sm) (hT : NodeAt L w d x) :
    Calls Tryz.prog 143 #[nodeV d x, .int .i64 v] w fun e w' => e = .returned (.bool (dB (DeclK d.k ∧ RefIn d v))) ∧ Below w.heap.size w w' := by
  have HT : Hid (NodeAt L w d x) := hT
  have HS : Hid d.sm := hs
  clear hT hs
  by_cases hd : DeclK d.k
  · have HD : Hid (DeclK d.k) := hd
    have q : (d.k != 2 && d.k != 7 && d.k != 8 && d.k != 12) = false := by
      unfold DeclK at hd
      rcases hd with h | h | h | h <;> rw [h] <;> rfl
    unfold DeclK at hd
    rcases hd with h | h | h | h
    all_goals
      have hk : d.k = _ := h
      clear h
      go_enter Tryz.func143, Tryz.ntmps143
      go_wp2_with (go_at_call 142; refine (l3place_calls L _ _ _ d.r v _ HS.out.rn (HT.out.alloc _).1).mono ?_; rintro e w1 ⟨⟨p, rfl, hp⟩, rfl⟩)
      go_ret
      refine ⟨ret_bool ?_, below_alloc _ _⟩
      rw [plc_ref hp]
      by_cases hr : RefIn d v
      · rw [dB_true hr, dB_true ⟨HD.out, hr⟩]
      · rw [dB_false hr, dB_false fun h => hr h.2]
  · have hv : dB (DeclK d.k ∧ RefIn d v) = false := dB_false fun h => hd h.1
    rw [hv]
    unfold DeclK at hd
    have q2 : (d.k != 2) = true := by simp; omega
    have q7 : (d.k != 7) = true := by simp; omega
    have q8 : (d.k != 8) = true := by simp; omega
    have q12 : (d.k != 12) = true := by simp; omega
    clear hv hd
    go_enter Tryz.func143, Tryz.ntmps143
    go_wp2_with fail
    go_ret
    exact ⟨rfl, below_alloc _ _⟩
end Go.Proofs.YtcpjnddkibbddaaGreat

/-! Scopes as the program keeps them: a stack of variables. Plain. -/
namespace Go.Proofs.YtcpjnddkibbddaaGreat

/-- a node's refs that are variables -/
def vref (a : ND) (vn : Nat) : List Int := ((List.range a.rn).map a.r).filter (fun v => decide (0 ≤ v) && decide (v < vn))
theorem mem_vref {a : ND} {vn : Nat} {v : Int} : v ∈ vref a vn ↔ RefIn a v ∧ InR v vn := by
  unfold vref RefIn InR
  simp only [List.mem_filter, List.mem_map, List.mem_range, Bool.and_eq_true, decide_eq_true_eq]
/-- what the NLets among the first kids bring -/
def letsOf (nd : Nat → ND) (vn p : Nat) : Nat → List Int
  | 0 => []
  | j + 1 => letsOf nd vn p j ++ (if (nd ((nd p).c j).toNat).k = 2 then vref (nd ((nd p).c j).toNat) vn else [])
theorem mem_lets {nd : Nat → ND} {vn p : Nat} {v : Int} : ∀ j, v ∈ letsOf nd vn p j ↔ (∃ i, i < j ∧ (nd ((nd p).c i).toNat).k = 2 ∧ RefIn (nd ((nd p).c i).toNat) v) ∧ InR v vn
  | 0 => by unfold letsOf; simp
  | j + 1 => by
    unfold letsOf
    rw [List.mem_append, mem_lets j]
    constructor
    · rintro (⟨⟨i, h1, h2⟩, h3⟩ | h)
      · exact ⟨⟨i, by omega, h2⟩, h3⟩
      · by_cases e : (nd ((nd p).c j).toNat).k = 2
        · rw [if_pos e, mem_vref] at h
          exact ⟨⟨j, by omega, e, h.1⟩, h.2⟩
        · rw [if_neg e] at h
          cases h
    · rintro ⟨⟨i, h1, h2, h3⟩, h4⟩
      by_cases e : i = j
      · subst e
        rw [if_pos h2, mem_vref]
        exact .inr ⟨h3, h4⟩
      · exact .inl ⟨⟨i, by omega, h2, h3⟩, h4⟩
/-- the stack holds what is in scope at x -/
def StackOk (d : FD) (x : Nat) (st : List Int) : Prop := ∀ v, InR v d.vn → (v ∈ st ↔ Scoped d x v)

theorem StackOk.block {d : FD} (h : TreeOk d.nd d.nn) {p j y : Nat} (hk : KidAt d.nd d.nn p j y) (e : (d.nd p).k = 1) {st : List Int} (hs : StackOk d p st) : StackOk d y (st ++ letsOf d.nd d.vn p j) := fun v hv => by
  have := hs v hv
  unfold Scoped at this ⊢
  rw [Vis.iff h hk, List.mem_append, mem_lets, this]
  unfold AddP
  constructor
  · rintro ((h1 | h1) | ⟨h1, _⟩)
    · exact .inl h1
    · exact .inr (.inr h1)
    · exact .inr (.inl (.inl ⟨e, h1⟩))
  · rintro (h1 | (h1 | h1) | h1)
    · exact .inl (.inl h1)
    · exact .inr ⟨h1.2, hv⟩
    · omega
    · exact .inl (.inr h1)
theorem StackOk.plain {d : FD} (h : TreeOk d.nd d.nn) {p j y : Nat} (hk : KidAt d.nd d.nn p j y) (e : (d.nd p).k ≠ 1) (e' : ((d.nd p).k = 7 ∨ (d.nd p).k = 8 ∨ (d.nd p).k = 12) → j + 1 ≠ (d.nd p).kn) {st : List Int} (hs : StackOk d p st) : StackOk d y st := fun v hv => by
  have := hs v hv
  unfold Scoped at this ⊢
  rw [Vis.iff h hk, this]
  unfold AddP
  constructor
  · rintro (h1 | h1)
    · exact .inl h1
    · exact .inr (.inr h1)
  · rintro (h1 | (h1 | h1) | h1)
    · exact .inl h1
    · exact absurd h1.1 e
    · exact absurd h1.2.1 (e' h1.1)
    · exact .inr h1
theorem StackOk.last {d : FD} (h : TreeOk d.nd d.nn) {p j y : Nat} (hk : KidAt d.nd d.nn p j y) (e : (d.nd p).k = 7 ∨ (d.nd p).k = 8 ∨ (d.nd p).k = 12) (e' : j + 1 = (d.nd p).kn) {st : List Int} (hs : StackOk d p st) : StackOk d y (st ++ vref (d.nd p) d.vn) := fun v hv => by
  have := hs v hv
  unfold Scoped at this ⊢
  rw [Vis.iff h hk, List.mem_append, mem_vref, this]
  unfold AddP
  constructor
  · rintro ((h1 | h1) | ⟨h1, _⟩)
    · exact .inl h1
    · exact .inr (.inr h1)
    · exact .inr (.inl (.inr ⟨e, e', h1⟩))
  · rintro (h1 | (h1 | h1) | h1)
    · exact .inl (.inl h1)
    · omega
    · exact .inr ⟨h1.2.2, hv⟩
    · exact .inl (.inr h1)
/-- the first variables -/
def firstV (n : Nat) : List Int := (List.range n).map fun (i : Nat) => (i : Int)
theorem StackOk.root {d : FD} (h : TreeOk d.nd d.nn) {n : Nat} (hp : d.params = n) : StackOk d (d.nn - 1) (firstV n) := fun v hv => by
  unfold Scoped firstV
  simp only [List.mem_map, List.mem_range]
  constructor
  · rintro ⟨i, h1, rfl⟩
    exact .inl (by omega)
  · rintro (h1 | h1)
    · exact ⟨v.toNat, by have := hv.1; omega, by have := hv.1; omega⟩
    · exact absurd h1 (Vis.root h)

/-- what is noted at node x of fn f while the tree is gone through -/
def NoteA (u : UD) (f x : Nat) (y : FT) : Prop := y.f = f ∧ y.n = x ∧
  ((y.c = 6 ∧ ((((u.fn f).nd x).k = 26 ∧ ¬ (InR (((u.fn f).nd x).r 0) (u.fn f).vn ∧ Scoped (u.fn f) x (((u.fn f).nd x).r 0)))
      ∨ (((u.fn f).nd x).k = 27 ∧ ¬ InR (((u.fn f).nd x).r 0) (u.fn f).un)
      ∨ (((u.fn f).nd x).k = 36 ∧ ¬ InR (((u.fn f).nd x).r 0) u.n)))
    ∨ (y.c = 7 ∧ JumpBad (u.fn f) x) ∨ (y.c = 8 ∧ MakeBad u f x))
/-- what is noted for declarations -/
def NoteD (u : UD) (f x : Nat) (y : FT) : Prop := y.c = 6 ∧ y.f = f ∧ y.n = x ∧ DeclK ((u.fn f).nd x).k ∧ ∃ j, j < ((u.fn f).nd x).rn ∧ ¬ (InR (((u.fn f).nd x).r j) (u.fn f).vn ∧ ¬ SeenV (u.fn f) x j (((u.fn f).nd x).r j))
/-- what is noted in fn f -/
def NoteF (u : UD) (f : Nat) (y : FT) : Prop := ∃ x, x < (u.fn f).nn ∧ (NoteA u f x y ∨ NoteD u f x y)
/-- what is noted for makers -/
def NoteM (u : UD) (y : FT) : Prop := (y.c = 8 ∧ y.f < u.n ∧ y.n < (u.fn y.f).nn ∧ TwiceBad u y.f y.n) ∨ Bad9 u y

theorem notes_bad (u : UD) (y : FT) : ((∃ f, f < u.n ∧ NoteF u f y) ∨ NoteM u y) ↔ BadS u y := by
  constructor
  · rintro (⟨f, hf, x, hx, h | h⟩ | h | h)
    · obtain ⟨rfl, rfl, h⟩ := h
      rcases h with ⟨h0, h⟩ | ⟨h0, h⟩ | ⟨h0, h⟩
      · refine .inl ⟨h0, hf, hx, fun hr => ?_⟩
        rcases h with ⟨h1, h2⟩ | ⟨h1, h2⟩ | ⟨h1, h2⟩
        · exact h2 (hr.2.2.1 h1)
        · exact h2 (hr.1 h1)
        · exact h2 (hr.2.1 h1)
      · exact .inr (.inl ⟨h0, hf, hx, h⟩)
      · exact .inr (.inr (.inl ⟨h0, hf, hx, .inl h⟩))
    · obtain ⟨h0, rfl, rfl, h1, j, hj, h2⟩ := h
      exact .inl ⟨h0, hf, hx, fun hr => h2 (hr.2.2.2 h1 j hj)⟩
    · exact .inr (.inr (.inl ⟨h.1, h.2.1, h.2.2.1, .inr h.2.2.2⟩))
    · exact .inr (.inr (.inr h))
  · rintro (⟨h0, hf, hx, h⟩ | ⟨h0, hf, hx, h⟩ | ⟨h0, hf, hx, h | h⟩ | h)
    · refine Classical.byContradiction fun hn => h ?_
      have hA : ¬ NoteA u y.f y.n y := fun h => hn (.inl ⟨_, hf, _, hx, .inl h⟩)
      have hD : ¬ NoteD u y.f y.n y := fun h => hn (.inl ⟨_, hf, _, hx, .inr h⟩)
      refine ⟨fun h1 => Classical.byContradiction fun h2 => hA ⟨rfl, rfl, .inl ⟨h0, .inr (.inl ⟨h1, h2⟩)⟩⟩, fun h1 => Classical.byContradiction fun h2 => hA ⟨rfl, rfl, .inl ⟨h0, .inr (.inr ⟨h1, h2⟩)⟩⟩, fun h1 => Classical.byContradiction fun h2 => hA ⟨rfl, rfl, .inl ⟨h0, .inl ⟨h1, h2⟩⟩⟩, fun h1 j hj => Classical.byContradiction fun h2 => hD ⟨h0, rfl, rfl, h1, j, hj, h2⟩⟩
    · exact .inl ⟨_, hf, _, hx, .inl ⟨rfl, rfl, .inr (.inl ⟨h0, h⟩)⟩⟩
    · exact .inl ⟨_, hf, _, hx, .inl ⟨rfl, rfl, .inr (.inr ⟨h0, h⟩)⟩⟩
    · exact .inr (.inl ⟨h0, hf, hx, h⟩)
    · exact .inr (.inr h)

/-- what is noted at x and below it -/
def NoteT (u : UD) (f x : Nat) (y : FT) : Prop := ∃ z, Sub (u.fn f).nd x z ∧ NoteA u f z y
/-- what is noted below the first kids of x -/
def NoteK (u : UD) (f x j : Nat) (y : FT) : Prop := ∃ i c : Nat, i < j ∧ ((u.fn f).nd x).c i = (c : Int) ∧ NoteT u f c y
theorem noteT_iff (u : UD) (f x : Nat) (y : FT) : NoteT u f x y ↔ NoteK u f x ((u.fn f).nd x).kn y ∨ NoteA u f x y := by
  constructor
  · rintro ⟨z, h, h2⟩
    cases h with
    | self => exact .inr h2
    | kid _ j c _ hj hc h3 => exact .inl ⟨j, c, hj, hc, z, h3, h2⟩
  · rintro (⟨i, c, h1, h2, z, h3, h4⟩ | h)
    · exact ⟨z, .kid x i c z h1 h2 h3, h4⟩
    · exact ⟨x, .self x, h⟩
theorem noteK_zero (u : UD) (f x : Nat) (y : FT) : ¬ NoteK u f x 0 y := by rintro ⟨i, c, h1, _⟩; omega
theorem noteK_succ (u : UD) (f x j c : Nat) (hc : ((u.fn f).nd x).c j = (c : Int)) (y : FT) : NoteK u f x (j + 1) y ↔ NoteK u f x j y ∨ NoteT u f c y := by
  constructor
  · rintro ⟨i, c', h1, h2, h3⟩
    by_cases e : i = j
    · subst e
      have : c' = c := by omega
      subst this
      exact .inr h3
    · exact .inl ⟨i, c', by omega, h2, h3⟩
  · rintro (⟨i, c', h1, h2, h3⟩ | h)
    · exact ⟨i, c', by omega, h2, h3⟩
    · exact ⟨j, c, by omega, hc, h⟩
theorem noteT_root (u : UD) (f : Nat) (h : TreeOk (u.fn f).nd (u.fn f).nn) (y : FT) : NoteT u f ((u.fn f).nn - 1) y ↔ ∃ x, x < (u.fn f).nn ∧ NoteA u f x y := by
  have hpos := h.pos
  constructor
  · rintro ⟨z, h1, h2⟩
    refine ⟨z, ?_, h2⟩
    have : ∀ p x, Sub (u.fn f).nd p x → p < (u.fn f).nn → x < (u.fn f).nn := by
      intro p x hs
      induction hs with
      | self _ => exact id
      | kid p j c x hj hc _ ih => exact fun hp => ih (by have := h.kids p hp j hj; omega)
    exact this _ _ h1 (by omega)
  · rintro ⟨x, h1, h2⟩
    exact ⟨x, h.all ((u.fn f).nn - 1 - x) x (by omega), h2⟩
end Go.Proofs.YtcpjnddkibbddaaGreat

/-! The specification's check of a unit: a node's form. -/
namespace Go.Proofs.YtcpjnddkibbddaaGreat
open Go.RowKit
attribute [local go_sem] run_store_float
attribute [local go_sem ↓] Go.wp_at_zero Go.wp_at_succ

set_option maxRecDepth 100000 in
set_option maxHeartbeats 4000000 in
theorem l3exprs_calls (L : Nat) (n : Nat) (nd : Nat → ND) (a : Option Addr) (cap : Nat) (nas : Nat → NA) (m lo hi : Nat) (w : World) (hm : m < n) (hh : hi ≤ 1048576) (hT : NodesAt L w n nd a nas) :
    Calls Tryz.prog 139 #[.slice a n cap, .int .i64 m, .int .i64 lo, .int .i64 hi] w fun e w' => e = .returned (.bool (exsB nd m lo hi)) ∧ w' = w := by
  have HT : Hid (NodesAt L w n nd a nas) := hT
  clear hT
  go_enter Tryz.func139, Tryz.ntmps139
  go_wp2_with fail
  go_loopw [9] (fun i wr => ∃ (k : Nat), lo ≤ k ∧ i = .int .i64 k ∧ Hid (∀ j, lo ≤ j → j < k → exK (kidK nd m j) = true) ∧ wr = w) (fun i _ => hi - (intOf i).toNat)
  case atStart => exact ⟨lo, Nat.le_refl _, rfl, fun j h1 h2 => by omega, rfl⟩
  case round =>
    obtain ⟨k, hk, rfl, HK, rfl⟩ := hrel
    by_cases hkn : k < hi
    · cases hb : exK (kidK nd m k)
      · have hv : exsB nd m lo hi = false := allB_no hk hkn hb
        go_wp2_with (first | (go_at_call 137; refine (l3kid_calls L n nd a cap nas m k _ hm HT.out).mono ?_; rintro e w1 ⟨rfl, rfl⟩) | (go_at_call 158; refine (l3expr_calls _ _).mono ?_; rw [hb]; rintro e w1 ⟨rfl, rfl⟩))
        go_ret
        exact ⟨ret_bool hv.symm, rfl⟩
      · go_wp2_with (first | (go_at_call 137; refine (l3kid_calls L n nd a cap nas m k _ hm HT.out).mono ?_; rintro e w1 ⟨rfl, rfl⟩) | (go_at_call 158; refine (l3expr_calls _ _).mono ?_; rw [hb]; rintro e w1 ⟨rfl, rfl⟩))
        go_roundw
        case rel => exact ⟨k + 1, by omega, by go_num, fun j h1 h2 => by
          by_cases e : j = k
          · subst e; exact hb
          · exact HK.out j h1 (by omega), by first | rfl | trivial⟩
        case measure => simp [intOf]; omega
    · have hv : exsB nd m lo hi = true := allB_true.2 fun i h1 h2 => HK.out i h1 (by omega)
      go_wp2_with fail
      go_ret
      exact ⟨ret_bool hv.symm, rfl⟩

theorem l3kidI (L : Nat) (n : Nat) (nd : Nat → ND) (a : Option Addr) (cap : Nat) (nas : Nat → NA) (m : Nat) (i : Int) (hi : 0 ≤ i) (w : World) (hm : m < n) (hT : NodesAt L w n nd a nas) :
    Calls Tryz.prog 137 #[.slice a n cap, .int .i64 m, .int .i64 i] w fun e w' => e = .returned (.int .i64 (kidK nd m i.toNat)) ∧ w' = w := by
  obtain ⟨k, rfl⟩ : ∃ k : Nat, i = k := ⟨i.toNat, by omega⟩
  exact l3kid_calls L n nd a cap nas m k w hm hT
theorem l3exprsI (L : Nat) (n : Nat) (nd : Nat → ND) (a : Option Addr) (cap : Nat) (nas : Nat → NA) (m : Nat) (lo hi : Int) (w : World) (hm : m < n) (h0 : 0 ≤ lo) (h1 : 0 ≤ hi) (hh : hi ≤ 1048576) (hT : NodesAt L w n nd a nas) :
    Calls Tryz.prog 139 #[.slice a n cap, .int .i64 m, .int .i64 lo, .int .i64 hi] w fun e w' => e = .returned (.bool (exsB nd m lo.toNat hi.toNat)) ∧ w' = w := by
  obtain ⟨k, rfl⟩ : ∃ k : Nat, lo = k := ⟨lo.toNat, by omega⟩
  obtain ⟨l, rfl⟩ : ∃ l : Nat, hi = l := ⟨hi.toNat, by omega⟩
  exact l3exprs_calls L n nd a cap nas m k l w hm (by omega) hT

set_option maxRecDepth 100000 in
set_option maxHeartbeats 4000000 in
theorem l3bare_calls (k' l' o' n' : Int) (f' : Nat) (s' : ByteArray) (ra : Option Addr) (rn rc : Nat) (kv : Value) (o n f s : Bool) (r : Int) (w : World) :
    Calls Tryz.prog 138 #[.agg #[.int .i64 k', .int .i64 l', .int .i64 o', .int .i64 n', .float .f64 f', .string s', .slice ra rn rc, kv], .bool o, .bool n, .bool f, .bool s, .int .i64 r] w fun e w' => e = .returned (.bool (bareG o' n' f' s' rn o n f s r)) ∧ Below w.heap.size w w' := by
  cases o <;> cases n <;> cases f <;> cases s
  all_goals go_enter Tryz.func138, Tryz.ntmps138
  all_goals go_wp2_with fail
  all_goals go_ret
  all_goals exact ⟨by simp [bareG, fz, se, *], below_alloc _ _⟩
end Go.Proofs.YtcpjnddkibbddaaGreat
