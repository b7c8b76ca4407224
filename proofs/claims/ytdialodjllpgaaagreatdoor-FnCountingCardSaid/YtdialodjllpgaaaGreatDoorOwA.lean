import Derived.Test.YtdialodjllpgaaaGreatDoorUnB
import Derived.Maps.AppendAt
import Derived.Deep.AppendLies
import Derived.Test.YtdialodjllpgaaaGreatDoorDcA
import Derived.Lib.ItoaNum
import Derived.Lib.AppendStr
import Derived.Deep.RegionWith
import Derived.Deep.RegionHeld3
import Derived.Deep.DrawnRows
import Derived.Test.YtdialodjllpgaaaGreatDoorSet
/-! Rows of one's own, of things of any number of cells. -/
namespace Go.Proofs.YtdialodjllpgaaaGreatDoor
open Go.RowKit

theorem ownsK_form {u : World} {N K : Nat} {t : TypeId} {v : Value} {n : Nat} {xs : List Value} (h : u.ownsRow N t K v n xs) : ∃ a cap, v = .slice a n cap := by
  rcases h.2 with ⟨rfl, rfl⟩ | ⟨g, cap, cur, rfl, _⟩
  · exact ⟨_, _, rfl⟩
  · exact ⟨_, _, rfl⟩
theorem ownsK_block {u w : World} {N K : Nat} {t : TypeId} {v : Value} {n : Nat} {xs : List Value} (h : u.ownsRow N t K v n xs) (hk : ∀ k, v.ownBlock = some k → w.heap[k]? = u.heap[k]?) : w.ownsRow N t K v n xs := by
  refine ⟨h.1, ?_⟩
  rcases h.2 with h2 | ⟨g, cap', cur, e2, h3, hh, r⟩
  · exact .inl h2
  · exact .inr ⟨g, cap', cur, e2, h3, (hk g (by rw [e2]; rfl)).trans hh, r⟩
theorem ownsK_below {u w : World} {N K : Nat} {t : TypeId} {v : Value} {n : Nat} {xs : List Value} (h : u.ownsRow N t K v n xs) (hb : Below u.heap.size u w) : w.ownsRow N t K v n xs :=
  ownsK_block h fun k e => hb.block k (h.lt k e).2
theorem ownsK_set {u : World} {N K : Nat} {t : TypeId} {v : Value} {n : Nat} {xs : List Value} (h : u.ownsRow N t K v n xs) {R j : Nat} (x : Value) (hR : ∀ k, v.ownBlock = some k → k ≠ R) : (u.setCell ⟨R, j, none⟩ x).ownsRow N t K v n xs :=
  ownsK_block h fun k e => Below.heap_setCell _ _ _ _ (by have := hR k e; exact this)
theorem new_news (w : World) (cs : Array Value) (t : TypeId) : ∀ (j : Nat) (u : Value), cs.toList[j]? = some u → (w.alloc (.cells cs t)).cell? ((⟨w.heap.size, 0, none⟩ : Addr).add j) = some u :=
  World.news_of_block (cs := cs) (t := t) (fr := (0, 0)) (MapKept.heap_alloc w _).1
end Go.Proofs.YtdialodjllpgaaaGreatDoor

/-! Reports told: plain. -/
namespace Go.Proofs.YtdialodjllpgaaaGreatDoor
open Go.RowKit

theorem dsF_dec : ∀ (k j : Nat) (l : List UInt8), j < 10 ^ (k + 1) → dsF (k + 1) j l = Lib.decDigits j ++ l
  | 0, j, l, h => by
    have h1 : j < 10 := by simpa using h
    rw [dsF_last (by omega), Lib.decDigits_one h1]
    have : (48 + (j : Int) % 10).toNat = 48 + j := by omega
    simp [dgB, this]
  | k + 1, j, l, h => by
    by_cases c : j / 10 = 0
    · have h1 : j < 10 := by omega
      rw [dsF_last c, Lib.decDigits_one h1]
      have : (48 + (j : Int) % 10).toNat = 48 + j := by omega
      simp [dgB, this]
    · have h1 : ¬ j < 10 := by omega
      rw [dsF_more c, dsF_dec k (j / 10) _ (by rw [Nat.pow_succ] at h; omega)]
      conv => rhs; rw [Lib.decDigits, dif_neg h1]
      have : (48 + (j : Int) % 10).toNat = 48 + j % 10 := by omega
      simp [dgB, this]
theorem decB_itoa (n : Int) (h : I64r n) : decB n = Lib.itoa n := by
  unfold I64r at h
  have hb : n.natAbs < 10 ^ (19 + 1) := by
    have : n.natAbs ≤ 9223372036854775808 := by omega
    exact Nat.lt_of_le_of_lt this (by decide)
  unfold decB Lib.itoa
  rw [dsF_dec 19 n.natAbs [] hb, List.append_nil]
  by_cases c : n < 0
  · rw [if_pos c, if_pos c]
  · rw [if_neg c, if_neg c]
    have : n.natAbs = n.toNat := by omega
    rw [this]
/-- a number, a text, as they are told -/
def numL (n : Int) : List UInt8 := decB n ++ [32]
def txtL (s : ByteArray) : List UInt8 := numL (s.size : Int) ++ s.data.toList
def recL (d : RcD) : List UInt8 := (((numL d.k ++ numL d.t) ++ numL d.f) ++ numL d.l) ++ txtL d.s
def recsL (q : Nat → RcD) : Nat → List UInt8
  | 0 => []
  | k + 1 => recsL q k ++ recL (q k)
def txtsL (v : Nat → ByteArray) : Nat → List UInt8
  | 0 => []
  | k + 1 => txtsL v k ++ txtL (v k)
/-- a report as it is told -/
def tellL (d : RpD) : List UInt8 := (((((((numL d.code ++ numL d.ti) ++ numL d.ma) ++ numL d.n) ++ recsL d.rc d.n) ++ numL d.m) ++ txtsL d.v d.m) ++ txtL d.er) ++ txtL d.tr
theorem decB_len (n : Int) : (decB n).length ≤ 21 := by
  have h := dsF_len 20 n.natAbs []
  unfold decB
  split
  · simp at h ⊢; omega
  · simp at h ⊢; omega
/-- bytes as cells -/
def byS (l : List UInt8) : List Value := l.map fun b => Value.int .u8 (b.toNat : Int)
/-- no more than shows that it is too much -/
def tkM (l : List UInt8) : List UInt8 := l.take 1000001
/-- all but some blocks stays -/
structure Gx (S : Nat → Prop) (w w' : World) : Prop where
  os : w'.os = w.os
  tape : w'.tape = w.tape
  output : w'.output = w.output
  size : w.heap.size ≤ w'.heap.size
  block : ∀ k, k < w.heap.size → ¬ S k → w'.heap[k]? = w.heap[k]?
theorem Gx.refl (S : Nat → Prop) (w : World) : Gx S w w := ⟨rfl, rfl, rfl, Nat.le_refl _, fun _ _ _ => rfl⟩
theorem Gx.trans {S S' : Nat → Prop} {a b c : World} (h : Gx S a b) (k : Gx S' b c) (hs : ∀ i, i < a.heap.size → S' i → S i) : Gx S a c :=
  ⟨k.os.trans h.os, k.tape.trans h.tape, k.output.trans h.output, Nat.le_trans h.size k.size, fun i hi hn => (k.block i (Nat.lt_of_lt_of_le hi h.size) (fun e => hn (hs i hi e))).trans (h.block i hi hn)⟩
theorem Gx.below {w w' : World} (S : Nat → Prop) (h : Below w.heap.size w w') : Gx S w w' := ⟨h.os, h.tape, h.output, h.size, fun k hk _ => h.block k hk⟩
theorem Gx.grown {w w' : World} {r : Option Nat} (h : w.grownBy w' r) : Gx (fun k => r = some k) w w' := ⟨h.os, h.tape, h.output, h.size, fun k hk hn => h.block k hk fun e => hn e.symm⟩
theorem Gx.mono {S S' : Nat → Prop} {w w' : World} (h : Gx S w w') (hs : ∀ k, S k → S' k) : Gx S' w w' := ⟨h.os, h.tape, h.output, h.size, fun k hk hn => h.block k hk fun e => hn (hs k e)⟩
theorem Gx.to {S : Nat → Prop} {w w' : World} {N : Nat} (h : Gx S w w') (hN : N ≤ w.heap.size) (hs : ∀ k, S k → N ≤ k) : Below N w w' := ⟨h.os, h.tape, h.output, h.size, fun k hk => h.block k (by omega) fun e => by have := hs k e; omega⟩
theorem Gx.set (w : World) (g j : Nat) (v : Value) : Gx (fun k => k = g) w (w.setCell ⟨g, j, none⟩ v) := ⟨rfl, rfl, rfl, by simp, fun x _ hn => Below.heap_setCell _ _ _ _ hn⟩
theorem Gx.has {S : Nat → Prop} {w w' : World} (h : Gx S w w') {B : Nat} {A : Array Value} (hh : Has w B A) (hn : ¬ S B) : Has w' B A := ⟨Nat.lt_of_lt_of_le hh.1 h.size, fun o => (World.cell?_of_block (a := ⟨B, o, none⟩) (h.block B hh.1 hn)).trans (hh.2 o)⟩
end Go.Proofs.YtdialodjllpgaaaGreatDoor

/-! The specification's check of a unit: kinds, kids, fields. -/
namespace Go.Proofs.YtdialodjllpgaaaGreatDoor
open Go.RowKit
attribute [local go_sem] run_store_float
attribute [local go_sem ↓] Go.wp_at_zero Go.wp_at_succ

def stK (k : Int) : Bool := decide (1 ≤ k) && decide (k ≤ 14)
def exK (k : Int) : Bool := decide (20 ≤ k) && decide (k ≤ 38)
def tgK (k : Int) : Bool := k == 26 || k == 27 || k == 33
def mnK (k : Int) : Bool := k == 34 || k == 37
/-- the kind of kid i of a node; 0 when it is not ahead of it -/
def kidK (nd : Nat → ND) (m i : Nat) : Int := if i < (nd m).kn then (if 0 ≤ (nd m).c i ∧ (nd m).c i < m then (nd ((nd m).c i).toNat).k else 0) else 0
/-- all from lo to below hi -/
def allB (p : Nat → Bool) (lo hi : Nat) : Bool := decide (∀ i, i < hi → lo ≤ i → p i = true)
theorem allB_true {p : Nat → Bool} {lo hi : Nat} : allB p lo hi = true ↔ ∀ i, lo ≤ i → i < hi → p i = true := by
  unfold allB
  rw [decide_eq_true_iff]
  exact ⟨fun h i a b => h i b a, fun h i a b => h i b a⟩
theorem allB_no {p : Nat → Bool} {lo hi k : Nat} (h1 : lo ≤ k) (h2 : k < hi) (h : p k = false) : allB p lo hi = false := by
  cases e : allB p lo hi
  · rfl
  · rw [allB_true.1 e k h1 h2] at h; cases h
def exsB (nd : Nat → ND) (m lo hi : Nat) : Bool := allB (fun i => exK (kidK nd m i)) lo hi
/-- the fields that are not allowed are empty -/
def bareG (o' n' : Int) (f' : Nat) (s' : ByteArray) (rn : Nat) (o n f s : Bool) (r : Int) : Bool := (o || o' == 0) && (n || n' == 0) && (f || fz f') && (s || se s') && ((rn : Int) == r)
def bareB (d : ND) (o n f s : Bool) (r : Int) : Bool := bareG d.o d.n d.f d.s d.rn o n f s r

end Go.Proofs.YtdialodjllpgaaaGreatDoor

/-! Parents and depths of nodes: plain. -/
namespace Go.Proofs.YtdialodjllpgaaaGreatDoor

def stepP (p : Nat → Int) (i k : Nat) : Nat → Int := fun x => if x = k then (if p k = -2 then (i : Int) else -3) else p x
def kidsP (nd : Nat → ND) (i : Nat) (p : Nat → Int) : Nat → Nat → Int
  | 0 => p
  | j + 1 => stepP (kidsP nd i p j) i ((nd i).c j).toNat
/-- the parents that the first nodes give -/
def nodesP (nd : Nat → ND) : Nat → Nat → Int
  | 0 => fun _ => -2
  | i + 1 => kidsP nd i (nodesP nd i) (nd i).kn
def parP (nd : Nat → ND) (n : Nat) : Nat → Int := fun x => if x = n - 1 ∧ nodesP nd n (n - 1) = -2 then -1 else nodesP nd n x
/-- the depths of the last nodes -/
def depP (p : Nat → Int) (n : Nat) : Nat → Nat → Int
  | 0 => fun _ => 0
  | j + 1 => fun x => if x = n - 2 - j ∧ 0 ≤ p (n - 2 - j) then depP p n j (p (n - 2 - j)).toNat + 1 else depP p n j x

/-- kids stand ahead of their node -/
def KidsIn (nd : Nat → ND) (n : Nat) : Prop := ∀ i, i < n → ∀ j, j < (nd i).kn → 0 ≤ (nd i).c j ∧ (nd i).c j < i

/-- what the parents are -/
def PRng (n : Nat) (p : Nat → Int) : Prop := ∀ x, (p x = -2 ∨ p x = -3 ∨ (x < p x ∧ p x < n))

theorem kidsP_rng {nd : Nat → ND} {n i : Nat} (hi : i < n) (hk : KidsIn nd n) {p : Nat → Int} (hp : PRng n p) : ∀ j, j ≤ (nd i).kn → PRng n (kidsP nd i p j)
  | 0, _ => hp
  | j + 1, hj => fun x => by
    have ih := kidsP_rng hi hk hp j (by omega)
    have h := hk i hi j (by omega)
    unfold kidsP stepP
    by_cases e : x = ((nd i).c j).toNat
    · rw [if_pos e]
      split
      · right; right; omega
      · right; left; rfl
    · rw [if_neg e]
      exact ih x
theorem nodesP_rng {nd : Nat → ND} {n : Nat} (hk : KidsIn nd n) : ∀ i, i ≤ n → PRng n (nodesP nd i)
  | 0, _ => fun _ => .inl rfl
  | i + 1, hi => kidsP_rng (by omega) hk (nodesP_rng hk i (by omega)) _ (Nat.le_refl _)
theorem parP_rng {nd : Nat → ND} {n : Nat} (hk : KidsIn nd n) (x : Nat) : parP nd n x = -1 ∨ parP nd n x = -2 ∨ parP nd n x = -3 ∨ (x < parP nd n x ∧ parP nd n x < n) := by
  unfold parP
  split
  · exact .inl rfl
  · exact .inr (nodesP_rng hk n (Nat.le_refl _) x)
theorem kidsP_last {nd : Nat → ND} {n i : Nat} (hi : i < n) (hk : KidsIn nd n) {p : Nat → Int} (hp : p (n - 1) = -2) : ∀ j, j ≤ (nd i).kn → kidsP nd i p j (n - 1) = -2
  | 0, _ => hp
  | j + 1, hj => by
    have ih := kidsP_last hi hk hp j (by omega)
    have h := hk i hi j (by omega)
    unfold kidsP stepP
    rw [if_neg (by omega)]
    exact ih
theorem nodesP_last {nd : Nat → ND} {n : Nat} (hk : KidsIn nd n) : ∀ i, i ≤ n → nodesP nd i (n - 1) = -2
  | 0, _ => rfl
  | i + 1, hi => kidsP_last (by omega) hk (nodesP_last hk i (by omega)) _ (Nat.le_refl _)
theorem parP_eq {nd : Nat → ND} {n : Nat} (hk : KidsIn nd n) (x : Nat) : parP nd n x = if x = n - 1 then -1 else nodesP nd n x := by
  unfold parP
  rw [nodesP_last hk n (Nat.le_refl _)]
  simp
end Go.Proofs.YtdialodjllpgaaaGreatDoor

/-! Trees of nodes: parents, places, depths. Plain. -/
namespace Go.Proofs.YtdialodjllpgaaaGreatDoor

/-- what has been seen of kids up to kid j of node i -/
def Seen (nd : Nat → ND) (i j : Nat) (x a b : Nat) : Prop := (a < i ∧ b < (nd a).kn ∨ a = i ∧ b < j) ∧ (nd a).c b = x

/-- what a parent's number says of what has been seen -/
def PSays (p : Int) (Q : Nat → Nat → Prop) : Prop :=
  (p = -2 → ∀ a b, ¬ Q a b) ∧ (0 ≤ p → ∃ b, Q p.toNat b ∧ ∀ a' b', Q a' b' → a' = p.toNat ∧ b' = b)

theorem PSays.congr {p : Int} {Q R : Nat → Nat → Prop} (h : PSays p Q) (e : ∀ a b, Q a b ↔ R a b) : PSays p R :=
  ⟨fun h0 a b hr => h.1 h0 a b ((e a b).2 hr), fun h0 => by
    obtain ⟨b, h1, h2⟩ := h.2 h0
    exact ⟨b, (e _ _).1 h1, fun a' b' hr => h2 a' b' ((e _ _).2 hr)⟩⟩

theorem kidsP_says {nd : Nat → ND} {n i : Nat} (hi : i < n) (hk : KidsIn nd n) {p : Nat → Int} (hp : ∀ x, PSays (p x) (Seen nd i 0 x)) :
    ∀ j, j ≤ (nd i).kn → ∀ x, PSays (kidsP nd i p j x) (Seen nd i j x)
  | 0, _ => hp
  | j + 1, hj => fun x => by
    have ih := kidsP_says hi hk hp j (by omega) x
    have h := hk i hi j (by omega)
    have hs : ∀ a b, Seen nd i (j + 1) x a b ↔ (Seen nd i j x a b ∨ a = i ∧ b = j ∧ (nd i).c j = x) := by
      intro a b
      unfold Seen
      constructor
      · rintro ⟨h1 | h1, h2⟩
        · exact .inl ⟨.inl h1, h2⟩
        · by_cases e : b = j
          · obtain ⟨rfl, _⟩ := h1
            subst e
            exact .inr ⟨rfl, rfl, h2⟩
          · exact .inl ⟨.inr ⟨h1.1, by omega⟩, h2⟩
      · rintro (⟨h1 | h1, h2⟩ | ⟨rfl, rfl, h2⟩)
        · exact ⟨.inl h1, h2⟩
        · exact ⟨.inr ⟨h1.1, by omega⟩, h2⟩
        · exact ⟨.inr ⟨rfl, by omega⟩, h2⟩
    unfold kidsP stepP
    by_cases e : x = ((nd i).c j).toNat
    · have ex : (nd i).c j = (x : Int) := by omega
      rw [if_pos e, ← e]
      by_cases e2 : kidsP nd i p j x = -2
      · rw [if_pos e2]
        refine ⟨fun h0 => by omega, fun _ => ⟨j, (hs _ _).2 (.inr ⟨Int.toNat_natCast _, rfl, ex⟩), fun a' b' hr => ?_⟩⟩
        rcases (hs _ _).1 hr with h1 | h1
        · exact absurd h1 (ih.1 e2 _ _)
        · rw [Int.toNat_natCast]; exact ⟨h1.1, h1.2.1⟩
      · rw [if_neg e2]
        exact ⟨fun h0 => by omega, fun h0 => by omega⟩
    · rw [if_neg e]
      refine ih.congr fun a b => ⟨fun h1 => (hs _ _).2 (.inl h1), fun h1 => ?_⟩
      rcases (hs _ _).1 h1 with h1 | h1
      · exact h1
      · exact absurd h1.2.2 (by omega)

theorem nodesP_says {nd : Nat → ND} {n : Nat} (hk : KidsIn nd n) : ∀ i, i ≤ n → ∀ x, PSays (nodesP nd i x) (Seen nd i 0 x)
  | 0, _ => fun x => ⟨fun _ a b h => by unfold Seen at h; omega, fun h => by unfold nodesP at h; omega⟩
  | i + 1, hi => fun x => by
    refine (kidsP_says (by omega) hk (nodesP_says hk i (by omega)) (nd i).kn (Nat.le_refl _) x).congr fun a b => ?_
    unfold Seen
    constructor
    · rintro ⟨h1 | ⟨rfl, h1⟩, h2⟩
      · exact ⟨.inl ⟨by omega, h1.2⟩, h2⟩
      · exact ⟨.inl ⟨by omega, h1⟩, h2⟩
    · rintro ⟨h1 | h1, h2⟩
      · by_cases e : a = i
        · subst e; exact ⟨.inr ⟨rfl, h1.2⟩, h2⟩
        · exact ⟨.inl ⟨by omega, h1.2⟩, h2⟩
      · omega

/-- x is kid j of node p -/
def KidAt (nd : Nat → ND) (n p j x : Nat) : Prop := p < n ∧ j < (nd p).kn ∧ (nd p).c j = x

theorem par_says {nd : Nat → ND} {n : Nat} (hk : KidsIn nd n) {x : Nat} (h : 0 ≤ parP nd n x) :
    ∃ j, KidAt nd n (parP nd n x).toNat j x ∧ ∀ p' j', KidAt nd n p' j' x → p' = (parP nd n x).toNat ∧ j' = j := by
  have hx : parP nd n x = nodesP nd n x := by
    unfold parP at h ⊢
    split
    · rename_i c
      rw [if_pos c] at h
      omega
    · rfl
  rw [hx] at h ⊢
  obtain ⟨b, h1, h2⟩ := (nodesP_says hk n (Nat.le_refl _) x).2 h
  have hq : ∀ a b, Seen nd n 0 x a b ↔ KidAt nd n a b x := by
    intro a b
    unfold Seen KidAt
    constructor
    · rintro ⟨h1 | h1, h2⟩
      · exact ⟨h1.1, h1.2, h2⟩
      · omega
    · rintro ⟨h1, h2, h3⟩
      exact ⟨.inl ⟨h1, h2⟩, h3⟩
  exact ⟨b, (hq _ _).1 h1, fun p' j' h => h2 _ _ ((hq _ _).2 h)⟩

/-- how often each is a kid -/
def stepC (c : Nat → Int) (k : Nat) : Nat → Int := fun x => if x = k then c k + 1 else c x
def kidsC (nd : Nat → ND) (i : Nat) (c : Nat → Int) : Nat → Nat → Int
  | 0 => c
  | j + 1 => stepC (kidsC nd i c j) ((nd i).c j).toNat
def nodesC (nd : Nat → ND) : Nat → Nat → Int
  | 0 => fun _ => 0
  | i + 1 => kidsC nd i (nodesC nd i) (nd i).kn
def PC (p c : Int) : Prop := (p = -2 ∧ c = 0) ∨ (0 ≤ p ∧ c = 1) ∨ (p = -3 ∧ 2 ≤ c)
theorem kidsC_says (nd : Nat → ND) (i : Nat) {p c : Nat → Int} (h : ∀ x, PC (p x) (c x)) : ∀ j x, PC (kidsP nd i p j x) (kidsC nd i c j x)
  | 0 => h
  | j + 1 => fun x => by
    have ih := kidsC_says nd i h j
    unfold kidsP kidsC stepP stepC
    by_cases e : x = ((nd i).c j).toNat
    · rw [if_pos e, if_pos e]
      have := ih ((nd i).c j).toNat
      unfold PC at this ⊢
      split <;> omega
    · rw [if_neg e, if_neg e]
      exact ih x
theorem nodesC_says (nd : Nat → ND) : ∀ i x, PC (nodesP nd i x) (nodesC nd i x)
  | 0 => fun _ => .inl ⟨rfl, rfl⟩
  | i + 1 => kidsC_says nd i (nodesC_says nd i) _
theorem kidsC_rng (nd : Nat → ND) (i : Nat) {c : Nat → Int} {N : Int} (h : ∀ x, 0 ≤ c x ∧ c x ≤ N) : ∀ (j x : Nat), 0 ≤ kidsC nd i c j x ∧ kidsC nd i c j x ≤ N + j
  | 0 => fun x => by have := h x; unfold kidsC; omega
  | j + 1 => fun x => by
    have ih := kidsC_rng nd i h j
    unfold kidsC stepC
    split
    · have := ih ((nd i).c j).toNat; omega
    · have := ih x; omega
/-- of a tree's node, counted -/
theorem count_one {nd : Nat → ND} {n : Nat} (hk : KidsIn nd n) {x : Nat} (hx : x < n - 1) : nodesC nd n x = 1 ↔ 0 ≤ parP nd n x := by
  rw [parP_eq hk, if_neg (by omega)]
  have := nodesC_says nd n x
  unfold PC at this
  omega

/-- the fn's nodes are a tree -/
structure TreeOk (nd : Nat → ND) (n : Nat) : Prop where
  pos : 0 < n
  kids : KidsIn nd n
  par : ∀ x, x < n - 1 → 0 ≤ parP nd n x
  last : (nd (n - 1)).k = 1

theorem TreeOk.up {nd : Nat → ND} {n : Nat} (h : TreeOk nd n) {x : Nat} (hx : x < n - 1) : ∃ p j : Nat, parP nd n x = (p : Int) ∧ x < p ∧ KidAt nd n p j x ∧ ∀ p' j', KidAt nd n p' j' x → p' = p ∧ j' = j := by
  have h0 := h.par x hx
  obtain ⟨j, h1, h2⟩ := par_says h.kids h0
  have h3 := parP_rng h.kids x
  exact ⟨(parP nd n x).toNat, j, by omega, by omega, h1, h2⟩
/-- n and what stands below it -/
inductive Sub (nd : Nat → ND) : Nat → Nat → Prop
  | self (x : Nat) : Sub nd x x
  | kid (p j c x : Nat) (hj : j < (nd p).kn) (hc : (nd p).c j = (c : Int)) (h : Sub nd c x) : Sub nd p x

theorem Sub.up {nd : Nat → ND} {r p : Nat} (h : Sub nd r p) : ∀ {j x : Nat}, j < (nd p).kn → (nd p).c j = (x : Int) → Sub nd r x := by
  induction h with
  | self y => intro j x hj hc; exact .kid y j x x hj hc (.self x)
  | kid p' j' c' x' hj' hc' h' ih => intro j x hj hc; exact .kid p' j' c' x hj' hc' (ih hj hc)

/-- all stand below the last -/
theorem TreeOk.all {nd : Nat → ND} {n : Nat} (h : TreeOk nd n) : ∀ d x, x + d = n - 1 → Sub nd (n - 1) x := by
  intro d
  induction d using Nat.strongRecOn with
  | ind d ih =>
    intro x hx
    by_cases e : d = 0
    · subst e
      have : x = n - 1 := by omega
      subst this
      exact .self _
    · obtain ⟨p, j, h1, h2, h3, _⟩ := h.up (x := x) (by omega)
      have hp := h3.1
      exact (ih (n - 1 - p) (by omega) p (by omega)).up h3.2.1 h3.2.2

/-- what the depths are -/
def DepOk (nd : Nat → ND) (n : Nat) (D : Nat → Int) : Prop := D (n - 1) = 0 ∧ ∀ x, x < n - 1 → D x = D (parP nd n x).toNat + 1
theorem DepOk.uniq {nd : Nat → ND} {n : Nat} (h : TreeOk nd n) {D E : Nat → Int} (hD : DepOk nd n D) (hE : DepOk nd n E) : ∀ d x, x + d = n - 1 → D x = E x := by
  intro d
  induction d using Nat.strongRecOn with
  | ind d ih =>
    intro x hx
    by_cases e : d = 0
    · subst e
      have : x = n - 1 := by omega
      subst this
      rw [hD.1, hE.1]
    · obtain ⟨p, j, h1, h2, h3, _⟩ := h.up (x := x) (by omega)
      have hp := h3.1
      rw [hD.2 x (by omega), hE.2 x (by omega), h1, Int.toNat_natCast, ih (n - 1 - p) (by omega) p (by omega)]

theorem depP_keep (p : Nat → Int) (n : Nat) : ∀ (k j x : Nat), j + k ≤ n - 1 → n - 1 - j ≤ x → depP p n (j + k) x = depP p n j x
  | 0, _, _, _, _ => rfl
  | k + 1, j, x, hk, h => by
    rw [← Nat.add_assoc]
    show (if x = n - 2 - (j + k) ∧ 0 ≤ p (n - 2 - (j + k)) then depP p n (j + k) (p (n - 2 - (j + k))).toNat + 1 else depP p n (j + k) x) = _
    rw [if_neg (fun h => by omega)]
    exact depP_keep p n k j x (by omega) h
theorem depP_ok {nd : Nat → ND} {n : Nat} (h : TreeOk nd n) : DepOk nd n (depP (parP nd n) n (n - 1)) := by
  have hk : ∀ j x, j ≤ n - 1 → n - 1 - j ≤ x → depP (parP nd n) n (n - 1) x = depP (parP nd n) n j x := fun j x hj hx => by
    have := depP_keep (parP nd n) n (n - 1 - j) j x (by omega) hx
    rwa [show j + (n - 1 - j) = n - 1 by omega] at this
  refine ⟨hk 0 _ (by omega) (by omega), fun x hx => ?_⟩
  obtain ⟨p, j, h1, h2, h3, _⟩ := h.up hx
  have hp := h3.1
  rw [hk (n - 2 - x + 1) x (by omega) (by omega)]
  show (if x = n - 2 - (n - 2 - x) ∧ 0 ≤ parP nd n (n - 2 - (n - 2 - x)) then depP (parP nd n) n (n - 2 - x) (parP nd n (n - 2 - (n - 2 - x))).toNat + 1 else depP (parP nd n) n (n - 2 - x) x) = _
  rw [show n - 2 - (n - 2 - x) = x by omega, h1, if_pos ⟨rfl, by omega⟩, Int.toNat_natCast, hk (n - 2 - x) p (by omega) (by omega)]

/-- the depths as the program has them: from the last node down -/
def kidsD (nd : Nat → ND) (i : Nat) (D : Nat → Int) : Nat → Nat → Int
  | 0 => D
  | j + 1 => fun x => if x = ((nd i).c j).toNat then kidsD nd i D j i + 1 else kidsD nd i D j x
def nodesD (nd : Nat → ND) (n : Nat) : Nat → Nat → Int
  | 0 => fun _ => 0
  | k + 1 => kidsD nd (n - 1 - k) (nodesD nd n k) (nd (n - 1 - k)).kn
theorem kidsD_far {nd : Nat → ND} {i : Nat} {D : Nat → Int} {x : Nat} : ∀ j, (∀ b, b < j → ((nd i).c b).toNat ≠ x) → kidsD nd i D j x = D x
  | 0, _ => rfl
  | j + 1, h => by
    show (if x = ((nd i).c j).toNat then _ else _) = _
    rw [if_neg (fun e => h j (by omega) e.symm)]
    exact kidsD_far j fun b hb => h b (by omega)
theorem kidsD_at {nd : Nat → ND} {n i : Nat} (hi : i < n) (hk : KidsIn nd n) {D : Nat → Int} {x : Nat} : ∀ j, j ≤ (nd i).kn → (∃ b, b < j ∧ ((nd i).c b).toNat = x) → kidsD nd i D j x = D i + 1
  | 0, _, ⟨_, h, _⟩ => by omega
  | j + 1, hj, ⟨b, hb, he⟩ => by
    have hself : kidsD nd i D j i = D i := kidsD_far j fun b hb => by have := hk i hi b (by omega); omega
    show (if x = ((nd i).c j).toNat then kidsD nd i D j i + 1 else kidsD nd i D j x) = _
    by_cases e : x = ((nd i).c j).toNat
    · rw [if_pos e, hself]
    · rw [if_neg e]
      have : b ≠ j := fun h => e (by rw [← h]; exact he.symm)
      exact kidsD_at hi hk j (by omega) ⟨b, by omega, he⟩
theorem kidsD_rng {nd : Nat → ND} {i : Nat} {D : Nat → Int} {N : Int} (h : ∀ x, 0 ≤ D x ∧ D x ≤ N) : ∀ (j x : Nat), 0 ≤ kidsD nd i D j x ∧ kidsD nd i D j x ≤ N + j
  | 0 => fun x => by have := h x; unfold kidsD; omega
  | j + 1 => fun x => by
    have ih := kidsD_rng (nd := nd) (i := i) h j
    unfold kidsD
    show 0 ≤ (if x = ((nd i).c j).toNat then kidsD nd i D j i + 1 else kidsD nd i D j x) ∧ (if x = ((nd i).c j).toNat then kidsD nd i D j i + 1 else kidsD nd i D j x) ≤ _
    split
    · have := ih i; omega
    · have := ih x; omega
theorem nodesD_keep {nd : Nat → ND} {n : Nat} (hk : KidsIn nd n) : ∀ (m k x : Nat), k + m ≤ n → n - 1 - k ≤ x → nodesD nd n (k + m) x = nodesD nd n k x
  | 0, _, _, _, _ => rfl
  | m + 1, k, x, hm, hx => by
    rw [← Nat.add_assoc]
    show kidsD nd (n - 1 - (k + m)) (nodesD nd n (k + m)) (nd (n - 1 - (k + m))).kn x = _
    rw [kidsD_far _ (fun b hb => by have := hk (n - 1 - (k + m)) (by omega) b hb; omega)]
    exact nodesD_keep hk m k x (by omega) hx
theorem nodesD_ok {nd : Nat → ND} {n : Nat} (h : TreeOk nd n) : DepOk nd n (nodesD nd n n) := by
  have hpos := h.pos
  have hk : ∀ j x, j ≤ n → n - 1 - j ≤ x → nodesD nd n n x = nodesD nd n j x := fun j x hj hx => by
    have := nodesD_keep h.kids (n - j) j x (by omega) hx
    rwa [show j + (n - j) = n by omega] at this
  refine ⟨hk 0 _ (by omega) (by omega), fun x hx => ?_⟩
  obtain ⟨p, j, h1, h2, h3, h4⟩ := h.up hx
  have hp := h3.1
  rw [h1, Int.toNat_natCast]
  have hstep : ∀ m, n - 1 - p + 1 + m ≤ n → nodesD nd n (n - 1 - p + 1 + m) x = nodesD nd n (n - 1 - p) p + 1 := by
    intro m
    induction m with
    | zero =>
      intro hm
      show kidsD nd (n - 1 - (n - 1 - p)) (nodesD nd n (n - 1 - p)) (nd (n - 1 - (n - 1 - p))).kn x = _
      rw [show n - 1 - (n - 1 - p) = p by omega]
      exact kidsD_at hp h.kids _ (Nat.le_refl _) ⟨j, h3.2.1, by rw [h3.2.2]; exact Int.toNat_natCast _⟩
    | succ m ih =>
      intro hm
      show kidsD nd (n - 1 - (n - 1 - p + 1 + m)) (nodesD nd n (n - 1 - p + 1 + m)) (nd (n - 1 - (n - 1 - p + 1 + m))).kn x = _
      rw [kidsD_far _ (fun b hb e => by
        have hc := h.kids (n - 1 - (n - 1 - p + 1 + m)) (by omega) b hb
        have := h4 (n - 1 - (n - 1 - p + 1 + m)) b ⟨by omega, hb, by omega⟩
        omega)]
      exact ih (by omega)
  have := hstep (n - (n - 1 - p + 1)) (by omega)
  rw [show n - 1 - p + 1 + (n - (n - 1 - p + 1)) = n by omega] at this
  rw [this, hk (n - 1 - p) p (by omega) (by omega)]
theorem dep_same {nd : Nat → ND} {n : Nat} (h : TreeOk nd n) {x : Nat} (hx : x < n) : nodesD nd n n x = depP (parP nd n) n (n - 1) x :=
  DepOk.uniq h (nodesD_ok h) (depP_ok h) (n - 1 - x) x (by omega)
end Go.Proofs.YtdialodjllpgaaaGreatDoor

/-! Faults: the least of those that are there. Plain. -/
namespace Go.Proofs.YtdialodjllpgaaaGreatDoor

/-- a fault -/
structure FT where
  c : Nat
  f : Nat
  n : Nat

def FT.le (x y : FT) : Prop := x.c < y.c ∨ x.c = y.c ∧ (x.f < y.f ∨ x.f = y.f ∧ x.n ≤ y.n)
instance (x y : FT) : Decidable (x.le y) := by unfold FT.le; infer_instance
abbrev ft0 : FT := ⟨0, 0, 0⟩
/-- x is the least of those that P says, or nought when there is none -/
def Least (P : FT → Prop) (x : FT) : Prop := (x = ft0 ∧ ∀ y, ¬ P y) ∨ (0 < x.c ∧ P x ∧ ∀ y, P y → x.le y)

theorem FT.ext {x y : FT} (h1 : x.c = y.c) (h2 : x.f = y.f) (h3 : x.n = y.n) : x = y := by
  cases x; cases y; simp_all
theorem FT.le_trans {x y z : FT} (h : x.le y) (k : y.le z) : x.le z := by
  unfold FT.le at *
  omega
theorem FT.le_total (x y : FT) : x.le y ∨ y.le x := by
  unfold FT.le
  omega
theorem FT.le_refl (x : FT) : x.le x := by
  unfold FT.le
  omega
theorem Least.congr {P Q : FT → Prop} {x : FT} (h : Least P x) (e : ∀ y, P y ↔ Q y) : Least Q x := by
  rcases h with ⟨rfl, h⟩ | ⟨h0, h1, h2⟩
  · exact .inl ⟨rfl, fun y hy => h y ((e y).2 hy)⟩
  · exact .inr ⟨h0, (e _).1 h1, fun y hy => h2 y ((e y).2 hy)⟩
theorem Least.none {P : FT → Prop} (h : Least P ft0) : ∀ y, ¬ P y := by
  rcases h with ⟨_, h⟩ | ⟨h0, _, _⟩
  · exact h
  · exact absurd h0 (by decide)
theorem Least.zero {P : FT → Prop} (h : ∀ y, ¬ P y) : Least P ft0 := .inl ⟨rfl, h⟩
theorem Least.nil {P : FT → Prop} {x : FT} (h : Least P x) (h0 : x.c = 0) : x = ft0 := by
  rcases h with ⟨rfl, _⟩ | ⟨h1, _, _⟩
  · rfl
  · omega
theorem Least.behind {P Q : FT → Prop} {x : FT} (h : ∀ y, ¬ P y) (k : Least Q x) : Least (fun y => P y ∨ Q y) x :=
  k.congr fun y => ⟨.inr, fun h' => h'.resolve_left (h y)⟩
theorem Least.ahead {P Q : FT → Prop} {x : FT} (h : Least P x) (h0 : x.c ≠ 0) (k : ∀ y, Q y → x.c < y.c) : Least (fun y => P y ∨ Q y) x := by
  rcases h with ⟨rfl, h⟩ | ⟨h1, h2, h3⟩
  · exact absurd rfl h0
  · refine .inr ⟨h1, .inl h2, fun y hy => ?_⟩
    rcases hy with hy | hy
    · exact h3 y hy
    · exact .inl (k y hy)

/-- the program's own way to take the first of two -/
def fstOf (a b : FT) : FT := if a.c = 0 then b else if b.c ≠ 0 ∧ ¬ a.le b then b else a
theorem Least.first {P Q : FT → Prop} {a b : FT} (h : Least P a) (k : Least Q b) : Least (fun y => P y ∨ Q y) (fstOf a b) := by
  unfold fstOf
  rcases h with ⟨rfl, h⟩ | ⟨h0, h1, h2⟩
  · rw [if_pos rfl]
    exact Least.behind h k
  · rw [if_neg (by omega)]
    rcases k with ⟨rfl, k⟩ | ⟨k0, k1, k2⟩
    · rw [if_neg (by simp)]
      refine .inr ⟨h0, .inl h1, fun y hy => ?_⟩
      rcases hy with hy | hy
      · exact h2 y hy
      · exact absurd hy (k y)
    · by_cases e : a.le b
      · rw [if_neg (fun h => h.2 e)]
        refine .inr ⟨h0, .inl h1, fun y hy => ?_⟩
        rcases hy with hy | hy
        · exact h2 y hy
        · exact FT.le_trans e (k2 y hy)
      · rw [if_pos ⟨by omega, e⟩]
        refine .inr ⟨k0, .inr k1, fun y hy => ?_⟩
        rcases hy with hy | hy
        · exact FT.le_trans ((FT.le_total a b).resolve_left e) (h2 y hy)
        · exact k2 y hy
theorem Least.one {b : FT} (h : 0 < b.c) : Least (fun y => y = b) b := .inr ⟨h, rfl, fun y hy => by rw [hy]; exact FT.le_refl _⟩
theorem Least.note {P : FT → Prop} {a b : FT} (h : Least P a) (h0 : 0 < b.c) : Least (fun y => P y ∨ y = b) (fstOf a b) := h.first (Least.one h0)

/-- a proposition as a bool -/
noncomputable def dB (p : Prop) : Bool := @decide p (Classical.propDecidable p)
theorem dB_true {p : Prop} (h : p) : dB p = true := by unfold dB; exact @decide_eq_true p (Classical.propDecidable p) h
theorem dB_false {p : Prop} (h : ¬ p) : dB p = false := by unfold dB; exact @decide_eq_false p (Classical.propDecidable p) h
theorem dB_iff {p : Prop} : dB p = true ↔ p :=
  ⟨fun h => Classical.byContradiction fun k => Bool.noConfusion ((dB_false k).symm.trans h), dB_true⟩
end Go.Proofs.YtdialodjllpgaaaGreatDoor

/-! Scopes, loops and faults of a unit: plain. -/
namespace Go.Proofs.YtdialodjllpgaaaGreatDoor

/-- a node's refs hold v -/
def RefIn (a : ND) (v : Int) : Prop := ∃ b, b < a.rn ∧ a.r b = v
/-- what node p brings into scope for its kid number j -/
def AddP (nd : Nat → ND) (p j : Nat) (v : Int) : Prop :=
  ((nd p).k = 1 ∧ ∃ i, i < j ∧ (nd ((nd p).c i).toNat).k = 2 ∧ RefIn (nd ((nd p).c i).toNat) v)
  ∨ (((nd p).k = 7 ∨ (nd p).k = 8 ∨ (nd p).k = 12) ∧ j + 1 = (nd p).kn ∧ RefIn (nd p) v)
/-- v is brought into scope around x -/
inductive Vis (nd : Nat → ND) (n : Nat) (v : Int) : Nat → Prop
  | here (x p j : Nat) (h : KidAt nd n p j x) (h' : AddP nd p j v) : Vis nd n v x
  | up (x p j : Nat) (h : KidAt nd n p j x) (h' : Vis nd n v p) : Vis nd n v x
/-- x stands in a loop's block -/
inductive InL (nd : Nat → ND) (n : Nat) : Nat → Prop
  | here (x p j : Nat) (h : KidAt nd n p j x) (h' : ((nd p).k = 6 ∨ (nd p).k = 7 ∨ (nd p).k = 8) ∧ j + 1 = (nd p).kn) : InL nd n x
  | up (x p j : Nat) (h : KidAt nd n p j x) (h' : InL nd n p) : InL nd n x

theorem TreeOk.same {nd : Nat → ND} {n : Nat} (h : TreeOk nd n) {x p j p' j' : Nat} (h1 : KidAt nd n p j x) (h2 : KidAt nd n p' j' x) : p' = p ∧ j' = j := by
  have hc := h.kids p h1.1 j h1.2.1
  have h1' := h1.2.2
  have hp := h1.1
  obtain ⟨q, i, _, _, _, h4⟩ := h.up (x := x) (by omega)
  have a := h4 p j h1
  have b := h4 p' j' h2
  omega
theorem TreeOk.noUp {nd : Nat → ND} {n : Nat} (h : TreeOk nd n) {p j : Nat} (h1 : KidAt nd n p j (n - 1)) : False := by
  have hc := h.kids p h1.1 j h1.2.1
  have h1' := h1.2.2
  have hp := h1.1
  omega
theorem Vis.iff {nd : Nat → ND} {n : Nat} (h : TreeOk nd n) {v : Int} {x p j : Nat} (hk : KidAt nd n p j x) : Vis nd n v x ↔ (AddP nd p j v ∨ Vis nd n v p) := by
  constructor
  · intro hv
    cases hv with
    | here _ p' j' h1 h2 => obtain ⟨rfl, rfl⟩ := h.same hk h1; exact .inl h2
    | up _ p' j' h1 h2 => obtain ⟨rfl, rfl⟩ := h.same hk h1; exact .inr h2
  · rintro (h1 | h1)
    · exact .here x p j hk h1
    · exact .up x p j hk h1
theorem Vis.root {nd : Nat → ND} {n : Nat} (h : TreeOk nd n) {v : Int} : ¬ Vis nd n v (n - 1) := by
  intro hv
  cases hv with
  | here _ p' j' h1 h2 => exact h.noUp h1
  | up _ p' j' h1 h2 => exact h.noUp h1
theorem InL.iff {nd : Nat → ND} {n : Nat} (h : TreeOk nd n) {x p j : Nat} (hk : KidAt nd n p j x) : InL nd n x ↔ (((nd p).k = 6 ∨ (nd p).k = 7 ∨ (nd p).k = 8) ∧ j + 1 = (nd p).kn) ∨ InL nd n p := by
  constructor
  · intro hv
    cases hv with
    | here _ p' j' h1 h2 => obtain ⟨rfl, rfl⟩ := h.same hk h1; exact .inl h2
    | up _ p' j' h1 h2 => obtain ⟨rfl, rfl⟩ := h.same hk h1; exact .inr h2
  · rintro (h1 | h1)
    · exact .here x p j hk h1
    · exact .up x p j hk h1
theorem InL.root {nd : Nat → ND} {n : Nat} (h : TreeOk nd n) : ¬ InL nd n (n - 1) := by
  intro hv
  cases hv with
  | here _ p' j' h1 h2 => exact h.noUp h1
  | up _ p' j' h1 h2 => exact h.noUp h1

/-- v is in scope at x -/
def Scoped (d : FD) (x : Nat) (v : Int) : Prop := v < d.params ∨ Vis d.nd d.nn v x
def DeclK (k : Int) : Prop := k = 2 ∨ k = 7 ∨ k = 8 ∨ k = 12
/-- v is declared ahead of ref j of node x -/
def SeenV (d : FD) (x j : Nat) (v : Int) : Prop := v < d.params ∨ (∃ m, m < x ∧ DeclK (d.nd m).k ∧ RefIn (d.nd m) v) ∨ ∃ b, b < j ∧ (d.nd x).r b = v
def InR (v : Int) (n : Nat) : Prop := 0 ≤ v ∧ v < n
/-- code 6 is not there -/
def RefsOk (u : UD) (f x : Nat) : Prop :=
  ((((u.fn f).nd x).k = 27 → InR (((u.fn f).nd x).r 0) (u.fn f).un))
  ∧ ((((u.fn f).nd x).k = 36 → InR (((u.fn f).nd x).r 0) u.n))
  ∧ ((((u.fn f).nd x).k = 26 → InR (((u.fn f).nd x).r 0) (u.fn f).vn ∧ Scoped (u.fn f) x (((u.fn f).nd x).r 0)))
  ∧ (DeclK ((u.fn f).nd x).k → ∀ j, j < ((u.fn f).nd x).rn → InR (((u.fn f).nd x).r j) (u.fn f).vn ∧ ¬ SeenV (u.fn f) x j (((u.fn f).nd x).r j))
/-- all that fn g closes over is there at node x of fn f -/
def UpsOk (u : UD) (f x g : Nat) : Prop := ∀ i, i < (u.fn g).un →
  ((((u.fn g).u i).loc = true → InR ((u.fn g).u i).ix (u.fn f).vn ∧ Scoped (u.fn f) x ((u.fn g).u i).ix)
  ∧ (((u.fn g).u i).loc = false → InR ((u.fn g).u i).ix (u.fn f).un))
/-- node x of fn f makes fn g -/
def MakesAt (u : UD) (f x : Nat) (g : Int) : Prop := f < u.n ∧ x < (u.fn f).nn ∧ ((u.fn f).nd x).k = 36 ∧ ((u.fn f).nd x).r 0 = g
def MadeBefore (u : UD) (f x : Nat) (g : Int) : Prop := ∃ f' x', (f' < f ∨ f' = f ∧ x' < x) ∧ MakesAt u f' x' g
def JumpBad (d : FD) (x : Nat) : Prop := ((d.nd x).k = 9 ∨ (d.nd x).k = 10) ∧ ¬ InL d.nd d.nn x
/-- code 8, seen from the node alone -/
def MakeBad (u : UD) (f x : Nat) : Prop :=
  (((u.fn f).nd x).k = 37 ∧ (u.fn f).rest = false)
  ∨ (((u.fn f).nd x).k = 36 ∧ InR (((u.fn f).nd x).r 0) u.n ∧ ((((u.fn f).nd x).r 0) ≤ f ∨ ¬ UpsOk u f x (((u.fn f).nd x).r 0).toNat))
def TwiceBad (u : UD) (f x : Nat) : Prop := ((u.fn f).nd x).k = 36 ∧ InR (((u.fn f).nd x).r 0) u.n ∧ MadeBefore u f x (((u.fn f).nd x).r 0)

/-- the faults with the codes 6 to 9 -/
def Bad6 (u : UD) (y : FT) : Prop := y.c = 6 ∧ y.f < u.n ∧ y.n < (u.fn y.f).nn ∧ ¬ RefsOk u y.f y.n
def Bad7 (u : UD) (y : FT) : Prop := y.c = 7 ∧ y.f < u.n ∧ y.n < (u.fn y.f).nn ∧ JumpBad (u.fn y.f) y.n
def Bad8 (u : UD) (y : FT) : Prop := y.c = 8 ∧ y.f < u.n ∧ y.n < (u.fn y.f).nn ∧ (MakeBad u y.f y.n ∨ TwiceBad u y.f y.n)
def Bad9 (u : UD) (y : FT) : Prop := y.c = 9 ∧ y.n = 0 ∧ 1 ≤ y.f ∧ y.f < u.n ∧ ¬ ∃ f' x', MakesAt u f' x' y.f
def BadS (u : UD) (y : FT) : Prop := Bad6 u y ∨ Bad7 u y ∨ Bad8 u y ∨ Bad9 u y
end Go.Proofs.YtdialodjllpgaaaGreatDoor
