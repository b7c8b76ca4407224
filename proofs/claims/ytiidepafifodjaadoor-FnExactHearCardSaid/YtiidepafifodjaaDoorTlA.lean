import Derived.Test.YtiidepafifodjaaDoorDcA
import Derived.Test.YtiidepafifodjaaDoorRpA
import Derived.Test.YtiidepafifodjaaDoorOwA
import Derived.Lib.ItoaNum
import Derived.Lib.AppendStr
/-! Reports told: plain. -/
namespace Go.Proofs.YtiidepafifodjaaDoor
open Go.RowKit

theorem dsF_dec : ∀ (k j : Nat) (l : List UInt8), j < 10 ^ (k + 1) → dsF (k + 1) j l = Lib.decDigits j ++ l
  | 0, j, l, h => by
    have h1 : j < 10 := by simpa using h
    rw [dsF_last (by omega), Lib.decDigits_one h1]
    have : (48 + (j : Int) % 10).toNat = 48 + j := by omega
    simp [dgB, this]
  | k + 1, j, l, h => by
    by_cases c : j / 10 = 0
    · have h1 : j < 10 := by omega
      rw [dsF_last c, Lib.decDigits_one h1]
      have : (48 + (j : Int) % 10).toNat = 48 + j := by omega
      simp [dgB, this]
    · have h1 : ¬ j < 10 := by omega
      rw [dsF_more c, dsF_dec k (j / 10) _ (by rw [Nat.pow_succ] at h; omega)]
      conv => rhs; rw [Lib.decDigits, dif_neg h1]
      have : (48 + (j : Int) % 10).toNat = 48 + j % 10 := by omega
      simp [dgB, this]
theorem decB_itoa (n : Int) (h : I64r n) : decB n = Lib.itoa n := by
  unfold I64r at h
  have hb : n.natAbs < 10 ^ (19 + 1) := by
    have : n.natAbs ≤ 9223372036854775808 := by omega
    exact Nat.lt_of_le_of_lt this (by decide)
  unfold decB Lib.itoa
  rw [dsF_dec 19 n.natAbs [] hb, List.append_nil]
  by_cases c : n < 0
  · rw [if_pos c, if_pos c]
  · rw [if_neg c, if_neg c]
    have : n.natAbs = n.toNat := by omega
    rw [this]
/-- a number, a text, as they are told -/
def numL (n : Int) : List UInt8 := decB n ++ [32]
def txtL (s : ByteArray) : List UInt8 := numL (s.size : Int) ++ s.data.toList
def recL (d : RcD) : List UInt8 := (((numL d.k ++ numL d.t) ++ numL d.f) ++ numL d.l) ++ txtL d.s
def recsL (q : Nat → RcD) : Nat → List UInt8
  | 0 => []
  | k + 1 => recsL q k ++ recL (q k)
def txtsL (v : Nat → ByteArray) : Nat → List UInt8
  | 0 => []
  | k + 1 => txtsL v k ++ txtL (v k)
/-- a report as it is told -/
def tellL (d : RpD) : List UInt8 := (((((((numL d.code ++ numL d.ti) ++ numL d.ma) ++ numL d.n) ++ recsL d.rc d.n) ++ numL d.m) ++ txtsL d.v d.m) ++ txtL d.er) ++ txtL d.tr
theorem decB_len (n : Int) : (decB n).length ≤ 21 := by
  have h := dsF_len 20 n.natAbs []
  unfold decB
  split
  · simp at h ⊢; omega
  · simp at h ⊢; omega
theorem numL_len (n : Int) : (numL n).length ≤ 22 := by have := decB_len n; unfold numL; simp; omega
theorem txtL_len (s : ByteArray) : (txtL s).length ≤ 22 + s.size := by
  have := numL_len (s.size : Int)
  unfold txtL
  have e : s.data.toList.length = s.size := by simp
  rw [List.length_append, e]; omega
theorem recL_len (d : RcD) : (recL d).length ≤ 110 + d.s.size := by
  have h1 := numL_len d.k
  have h2 := numL_len d.t
  have h3 := numL_len d.f
  have h4 := numL_len d.l
  have h5 := txtL_len d.s
  unfold recL
  simp only [List.length_append]
  omega
theorem recsL_len (q : Nat → RcD) : ∀ k, (∀ i, i < k → (q i).s.size ≤ 1048576) → (recsL q k).length ≤ k * 1048686
  | 0, _ => by simp [recsL]
  | k + 1, h => by
    have h1 := recsL_len q k fun i hi => h i (by omega)
    have h2 := recL_len (q k)
    have h3 := h k (by omega)
    unfold recsL
    rw [List.length_append]
    omega
theorem txtsL_len (v : Nat → ByteArray) : ∀ k, (∀ i, i < k → (v i).size ≤ 1048576) → (txtsL v k).length ≤ k * 1048598
  | 0, _ => by simp [txtsL]
  | k + 1, h => by
    have h1 := txtsL_len v k fun i hi => h i (by omega)
    have h2 := txtL_len (v k)
    have h3 := h k (by omega)
    unfold txtsL
    rw [List.length_append]
    omega
theorem tellL_len (d : RpD) (h : d.sm) : (tellL d).length ≤ 3000000000000 := by
  have h1 := recsL_len d.rc d.n h.rc
  have h2 := txtsL_len d.v d.m h.v
  have h3 := txtL_len d.er
  have h4 := txtL_len d.tr
  have := h.n
  have := h.m
  have := h.er
  have := h.tr
  have := numL_len d.code
  have := numL_len d.ti
  have := numL_len d.ma
  have := numL_len d.n
  have := numL_len d.m
  unfold tellL
  simp only [List.length_append]
  omega
/-- bytes as cells -/
def byS (l : List UInt8) : List Value := l.map fun b => Value.int .u8 (b.toNat : Int)
theorem byS_len (l : List UInt8) : (byS l).length = l.length := by simp [byS]
theorem byS_app (l r : List UInt8) : byS (l ++ r) = byS l ++ byS r := by simp [byS]
theorem byS_str (s : ByteArray) : byS s.data.toList = Lib.strCells s := by simp [byS, Lib.strCells]
/-- no more than shows that it is too much -/
def tkM (l : List UInt8) : List UInt8 := l.take 1000001
theorem tkM_app (l r : List UInt8) : tkM l ++ r.take (1000001 - (tkM l).length) = tkM (l ++ r) := by
  unfold tkM
  rw [List.take_append, List.length_take]
  by_cases c : l.length ≤ 1000001
  · rw [Nat.min_eq_right c]
  · have h1 : min 1000001 l.length = 1000001 := by omega
    rw [h1, show 1000001 - 1000001 = 0 by omega, show 1000001 - l.length = 0 by omega]
theorem tkM_len (l : List UInt8) : (tkM l).length ≤ 1000001 := by unfold tkM; rw [List.length_take]; omega
theorem tkM_small {l : List UInt8} (h : (tkM l).length ≤ 1000000) : tkM l = l := by
  unfold tkM at h ⊢
  rw [List.length_take] at h
  exact List.take_of_length_le (by omega)
theorem tkM_big {l : List UInt8} (h : 1000000 < (tkM l).length) : 1000000 < l.length := by
  unfold tkM at h
  rw [List.length_take] at h
  omega
theorem tkM_nil : tkM [] = [] := rfl
/-- all but some blocks stays -/
structure Gx (S : Nat → Prop) (w w' : World) : Prop where
  os : w'.os = w.os
  tape : w'.tape = w.tape
  output : w'.output = w.output
  size : w.heap.size ≤ w'.heap.size
  block : ∀ k, k < w.heap.size → ¬ S k → w'.heap[k]? = w.heap[k]?
theorem Gx.refl (S : Nat → Prop) (w : World) : Gx S w w := ⟨rfl, rfl, rfl, Nat.le_refl _, fun _ _ _ => rfl⟩
theorem Gx.trans {S S' : Nat → Prop} {a b c : World} (h : Gx S a b) (k : Gx S' b c) (hs : ∀ i, i < a.heap.size → S' i → S i) : Gx S a c :=
  ⟨k.os.trans h.os, k.tape.trans h.tape, k.output.trans h.output, Nat.le_trans h.size k.size, fun i hi hn => (k.block i (Nat.lt_of_lt_of_le hi h.size) (fun e => hn (hs i hi e))).trans (h.block i hi hn)⟩
theorem Gx.below {w w' : World} (S : Nat → Prop) (h : Below w.heap.size w w') : Gx S w w' := ⟨h.os, h.tape, h.output, h.size, fun k hk _ => h.block k hk⟩
theorem Gx.grown {w w' : World} {r : Option Nat} (h : w.grownBy w' r) : Gx (fun k => r = some k) w w' := ⟨h.os, h.tape, h.output, h.size, fun k hk hn => h.block k hk fun e => hn e.symm⟩
theorem Gx.mono {S S' : Nat → Prop} {w w' : World} (h : Gx S w w') (hs : ∀ k, S k → S' k) : Gx S' w w' := ⟨h.os, h.tape, h.output, h.size, fun k hk hn => h.block k hk fun e => hn (hs k e)⟩
theorem Gx.to {S : Nat → Prop} {w w' : World} {N : Nat} (h : Gx S w w') (hN : N ≤ w.heap.size) (hs : ∀ k, S k → N ≤ k) : Below N w w' := ⟨h.os, h.tape, h.output, h.size, fun k hk => h.block k (by omega) fun e => by have := hs k e; omega⟩
theorem Gx.set (w : World) (g j : Nat) (v : Value) : Gx (fun k => k = g) w (w.setCell ⟨g, j, none⟩ v) := ⟨rfl, rfl, rfl, by simp, fun x _ hn => Below.heap_setCell _ _ _ _ hn⟩
theorem Gx.has {S : Nat → Prop} {w w' : World} (h : Gx S w w') {B : Nat} {A : Array Value} (hh : Has w B A) (hn : ¬ S B) : Has w' B A := ⟨Nat.lt_of_lt_of_le hh.1 h.size, fun o => (World.cell?_of_block (a := ⟨B, o, none⟩) (h.block B hh.1 hn)).trans (hh.2 o)⟩
theorem Gx.row {S : Nat → Prop} {w w' : World} (h : Gx S w w') {K L n : Nat} {a : Option Addr} {q : Nat → Array Value} (hr : RowN K L w a n q) (hn : ∀ b, a = some b → ¬ S b.block) : RowN K L w' a n q := fun h0 => by
  obtain ⟨b, off, e, h1, h2, h3⟩ := hr h0
  exact ⟨b, off, e, h1, Nat.lt_of_lt_of_le h2 h.size, fun i hi j hj => (World.cell?_of_block (a := ⟨b, off + i * K + j, none⟩) (h.block b h2 (hn _ e))).trans (h3 i hi j hj)⟩
end Go.Proofs.YtiidepafifodjaaDoor
