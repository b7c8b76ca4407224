import Derived.Test.YtiidepafifodjaaTabI
import Derived.Deep.Slices
/-! Tables: where a key is found; how far the keys 1, 2, 3 .. go. -/
namespace Go.Proofs.Ytiidepafifodjaa
open Go.RowKit

/-- the first place of a key -/
def fnd (q : Nat → PD) (m : Mk) : Nat → Option Nat
  | 0 => none
  | n + 1 => match fnd q m n with
    | some i => some i
    | none => if mk (q n).key = m then some n else none

theorem fnd_succ (q : Nat → PD) (m : Mk) (n : Nat) : fnd q m (n + 1) = match fnd q m n with
    | some i => some i
    | none => if mk (q n).key = m then some n else none := rfl
theorem fnd_none {q : Nat → PD} {m : Mk} : ∀ {n : Nat}, (∀ i, i < n → mk (q i).key ≠ m) → fnd q m n = none
  | 0, _ => rfl
  | n + 1, h => by
    unfold fnd
    rw [fnd_none fun i hi => h i (by omega)]
    simp [h n (by omega)]
theorem fnd_some {q : Nat → PD} {m : Mk} {i : Nat} (he : mk (q i).key = m) (hl : ∀ j, j < i → mk (q j).key ≠ m) : ∀ {n : Nat}, i < n → fnd q m n = some i
  | 0, h => by omega
  | n + 1, h => by
    unfold fnd
    by_cases c : i = n
    · subst c
      rw [fnd_none hl]; simp [he]
    · rw [fnd_some he hl (show i < n by omega)]
theorem fnd_at {q : Nat → PD} {m : Mk} : ∀ {n i : Nat}, fnd q m n = some i → i < n ∧ mk (q i).key = m
  | 0, _, h => by simp [fnd] at h
  | n + 1, i, h => by
    unfold fnd at h
    cases c : fnd q m n with
    | some j =>
      rw [c] at h
      simp at h
      subst h
      have := fnd_at c
      exact ⟨by omega, this.2⟩
    | none =>
      rw [c] at h
      simp at h
      obtain ⟨h1, rfl⟩ := h
      exact ⟨by omega, h1⟩
theorem fnd_no {q : Nat → PD} {m : Mk} : ∀ {n : Nat}, fnd q m n = none → ∀ i, i < n → mk (q i).key ≠ m
  | 0, _, i, hi => by omega
  | n + 1, h, i, hi => by
    unfold fnd at h
    cases c : fnd q m n with
    | some j => rw [c] at h; simp at h
    | none =>
      rw [c] at h
      simp at h
      by_cases e : i = n
      · subst e; exact h
      · exact fnd_no c i (by omega)

theorem idx_app : ∀ (L L' : List (Mk × Nat)) (m : Mk), idx (L ++ L') m = match idx L m with
    | some p => some p
    | none => (idx L' m).map fun p => (p.1 + L.length, p.2)
  | [], L', m => by simp [idx]
  | (m', j) :: L, L', m => by
    by_cases c : m = m'
    · simp [idx, c]
    · simp only [List.cons_append, idx, if_neg c, idx_app L L' m]
      cases idx L m with
      | some p => rfl
      | none => simp; cases idx L' m <;> simp; omega

theorem idx_places (q : Nat → PD) (m : Mk) : ∀ n, idx ((List.range n).map fun i => (mk (q i).key, i)) m = (fnd q m n).map fun i => (i, i)
  | 0 => rfl
  | n + 1 => by
    rw [List.range_succ, List.map_append, idx_app, idx_places q m n, fnd_succ]
    cases fnd q m n with
    | some i => rfl
    | none =>
      by_cases c : m = mk (q n).key
      · simp [idx, c]
      · simp [idx, c, Ne.symm c]
theorem idx_ok {n : Nat} {t : Int} {q : Nat → PD} (h : TabOk n t q) (m : Mk) : idx (places q n) m = (fnd q m n).map fun i => (i, i) := by
  rw [places_all q n h.key, idx_places]

theorem kv_f {x : VD} (h : x.f < 2 ^ 64) : (kv x).f < 2 ^ 64 := by
  unfold kv
  (repeat' split) <;> first | exact h | (show (0 : Nat) < 2 ^ 64; decide)
theorem kv_s {x : VD} (h : x.s.size ≤ maxLen) : (kv x).s.size ≤ maxLen := by
  unfold kv
  (repeat' split) <;> first | exact h | (show (0 : Nat) ≤ _; omega)

theorem kOk_kv {x : VD} (h : kc x = 0) : kOk (kv x) = true := by
  unfold kc at h
  by_cases h1 : x.ok = false
  · rw [if_pos h1] at h; omega
  rw [if_neg h1] at h
  by_cases h2 : x.k = 0
  · rw [if_pos h2] at h; omega
  rw [if_neg h2] at h
  have h1' : x.ok = true := by simpa using h1
  by_cases h3 : x.k = 3
  · rw [if_pos h3] at h
    by_cases h4 : FloatKind.f64.format.order x.f x.f ≠ some .eq
    · rw [if_pos h4] at h; omega
    · unfold kv
      rw [if_neg h1, if_neg h2, if_pos h3, if_neg h4]
      have h4' : FloatKind.f64.format.order x.f x.f = some .eq := by simpa using h4
      cases h5 : whB x.f
      · simp only [Bool.false_eq_true, if_false]
        have o : okB 3 0 x.f ⟨#[]⟩ 0 = true := by simp [okB, ueB, usB, se]
        simp [kOk, kc, kv, o, h4', h5]
      · simp only [if_true]
        have o : ∀ n, okB 2 n 0 ⟨#[]⟩ 0 = true := fun n => by simp [okB, ueB, usB, se, fz, order00]
        simp [kOk, kc, kv, o]
  · have : kv x = x := by unfold kv; rw [if_neg h1, if_neg h2, if_neg h3]
    rw [this]
    simp [kOk, kc, kv, h1', h2, h3]

/-! how far the keys go -/
def iv (i : Int) : VD := ⟨2, i, 0, ⟨#[]⟩, 0⟩
def pres (q : Nat → PD) (n : Nat) (i : Nat) : Prop := ∃ j, j < n ∧ mk (q j).key = mk (iv (i : Int))
structure LenIs (q : Nat → PD) (n r : Nat) : Prop where
  all : ∀ i, i < r → pres q n (i + 1)
  stop : ¬ pres q n (r + 1)
theorem LenIs.one {q : Nat → PD} {n r s : Nat} (h : LenIs q n r) (k : LenIs q n s) : r = s := by
  rcases Nat.lt_trichotomy r s with c | c | c
  · exact absurd (k.all r c) h.stop
  · exact c
  · exact absurd (h.all s c) k.stop
theorem pigeon : ∀ (n m : Nat) (f : Nat → Nat), (∀ i, i < m → f i < n) → (∀ i j, i < j → j < m → f i ≠ f j) → m ≤ n
  | 0, m, f, h, _ => by
    refine Nat.le_of_not_lt fun c => ?_
    have := h 0 c; omega
  | n + 1, m, f, h, hi => by
    by_cases c : ∃ i, i < m ∧ f i = n
    · obtain ⟨i0, h0, e0⟩ := c
      have := pigeon n (m - 1) (fun i => if i < i0 then f i else f (i + 1)) (fun i him => by
        by_cases c : i < i0
        · simp only [if_pos c]
          have h1 := h i (by omega)
          have h2 := hi i i0 c h0
          omega
        · simp only [if_neg c]
          have h1 := h (i + 1) (by omega)
          have h2 := hi i0 (i + 1) (by omega) (by omega)
          omega) (fun i j hij hjm => by
        by_cases c : i < i0 <;> by_cases d : j < i0
        · simp only [if_pos c, if_pos d]; exact hi i j hij (by omega)
        · simp only [if_pos c, if_neg d]; exact hi i (j + 1) (by omega) (by omega)
        · omega
        · simp only [if_neg c, if_neg d]; exact hi (i + 1) (j + 1) (by omega) (by omega))
      omega
    · have := pigeon n m f (fun i him => by
        have h1 := h i him
        have h2 : f i ≠ n := fun e => c ⟨i, him, e⟩
        omega) hi
      omega
theorem pres_le {q : Nat → PD} {n r : Nat} (h : ∀ i, i < r → pres q n (i + 1)) : r ≤ n := by
  obtain ⟨f, hf⟩ := Deep.choose_lt (α := Nat) (n := r) (p := fun i j => j < n ∧ mk (q j).key = mk (iv ((i + 1 : Nat) : Int))) h
  refine pigeon n r f (fun i hi => (hf i hi).1) fun i j hij hj e => ?_
  have h1 := (hf i (by omega)).2
  have h2 := (hf j hj).2
  rw [e, h2] at h1
  simp [mk, iv] at h1
  omega
end Go.Proofs.Ytiidepafifodjaa

/-! Tables: impl's lookup. -/
namespace Go.Proofs.Ytiidepafifodjaa
open Go.RowKit
attribute [local go_sem] run_store_float
attribute [local go_sem ↓] Go.wp_at_zero Go.wp_at_succ

def pz : PD := ⟨vz, vz, 0⟩
/-- the pair of a key, or the zero pair -/
def gt (q : Nat → PD) (m : Mk) (n : Nat) : PD := match fnd q m n with
  | some i => q i
  | none => pz

theorem own_tab {w : World} {b n cap : Nat} {t : TypeId} {a : Option Addr} {q : Nat → PD} (h : w.ownsRow b t 11 (.slice a n cap) n (cellsOf q n)) : Tab w a n q := fun hn => by
  obtain ⟨_, h2⟩ := h
  rcases h2 with ⟨_, h0⟩ | ⟨g, cap', cur, e, _, hh, _, _, hs, ht⟩
  · omega
  · cases e
    refine ⟨g, 0, rfl, (Array.getElem?_eq_some_iff.1 hh).1, fun i hi j hj => ?_⟩
    have hlt : i * 11 + j < n * 11 := by omega
    have h1 : cur.toList[i * 11 + j]? = some (fl q (i * 11 + j)) := by
      have h3 : (cur.toList.take (n * 11))[i * 11 + j]? = cur.toList[i * 11 + j]? := by rw [List.getElem?_take, if_pos hlt]
      rw [← h3, ht]
      simp [cellsOf, hlt]
    rw [Nat.zero_add, fl_at q i j hj] at *
    have h4 : w.cell? ⟨g, i * 11 + j, none⟩ = cur[i * 11 + j]? := by simp [World.cell?, hh]
    rw [h4, pCells_at _ _ hj, ← h1]; simp

set_option maxRecDepth 100000 in
set_option maxHeartbeats 4000000 in
theorem lookup_calls (a : Option Addr) (n cap B : Nat) (t : Int) (q : Nat → PD) (m : Mk) (w : World) (hok : TabOk n t q) (hT : Tab w a n q) (hM : MapIs w B (places q n)) :
    Calls Try.prog 149 #[.slice a n cap, .map (some B), mkV m] w fun e w' => e = .returned (.tuple #[pOf (gt q m n), .bool (fnd q m n).isSome]) ∧ Below w.heap.size w w' := by
  have HT : Hid (Tab w a n q) := hT
  have hn := hok.nn
  obtain ⟨m1, m2, m3, m4, m5⟩ := m
  have hlk := fun o1 o2 => lookup_run Try.underlying113 markT ((hM.alloc o1).alloc o2) (m1, m2, m3, m4, m5) (Try.zeroValue3 _)
  rw [idx_ok hok] at hlk
  clear hT hM hok
  have p1 : w.heap.size ≤ w.heap.size + 1 := Nat.le_add_right _ _
  unfold gt
  cases hf : fnd q (m1, m2, m3, m4, m5) n with
  | none =>
    rw [hf] at hlk
    simp only [Option.map_none, Option.getD_none, Option.isSome_none] at hlk
    go_enter Try.func149, Try.ntmps149
    go_wp2_with fail
    exact bodyPost_ret (v := .tuple #[pOf pz, .bool false]) (by simp [results, Try.results149, go_sem, pz, vz]) rfl ⟨rfl, below_alloc2 _ _ _⟩
  | some i =>
    rw [hf] at hlk
    simp only [Option.map_some, Option.getD_some, Option.isSome_some] at hlk
    have hi := (fnd_at hf).1
    obtain ⟨b, off, rfl, hb, hc⟩ := HT.out (by omega)
    have hc' : ∀ o1 o2 : Obj, ∀ j, j < 11 → ((w.alloc o1).alloc o2).cell? ⟨b, off + i * 11 + j, none⟩ = (pCells (q i))[j]? := fun o1 o2 j hj => by
      rw [World.cell?_alloc_lt _ _ _ (by simp; omega), World.cell?_alloc_lt _ _ _ hb]; exact hc i hi j hj
    have d0 := fun o1 o2 => hc' o1 o2 0 (by omega)
    have d1 := fun o1 o2 => hc' o1 o2 1 (by omega)
    have d2 := fun o1 o2 => hc' o1 o2 2 (by omega)
    have d3 := fun o1 o2 => hc' o1 o2 3 (by omega)
    have d4 := fun o1 o2 => hc' o1 o2 4 (by omega)
    have d5 := fun o1 o2 => hc' o1 o2 5 (by omega)
    have d6 := fun o1 o2 => hc' o1 o2 6 (by omega)
    have d7 := fun o1 o2 => hc' o1 o2 7 (by omega)
    have d8 := fun o1 o2 => hc' o1 o2 8 (by omega)
    have d9 := fun o1 o2 => hc' o1 o2 9 (by omega)
    have d10 := fun o1 o2 => hc' o1 o2 10 (by omega)
    simp only [List.getElem?_toArray, List.getElem?_cons_zero, List.getElem?_cons_succ, Nat.add_zero] at d0 d1 d2 d3 d4 d5 d6 d7 d8 d9 d10
    clear hc hc'
    go_enter Try.func149, Try.ntmps149
    go_wp2_with fail
    exact bodyPost_ret (v := .tuple #[pOf (q i), .bool true]) (by simp [results, Try.results149, go_sem]) rfl ⟨rfl, below_alloc2 _ _ _⟩
end Go.Proofs.Ytiidepafifodjaa
