import Derived.Test.YtcpjnddkibbddaaGreatHdA
import Derived.Laws.BytesString
import Derived.Laws.IdiomStrings
/-! Lists copied and marked by the laws: what stays. -/
namespace Go.Proofs.YtcpjnddkibbddaaGreat
open Go.RowKit
attribute [local go_sem] run_store_float

/-- a block that can be written into -/
def Zf (w : World) (B : Nat) : Prop := B < w.heap.size ∧ ∀ j, w.frozen? ⟨B, j, none⟩ = false
theorem Zf.of {w : World} {b : Nat} {t : TypeId} {n : Nat} {f : Nat → Value} (h : w.rowIs b t n f) : Zf w b := ⟨h.lt, h.frozen⟩
theorem Zf.set {w : World} {B : Nat} (h : Zf w B) (p : Addr) (v : Value) : Zf (w.setCell p v) B := ⟨by simpa using h.1, fun j => by rw [World.frozen?_setCell]; exact h.2 j⟩
theorem Zf.below {w w' : World} {B : Nat} (h : Zf w B) (hb : Below w.heap.size w w') : Zf w' B := ⟨Nat.lt_of_lt_of_le h.1 hb.size, fun j => by
  have e := hb.block B h.1
  have := h.2 j
  unfold World.frozen? at this ⊢
  rw [e]
  exact this⟩

set_option maxRecDepth 100000 in
set_option maxHeartbeats 4000000 in
theorem toStringS_callsZ (L : Nat) (a : Option Addr) (n cap : Nat) (q : Nat → ByteArray) (w : World) (hn : n ≤ 1048576) (hT : RowN 1 L w a n fun i => #[.string (q i)]) :
    Calls Tryz.prog 52 #[.slice a n cap] w fun e w' => (∃ B, e = .returned (.slice (some ⟨B, 0, none⟩) n n) ∧ w.heap.size ≤ B ∧ Zf w' B ∧ (RowN 1 B w' (some ⟨B, 0, none⟩) n fun i => #[.string (q i)])) ∧ Below w.heap.size w w' := by
  have HT : Hid (RowN 1 L w a n fun i => #[.string (q i)]) := hT
  clear hT
  obtain ⟨c, hcs, hmk⟩ := make_strings n hn w
  have hR0 := rowOfC w c 9
  rw [hcs] at hR0
  have hB0 := below_alloc w (.cells c 9)
  go_enter Tryz.func52, Tryz.ntmps52
  go_wp2_with fail
  clear hmk
  go_loopw [4] (fun i wr => ∃ (k : Nat) (f : Nat → Value), k ≤ n ∧ i = .int .i64 k ∧ wr.rowIs w.heap.size 9 (n * 1) f ∧ (∀ m, m < k * 1 → f m = flK 1 (fun i => #[.string (q i)]) m) ∧ Below w.heap.size w wr) (fun i _ => n - (intOf i).toNat)
  case atStart => exact ⟨0, _, Nat.zero_le _, rfl, hR0, fun m hm => by omega, hB0⟩
  case round =>
    clear hR0 hB0 hcs
    obtain ⟨k, f, hk, rfl, hR, hf, hB⟩ := hrel
    by_cases hkn : k < n
    · obtain ⟨b, off, rfl, _, hb, d0⟩ := cells1 (HT.out.below hB) hkn
      have g0 := hR.cell (i := k) (by omega)
      have z := hR.frozen
      obtain ⟨f', hR3, hf'⟩ := put1 hR k _ hf (.string (q k)) _ (fun _ _ => rfl) rfl
      have HR : Hid _ := hR3
      have HF : Hid _ := hf'
      clear hR hR3 hf hf'
      go_wp2_with fail
      go_roundw
      case rel => exact ⟨k + 1, f', by omega, by go_num, HR.out, HF.out, fr1 k _ hB⟩
      case measure => simp [intOf]; omega
    · go_wp2_with fail
      have : k = n := by omega
      subst this
      go_ret
      exact ⟨⟨_, rfl, Nat.le_refl _, Zf.of hR, rowK (fun _ _ => rfl) (hR.congr hf)⟩, hB⟩

def dgU (j : Nat) : ByteArray := ByteArray.empty.push (UInt8.ofNat (48 + (j : Int) % 10).toNat)
theorem conv_digitU (j : Nat) (wr : World) : (convert 112 9 (.slice (some ⟨wr.heap.size, 0, none⟩) 1 1)).run Tryz.prog (wr.alloc (.cells #[.int .u8 (48 + (j : Int) % 10)] 5)) = .ok (.string (dgU j)) (wr.alloc (.cells #[.int .u8 (48 + (j : Int) % 10)] 5)) := by
  rw [run_convert_bytes_string _ 112 9 5 _ 1 1 Tryz.underlying112 Tryz.underlying5 Tryz.underlying9]
  have hl := run_loadCells_list (P := Tryz.prog) (wr.alloc (.cells #[.int .u8 (48 + (j : Int) % 10)] 5)) ⟨wr.heap.size, 0, none⟩ [Value.int .u8 (48 + (j : Int) % 10)] (fun i v hi => by
    have h0 : i = 0 := by
      have := (List.getElem?_eq_some_iff.1 hi).1
      simpa using this
    subst h0
    have e : v = .int .u8 (48 + (j : Int) % 10) := by cases hi; rfl
    rw [e]
    exact World.cell?_alloc_new wr _ _ 0)
  exact run_bytesToString _ ⟨wr.heap.size, 0, none⟩ 1 1 [48 + (j : Int) % 10] hl

theorem dg_step {j s : Nat} (hj : 0 < j) (h : j * 10 ^ s < 10 ^ 19) : s < 19 ∧ (j / 10) * 10 ^ (1 + s) < 10 ^ 19 := by
  refine ⟨?_, ?_⟩
  · have h1 : 1 * 10 ^ s ≤ j * 10 ^ s := Nat.mul_le_mul_right _ hj
    rw [Nat.one_mul] at h1
    exact (Nat.pow_lt_pow_iff_right (by decide)).1 (Nat.lt_of_le_of_lt h1 h)
  · have h1 : (j / 10) * 10 ^ (1 + s) = (j / 10 * 10) * 10 ^ s := by rw [Nat.pow_add, Nat.pow_one, Nat.mul_assoc]
    rw [h1]
    exact Nat.lt_of_le_of_lt (Nat.mul_le_mul_right _ (Nat.div_mul_le_self j 10)) h
set_option maxRecDepth 100000 in
set_option maxHeartbeats 4000000 in
theorem markText_any (z : Int) (w : World) (hk : 0 < z) (hk2 : z < 9223372036854775808) :
    Calls Tryz.prog 38 #[.int .i64 z] w fun e w' => (∃ s, e = .returned (.string s)) ∧ Below w.heap.size w w' := by
  obtain ⟨k, rfl⟩ : ∃ n : Nat, z = n := ⟨z.toNat, by omega⟩
  have hk' : 0 < k := by omega
  have HK : Hid (k * 10 ^ 0 < 10 ^ 19) := by
    show k * 10 ^ 0 < 10 ^ 19
    rw [Nat.pow_zero, Nat.mul_one]
    exact Nat.lt_trans (by omega : k < 9223372036854775808) (by decide)
  have HKJ : Hid (k ≤ 9223372036854775807) := by show k ≤ 9223372036854775807; omega
  clear hk hk2
  go_enter Tryz.func38, Tryz.ntmps38
  go_wp2_with fail
  have hk0 : decide (k = 0) = false := by simp; omega
  rw [hk0]
  clear hk0
  go_loopw [0, 3] (fun i o wr => ∃ (j : Nat) (s : ByteArray), Hid (j ≤ 9223372036854775807) ∧ i = .int .i64 j ∧ o = .string s ∧ Hid (j * 10 ^ s.size < 10 ^ 19) ∧ s.size ≤ 19 ∧ Below w.heap.size w wr) (fun i _ _ => (intOf i).toNat)
  case atStart => exact ⟨k, ⟨#[]⟩, HKJ, rfl, rfl, HK, (by show 0 ≤ 19; omega), Below.refl _ _⟩
  case round =>
    obtain ⟨j, s, HJ, rfl, rfl, HM, hs, hB⟩ := hrel
    by_cases hj : j = 0
    · subst hj
      have hq : (⟨#[109]⟩ ++ s : ByteArray).size ≤ maxLen := by
        simp [ByteArray.size_append, maxLen] at hs ⊢
        have : (⟨#[109]⟩ : ByteArray).size = 1 := rfl
        omega
      go_wp2_with fail
      go_ret
      exact ⟨⟨_, rfl⟩, hB⟩
    · have hj0 : 0 < j := by omega
      have hcv := conv_digitU j wr
      have hd : (dgU j).size = 1 := rfl
      have hq : (dgU j).size + s.size ≤ 9223372036854775807 := by
        simp only [hd]
        omega
      obtain ⟨h1, h2⟩ := dg_step hj0 HM.out
      have Hm : Hid ((j / 10) * 10 ^ (dgU j ++ s).size < 10 ^ 19) := by
        show (j / 10) * 10 ^ (dgU j ++ s).size < 10 ^ 19
        rw [ByteArray.size_append, hd]; exact h2
      have Hs : Hid ((dgU j ++ s).size ≤ 19) := by
        show (dgU j ++ s).size ≤ 19
        rw [ByteArray.size_append, hd]; omega
      clear HM hd h2
      have hjl : (j : Int) ≤ 9223372036854775807 := by have := HJ.out; omega
      generalize dgU j = d at hcv hq Hm Hs
      go_wp2_with fail
      go_roundw
      case rel => exact ⟨j / 10, d ++ s, (by have := HJ.out; show j / 10 ≤ _; omega), by rfl, rfl, Hm, Hs.out, below_a hB _⟩
      case measure => simp [intOf]; omega

/-- no slice -/
def ns : Value → Bool
  | .slice _ _ _ => false
  | _ => true
/-- writes into blocks L to H, none over a slice -/
structure Mk (L H : Nat) (w w' : World) : Prop where
  b : Below L w w'
  hi : ∀ k, H ≤ k → k < w.heap.size → w'.heap[k]? = w.heap[k]?
  fz : ∀ k j, k < w.heap.size → w'.frozen? ⟨k, j, none⟩ = w.frozen? ⟨k, j, none⟩
  cl : ∀ k j v, k < w.heap.size → w.cell? ⟨k, j, none⟩ = some v → ∃ v', w'.cell? ⟨k, j, none⟩ = some v' ∧ ns v' = ns v ∧ (ns v = false → v' = v)
theorem Mk.refl (L H : Nat) (w : World) : Mk L H w w := ⟨Below.refl _ _, fun _ _ _ => rfl, fun _ _ _ => rfl, fun _ _ v _ h => ⟨v, h, rfl, fun _ => rfl⟩⟩
theorem Mk.trans {L H : Nat} {a b c : World} (h : Mk L H a b) (k : Mk L H b c) : Mk L H a c :=
  ⟨h.b.trans k.b, fun x h1 h2 => (k.hi x h1 (Nat.lt_of_lt_of_le h2 h.b.size)).trans (h.hi x h1 h2), fun x j h2 => (k.fz x j (Nat.lt_of_lt_of_le h2 h.b.size)).trans (h.fz x j h2), fun x j v h2 hc => by
    obtain ⟨v1, e1, n1, s1⟩ := h.cl x j v h2 hc
    obtain ⟨v2, e2, n2, s2⟩ := k.cl x j v1 (Nat.lt_of_lt_of_le h2 h.b.size) e1
    exact ⟨v2, e2, n2.trans n1, fun hn => (s2 (n1.trans hn)).trans (s1 hn)⟩⟩
theorem Mk.below {L H : Nat} {a w w' : World} (h : Mk L H a w) (hb : Below w.heap.size w w') (hL : L ≤ w.heap.size) : Mk L H a w' :=
  h.trans ⟨hb.mono hL, fun k _ h2 => hb.block k h2, fun k j h2 => hb.frozen (p := ⟨k, j, none⟩) h2, fun k j v h2 hc => ⟨v, (hb.cell (p := ⟨k, j, none⟩) h2).trans hc, rfl, fun _ => rfl⟩⟩
theorem Mk.put {L H : Nat} {a w : World} (h : Mk L H a w) {k j : Nat} (hL : L ≤ k) (hH : k < H) (hc : ∃ u, w.cell? ⟨k, j, none⟩ = some u ∧ ns u = true) {v : Value} (hv : ns v = true) : Mk L H a (w.setCell ⟨k, j, none⟩ v) := by
  obtain ⟨u, hu, hn⟩ := hc
  refine h.trans ⟨(Below.refl _ _).setCell (p := ⟨k, j, none⟩) hL v, fun x h1 _ => Below.heap_setCell _ _ _ _ (by show x ≠ k; omega), fun x i _ => World.frozen?_setCell _ _ _ _, fun x i v' hx hc => ?_⟩
  by_cases e : (⟨x, i, none⟩ : Addr) = ⟨k, j, none⟩
  · cases e
    rw [hu] at hc
    cases hc
    refine ⟨v, World.cell?_setCell_same _ _ _ hu, hv.trans hn.symm, fun hf => ?_⟩
    rw [hn] at hf
    exact Bool.noConfusion hf
  · exact ⟨v', (World.cell?_setCell_other _ _ _ _ (fun h => e h.symm)).trans hc, rfl, fun _ => rfl⟩
/-- a block of leaves that can be written into -/
def LfR (K L H : Nat) (w : World) (b n : Nat) : Prop := 0 < n → L ≤ b ∧ b < H ∧ H ≤ w.heap.size ∧ (∀ j, w.frozen? ⟨b, j, none⟩ = false) ∧ ∀ j, j < n * K → ∃ v, w.cell? ⟨b, j, none⟩ = some v ∧ ns v = true
theorem LfR.mk {K L H : Nat} {w w' : World} {b n : Nat} (h : LfR K L H w b n) (hm : Mk L H w w') : LfR K L H w' b n := fun hn => by
  obtain ⟨h1, h2, h3, h4, h5⟩ := h hn
  refine ⟨h1, h2, Nat.le_trans h3 hm.b.size, fun j => (hm.fz b j (by omega)).trans (h4 j), fun j hj => ?_⟩
  obtain ⟨v, e, hv⟩ := h5 j hj
  obtain ⟨v', e', hv', _⟩ := hm.cl b j v (by omega) e
  exact ⟨v', e', hv'.trans hv⟩
set_option maxRecDepth 100000 in
set_option maxHeartbeats 4000000 in
theorem markStringS_calls (L H b n cap : Nat) (k : Int) (w : World) (hn : n ≤ 1048576) (hk : 0 < k) (hk2 : k < 9000000000000000000) (hR : LfR 1 L H w b n) :
    Calls Tryz.prog 39 #[.slice (some ⟨b, 0, none⟩) n cap, .int .i64 k] w fun e w' => e = .returned (.int .i64 (k + (n : Int) * 1)) ∧ Mk L H w w' := by
  have HR : Hid (LfR 1 L H w b n) := hR
  clear hR
  go_enter Tryz.func39, Tryz.ntmps39
  go_wp2_with fail
  go_loopw [1, 5] (fun kv i wr => ∃ m : Nat, m ≤ n ∧ kv = .int .i64 (k + (m : Int) * 1) ∧ i = .int .i64 m ∧ Hid (Mk L H w wr)) (fun _ i _ => n - (intOf i).toNat)
  case atStart => exact ⟨0, Nat.zero_le _, by simp, rfl, Mk.refl _ _ _⟩
  case round =>
    obtain ⟨m, hm, rfl, rfl, HM⟩ := hrel
    by_cases hmn : m < n
    · obtain ⟨h1, h2, h3, z, h5⟩ := (HR.out.mk HM.out) (by omega)
      obtain ⟨v0, g0, q0⟩ := h5 m (by omega)
      clear h5 z g0 q0
      go_wp2_with (go_at_call 38; refine (markText_any _ _ (by omega) (by omega)).mono ?_; rintro e w2 ⟨⟨s, rfl⟩, hb2⟩; have HM2 : Hid (Mk L H w w2) := HM.out.below hb2 (by omega); obtain ⟨_, _, _, z, h5⟩ := (HR.out.mk HM2.out) (by omega); obtain ⟨v0, g0, q0⟩ := h5 m (by omega); have HM3 : Hid (∀ v, ns v = true → Mk L H w (w2.setCell ⟨b, m, none⟩ v)) := (fun v hv => HM2.out.put h1 h2 ⟨v0, g0, q0⟩ hv); clear h5 hb2)
      go_roundw
      case rel => exact ⟨m + 1, by omega, by go_num, by go_num, HM3.out _ rfl⟩
      case measure => simp [intOf]; omega
    · obtain rfl : m = n := by omega
      go_wp2_with fail
      go_ret
      exact ⟨rfl, HM.out⟩

end Go.Proofs.YtcpjnddkibbddaaGreat
