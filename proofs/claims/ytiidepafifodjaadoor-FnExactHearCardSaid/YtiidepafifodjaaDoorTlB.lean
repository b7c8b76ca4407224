import Derived.Test.YtiidepafifodjaaDoorTlA
import Derived.Deep.Cut
import Derived.Deep.DeepCutAuto
/-! The specification's l5num and l5text. -/
namespace Go.Proofs.YtiidepafifodjaaDoor
open Go.RowKit
attribute [local go_sem] run_store_float
attribute [local go_sem ↓] Go.wp_at_zero Go.wp_at_succ

theorem infoByte : (Tryd.prog.info? 5).map (fun i => (i.zero, i.size, i.bytes)) = some (some (.int .u8 0), 1, 1) := by kernel_rfl
/-- bytes of one's own -/
abbrev OwB (N : Nat) (w : World) (a : Option Addr) (cap : Nat) (l : List UInt8) : Prop := w.ownsRow N 5 1 (.slice a l.length cap) l.length (byS l)
def bkB : Option Addr → Nat → Prop
  | some p, k => p.block = k
  | none, _ => False
theorem bkB_own (a : Option Addr) (n cap k : Nat) : (Value.slice a n cap).ownBlock = some k ↔ bkB a k := by cases a <;> simp [Value.ownBlock, bkB]
theorem byS_add {u : World} {N cap m : Nat} {a : Option Addr} {l : List UInt8} {x : UInt8} (ho : u.ownsRow N 5 1 (.slice a m cap) m (byS l ++ [.int .u8 (x.toNat : Int)])) (hm : m = l.length + 1) : OwB N u a cap (l ++ [x]) := by
  subst hm
  show u.ownsRow _ _ _ _ _ _
  rw [byS_app, List.length_append]
  exact ho
theorem app_take {l : List UInt8} {k : Nat} {y : UInt8} (h : l[k]? = some y) : l.take (k + 1) = l.take k ++ [y] := by
  obtain ⟨h1, h2⟩ := List.getElem?_eq_some_iff.1 h
  rw [List.take_succ_eq_append_getElem h1, h2]
theorem index_byte {s : ByteArray} {k : Nat} {y : UInt8} (h : s.data.toList[k]? = some y) (u : World) : (Instr.index 9 (.string s) (.int .i64 (k : Int))).run Tryd.prog u = .ok (.int .u8 (y.toNat : Int)) u := by
  obtain ⟨h1, h2⟩ := List.getElem?_eq_some_iff.1 h
  have hs : k < s.size := by simpa using h1
  rw [run_index_string u 9 s .i64 (k : Int) Tryd.underlying9, dif_pos ⟨by omega, by omega⟩]
  have e : ∀ (j : Nat) (hj : j < s.size), j = k → (s[j]'hj) = y := fun j hj e => by
    subst e
    show s.data[j] = y
    simpa using h2
  rw [e _ _ (Int.toNat_natCast k)]
/-- where a slice lies behind an append -/
theorem own_next {w : World} {a a7 : Option Addr} {n n7 cap cap7 : Nat} {S : Nat → Prop} {w0 : World} (hS : ∀ k, k < w0.heap.size → bkB a k → S k) (hw : w0.heap.size ≤ w.heap.size) (hb : (Value.slice a7 n7 cap7).ownBlock = (Value.slice a n cap).ownBlock ∨ (Value.slice a7 n7 cap7).ownBlock = some w.heap.size) : ∀ k, k < w0.heap.size → bkB a7 k → S k := fun k hk h => by
  rw [← bkB_own a7 n7 cap7] at h
  rcases hb with e | e
  · rw [e] at h; exact hS k hk ((bkB_own _ _ _ _).1 h)
  · rw [e] at h; cases h; omega

set_option maxRecDepth 100000 in
set_option maxHeartbeats 4000000 in
theorem l5num_calls (N : Nat) (a : Option Addr) (cap : Nat) (l : List UInt8) (n : Int) (w : World) (hN : N ≤ w.heap.size) (hl : l.length ≤ 4000000000000) (hn : I64r n) (ho : OwB N w a cap l) :
    Calls Tryd.prog 36 #[.slice a l.length cap, .int .i64 n] w fun e w' => (∃ a' cap' L', e = .returned (.slice a' (List.length L') cap') ∧ L' = l ++ numL n ∧ OwB N w' a' cap' L' ∧ ∀ k, k < w.heap.size → bkB a' k → bkB a k) ∧ Gx (bkB a) w w' := by
  have HO : Hid (OwB N w a cap l) := ho
  have HNr : Hid (I64r n) := hn
  clear ho hn
  obtain ⟨i0, hi0, hy0, hy1, hy2⟩ := info_parts infoByte
  go_enter Tryd.func36, Tryd.ntmps36
  go_wp2_with fail
  refine (decimal_calls n w HNr.out.1 HNr.out.2).mono ?_
  rintro e w1 ⟨rfl, hb1⟩
  have HO1 : Hid (OwB N w1 a cap l) := ownsK_below HO.out hb1
  have HG1 : Hid (Gx (bkB a) w w1) := Gx.below _ hb1
  have hz1 := hb1.size
  have hsl := decB_len n
  have HL : Hid (numL n = decB n ++ [32]) := rfl
  clear hb1 HO HNr
  generalize decB n = s at *
  go_wp2_with fail
  go_loopw [0, 6] (fun o i wr => ∃ (k : Nat) (a1 : Option Addr) (cap1 : Nat), k ≤ s.length ∧ i = .int .i64 k ∧ o = .slice a1 (l ++ s.take k).length cap1 ∧ Hid (OwB N wr a1 cap1 (l ++ s.take k)) ∧ Hid (∀ j, j < w.heap.size → bkB a1 j → bkB a j) ∧ Hid (Gx (bkB a) w wr)) (fun _ i _ => s.length - (intOf i).toNat)
  case atStart => exact ⟨0, a, cap, Nat.zero_le _, rfl, by simp, by show OwB _ _ _ _ _; simpa using HO1.out, fun j _ h => h, HG1⟩
  case round =>
    obtain ⟨k, a1, cap1, hk, rfl, rfl, HO, HA, HG⟩ := hrel
    by_cases hks : k < s.length
    · obtain ⟨y, hy⟩ : ∃ y, s[k]? = some y := ⟨_, List.getElem?_eq_getElem hks⟩
      have hsz : (bA s).size = s.length := bA_size s
      have HT : Hid (l ++ s.take (k + 1) = (l ++ s.take k) ++ [y]) := by show _ = _; rw [app_take hy, List.append_assoc]
      have hll : (l ++ s.take k).length ≤ 4000000000100 := by simp; omega
      have k0 : (0 : Int) ≤ (k : Int) := by omega
      have k1 : (k : Int) < ((bA s).size : Int) := by omega
      generalize l ++ s.take k = L at *
      have hix : ∀ u : World, (Instr.index 9 (.string (bA s)) (.int .i64 (k : Int))).run Tryd.prog u = .ok (.int .u8 (y.toNat : Int)) u := fun u => index_byte (by simpa [bA] using hy) u
      go_wp2_with (at_builtin; refine wpList_append_own_at _ rfl _ _ 27 rfl N 5 i0 _ 1 1 Tryd.underlying27 hi0 hy0 hy1 hy2 rfl (by decide) (.slice a1 L.length cap1) L.length (byS L) rfl (HO.out.alloc _) ⟨wr.heap.size, 0, none⟩ 1 1 [.int .u8 (y.toNat : Int)] rfl rfl (new_news _ #[.int .u8 (y.toNat : Int)] _) (by simp [Value.oneCell']) (by unfold maxLen; omega) (by omega) (by have := HG.out.size; simp; omega) ?_; intro v' w7 hown hgrow _ hblk; obtain ⟨a7, cap7, rfl⟩ := ownsK_form hown; have HO7 : Hid (OwB N w7 a7 cap7 (L ++ [y])) := byS_add hown rfl; have HG7 : Hid (Gx (bkB a) w w7) := (HG.out.trans (Gx.below (bkB a) (below_alloc wr _)) (fun _ _ h => h)).trans (Gx.grown hgrow) (fun j hj e => HA.out j hj ((bkB_own _ _ _ _).1 e)); have HA7 : Hid (∀ j, j < w.heap.size → bkB a7 j → bkB a j) := own_next HA.out (by have := HG.out.size; simp; omega) hblk; clear hown hgrow hblk)
      go_roundw
      case rel => exact ⟨k + 1, a7, cap7, by omega, by go_num, (by rw [HT.out]; simp), (by show OwB _ _ _ _ _; rw [HT.out]; exact HO7.out), HA7, HG7⟩
      case measure => simp [intOf]; omega
    · obtain rfl : k = s.length := by omega
      have HT : Hid (l ++ s.take s.length = l ++ s) := by show _ = _; rw [List.take_length]
      have hll : (l ++ s.take s.length).length ≤ 4000000000100 := by simp; omega
      have HF : Hid ((l ++ s.take s.length) ++ [32] = l ++ numL n) := by show _ = _; rw [HL.out, HT.out, List.append_assoc]
      generalize l ++ s.take s.length = L at *
      go_wp2_with (at_builtin; refine wpList_append_own_at _ rfl _ _ 27 rfl N 5 i0 _ 1 1 Tryd.underlying27 hi0 hy0 hy1 hy2 rfl (by decide) (.slice a1 L.length cap1) L.length (byS L) rfl (HO.out.alloc _) ⟨wr.heap.size, 0, none⟩ 1 1 [.int .u8 32] rfl rfl (new_news _ #[.int .u8 32] _) (by simp [Value.oneCell']) (by unfold maxLen; omega) (by omega) (by have := HG.out.size; simp; omega) ?_; intro v' w7 hown hgrow _ hblk; obtain ⟨a7, cap7, rfl⟩ := ownsK_form hown; have HO7 : Hid (OwB N w7 a7 cap7 (L ++ [32])) := byS_add hown rfl; have HG7 : Hid (Gx (bkB a) w w7) := (HG.out.trans (Gx.below (bkB a) (below_alloc wr _)) (fun _ _ h => h)).trans (Gx.grown hgrow) (fun j hj e => HA.out j hj ((bkB_own _ _ _ _).1 e)); have HA7 : Hid (∀ j, j < w.heap.size → bkB a7 j → bkB a j) := own_next HA.out (by have := HG.out.size; simp; omega) hblk; clear hown hgrow hblk)
      go_ret
      exact ⟨⟨a7, cap7, L ++ [32], (by simp), HF.out, HO7.out, HA7.out⟩, HG7.out⟩
end Go.Proofs.YtiidepafifodjaaDoor
