import Derived.Test.YtiidepafifodjaaDoorTlB
/-! The specification's l5text, l5tell, Tell. -/
namespace Go.Proofs.YtiidepafifodjaaDoor
open Go.RowKit
attribute [local go_sem] run_store_float
attribute [local go_sem ↓] Go.wp_at_zero Go.wp_at_succ

set_option maxRecDepth 100000 in
set_option maxHeartbeats 4000000 in
theorem l5text_calls (N : Nat) (a : Option Addr) (cap : Nat) (l : List UInt8) (s : ByteArray) (w : World) (hN : N ≤ w.heap.size) (hl : l.length ≤ 3900000000000) (hs : s.size ≤ 1048576) (ho : OwB N w a cap l) :
    Calls Tryd.prog 37 #[.slice a l.length cap, .string s] w fun e w' => (∃ a' cap' L', e = .returned (.slice a' (List.length L') cap') ∧ L' = l ++ txtL s ∧ OwB N w' a' cap' L' ∧ ∀ k, k < w.heap.size → bkB a' k → bkB a k) ∧ Gx (bkB a) w w' := by
  have HO0 : Hid (OwB N w a cap l) := ho
  clear ho
  obtain ⟨i0, hi0, hy0, hy1, hy2⟩ := info_parts infoByte
  have hsz : s.data.toList.length = s.size := by simp
  have HI : Hid (I64r (s.size : Int)) := by show I64r _; unfold I64r; omega
  go_enter Tryd.func37, Tryd.ntmps37
  go_wp2_with fail
  refine (l5num_calls N a cap l s.size w hN (by omega) HI.out HO0.out).mono ?_
  rintro e w1 ⟨⟨a0, cap0, M, rfl, hM, ho1, ha1⟩, hg1⟩
  have HO1 : Hid (OwB N w1 a0 cap0 M) := ho1
  have HA1 : Hid (∀ j, j < w.heap.size → bkB a0 j → bkB a j) := ha1
  have HG1 : Hid (Gx (bkB a) w w1) := hg1
  have hz1 := hg1.size
  have hnl := numL_len (s.size : Int)
  have hl0 : M.length ≤ 3900000000022 := by rw [hM, List.length_append]; omega
  have HF : Hid (M ++ s.data.toList = l ++ txtL s) := by show _ = _; unfold txtL; rw [hM, List.append_assoc]
  clear ho1 ha1 hg1 HO0 hM
  go_wp2_with fail
  go_loopw [0, 5] (fun o i wr => ∃ (k : Nat) (a1 : Option Addr) (cap1 : Nat), k ≤ s.size ∧ i = .int .i64 k ∧ o = .slice a1 (M ++ s.data.toList.take k).length cap1 ∧ Hid (OwB N wr a1 cap1 (M ++ s.data.toList.take k)) ∧ Hid (∀ j, j < w.heap.size → bkB a1 j → bkB a j) ∧ Hid (Gx (bkB a) w wr)) (fun _ i _ => s.size - (intOf i).toNat)
  case atStart => exact ⟨0, a0, cap0, Nat.zero_le _, rfl, by simp, by show OwB _ _ _ _ _; simpa using HO1.out, HA1, HG1⟩
  case round =>
    obtain ⟨k, a1, cap1, hk, rfl, rfl, HO, HA, HG⟩ := hrel
    by_cases hks : k < s.size
    · obtain ⟨y, hy⟩ : ∃ y, s.data.toList[k]? = some y := ⟨_, List.getElem?_eq_getElem (by omega)⟩
      have HT : Hid (M ++ s.data.toList.take (k + 1) = (M ++ s.data.toList.take k) ++ [y]) := by show _ = _; rw [app_take hy, List.append_assoc]
      have hll : (M ++ s.data.toList.take k).length ≤ 3900001048600 := by rw [List.length_append, List.length_take]; omega
      have k0 : (0 : Int) ≤ (k : Int) := by omega
      have k1 : (k : Int) < (s.size : Int) := by omega
      have hix : ∀ u : World, (Instr.index 9 (.string s) (.int .i64 (k : Int))).run Tryd.prog u = .ok (.int .u8 (y.toNat : Int)) u := fun u => index_byte hy u
      clear hy
      generalize M ++ s.data.toList.take k = L at *
      go_wp2_with (at_builtin; refine wpList_append_own_at _ rfl _ _ 27 rfl N 5 i0 _ 1 1 Tryd.underlying27 hi0 hy0 hy1 hy2 rfl (by decide) (.slice a1 L.length cap1) L.length (byS L) rfl (HO.out.alloc _) ⟨wr.heap.size, 0, none⟩ 1 1 [.int .u8 (y.toNat : Int)] rfl rfl (new_news _ #[.int .u8 (y.toNat : Int)] _) (by simp [Value.oneCell']) (by unfold maxLen; omega) (by omega) (by have := HG.out.size; simp; omega) ?_; intro v' w7 hown hgrow _ hblk; obtain ⟨a7, cap7, rfl⟩ := ownsK_form hown; have HO7 : Hid (OwB N w7 a7 cap7 (L ++ [y])) := byS_add hown rfl; have HG7 : Hid (Gx (bkB a) w w7) := (HG.out.trans (Gx.below (bkB a) (below_alloc wr _)) (fun _ _ h => h)).trans (Gx.grown hgrow) (fun j hj e => HA.out j hj ((bkB_own _ _ _ _).1 e)); have HA7 : Hid (∀ j, j < w.heap.size → bkB a7 j → bkB a j) := own_next HA.out (by have := HG.out.size; simp; omega) hblk; clear hown hgrow hblk)
      go_roundw
      case rel => exact ⟨k + 1, a7, cap7, by omega, by go_num, (by rw [HT.out]; simp), (by show OwB _ _ _ _ _; rw [HT.out]; exact HO7.out), HA7, HG7⟩
      case measure => simp [intOf]; omega
    · obtain rfl : k = s.size := by omega
      have HT : Hid (M ++ s.data.toList.take s.size = l ++ txtL s) := by show _ = _; rw [← hsz, List.take_length]; exact HF.out
      generalize M ++ s.data.toList.take s.size = L at *
      go_wp2_with fail
      go_ret
      exact ⟨⟨a1, cap1, L, rfl, HT.out, HO.out, HA.out⟩, HG.out⟩

/-- what is told so far, beside a box -/
structure TW (N : Nat) (w1 : World) (B : Nat) (A : Array Value) (c : Nat) (u : World) (a : Option Addr) (cap : Nat) (L : List UInt8) : Prop where
  own : OwB N u a cap L
  b : Below N w1 u
  h : Has u B A
  n : ¬ bkB a B
  sz : N ≤ u.heap.size
  len : L.length ≤ c
theorem bkB_lt {N : Nat} {u : World} {a : Option Addr} {cap : Nat} {L : List UInt8} (h : OwB N u a cap L) {k : Nat} (hk : bkB a k) : N ≤ k ∧ k < u.heap.size := World.ownsRow.lt h k ((bkB_own _ _ _ _).2 hk)
theorem TW.next {N : Nat} {w1 : World} {B : Nat} {A : Array Value} {c : Nat} {u u' : World} {a a' : Option Addr} {cap cap' : Nat} {L L' : List UInt8} (h : TW N w1 B A c u a cap L) (hg : Gx (bkB a) u u') (ho : OwB N u' a' cap' L') (ha : ∀ k, k < u.heap.size → bkB a' k → bkB a k) (c' : Nat) (hc : L'.length ≤ c') : TW N w1 B A c' u' a' cap' L' :=
  ⟨ho, h.b.trans (hg.to h.sz (fun _ hk => (bkB_lt h.own hk).1)), hg.has h.h h.n, fun e => h.n (ha B h.h.lt e), Nat.le_trans h.sz hg.size, hc⟩
/-- .. beside another -/
structure TX (R : Nat) (A : Array Value) (u : World) (a : Option Addr) : Prop where
  h : Has u R A
  n : ¬ bkB a R
theorem TX.next {R : Nat} {A : Array Value} {u u' : World} {a a' : Option Addr} (h : TX R A u a) (hg : Gx (bkB a) u u') (ha : ∀ k, k < u.heap.size → bkB a' k → bkB a k) : TX R A u' a' := ⟨hg.has h.h h.n, fun e => h.n (ha R h.h.lt e)⟩
theorem num_len {L : List UInt8} {c : Nat} (n : Int) (h : L.length ≤ c) : (L ++ numL n).length ≤ c + 22 := by have := numL_len n; rw [List.length_append]; omega
theorem txt_len {L : List UInt8} {c : Nat} (s : ByteArray) (hs : s.size ≤ 1048576) (h : L.length ≤ c) : (L ++ txtL s).length ≤ c + 1048598 := by have := txtL_len s; rw [List.length_append]; omega
end Go.Proofs.YtiidepafifodjaaDoor
