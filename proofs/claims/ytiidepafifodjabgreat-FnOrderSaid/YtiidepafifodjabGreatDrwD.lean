import Derived.Test.YtiidepafifodjabGreatDrwC
import Derived.Laws.BytesArg
/-! The draws: strings. -/
namespace Go.Proofs.YtiidepafifodjabGreat
open Go.RowKit
theorem conv1 (w : World) (x : Int) : (convert 41 9 (.slice (some ⟨w.heap.size, 0, none⟩) 1 1)).run Tryz.prog (w.alloc (.cells #[.int .u8 x] 5)) = .ok (.string (strOfNums [x])) (w.alloc (.cells #[.int .u8 x] 5)) :=
  run_convert_bytes_arg _ 41 5 Tryz.underlying41 Tryz.underlying5 w.heap.size 0 1 1 [x] rfl (fun i hi => by
    obtain rfl : i = 0 := by omega
    exact World.cell?_alloc_new w #[.int .u8 x] 5 0) 9 Tryz.underlying9
theorem conv2 (w : World) (x y : Int) : (convert 41 9 (.slice (some ⟨w.heap.size, 0, none⟩) 2 2)).run Tryz.prog (w.alloc (.cells #[.int .u8 x, .int .u8 y] 5)) = .ok (.string (strOfNums [x, y])) (w.alloc (.cells #[.int .u8 x, .int .u8 y] 5)) :=
  run_convert_bytes_arg _ 41 5 Tryz.underlying41 Tryz.underlying5 w.heap.size 0 2 2 [x, y] rfl (fun i hi => by
    rcases (show i = 0 ∨ i = 1 by omega) with rfl | rfl
    · exact World.cell?_alloc_new w #[.int .u8 x, .int .u8 y] 5 0
    · exact World.cell?_alloc_new w #[.int .u8 x, .int .u8 y] 5 1) 9 Tryz.underlying9
theorem gby_alloc {a b : World} {r : Option Nat} (h : a.grownBy b r) (o : Obj) : a.grownBy (b.alloc o) r := gby_trans h (gby_below r (below_alloc b o))
attribute [local go_sem] conv1 conv2
attribute [local go_sem ↓] Go.wp_at_zero Go.wp_at_succ

/-- how long the string is that is doubled -/
def Lng (L : Nat) : Prop := L = 8 ∨ L = 16 ∨ L = 32 ∨ L = 64 ∨ L = 128 ∨ L = 256 ∨ L = 512 ∨ L = 1024 ∨ L = 2048 ∨ (3990 ≤ L ∧ L ≤ 4009)
set_option maxRecDepth 100000 in
set_option maxHeartbeats 4000000 in
theorem words_calls (B : Nat) (a : Option Addr) (len cap A : Nat) (w : World) (hA : A < 600000) (h : CU B a len cap A w) :
    Calls Tryz.prog 190 #[.pointer (some ⟨B, 0, none⟩)] w fun e w' => (∃ s : ByteArray, e = .returned (.string s) ∧ s.size ≤ 5000) ∧ CU B a len cap (A + 40) w' ∧ w.grownBy w' (some B) := by
  have HC : Hid (CU B a len cap A w) := h
  have HG : Hid (w.grownBy w (some B)) := gby_refl _ _
  clear h
  go_enter Tryz.func190, Tryz.ntmps190
  go_upto_region 2 with (go_at_call 187; refine (pick_calls B a len cap _ _ _ (by omega) (by omega) (by omega) HC.out).mono ?_; rintro e w1 ⟨⟨v, rfl, v0, v1⟩, hc, hg⟩; have HC' : Hid (CU B a len cap _ _) := hc; have HG' : Hid (World.grownBy _ _ _) := gby_trans HG.out hg; clear hc hg HC HG; have HC : Hid (CU B a len cap _ _) := HC'.out; have HG : Hid (World.grownBy _ _ _) := HG'.out; clear HC' HG')
  rcases (show v = 0 ∨ v = 1 ∨ v = 2 ∨ v = 3 ∨ 4 ≤ v by omega) with rfl | rfl | rfl | rfl | h4
  · go_wp2_with fail
    go_ret
    exact ⟨⟨_, rfl, by decide⟩, HC.out.mono (by omega), HG.out⟩
  · go_wp2_with fail
    go_ret
    exact ⟨⟨_, rfl, by decide⟩, HC.out.mono (by omega), HG.out⟩
  · go_wp2_with (go_at_call 227; refine (next_calls B a len cap _ _ (by omega) HC.out).mono ?_; rintro e w1 ⟨⟨v, rfl, v0, v1⟩, hc, hg⟩; have HC' : Hid (CU B a len cap _ _) := hc; have HG' : Hid (World.grownBy _ _ _) := gby_trans HG.out hg; clear hc hg HC HG; have HC : Hid (CU B a len cap _ _) := HC'.out; have HG : Hid (World.grownBy _ _ _) := HG'.out; clear HC' HG')
    go_ret
    exact ⟨⟨_, rfl, by show 2 ≤ 5000; omega⟩, (HC.out.alloc _).mono (by omega), gby_alloc HG.out _⟩
  · go_wp2_with (go_at_call 187; refine (pick_calls B a len cap _ _ _ (by omega) (by omega) (by omega) HC.out).mono ?_; rintro e w1 ⟨⟨v, rfl, v0, v1⟩, hc, hg⟩; have HC' : Hid (CU B a len cap _ _) := hc; have HG' : Hid (World.grownBy _ _ _) := gby_trans HG.out hg; clear hc hg HC HG; have HC : Hid (CU B a len cap _ _) := HC'.out; have HG : Hid (World.grownBy _ _ _) := HG'.out; clear HC' HG')
    go_loopw [3, 4] (fun x y wx => ∃ (s : ByteArray) (k : Nat), x = .string s ∧ y = .int .i64 (k : Int) ∧ k ≤ 9 ∧ Lng s.size ∧ CU B a len cap (A + 4 + 2 * (9 - k)) wx ∧ w.grownBy wx (some B)) (fun _ y _ => (intOf y).toNat)
    case atStart => exact ⟨_, v.toNat, rfl, by rw [Int.toNat_of_nonneg v0], by omega, .inl rfl, HC.out.mono (by omega), HG.out⟩
    case round =>
      clear HC HG
      obtain ⟨s, k, rfl, rfl, hk, hL, hc, hg⟩ := hrel
      have HC : Hid (CU B a len cap (A + 4 + 2 * (9 - k)) wr) := hc
      have HG : Hid (w.grownBy wr (some B)) := hg
      clear hc hg
      by_cases hk0 : 0 < k
      · have hss : (s ++ s).size = s.size + s.size := ByteArray.size_append
        have hmx : ¬ 9223372036854775807 < s.size + s.size := by unfold Lng at hL; omega
        by_cases h4 : 4000 < (s ++ s).size
        · go_wp2_with (go_at_call 187; refine (pick_calls B a len cap _ _ _ (by omega) (by omega) (by omega) HC.out).mono ?_; rintro e w1 ⟨⟨v, rfl, v0, v1⟩, hc, hg⟩; have HC' : Hid (CU B a len cap _ _) := hc; have HG' : Hid (World.grownBy _ _ _) := gby_trans HG.out hg; clear hc hg HC HG; have HC : Hid (CU B a len cap _ _) := HC'.out; have HG : Hid (World.grownBy _ _ _) := HG'.out; clear HC' HG')
          any_goals (exfalso; unfold Lng at hL; omega)
          have hse : ((s ++ s).extract 0 (3990 + v).toNat).size = (3990 + v).toNat := by
            rw [ByteArray.size_extract]
            unfold Lng at hL
            omega
          go_roundw
          case rel => exact ⟨_, k - 1, rfl, by go_num, by omega, by rw [hse]; unfold Lng at *; omega, HC.out.mono (by omega), HG.out⟩
          case measure => simp [intOf]; omega
        · go_wp2_with fail
          go_roundw
          case rel => exact ⟨s ++ s, k - 1, rfl, by go_num, by omega, by unfold Lng at *; omega, HC.out.mono (by omega), HG.out⟩
          case measure => simp [intOf]; omega
      · obtain rfl : k = 0 := by omega
        by_cases h4 : 4000 < s.size
        · have hse : (s.extract 0 4000).size = 4000 := by rw [ByteArray.size_extract]; omega
          go_wp2_with fail
          go_ret
          exact ⟨⟨_, rfl, by show (s.extract 0 4000).size ≤ 5000; omega⟩, HC.out.mono (by omega), HG.out⟩
        · go_wp2_with fail
          go_ret
          exact ⟨⟨_, rfl, by omega⟩, HC.out.mono (by omega), HG.out⟩
  · go_upto_region 19 with fail
    go_wp2_with (go_at_call 187; refine (pick_calls B a len cap _ _ _ (by omega) (by omega) (by omega) HC.out).mono ?_; rintro e w1 ⟨⟨v, rfl, v0, v1⟩, hc, hg⟩; have HC' : Hid (CU B a len cap _ _) := hc; have HG' : Hid (World.grownBy _ _ _) := gby_trans HG.out hg; clear hc hg HC HG; have HC : Hid (CU B a len cap _ _) := HC'.out; have HG : Hid (World.grownBy _ _ _) := HG'.out; clear HC' HG')
    go_ret
    exact ⟨⟨_, rfl, by show 1 ≤ 5000; omega⟩, (HC.out.alloc _).mono (by omega), gby_alloc HG.out _⟩
end Go.Proofs.YtiidepafifodjabGreat
