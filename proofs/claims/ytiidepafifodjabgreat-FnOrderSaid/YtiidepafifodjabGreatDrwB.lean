import Derived.Test.YtiidepafifodjabGreatDrwA
/-! The draws: pick, whole. -/
namespace Go.Proofs.YtiidepafifodjabGreat
open Go.RowKit
attribute [local go_sem ↓] Go.wp_at_zero Go.wp_at_succ

set_option maxRecDepth 100000 in
set_option maxHeartbeats 4000000 in
theorem pick_calls (B : Nat) (a : Option Addr) (len cap A : Nat) (n : Int) (w : World) (hA : A < 900000) (hn1 : 1 < n) (hn2 : n ≤ 100000) (h : CU B a len cap A w) :
    Calls Tryz.prog 187 #[.pointer (some ⟨B, 0, none⟩), .int .i64 n] w fun e w' => (∃ v : Int, e = .returned (.int .i64 v) ∧ 0 ≤ v ∧ v < n) ∧ CU B a len cap (A + 2) w' ∧ w.grownBy w' (some B) := by
  have hne : (n == 0) = false := by simp; omega
  go_enter Tryz.func187, Tryz.ntmps187
  go_wp2_with fail
  refine (next_calls B a len cap A w (by omega) h).mono ?_
  rintro e w1 ⟨⟨v, rfl, v0, v1⟩, hc, hg⟩
  have HC : Hid (CU B a len cap (A + 1) w1) := hc
  have HG : Hid (w.grownBy w1 (some B)) := hg
  clear hc hg h
  by_cases h200 : 200 < n
  · go_wp2_with fail
    refine (next_calls B a len cap (A + 1) w1 (by omega) HC.out).mono ?_
    rintro e w2 ⟨⟨v', rfl, v0', v1'⟩, hc, hg⟩
    have HC2 : Hid (CU B a len cap (A + 2) w2) := hc
    have HG2 : Hid (w.grownBy w2 (some B)) := gby_trans HG.out hg
    clear hc hg HC HG
    go_wp2_with fail
    go_ret
    exact ⟨⟨_, rfl, by first | exact Int.emod_nonneg _ (by omega) | skip, by first | exact Int.emod_lt_of_pos _ (by omega) | skip⟩, HC2.out, HG2.out⟩
  · go_wp2_with fail
    go_ret
    exact ⟨⟨_, rfl, by first | exact Int.emod_nonneg _ (by omega) | skip, by first | exact Int.emod_lt_of_pos _ (by omega) | skip⟩, HC.out.mono (by omega), HG.out⟩

def I64b (v : Int) : Prop := -9223372036854775808 ≤ v ∧ v ≤ 9223372036854775807
theorem wrapI (x : Int) : I64b (wrap64 x) := by unfold I64b wrap64; omega
set_option maxRecDepth 100000 in
set_option maxHeartbeats 4000000 in
theorem whole_calls (B : Nat) (a : Option Addr) (len cap A : Nat) (w : World) (hA : A < 800000) (h : CU B a len cap A w) :
    Calls Tryz.prog 188 #[.pointer (some ⟨B, 0, none⟩)] w fun e w' => (∃ v : Int, e = .returned (.int .i64 v) ∧ I64b v) ∧ CU B a len cap (A + 4) w' ∧ w.grownBy w' (some B) := by
  have HC : Hid (CU B a len cap A w) := h
  have HG : Hid (w.grownBy w (some B)) := gby_refl _ _
  clear h
  go_enter Tryz.func188, Tryz.ntmps188
  go_wp2_with (go_at_call 187; refine (pick_calls B a len cap _ _ _ (by omega) (by omega) (by omega) HC.out).mono ?_; rintro e w1 ⟨⟨v, rfl, v0, v1⟩, hc, hg⟩; have HC' : Hid (CU B a len cap _ _) := hc; have HG' : Hid (World.grownBy _ _ _) := gby_trans HG.out hg; clear hc hg HC HG; have HC : Hid (CU B a len cap _ _) := HC'.out; have HG : Hid (World.grownBy _ _ _) := HG'.out; clear HC' HG')
  all_goals go_ret
  all_goals exact ⟨⟨_, rfl, by first | (unfold I64b; omega) | exact wrapI _⟩, HC.out.mono (by omega), HG.out⟩
end Go.Proofs.YtiidepafifodjabGreat
