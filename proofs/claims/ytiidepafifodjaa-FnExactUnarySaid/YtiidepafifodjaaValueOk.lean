import Derived.Test.YtiidepafifodjaaRowOk
import Derived.Test.YtiidepafifodjaaSpecOk
import Derived.Test.YtiidepafifodjaaThing
import Derived.Test.YtiidepafifodjaaCases
/-! FnExactValueOk: the walk. -/
namespace Go.Proofs.Ytiidepafifodjaa
open Go.RowKit

set_option maxHeartbeats 1000000 in
theorem implOk_calls (k n : Int) (f : Nat) (s : ByteArray) (r : Int) (w : World) :
    Calls Try.prog 37 #[vOf k n f s r] w fun e w' => e = .returned (.bool (okB k n f s r)) ∧ Below w.heap.size w w' := by
  cases h : okB k n f s r
  · have e1 : thW k n f s r = .nilIface := by simp [thW, h]
    go_enter Try.func37, Try.ntmps37
    go_wp2_with (go_at_call 60; refine (th_calls _ _ _ _ _ _).mono ?_; rintro e w1 ⟨rfl, hb⟩; obtain ⟨hc, hf⟩ := bcell hb)
    go_ret
    exact ⟨rfl, below_call (below_alloc _ _) hb⟩
  · obtain ⟨t, v, e1⟩ := iface_ne_nil k n f s r h
    go_enter Try.func37, Try.ntmps37
    go_wp2_with (go_at_call 60; refine (th_calls _ _ _ _ _ _).mono ?_; rintro e w1 ⟨rfl, hb⟩; obtain ⟨hc, hf⟩ := bcell hb)
    go_ret
    exact ⟨rfl, below_call (below_alloc _ _) hb⟩

set_option maxHeartbeats 1000000 in
theorem valueOk_walk (k n : Int) (f : Nat) (s : ByteArray) (r : Int) (w : World) (hs : s.size ≤ maxLen) (_ : (Lit.int .i64 k).wf = true) (_ : (Lit.int .i64 n).wf = true) (_ : (Lit.float .f64 f).wf = true) (_ : (Lit.int .i64 r).wf = true) :
    Calls Try.prog 7 #[vOf k n f s r] w fun e w' => e = .returned (.bool true) ∧ Below w.heap.size w w' := by
  have hz : Hid (s.size ≤ maxLen) := hs
  clear hs
  by_cases h : (1048576 : Int) < s.size
  · go_enter Try.func7, Try.ntmps7
    go_wp2_with (go_at_call 26; refine (sz_calls _ _ _ _ _ _ _ (by omega) (by omega) hz.out).mono ?_; rw [if_pos h]; rintro e w1 ⟨rfl, hb⟩; obtain ⟨hc, hf⟩ := bcell hb)
    go_ret
    exact ⟨rfl, below_call (below_alloc _ _) hb⟩
  · go_enter Try.func7, Try.ntmps7
    go_wp2_with (first | (go_at_call 26; refine (sz_calls _ _ _ _ _ _ _ (by omega) (by omega) hz.out).mono ?_; rw [if_neg h]; rintro e w1 ⟨rfl, hb1⟩; obtain ⟨hc1, hf1⟩ := bcell hb1) | (go_at_call 29; refine (to_calls _ _ _ _ _ _).mono ?_; rintro e w2 ⟨rfl, hb2⟩; replace hb1 := below_call hb1 hb2; clear hb2 hc1 hf1; obtain ⟨hc1, hf1⟩ := bcell hb1) | (go_at_call 36; refine (specOk_calls _ _ _ _ _ _).mono ?_; rintro e w2 ⟨rfl, hb2⟩; replace hb1 := below_call hb1 hb2; clear hb2 hc1 hf1; obtain ⟨hc1, hf1⟩ := bcell hb1) | (go_at_call 37; refine (implOk_calls _ _ _ _ _ _).mono ?_; rintro e w2 ⟨rfl, hb2⟩; replace hb1 := below_call hb1 hb2; clear hb2 hc1 hf1; obtain ⟨hc1, hf1⟩ := bcell hb1))
    go_ret
    exact ⟨rfl, below_call (below_alloc _ _) hb1⟩
end Go.Proofs.Ytiidepafifodjaa
