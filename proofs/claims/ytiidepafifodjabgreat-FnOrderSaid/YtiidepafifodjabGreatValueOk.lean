import Derived.Test.YtiidepafifodjabGreatRowOk
import Derived.Test.YtiidepafifodjabGreatSpecOk
import Derived.Test.YtiidepafifodjabGreatThing
import Derived.Test.YtiidepafifodjabGreatCases
/-! FnExactValueOk: the walk. -/
namespace Go.Proofs.YtiidepafifodjabGreat
open Go.RowKit

set_option maxHeartbeats 1000000 in
theorem implOk_calls (k n : Int) (f : Nat) (s : ByteArray) (r : Int) (w : World) :
    Calls Tryz.prog 20 #[vOf k n f s r] w fun e w' => e = .returned (.bool (okB k n f s r)) ∧ Below w.heap.size w w' := by
  cases h : okB k n f s r
  · have e1 : thW k n f s r = .nilIface := by simp [thW, h]
    go_enter Tryz.func20, Tryz.ntmps20
    go_wp2_with (go_at_call 50; refine (th_calls _ _ _ _ _ _).mono ?_; rintro e w1 ⟨rfl, hb⟩; obtain ⟨hc, hf⟩ := bcell hb)
    go_ret
    exact ⟨rfl, below_call (below_alloc _ _) hb⟩
  · obtain ⟨t, v, e1⟩ := iface_ne_nil k n f s r h
    go_enter Tryz.func20, Tryz.ntmps20
    go_wp2_with (go_at_call 50; refine (th_calls _ _ _ _ _ _).mono ?_; rintro e w1 ⟨rfl, hb⟩; obtain ⟨hc, hf⟩ := bcell hb)
    go_ret
    exact ⟨rfl, below_call (below_alloc _ _) hb⟩

end Go.Proofs.YtiidepafifodjabGreat
