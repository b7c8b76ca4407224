import Derived.Test.YtiidepafifodjabGreatEq
/-! spec.l1fail and its kin. -/
namespace Go.Proofs.YtiidepafifodjabGreat
open Go.RowKit
attribute [local go_sem] run_store_float

set_option maxRecDepth 100000 in
set_option maxHeartbeats 1000000 in
theorem l1fail_calls (c : Int) (w : World) :
    Calls Tryz.prog 65 #[.int .i64 c] w fun e w' => e = .returned (gV c 0 0 0 ⟨#[]⟩ 0) ∧ Below w.heap.size w w' := by
  go_enter Tryz.func65, Tryz.ntmps65; go_wp2
  exact bodyPost_ret (v := gV c 0 0 0 ⟨#[]⟩ 0) (by simp [results, Tryz.results65, go_sem]) rfl ⟨rfl, below_alloc _ _⟩

set_option maxRecDepth 100000 in
set_option maxHeartbeats 1000000 in
theorem l1got_calls (k n : Int) (f : Nat) (s : ByteArray) (r : Int) (w : World) :
    Calls Tryz.prog 68 #[vOf k n f s r] w fun e w' => e = .returned (gV 0 k n f s r) ∧ Below w.heap.size w w' := by
  go_enter Tryz.func68, Tryz.ntmps68; go_wp2
  exact bodyPost_ret (v := gV 0 k n f s r) (by simp [results, Tryz.results68, go_sem]) rfl ⟨rfl, (below_alloc _ _).alloc (by simp) _⟩

set_option maxRecDepth 100000 in
set_option maxHeartbeats 1000000 in
theorem l1int_calls (n : Int) (w : World) :
    Calls Tryz.prog 117 #[.int .i64 n] w fun e w' => e = .returned (vOf 2 n 0 ⟨#[]⟩ 0) ∧ Below w.heap.size w w' := by
  go_enter Tryz.func117, Tryz.ntmps117; go_wp2
  exact bodyPost_ret (v := vOf 2 n 0 ⟨#[]⟩ 0) (by simp [results, Tryz.results117, go_sem]) rfl ⟨rfl, below_alloc _ _⟩

end Go.Proofs.YtiidepafifodjabGreat
