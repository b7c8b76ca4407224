import Derived.Test.YtiidepafifodjabGives
/-! spec.l1fail and its kin. -/
namespace Go.Proofs.Ytiidepafifodjab
open Go.RowKit
attribute [local go_sem] run_store_float

set_option maxRecDepth 100000 in
set_option maxHeartbeats 1000000 in
theorem l1fail_calls (c : Int) (w : World) :
    Calls Try.prog 36 #[.int .i64 c] w fun e w' => e = .returned (gV c 0 0 0 ⟨#[]⟩ 0) ∧ Below w.heap.size w w' := by
  go_enter Try.func36, Try.ntmps36; go_wp2
  exact bodyPost_ret (v := gV c 0 0 0 ⟨#[]⟩ 0) (by simp [results, Try.results36, go_sem]) rfl ⟨rfl, below_alloc _ _⟩

set_option maxRecDepth 100000 in
set_option maxHeartbeats 1000000 in
theorem l1got_calls (k n : Int) (f : Nat) (s : ByteArray) (r : Int) (w : World) :
    Calls Try.prog 39 #[vOf k n f s r] w fun e w' => e = .returned (gV 0 k n f s r) ∧ Below w.heap.size w w' := by
  go_enter Try.func39, Try.ntmps39; go_wp2
  exact bodyPost_ret (v := gV 0 k n f s r) (by simp [results, Try.results39, go_sem]) rfl ⟨rfl, (below_alloc _ _).alloc (by simp) _⟩

set_option maxRecDepth 100000 in
set_option maxHeartbeats 1000000 in
theorem l1int_calls (n : Int) (w : World) :
    Calls Try.prog 40 #[.int .i64 n] w fun e w' => e = .returned (vOf 2 n 0 ⟨#[]⟩ 0) ∧ Below w.heap.size w w' := by
  go_enter Try.func40, Try.ntmps40; go_wp2
  exact bodyPost_ret (v := vOf 2 n 0 ⟨#[]⟩ 0) (by simp [results, Try.results40, go_sem]) rfl ⟨rfl, below_alloc _ _⟩

end Go.Proofs.Ytiidepafifodjab
