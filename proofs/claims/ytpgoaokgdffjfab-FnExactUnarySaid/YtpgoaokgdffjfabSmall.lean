import Derived.Test.YtpgoaokgdffjfabEq
/-! spec.l1fail and its kin. -/
namespace Go.Proofs.Ytpgoaokgdffjfab
open Go.RowKit
attribute [local go_sem] run_store_float

set_option maxRecDepth 100000 in
set_option maxHeartbeats 1000000 in
theorem l1fail_calls (c : Int) (w : World) :
    Calls Try.prog 33 #[.int .i64 c] w fun e w' => e = .returned (gV c 0 0 0 ⟨#[]⟩ 0) ∧ Below w.heap.size w w' := by
  go_enter Try.func33, Try.ntmps33; go_wp2
  exact bodyPost_ret (v := gV c 0 0 0 ⟨#[]⟩ 0) (by simp [results, Try.results33, go_sem]) rfl ⟨rfl, below_alloc _ _⟩

set_option maxRecDepth 100000 in
set_option maxHeartbeats 1000000 in
theorem l1got_calls (k n : Int) (f : Nat) (s : ByteArray) (r : Int) (w : World) :
    Calls Try.prog 34 #[vOf k n f s r] w fun e w' => e = .returned (gV 0 k n f s r) ∧ Below w.heap.size w w' := by
  go_enter Try.func34, Try.ntmps34; go_wp2
  exact bodyPost_ret (v := gV 0 k n f s r) (by simp [results, Try.results34, go_sem]) rfl ⟨rfl, (below_alloc _ _).alloc (by simp) _⟩

set_option maxRecDepth 100000 in
set_option maxHeartbeats 1000000 in
theorem l1boolT_calls  (w : World) :
    Calls Try.prog 35 #[.bool true] w fun e w' => e = .returned (vOf 1 1 0 ⟨#[]⟩ 0) ∧ Below w.heap.size w w' := by
  go_enter Try.func35, Try.ntmps35; go_wp2
  exact bodyPost_ret (v := vOf 1 1 0 ⟨#[]⟩ 0) (by simp [results, Try.results35, go_sem]) rfl ⟨rfl, below_alloc _ _⟩

set_option maxRecDepth 100000 in
set_option maxHeartbeats 1000000 in
theorem l1boolF_calls  (w : World) :
    Calls Try.prog 35 #[.bool false] w fun e w' => e = .returned (vOf 1 0 0 ⟨#[]⟩ 0) ∧ Below w.heap.size w w' := by
  go_enter Try.func35, Try.ntmps35; go_wp2
  exact bodyPost_ret (v := vOf 1 0 0 ⟨#[]⟩ 0) (by simp [results, Try.results35, go_sem]) rfl ⟨rfl, below_alloc _ _⟩

set_option maxRecDepth 100000 in
set_option maxHeartbeats 1000000 in
theorem l1int_calls (n : Int) (w : World) :
    Calls Try.prog 36 #[.int .i64 n] w fun e w' => e = .returned (vOf 2 n 0 ⟨#[]⟩ 0) ∧ Below w.heap.size w w' := by
  go_enter Try.func36, Try.ntmps36; go_wp2
  exact bodyPost_ret (v := vOf 2 n 0 ⟨#[]⟩ 0) (by simp [results, Try.results36, go_sem]) rfl ⟨rfl, below_alloc _ _⟩

set_option maxRecDepth 100000 in
set_option maxHeartbeats 1000000 in
theorem l1flt_calls (f : Nat) (w : World) :
    Calls Try.prog 37 #[.float .f64 f] w fun e w' => e = .returned (vOf 3 0 f ⟨#[]⟩ 0) ∧ Below w.heap.size w w' := by
  go_enter Try.func37, Try.ntmps37; go_wp2
  exact bodyPost_ret (v := vOf 3 0 f ⟨#[]⟩ 0) (by simp [results, Try.results37, go_sem]) rfl ⟨rfl, below_alloc _ _⟩

end Go.Proofs.Ytpgoaokgdffjfab
