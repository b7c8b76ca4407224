import Derived.Test.YtpgoaokgdffjfabPlain
import Derived.Test.YtpgoaokgdffjfabAsserts
/-! impl.failed and impl.gives. -/
namespace Go.Proofs.Ytpgoaokgdffjfab
open Go.RowKit
attribute [local go_sem] run_store_float

abbrev gV (c k n : Int) (f : Nat) (s : ByteArray) (r : Int) : Value := .agg #[.int .i64 c, .int .i64 k, .int .i64 n, .float .f64 f, .string s, .int .i64 r]

set_option maxRecDepth 100000 in
set_option maxHeartbeats 1000000 in
theorem failed_calls (c : Int) (w : World) :
    Calls Try.prog 38 #[.int .i64 c] w fun e w' => e = .returned (gV c 0 0 0 ⟨#[]⟩ 0) ∧ Below w.heap.size w w' := by
  go_enter Try.func38, Try.ntmps38; go_wp2
  exact bodyPost_ret (v := gV c 0 0 0 ⟨#[]⟩ 0) (by simp [results, Try.results38, go_sem]) rfl ⟨rfl, below_alloc _ _⟩

theorem meth_flag (b : Bool) (w : World) : (method 224 55 (.bool b) "loop.example/meaning/impl.value").run Try.prog w = .ok (92, .bool b) w := by kernel_rfl
set_option maxRecDepth 100000 in
set_option maxHeartbeats 1000000 in
theorem value_flagT  (w : World) :
    Calls Try.prog 92 #[.bool true] w fun e w' => e = .returned (vOf 1 1 0 ⟨#[]⟩ 0) ∧ Below w.heap.size w w' := by
  go_enter Try.func92, Try.ntmps92; go_wp2
  exact bodyPost_ret (v := vOf 1 1 0 ⟨#[]⟩ 0) (by simp [results, Try.results92, go_sem]) rfl ⟨rfl, below_alloc _ _⟩
set_option maxRecDepth 100000 in
set_option maxHeartbeats 1000000 in
theorem gives_flagT  (w : World) :
    Calls Try.prog 41 #[.iface 55 (.bool true)] w fun e w' => e = .returned (gV 0 1 1 0 ⟨#[]⟩ 0) ∧ Below w.heap.size w w' := by
  have hm := fun w => meth_flag true w
  go_enter Try.func41, Try.ntmps41
  go_wp2_with (go_at_call 92; refine (value_flagT  _).mono ?_; rintro e w1 ⟨rfl, hb1⟩; obtain ⟨hc1, hf1⟩ := bcell hb1)
  exact bodyPost_ret (v := gV 0 1 1 0 ⟨#[]⟩ 0) (by simp [results, Try.results41, go_sem, hc1]) rfl ⟨rfl, ((((((below_call (below_alloc _ _) hb1).setCell (Nat.le_refl _) _).setCell (Nat.le_refl _) _).setCell (Nat.le_refl _) _).setCell (Nat.le_refl _) _).setCell (Nat.le_refl _) _).setCell (Nat.le_refl _) _⟩

set_option maxRecDepth 100000 in
set_option maxHeartbeats 1000000 in
theorem value_flagF  (w : World) :
    Calls Try.prog 92 #[.bool false] w fun e w' => e = .returned (vOf 1 0 0 ⟨#[]⟩ 0) ∧ Below w.heap.size w w' := by
  go_enter Try.func92, Try.ntmps92; go_wp2
  exact bodyPost_ret (v := vOf 1 0 0 ⟨#[]⟩ 0) (by simp [results, Try.results92, go_sem]) rfl ⟨rfl, below_alloc _ _⟩
set_option maxRecDepth 100000 in
set_option maxHeartbeats 1000000 in
theorem gives_flagF  (w : World) :
    Calls Try.prog 41 #[.iface 55 (.bool false)] w fun e w' => e = .returned (gV 0 1 0 0 ⟨#[]⟩ 0) ∧ Below w.heap.size w w' := by
  have hm := fun w => meth_flag false w
  go_enter Try.func41, Try.ntmps41
  go_wp2_with (go_at_call 92; refine (value_flagF  _).mono ?_; rintro e w1 ⟨rfl, hb1⟩; obtain ⟨hc1, hf1⟩ := bcell hb1)
  exact bodyPost_ret (v := gV 0 1 0 0 ⟨#[]⟩ 0) (by simp [results, Try.results41, go_sem, hc1]) rfl ⟨rfl, ((((((below_call (below_alloc _ _) hb1).setCell (Nat.le_refl _) _).setCell (Nat.le_refl _) _).setCell (Nat.le_refl _) _).setCell (Nat.le_refl _) _).setCell (Nat.le_refl _) _).setCell (Nat.le_refl _) _⟩

theorem meth_whole (n : Int) (w : World) : (method 224 61 (.int .i64 n) "loop.example/meaning/impl.value").run Try.prog w = .ok (98, .int .i64 n) w := by kernel_rfl
set_option maxRecDepth 100000 in
set_option maxHeartbeats 1000000 in
theorem value_whole (n : Int) (w : World) :
    Calls Try.prog 98 #[.int .i64 n] w fun e w' => e = .returned (vOf 2 n 0 ⟨#[]⟩ 0) ∧ Below w.heap.size w w' := by
  go_enter Try.func98, Try.ntmps98; go_wp2
  exact bodyPost_ret (v := vOf 2 n 0 ⟨#[]⟩ 0) (by simp [results, Try.results98, go_sem]) rfl ⟨rfl, below_alloc _ _⟩
set_option maxRecDepth 100000 in
set_option maxHeartbeats 1000000 in
theorem gives_whole (n : Int) (w : World) :
    Calls Try.prog 41 #[.iface 61 (.int .i64 n)] w fun e w' => e = .returned (gV 0 2 n 0 ⟨#[]⟩ 0) ∧ Below w.heap.size w w' := by
  have hm := fun w => meth_whole n w
  go_enter Try.func41, Try.ntmps41
  go_wp2_with (go_at_call 98; refine (value_whole n _).mono ?_; rintro e w1 ⟨rfl, hb1⟩; obtain ⟨hc1, hf1⟩ := bcell hb1)
  exact bodyPost_ret (v := gV 0 2 n 0 ⟨#[]⟩ 0) (by simp [results, Try.results41, go_sem, hc1]) rfl ⟨rfl, ((((((below_call (below_alloc _ _) hb1).setCell (Nat.le_refl _) _).setCell (Nat.le_refl _) _).setCell (Nat.le_refl _) _).setCell (Nat.le_refl _) _).setCell (Nat.le_refl _) _).setCell (Nat.le_refl _) _⟩

theorem meth_float (f : Nat) (w : World) : (method 224 62 (.float .f64 f) "loop.example/meaning/impl.value").run Try.prog w = .ok (113, .float .f64 f) w := by kernel_rfl
set_option maxRecDepth 100000 in
set_option maxHeartbeats 1000000 in
theorem value_float (f : Nat) (w : World) :
    Calls Try.prog 113 #[.float .f64 f] w fun e w' => e = .returned (vOf 3 0 f ⟨#[]⟩ 0) ∧ Below w.heap.size w w' := by
  go_enter Try.func113, Try.ntmps113; go_wp2
  exact bodyPost_ret (v := vOf 3 0 f ⟨#[]⟩ 0) (by simp [results, Try.results113, go_sem]) rfl ⟨rfl, below_alloc _ _⟩
set_option maxRecDepth 100000 in
set_option maxHeartbeats 1000000 in
theorem gives_float (f : Nat) (w : World) :
    Calls Try.prog 41 #[.iface 62 (.float .f64 f)] w fun e w' => e = .returned (gV 0 3 0 f ⟨#[]⟩ 0) ∧ Below w.heap.size w w' := by
  have hm := fun w => meth_float f w
  go_enter Try.func41, Try.ntmps41
  go_wp2_with (go_at_call 113; refine (value_float f _).mono ?_; rintro e w1 ⟨rfl, hb1⟩; obtain ⟨hc1, hf1⟩ := bcell hb1)
  exact bodyPost_ret (v := gV 0 3 0 f ⟨#[]⟩ 0) (by simp [results, Try.results41, go_sem, hc1]) rfl ⟨rfl, ((((((below_call (below_alloc _ _) hb1).setCell (Nat.le_refl _) _).setCell (Nat.le_refl _) _).setCell (Nat.le_refl _) _).setCell (Nat.le_refl _) _).setCell (Nat.le_refl _) _).setCell (Nat.le_refl _) _⟩

theorem meth_word (s : ByteArray) (w : World) : (method 224 63 (.string s) "loop.example/meaning/impl.value").run Try.prog w = .ok (123, .string s) w := by kernel_rfl
set_option maxRecDepth 100000 in
set_option maxHeartbeats 1000000 in
theorem value_word (s : ByteArray) (w : World) :
    Calls Try.prog 123 #[.string s] w fun e w' => e = .returned (vOf 4 0 0 s 0) ∧ Below w.heap.size w w' := by
  go_enter Try.func123, Try.ntmps123; go_wp2
  exact bodyPost_ret (v := vOf 4 0 0 s 0) (by simp [results, Try.results123, go_sem]) rfl ⟨rfl, below_alloc _ _⟩
set_option maxRecDepth 100000 in
set_option maxHeartbeats 1000000 in
theorem gives_word (s : ByteArray) (w : World) :
    Calls Try.prog 41 #[.iface 63 (.string s)] w fun e w' => e = .returned (gV 0 4 0 0 s 0) ∧ Below w.heap.size w w' := by
  have hm := fun w => meth_word s w
  go_enter Try.func41, Try.ntmps41
  go_wp2_with (go_at_call 123; refine (value_word s _).mono ?_; rintro e w1 ⟨rfl, hb1⟩; obtain ⟨hc1, hf1⟩ := bcell hb1)
  exact bodyPost_ret (v := gV 0 4 0 0 s 0) (by simp [results, Try.results41, go_sem, hc1]) rfl ⟨rfl, ((((((below_call (below_alloc _ _) hb1).setCell (Nat.le_refl _) _).setCell (Nat.le_refl _) _).setCell (Nat.le_refl _) _).setCell (Nat.le_refl _) _).setCell (Nat.le_refl _) _).setCell (Nat.le_refl _) _⟩

end Go.Proofs.Ytpgoaokgdffjfab
