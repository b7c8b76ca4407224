import Derived.Test.YtiidepafifodjabPlain
import Derived.Test.YtiidepafifodjabAsserts
/-! impl.failed and impl.gives. -/
namespace Go.Proofs.Ytiidepafifodjab
open Go.RowKit
attribute [local go_sem] run_store_float

abbrev gV (c k n : Int) (f : Nat) (s : ByteArray) (r : Int) : Value := .agg #[.int .i64 c, .int .i64 k, .int .i64 n, .float .f64 f, .string s, .int .i64 r]

set_option maxRecDepth 100000 in
set_option maxHeartbeats 1000000 in
theorem failed_calls (c : Int) (w : World) :
    Calls Try.prog 66 #[.int .i64 c] w fun e w' => e = .returned (gV c 0 0 0 ⟨#[]⟩ 0) ∧ Below w.heap.size w w' := by
  go_enter Try.func66, Try.ntmps66; go_wp2
  exact bodyPost_ret (v := gV c 0 0 0 ⟨#[]⟩ 0) (by simp [results, Try.results66, go_sem]) rfl ⟨rfl, below_alloc _ _⟩

theorem meth_flag (b : Bool) (w : World) : (method 277 102 (.bool b) "loop.example/meaning/impl.value").run Try.prog w = .ok (143, .bool b) w := by kernel_rfl
set_option maxRecDepth 100000 in
set_option maxHeartbeats 1000000 in
theorem value_flagT  (w : World) :
    Calls Try.prog 143 #[.bool true] w fun e w' => e = .returned (vOf 1 1 0 ⟨#[]⟩ 0) ∧ Below w.heap.size w w' := by
  go_enter Try.func143, Try.ntmps143; go_wp2
  exact bodyPost_ret (v := vOf 1 1 0 ⟨#[]⟩ 0) (by simp [results, Try.results143, go_sem]) rfl ⟨rfl, below_alloc _ _⟩
set_option maxRecDepth 100000 in
set_option maxHeartbeats 1000000 in
theorem gives_flagT  (w : World) :
    Calls Try.prog 85 #[.iface 102 (.bool true)] w fun e w' => e = .returned (gV 0 1 1 0 ⟨#[]⟩ 0) ∧ Below w.heap.size w w' := by
  have hm := fun w => meth_flag true w
  go_enter Try.func85, Try.ntmps85
  go_wp2_with (go_at_call 143; refine (value_flagT  _).mono ?_; rintro e w1 ⟨rfl, hb1⟩; obtain ⟨hc1, hf1⟩ := bcell hb1)
  exact bodyPost_ret (v := gV 0 1 1 0 ⟨#[]⟩ 0) (by simp [results, Try.results85, go_sem, hc1]) rfl ⟨rfl, ((((((below_call (below_alloc _ _) hb1).setCell (Nat.le_refl _) _).setCell (Nat.le_refl _) _).setCell (Nat.le_refl _) _).setCell (Nat.le_refl _) _).setCell (Nat.le_refl _) _).setCell (Nat.le_refl _) _⟩

set_option maxRecDepth 100000 in
set_option maxHeartbeats 1000000 in
theorem value_flagF  (w : World) :
    Calls Try.prog 143 #[.bool false] w fun e w' => e = .returned (vOf 1 0 0 ⟨#[]⟩ 0) ∧ Below w.heap.size w w' := by
  go_enter Try.func143, Try.ntmps143; go_wp2
  exact bodyPost_ret (v := vOf 1 0 0 ⟨#[]⟩ 0) (by simp [results, Try.results143, go_sem]) rfl ⟨rfl, below_alloc _ _⟩
set_option maxRecDepth 100000 in
set_option maxHeartbeats 1000000 in
theorem gives_flagF  (w : World) :
    Calls Try.prog 85 #[.iface 102 (.bool false)] w fun e w' => e = .returned (gV 0 1 0 0 ⟨#[]⟩ 0) ∧ Below w.heap.size w w' := by
  have hm := fun w => meth_flag false w
  go_enter Try.func85, Try.ntmps85
  go_wp2_with (go_at_call 143; refine (value_flagF  _).mono ?_; rintro e w1 ⟨rfl, hb1⟩; obtain ⟨hc1, hf1⟩ := bcell hb1)
  exact bodyPost_ret (v := gV 0 1 0 0 ⟨#[]⟩ 0) (by simp [results, Try.results85, go_sem, hc1]) rfl ⟨rfl, ((((((below_call (below_alloc _ _) hb1).setCell (Nat.le_refl _) _).setCell (Nat.le_refl _) _).setCell (Nat.le_refl _) _).setCell (Nat.le_refl _) _).setCell (Nat.le_refl _) _).setCell (Nat.le_refl _) _⟩

theorem meth_whole (n : Int) (w : World) : (method 277 103 (.int .i64 n) "loop.example/meaning/impl.value").run Try.prog w = .ok (91, .int .i64 n) w := by kernel_rfl
set_option maxRecDepth 100000 in
set_option maxHeartbeats 1000000 in
theorem value_whole (n : Int) (w : World) :
    Calls Try.prog 91 #[.int .i64 n] w fun e w' => e = .returned (vOf 2 n 0 ⟨#[]⟩ 0) ∧ Below w.heap.size w w' := by
  go_enter Try.func91, Try.ntmps91; go_wp2
  exact bodyPost_ret (v := vOf 2 n 0 ⟨#[]⟩ 0) (by simp [results, Try.results91, go_sem]) rfl ⟨rfl, below_alloc _ _⟩
set_option maxRecDepth 100000 in
set_option maxHeartbeats 1000000 in
theorem gives_whole (n : Int) (w : World) :
    Calls Try.prog 85 #[.iface 103 (.int .i64 n)] w fun e w' => e = .returned (gV 0 2 n 0 ⟨#[]⟩ 0) ∧ Below w.heap.size w w' := by
  have hm := fun w => meth_whole n w
  go_enter Try.func85, Try.ntmps85
  go_wp2_with (go_at_call 91; refine (value_whole n _).mono ?_; rintro e w1 ⟨rfl, hb1⟩; obtain ⟨hc1, hf1⟩ := bcell hb1)
  exact bodyPost_ret (v := gV 0 2 n 0 ⟨#[]⟩ 0) (by simp [results, Try.results85, go_sem, hc1]) rfl ⟨rfl, ((((((below_call (below_alloc _ _) hb1).setCell (Nat.le_refl _) _).setCell (Nat.le_refl _) _).setCell (Nat.le_refl _) _).setCell (Nat.le_refl _) _).setCell (Nat.le_refl _) _).setCell (Nat.le_refl _) _⟩

theorem meth_float (f : Nat) (w : World) : (method 277 100 (.float .f64 f) "loop.example/meaning/impl.value").run Try.prog w = .ok (120, .float .f64 f) w := by kernel_rfl
set_option maxRecDepth 100000 in
set_option maxHeartbeats 1000000 in
theorem value_float (f : Nat) (w : World) :
    Calls Try.prog 120 #[.float .f64 f] w fun e w' => e = .returned (vOf 3 0 f ⟨#[]⟩ 0) ∧ Below w.heap.size w w' := by
  go_enter Try.func120, Try.ntmps120; go_wp2
  exact bodyPost_ret (v := vOf 3 0 f ⟨#[]⟩ 0) (by simp [results, Try.results120, go_sem]) rfl ⟨rfl, below_alloc _ _⟩
set_option maxRecDepth 100000 in
set_option maxHeartbeats 1000000 in
theorem gives_float (f : Nat) (w : World) :
    Calls Try.prog 85 #[.iface 100 (.float .f64 f)] w fun e w' => e = .returned (gV 0 3 0 f ⟨#[]⟩ 0) ∧ Below w.heap.size w w' := by
  have hm := fun w => meth_float f w
  go_enter Try.func85, Try.ntmps85
  go_wp2_with (go_at_call 120; refine (value_float f _).mono ?_; rintro e w1 ⟨rfl, hb1⟩; obtain ⟨hc1, hf1⟩ := bcell hb1)
  exact bodyPost_ret (v := gV 0 3 0 f ⟨#[]⟩ 0) (by simp [results, Try.results85, go_sem, hc1]) rfl ⟨rfl, ((((((below_call (below_alloc _ _) hb1).setCell (Nat.le_refl _) _).setCell (Nat.le_refl _) _).setCell (Nat.le_refl _) _).setCell (Nat.le_refl _) _).setCell (Nat.le_refl _) _).setCell (Nat.le_refl _) _⟩

theorem meth_word (s : ByteArray) (w : World) : (method 277 104 (.string s) "loop.example/meaning/impl.value").run Try.prog w = .ok (148, .string s) w := by kernel_rfl
set_option maxRecDepth 100000 in
set_option maxHeartbeats 1000000 in
theorem value_word (s : ByteArray) (w : World) :
    Calls Try.prog 148 #[.string s] w fun e w' => e = .returned (vOf 4 0 0 s 0) ∧ Below w.heap.size w w' := by
  go_enter Try.func148, Try.ntmps148; go_wp2
  exact bodyPost_ret (v := vOf 4 0 0 s 0) (by simp [results, Try.results148, go_sem]) rfl ⟨rfl, below_alloc _ _⟩
set_option maxRecDepth 100000 in
set_option maxHeartbeats 1000000 in
theorem gives_word (s : ByteArray) (w : World) :
    Calls Try.prog 85 #[.iface 104 (.string s)] w fun e w' => e = .returned (gV 0 4 0 0 s 0) ∧ Below w.heap.size w w' := by
  have hm := fun w => meth_word s w
  go_enter Try.func85, Try.ntmps85
  go_wp2_with (go_at_call 148; refine (value_word s _).mono ?_; rintro e w1 ⟨rfl, hb1⟩; obtain ⟨hc1, hf1⟩ := bcell hb1)
  exact bodyPost_ret (v := gV 0 4 0 0 s 0) (by simp [results, Try.results85, go_sem, hc1]) rfl ⟨rfl, ((((((below_call (below_alloc _ _) hb1).setCell (Nat.le_refl _) _).setCell (Nat.le_refl _) _).setCell (Nat.le_refl _) _).setCell (Nat.le_refl _) _).setCell (Nat.le_refl _) _).setCell (Nat.le_refl _) _⟩

end Go.Proofs.Ytiidepafifodjab
