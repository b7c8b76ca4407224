import Derived.Test.YtiidepafifodjabGreatPlain
import Derived.Test.YtiidepafifodjabGreatAsserts
/-! impl.failed and impl.gives. -/
namespace Go.Proofs.YtiidepafifodjabGreat
open Go.RowKit
attribute [local go_sem] run_store_float

abbrev gV (c k n : Int) (f : Nat) (s : ByteArray) (r : Int) : Value := .agg #[.int .i64 c, .int .i64 k, .int .i64 n, .float .f64 f, .string s, .int .i64 r]

set_option maxRecDepth 100000 in
set_option maxHeartbeats 1000000 in
theorem failed_calls (c : Int) (w : World) :
    Calls Tryz.prog 57 #[.int .i64 c] w fun e w' => e = .returned (gV c 0 0 0 ⟨#[]⟩ 0) ∧ Below w.heap.size w w' := by
  go_enter Tryz.func57, Tryz.ntmps57; go_wp2
  exact bodyPost_ret (v := gV c 0 0 0 ⟨#[]⟩ 0) (by simp [results, Tryz.results57, go_sem]) rfl ⟨rfl, below_alloc _ _⟩

theorem meth_flag (b : Bool) (w : World) : (method 375 90 (.bool b) "loop.example/meaning/impl.value").run Tryz.prog w = .ok (265, .bool b) w := by kernel_rfl
set_option maxRecDepth 100000 in
set_option maxHeartbeats 1000000 in
theorem value_flagT  (w : World) :
    Calls Tryz.prog 265 #[.bool true] w fun e w' => e = .returned (vOf 1 1 0 ⟨#[]⟩ 0) ∧ Below w.heap.size w w' := by
  go_enter Tryz.func265, Tryz.ntmps265; go_wp2
  exact bodyPost_ret (v := vOf 1 1 0 ⟨#[]⟩ 0) (by simp [results, Tryz.results265, go_sem]) rfl ⟨rfl, below_alloc _ _⟩
set_option maxRecDepth 100000 in
set_option maxHeartbeats 1000000 in
theorem gives_flagT  (w : World) :
    Calls Tryz.prog 61 #[.iface 90 (.bool true)] w fun e w' => e = .returned (gV 0 1 1 0 ⟨#[]⟩ 0) ∧ Below w.heap.size w w' := by
  have hm := fun w => meth_flag true w
  go_enter Tryz.func61, Tryz.ntmps61
  go_wp2_with (go_at_call 265; refine (value_flagT  _).mono ?_; rintro e w1 ⟨rfl, hb1⟩; obtain ⟨hc1, hf1⟩ := bcell hb1)
  exact bodyPost_ret (v := gV 0 1 1 0 ⟨#[]⟩ 0) (by simp [results, Tryz.results61, go_sem, hc1]) rfl ⟨rfl, ((((((below_call (below_alloc _ _) hb1).setCell (Nat.le_refl _) _).setCell (Nat.le_refl _) _).setCell (Nat.le_refl _) _).setCell (Nat.le_refl _) _).setCell (Nat.le_refl _) _).setCell (Nat.le_refl _) _⟩

set_option maxRecDepth 100000 in
set_option maxHeartbeats 1000000 in
theorem value_flagF  (w : World) :
    Calls Tryz.prog 265 #[.bool false] w fun e w' => e = .returned (vOf 1 0 0 ⟨#[]⟩ 0) ∧ Below w.heap.size w w' := by
  go_enter Tryz.func265, Tryz.ntmps265; go_wp2
  exact bodyPost_ret (v := vOf 1 0 0 ⟨#[]⟩ 0) (by simp [results, Tryz.results265, go_sem]) rfl ⟨rfl, below_alloc _ _⟩
set_option maxRecDepth 100000 in
set_option maxHeartbeats 1000000 in
theorem gives_flagF  (w : World) :
    Calls Tryz.prog 61 #[.iface 90 (.bool false)] w fun e w' => e = .returned (gV 0 1 0 0 ⟨#[]⟩ 0) ∧ Below w.heap.size w w' := by
  have hm := fun w => meth_flag false w
  go_enter Tryz.func61, Tryz.ntmps61
  go_wp2_with (go_at_call 265; refine (value_flagF  _).mono ?_; rintro e w1 ⟨rfl, hb1⟩; obtain ⟨hc1, hf1⟩ := bcell hb1)
  exact bodyPost_ret (v := gV 0 1 0 0 ⟨#[]⟩ 0) (by simp [results, Tryz.results61, go_sem, hc1]) rfl ⟨rfl, ((((((below_call (below_alloc _ _) hb1).setCell (Nat.le_refl _) _).setCell (Nat.le_refl _) _).setCell (Nat.le_refl _) _).setCell (Nat.le_refl _) _).setCell (Nat.le_refl _) _).setCell (Nat.le_refl _) _⟩

theorem meth_whole (n : Int) (w : World) : (method 375 140 (.int .i64 n) "loop.example/meaning/impl.value").run Tryz.prog w = .ok (271, .int .i64 n) w := by kernel_rfl
set_option maxRecDepth 100000 in
set_option maxHeartbeats 1000000 in
theorem value_whole (n : Int) (w : World) :
    Calls Tryz.prog 271 #[.int .i64 n] w fun e w' => e = .returned (vOf 2 n 0 ⟨#[]⟩ 0) ∧ Below w.heap.size w w' := by
  go_enter Tryz.func271, Tryz.ntmps271; go_wp2
  exact bodyPost_ret (v := vOf 2 n 0 ⟨#[]⟩ 0) (by simp [results, Tryz.results271, go_sem]) rfl ⟨rfl, below_alloc _ _⟩
set_option maxRecDepth 100000 in
set_option maxHeartbeats 1000000 in
theorem gives_whole (n : Int) (w : World) :
    Calls Tryz.prog 61 #[.iface 140 (.int .i64 n)] w fun e w' => e = .returned (gV 0 2 n 0 ⟨#[]⟩ 0) ∧ Below w.heap.size w w' := by
  have hm := fun w => meth_whole n w
  go_enter Tryz.func61, Tryz.ntmps61
  go_wp2_with (go_at_call 271; refine (value_whole n _).mono ?_; rintro e w1 ⟨rfl, hb1⟩; obtain ⟨hc1, hf1⟩ := bcell hb1)
  exact bodyPost_ret (v := gV 0 2 n 0 ⟨#[]⟩ 0) (by simp [results, Tryz.results61, go_sem, hc1]) rfl ⟨rfl, ((((((below_call (below_alloc _ _) hb1).setCell (Nat.le_refl _) _).setCell (Nat.le_refl _) _).setCell (Nat.le_refl _) _).setCell (Nat.le_refl _) _).setCell (Nat.le_refl _) _).setCell (Nat.le_refl _) _⟩

theorem meth_float (f : Nat) (w : World) : (method 375 141 (.float .f64 f) "loop.example/meaning/impl.value").run Tryz.prog w = .ok (285, .float .f64 f) w := by kernel_rfl
set_option maxRecDepth 100000 in
set_option maxHeartbeats 1000000 in
theorem value_float (f : Nat) (w : World) :
    Calls Tryz.prog 285 #[.float .f64 f] w fun e w' => e = .returned (vOf 3 0 f ⟨#[]⟩ 0) ∧ Below w.heap.size w w' := by
  go_enter Tryz.func285, Tryz.ntmps285; go_wp2
  exact bodyPost_ret (v := vOf 3 0 f ⟨#[]⟩ 0) (by simp [results, Tryz.results285, go_sem]) rfl ⟨rfl, below_alloc _ _⟩
set_option maxRecDepth 100000 in
set_option maxHeartbeats 1000000 in
theorem gives_float (f : Nat) (w : World) :
    Calls Tryz.prog 61 #[.iface 141 (.float .f64 f)] w fun e w' => e = .returned (gV 0 3 0 f ⟨#[]⟩ 0) ∧ Below w.heap.size w w' := by
  have hm := fun w => meth_float f w
  go_enter Tryz.func61, Tryz.ntmps61
  go_wp2_with (go_at_call 285; refine (value_float f _).mono ?_; rintro e w1 ⟨rfl, hb1⟩; obtain ⟨hc1, hf1⟩ := bcell hb1)
  exact bodyPost_ret (v := gV 0 3 0 f ⟨#[]⟩ 0) (by simp [results, Tryz.results61, go_sem, hc1]) rfl ⟨rfl, ((((((below_call (below_alloc _ _) hb1).setCell (Nat.le_refl _) _).setCell (Nat.le_refl _) _).setCell (Nat.le_refl _) _).setCell (Nat.le_refl _) _).setCell (Nat.le_refl _) _).setCell (Nat.le_refl _) _⟩

theorem meth_word (s : ByteArray) (w : World) : (method 375 142 (.string s) "loop.example/meaning/impl.value").run Tryz.prog w = .ok (295, .string s) w := by kernel_rfl
set_option maxRecDepth 100000 in
set_option maxHeartbeats 1000000 in
theorem value_word (s : ByteArray) (w : World) :
    Calls Tryz.prog 295 #[.string s] w fun e w' => e = .returned (vOf 4 0 0 s 0) ∧ Below w.heap.size w w' := by
  go_enter Tryz.func295, Tryz.ntmps295; go_wp2
  exact bodyPost_ret (v := vOf 4 0 0 s 0) (by simp [results, Tryz.results295, go_sem]) rfl ⟨rfl, below_alloc _ _⟩
set_option maxRecDepth 100000 in
set_option maxHeartbeats 1000000 in
theorem gives_word (s : ByteArray) (w : World) :
    Calls Tryz.prog 61 #[.iface 142 (.string s)] w fun e w' => e = .returned (gV 0 4 0 0 s 0) ∧ Below w.heap.size w w' := by
  have hm := fun w => meth_word s w
  go_enter Tryz.func61, Tryz.ntmps61
  go_wp2_with (go_at_call 295; refine (value_word s _).mono ?_; rintro e w1 ⟨rfl, hb1⟩; obtain ⟨hc1, hf1⟩ := bcell hb1)
  exact bodyPost_ret (v := gV 0 4 0 0 s 0) (by simp [results, Tryz.results61, go_sem, hc1]) rfl ⟨rfl, ((((((below_call (below_alloc _ _) hb1).setCell (Nat.le_refl _) _).setCell (Nat.le_refl _) _).setCell (Nat.le_refl _) _).setCell (Nat.le_refl _) _).setCell (Nat.le_refl _) _).setCell (Nat.le_refl _) _⟩

end Go.Proofs.YtiidepafifodjabGreat
