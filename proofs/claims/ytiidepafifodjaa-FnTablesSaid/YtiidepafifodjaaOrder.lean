import Derived.Test.YtiidepafifodjaaCmp
import Derived.Test.YtiidepafifodjaaStrings
import Derived.Test.YtiidepafifodjaaCases
/-! impl.order and what it calls. -/
namespace Go.Proofs.Ytiidepafifodjaa
open Go.RowKit
attribute [local go_sem] ta_nil_absent ta_absent_absent ta_flag_absent ta_whole_absent ta_float_absent ta_word_absent ta_builtin_absent ta_made_absent ta_nil_flag ta_absent_flag ta_flag_flag ta_whole_flag ta_float_flag ta_word_flag ta_builtin_flag ta_made_flag ta_nil_whole ta_absent_whole ta_flag_whole ta_whole_whole ta_float_whole ta_word_whole ta_builtin_whole ta_made_whole ta_nil_float ta_absent_float ta_flag_float ta_whole_float ta_float_float ta_word_float ta_builtin_float ta_made_float ta_nil_word ta_absent_word ta_flag_word ta_whole_word ta_float_word ta_word_word ta_builtin_word ta_made_word

def nanB (f : Nat) : Bool := FloatKind.f64.format.order f f != some .eq
theorem nanB_false {f : Nat} (h : nanB f = false) : FloatKind.f64.format.order f f = some .eq := by simpa [nanB] using h
theorem nanB_true {f : Nat} (hf : f < 2 ^ 64) (h : nanB f = true) : FloatKind.f64.format.order f f = none := by
  rcases order_self hf with h' | h'
  · simp [nanB, h'] at h
  · exact h'

def mixG (n : Int) (f : Nat) : Int := if nanB f then 2 else cmpIF n f
def mixR (n : Int) (f : Nat) : Int := if nanB f then 2 else -(cmpIF n f)
def fltG (f g : Nat) : Int := if nanB f || nanB g then 2 else cmpF f g

theorem mix_calls (n : Int) (f : Nat) (hf : f < 2 ^ 64) (w : World) : Calls Try.prog 141 #[.int .i64 n, .float .f64 f] w fun e w' => e = .returned (.int .i64 (mixG n f)) ∧ w' = w := by
  cases h : nanB f
  · rw [show mixG n f = cmpIF n f by simp [mixG, h]]; exact orderMixed_calls n f hf (nanB_false h) w
  · rw [show mixG n f = 2 by simp [mixG, h]]; exact orderMixed_nan n f (nanB_true hf h) w

set_option maxRecDepth 100000 in
set_option maxHeartbeats 2000000 in
theorem flts_calls (f g : Nat) (hf : f < 2 ^ 64) (hg : g < 2 ^ 64) (w : World) : Calls Try.prog 143 #[.float .f64 f, .float .f64 g] w fun e w' => e = .returned (.int .i64 (fltG f g)) ∧ w' = w := by
  cases h : nanB f
  · have h' := nanB_false h
    cases k : nanB g
    · have k' := nanB_false k
      rw [show fltG f g = cmpF f g by simp [fltG, h, k]]
      have hC : Hid (∀ w, Calls Try.prog 166 #[.float .f64 f, .float .f64 g] w fun e w' => e = .returned (.int .i64 (cmpF f g)) ∧ w' = w) := fun w => cmpFloat_calls f g h' k' w
      clear h k hf hg
      go_enter Try.func143, Try.ntmps143
      go_wp2_with (first | (go_at_call 164; refine (isNaN_calls _ _).mono ?_; rintro e w2 ⟨rfl, rfl⟩) | (go_at_call 166; refine (hC.out _).mono ?_; rintro e w2 ⟨rfl, rfl⟩))
      go_ret; exact ⟨rfl, rfl⟩
    · have k' := nanB_true hg k
      rw [show fltG f g = 2 by simp [fltG, k]]
      clear h k hf hg
      go_enter Try.func143, Try.ntmps143
      go_wp2_with (go_at_call 164; refine (isNaN_calls _ _).mono ?_; rintro e w2 ⟨rfl, rfl⟩)
      go_ret; exact ⟨rfl, rfl⟩
  · have h' := nanB_true hf h
    rw [show fltG f g = 2 by simp [fltG, h]]
    clear h hf hg
    go_enter Try.func143, Try.ntmps143
    go_wp2_with (go_at_call 164; refine (isNaN_calls _ _).mono ?_; rintro e w2 ⟨rfl, rfl⟩)
    go_ret; exact ⟨rfl, rfl⟩

set_option maxRecDepth 100000 in
set_option maxHeartbeats 2000000 in
theorem turned_calls (c : Int) (h : c = -1 ∨ c = 0 ∨ c = 1 ∨ c = 2) (w : World) : Calls Try.prog 142 #[.int .i64 c] w fun e w' => e = .returned (.int .i64 (if c = 2 then 2 else -c)) ∧ w' = w := by
  rcases h with rfl | rfl | rfl | rfl
  all_goals
    go_enter Try.func142, Try.ntmps142
    go_wp2
    go_ret; exact ⟨rfl, rfl⟩

set_option maxRecDepth 100000 in
set_option maxHeartbeats 2000000 in
theorem orderWhole_nilI (n : Int)  (w : World) : Calls Try.prog 114 #[.int .i64 n, .nilIface] w fun e w' => e = .returned (.int .i64 3) ∧ w' = w := by
  go_enter Try.func114, Try.ntmps114; go_wp2
  go_ret; exact ⟨rfl, rfl⟩
set_option maxRecDepth 100000 in
set_option maxHeartbeats 2000000 in
theorem orderWhole_absent (n : Int)  (w : World) : Calls Try.prog 114 #[.int .i64 n, .iface 147 (.agg #[])] w fun e w' => e = .returned (.int .i64 3) ∧ w' = w := by
  go_enter Try.func114, Try.ntmps114; go_wp2
  go_ret; exact ⟨rfl, rfl⟩
set_option maxRecDepth 100000 in
set_option maxHeartbeats 2000000 in
theorem orderWhole_flag (n : Int) (b : Bool) (w : World) : Calls Try.prog 114 #[.int .i64 n, .iface 106 (.bool b)] w fun e w' => e = .returned (.int .i64 3) ∧ w' = w := by
  go_enter Try.func114, Try.ntmps114; go_wp2
  go_ret; exact ⟨rfl, rfl⟩
set_option maxRecDepth 100000 in
set_option maxHeartbeats 2000000 in
theorem orderWhole_word (n : Int) (s : ByteArray) (w : World) : Calls Try.prog 114 #[.int .i64 n, .iface 150 (.string s)] w fun e w' => e = .returned (.int .i64 3) ∧ w' = w := by
  go_enter Try.func114, Try.ntmps114; go_wp2
  go_ret; exact ⟨rfl, rfl⟩
set_option maxRecDepth 100000 in
set_option maxHeartbeats 2000000 in
theorem orderWhole_builtin (n : Int) (m : Int) (w : World) : Calls Try.prog 114 #[.int .i64 n, .iface 153 (.int .i64 m)] w fun e w' => e = .returned (.int .i64 3) ∧ w' = w := by
  go_enter Try.func114, Try.ntmps114; go_wp2
  go_ret; exact ⟨rfl, rfl⟩
set_option maxRecDepth 100000 in
set_option maxHeartbeats 2000000 in
theorem orderWhole_made (n : Int) (k r : Int) (w : World) : Calls Try.prog 114 #[.int .i64 n, .iface 152 (.agg #[.int .i64 k, .int .i64 r])] w fun e w' => e = .returned (.int .i64 3) ∧ w' = w := by
  go_enter Try.func114, Try.ntmps114; go_wp2
  go_ret; exact ⟨rfl, rfl⟩
set_option maxRecDepth 100000 in
set_option maxHeartbeats 2000000 in
theorem orderFloat_nilI (f : Nat)  (w : World) : Calls Try.prog 115 #[.float .f64 f, .nilIface] w fun e w' => e = .returned (.int .i64 3) ∧ w' = w := by
  go_enter Try.func115, Try.ntmps115; go_wp2
  go_ret; exact ⟨rfl, rfl⟩
set_option maxRecDepth 100000 in
set_option maxHeartbeats 2000000 in
theorem orderFloat_absent (f : Nat)  (w : World) : Calls Try.prog 115 #[.float .f64 f, .iface 147 (.agg #[])] w fun e w' => e = .returned (.int .i64 3) ∧ w' = w := by
  go_enter Try.func115, Try.ntmps115; go_wp2
  go_ret; exact ⟨rfl, rfl⟩
set_option maxRecDepth 100000 in
set_option maxHeartbeats 2000000 in
theorem orderFloat_flag (f : Nat) (b : Bool) (w : World) : Calls Try.prog 115 #[.float .f64 f, .iface 106 (.bool b)] w fun e w' => e = .returned (.int .i64 3) ∧ w' = w := by
  go_enter Try.func115, Try.ntmps115; go_wp2
  go_ret; exact ⟨rfl, rfl⟩
set_option maxRecDepth 100000 in
set_option maxHeartbeats 2000000 in
theorem orderFloat_word (f : Nat) (s : ByteArray) (w : World) : Calls Try.prog 115 #[.float .f64 f, .iface 150 (.string s)] w fun e w' => e = .returned (.int .i64 3) ∧ w' = w := by
  go_enter Try.func115, Try.ntmps115; go_wp2
  go_ret; exact ⟨rfl, rfl⟩
set_option maxRecDepth 100000 in
set_option maxHeartbeats 2000000 in
theorem orderFloat_builtin (f : Nat) (m : Int) (w : World) : Calls Try.prog 115 #[.float .f64 f, .iface 153 (.int .i64 m)] w fun e w' => e = .returned (.int .i64 3) ∧ w' = w := by
  go_enter Try.func115, Try.ntmps115; go_wp2
  go_ret; exact ⟨rfl, rfl⟩
set_option maxRecDepth 100000 in
set_option maxHeartbeats 2000000 in
theorem orderFloat_made (f : Nat) (k r : Int) (w : World) : Calls Try.prog 115 #[.float .f64 f, .iface 152 (.agg #[.int .i64 k, .int .i64 r])] w fun e w' => e = .returned (.int .i64 3) ∧ w' = w := by
  go_enter Try.func115, Try.ntmps115; go_wp2
  go_ret; exact ⟨rfl, rfl⟩
set_option maxRecDepth 100000 in
set_option maxHeartbeats 2000000 in
theorem orderWhole_whole (n m : Int) (w : World) : Calls Try.prog 114 #[.int .i64 n, .iface 148 (.int .i64 m)] w fun e w' => e = .returned (.int .i64 (cmpI n m)) ∧ w' = w := by
  go_enter Try.func114, Try.ntmps114
  go_wp2_with (go_at_call 140; refine (cmpWhole_calls _ _ _).mono ?_; rintro e w2 ⟨rfl, rfl⟩)
  go_ret; exact ⟨rfl, rfl⟩
set_option maxRecDepth 100000 in
set_option maxHeartbeats 2000000 in
theorem orderWhole_float (n : Int) (f : Nat) (hf : f < 2 ^ 64) (w : World) : Calls Try.prog 114 #[.int .i64 n, .iface 149 (.float .f64 f)] w fun e w' => e = .returned (.int .i64 (mixG n f)) ∧ w' = w := by
  have HF : Hid (f < 2 ^ 64) := hf
  clear hf
  go_enter Try.func114, Try.ntmps114
  go_wp2_with (go_at_call 141; refine (mix_calls _ _ HF.out _).mono ?_; rintro e w2 ⟨rfl, rfl⟩)
  go_ret; exact ⟨rfl, rfl⟩
set_option maxRecDepth 100000 in
set_option maxHeartbeats 2000000 in
theorem orderFloat_whole (f : Nat) (m : Int) (hf : f < 2 ^ 64) (w : World) : Calls Try.prog 115 #[.float .f64 f, .iface 148 (.int .i64 m)] w fun e w' => e = .returned (.int .i64 (mixR m f)) ∧ w' = w := by
  have HF : Hid (f < 2 ^ 64) := hf
  have hr : mixG m f = -1 ∨ mixG m f = 0 ∨ mixG m f = 1 ∨ mixG m f = 2 := by
    unfold mixG
    split
    · simp
    · rcases cmpIF_rng m f with h | h | h <;> rw [h] <;> simp
  have he : (if mixG m f = 2 then 2 else -(mixG m f)) = mixR m f := by
    unfold mixR mixG
    cases nanB f
    · simp
      intro h
      rcases cmpIF_rng m f with h' | h' | h' <;> omega
    · simp
  have hT : Hid (∀ w, Calls Try.prog 142 #[.int .i64 (mixG m f)] w fun e w' => e = .returned (.int .i64 (mixR m f)) ∧ w' = w) := by
    intro w; rw [← he]; exact turned_calls _ hr w
  clear hf hr he
  go_enter Try.func115, Try.ntmps115
  go_wp2_with (first | (go_at_call 141; refine (mix_calls _ _ HF.out _).mono ?_; rintro e w2 ⟨rfl, rfl⟩) | (go_at_call 142; refine (hT.out _).mono ?_; rintro e w2 ⟨rfl, rfl⟩))
  go_ret; exact ⟨rfl, rfl⟩
set_option maxRecDepth 100000 in
set_option maxHeartbeats 2000000 in
theorem orderFloat_float (f g : Nat) (hf : f < 2 ^ 64) (hg : g < 2 ^ 64) (w : World) : Calls Try.prog 115 #[.float .f64 f, .iface 149 (.float .f64 g)] w fun e w' => e = .returned (.int .i64 (fltG f g)) ∧ w' = w := by
  have HF : Hid (f < 2 ^ 64) := hf
  have HG : Hid (g < 2 ^ 64) := hg
  clear hf hg
  go_enter Try.func115, Try.ntmps115
  go_wp2_with (go_at_call 143; refine (flts_calls _ _ HF.out HG.out _).mono ?_; rintro e w2 ⟨rfl, rfl⟩)
  go_ret; exact ⟨rfl, rfl⟩

set_option maxRecDepth 100000 in
set_option maxHeartbeats 2000000 in
theorem order_nilI  (y : Value) (w : World) : Calls Try.prog 68 #[.nilIface, y] w fun e w' => e = .returned (.int .i64 3) ∧ w' = w := by
  go_enter Try.func68, Try.ntmps68; go_wp2
  go_ret; exact ⟨rfl, rfl⟩
set_option maxRecDepth 100000 in
set_option maxHeartbeats 2000000 in
theorem order_absent  (y : Value) (w : World) : Calls Try.prog 68 #[.iface 147 (.agg #[]), y] w fun e w' => e = .returned (.int .i64 3) ∧ w' = w := by
  go_enter Try.func68, Try.ntmps68; go_wp2
  go_ret; exact ⟨rfl, rfl⟩
set_option maxRecDepth 100000 in
set_option maxHeartbeats 2000000 in
theorem order_flag (b : Bool) (y : Value) (w : World) : Calls Try.prog 68 #[.iface 106 (.bool b), y] w fun e w' => e = .returned (.int .i64 3) ∧ w' = w := by
  go_enter Try.func68, Try.ntmps68; go_wp2
  go_ret; exact ⟨rfl, rfl⟩
set_option maxRecDepth 100000 in
set_option maxHeartbeats 2000000 in
theorem order_builtin (m : Int) (y : Value) (w : World) : Calls Try.prog 68 #[.iface 153 (.int .i64 m), y] w fun e w' => e = .returned (.int .i64 3) ∧ w' = w := by
  go_enter Try.func68, Try.ntmps68; go_wp2
  go_ret; exact ⟨rfl, rfl⟩
set_option maxRecDepth 100000 in
set_option maxHeartbeats 2000000 in
theorem order_made (k r : Int) (y : Value) (w : World) : Calls Try.prog 68 #[.iface 152 (.agg #[.int .i64 k, .int .i64 r]), y] w fun e w' => e = .returned (.int .i64 3) ∧ w' = w := by
  go_enter Try.func68, Try.ntmps68; go_wp2
  go_ret; exact ⟨rfl, rfl⟩
set_option maxRecDepth 100000 in
set_option maxHeartbeats 2000000 in
theorem order_whole (n : Int) (y : Value) (c : Int) (h : ∀ w, Calls Try.prog 114 #[.int .i64 n, y] w fun e w' => e = .returned (.int .i64 c) ∧ w' = w) (w : World) : Calls Try.prog 68 #[.iface 148 (.int .i64 n), y] w fun e w' => e = .returned (.int .i64 c) ∧ w' = w := by
  have H : Hid (∀ w, Calls Try.prog 114 #[.int .i64 n, y] w fun e w' => e = .returned (.int .i64 c) ∧ w' = w) := h
  clear h
  go_enter Try.func68, Try.ntmps68
  go_wp2_with (go_at_call 114; refine (H.out _).mono ?_; rintro e w2 ⟨rfl, rfl⟩)
  go_ret; exact ⟨rfl, rfl⟩
set_option maxRecDepth 100000 in
set_option maxHeartbeats 2000000 in
theorem order_float (n : Nat) (y : Value) (c : Int) (h : ∀ w, Calls Try.prog 115 #[.float .f64 n, y] w fun e w' => e = .returned (.int .i64 c) ∧ w' = w) (w : World) : Calls Try.prog 68 #[.iface 149 (.float .f64 n), y] w fun e w' => e = .returned (.int .i64 c) ∧ w' = w := by
  have H : Hid (∀ w, Calls Try.prog 115 #[.float .f64 n, y] w fun e w' => e = .returned (.int .i64 c) ∧ w' = w) := h
  clear h
  go_enter Try.func68, Try.ntmps68
  go_wp2_with (go_at_call 115; refine (H.out _).mono ?_; rintro e w2 ⟨rfl, rfl⟩)
  go_ret; exact ⟨rfl, rfl⟩
set_option maxRecDepth 100000 in
set_option maxHeartbeats 2000000 in
theorem order_word_nilI (a : ByteArray)  (w : World) : Calls Try.prog 68 #[.iface 150 (.string a), .nilIface] w fun e w' => e = .returned (.int .i64 3) ∧ w' = w := by
  go_enter Try.func68, Try.ntmps68; go_wp2
  go_ret; exact ⟨rfl, rfl⟩
set_option maxRecDepth 100000 in
set_option maxHeartbeats 2000000 in
theorem order_word_absent (a : ByteArray)  (w : World) : Calls Try.prog 68 #[.iface 150 (.string a), .iface 147 (.agg #[])] w fun e w' => e = .returned (.int .i64 3) ∧ w' = w := by
  go_enter Try.func68, Try.ntmps68; go_wp2
  go_ret; exact ⟨rfl, rfl⟩
set_option maxRecDepth 100000 in
set_option maxHeartbeats 2000000 in
theorem order_word_flag (a : ByteArray) (b : Bool) (w : World) : Calls Try.prog 68 #[.iface 150 (.string a), .iface 106 (.bool b)] w fun e w' => e = .returned (.int .i64 3) ∧ w' = w := by
  go_enter Try.func68, Try.ntmps68; go_wp2
  go_ret; exact ⟨rfl, rfl⟩
set_option maxRecDepth 100000 in
set_option maxHeartbeats 2000000 in
theorem order_word_builtin (a : ByteArray) (m : Int) (w : World) : Calls Try.prog 68 #[.iface 150 (.string a), .iface 153 (.int .i64 m)] w fun e w' => e = .returned (.int .i64 3) ∧ w' = w := by
  go_enter Try.func68, Try.ntmps68; go_wp2
  go_ret; exact ⟨rfl, rfl⟩
set_option maxRecDepth 100000 in
set_option maxHeartbeats 2000000 in
theorem order_word_made (a : ByteArray) (k r : Int) (w : World) : Calls Try.prog 68 #[.iface 150 (.string a), .iface 152 (.agg #[.int .i64 k, .int .i64 r])] w fun e w' => e = .returned (.int .i64 3) ∧ w' = w := by
  go_enter Try.func68, Try.ntmps68; go_wp2
  go_ret; exact ⟨rfl, rfl⟩
set_option maxRecDepth 100000 in
set_option maxHeartbeats 2000000 in
theorem order_word_whole (a : ByteArray) (m : Int) (w : World) : Calls Try.prog 68 #[.iface 150 (.string a), .iface 148 (.int .i64 m)] w fun e w' => e = .returned (.int .i64 3) ∧ w' = w := by
  go_enter Try.func68, Try.ntmps68; go_wp2
  go_ret; exact ⟨rfl, rfl⟩
set_option maxRecDepth 100000 in
set_option maxHeartbeats 2000000 in
theorem order_word_float (a : ByteArray) (f : Nat) (w : World) : Calls Try.prog 68 #[.iface 150 (.string a), .iface 149 (.float .f64 f)] w fun e w' => e = .returned (.int .i64 3) ∧ w' = w := by
  go_enter Try.func68, Try.ntmps68; go_wp2
  go_ret; exact ⟨rfl, rfl⟩
set_option maxRecDepth 100000 in
set_option maxHeartbeats 2000000 in
theorem order_word_word (a b : ByteArray) (w : World) : Calls Try.prog 68 #[.iface 150 (.string a), .iface 150 (.string b)] w fun e w' => e = .returned (.int .i64 (cbs a b)) ∧ w' = w := by
  go_enter Try.func68, Try.ntmps68
  go_wp2_with (go_at_call 116; refine (strCompare_calls _ _ _).mono ?_; rintro e w2 ⟨rfl, rfl⟩)
  go_ret; exact ⟨rfl, rfl⟩

end Go.Proofs.Ytiidepafifodjaa
