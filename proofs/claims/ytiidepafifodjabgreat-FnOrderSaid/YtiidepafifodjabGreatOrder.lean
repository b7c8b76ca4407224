import Derived.Test.YtiidepafifodjabGreatCmp
import Derived.Test.YtiidepafifodjabGreatStrings
import Derived.Test.YtiidepafifodjabGreatCases
/-! impl.order and what it calls. -/
namespace Go.Proofs.YtiidepafifodjabGreat
open Go.RowKit
attribute [local go_sem] ta_nil_absent ta_absent_absent ta_flag_absent ta_whole_absent ta_float_absent ta_word_absent ta_builtin_absent ta_made_absent ta_nil_flag ta_absent_flag ta_flag_flag ta_whole_flag ta_float_flag ta_word_flag ta_builtin_flag ta_made_flag ta_nil_whole ta_absent_whole ta_flag_whole ta_whole_whole ta_float_whole ta_word_whole ta_builtin_whole ta_made_whole ta_nil_float ta_absent_float ta_flag_float ta_whole_float ta_float_float ta_word_float ta_builtin_float ta_made_float ta_nil_word ta_absent_word ta_flag_word ta_whole_word ta_float_word ta_word_word ta_builtin_word ta_made_word

def nanB (f : Nat) : Bool := FloatKind.f64.format.order f f != some .eq
theorem nanB_false {f : Nat} (h : nanB f = false) : FloatKind.f64.format.order f f = some .eq := by simpa [nanB] using h
theorem nanB_true {f : Nat} (hf : f < 2 ^ 64) (h : nanB f = true) : FloatKind.f64.format.order f f = none := by
  rcases order_self hf with h' | h'
  · simp [nanB, h'] at h
  · exact h'

def mixG (n : Int) (f : Nat) : Int := if nanB f then 2 else cmpIF n f
def mixR (n : Int) (f : Nat) : Int := if nanB f then 2 else -(cmpIF n f)
def fltG (f g : Nat) : Int := if nanB f || nanB g then 2 else cmpF f g

theorem mix_calls (n : Int) (f : Nat) (hf : f < 2 ^ 64) (w : World) : Calls Tryz.prog 192 #[.int .i64 n, .float .f64 f] w fun e w' => e = .returned (.int .i64 (mixG n f)) ∧ w' = w := by
  cases h : nanB f
  · rw [show mixG n f = cmpIF n f by simp [mixG, h]]; exact orderMixed_calls n f hf (nanB_false h) w
  · rw [show mixG n f = 2 by simp [mixG, h]]; exact orderMixed_nan n f (nanB_true hf h) w

set_option maxRecDepth 100000 in
set_option maxHeartbeats 2000000 in
theorem flts_calls (f g : Nat) (hf : f < 2 ^ 64) (hg : g < 2 ^ 64) (w : World) : Calls Tryz.prog 194 #[.float .f64 f, .float .f64 g] w fun e w' => e = .returned (.int .i64 (fltG f g)) ∧ w' = w := by
  cases h : nanB f
  · have h' := nanB_false h
    cases k : nanB g
    · have k' := nanB_false k
      rw [show fltG f g = cmpF f g by simp [fltG, h, k]]
      have hC : Hid (∀ w, Calls Tryz.prog 230 #[.float .f64 f, .float .f64 g] w fun e w' => e = .returned (.int .i64 (cmpF f g)) ∧ w' = w) := fun w => cmpFloat_calls f g h' k' w
      clear h k hf hg
      go_enter Tryz.func194, Tryz.ntmps194
      go_wp2_with (first | (go_at_call 198; refine (isNaN_calls _ _).mono ?_; rintro e w2 ⟨rfl, rfl⟩) | (go_at_call 230; refine (hC.out _).mono ?_; rintro e w2 ⟨rfl, rfl⟩))
      go_ret; exact ⟨rfl, rfl⟩
    · have k' := nanB_true hg k
      rw [show fltG f g = 2 by simp [fltG, k]]
      clear h k hf hg
      go_enter Tryz.func194, Tryz.ntmps194
      go_wp2_with (go_at_call 198; refine (isNaN_calls _ _).mono ?_; rintro e w2 ⟨rfl, rfl⟩)
      go_ret; exact ⟨rfl, rfl⟩
  · have h' := nanB_true hf h
    rw [show fltG f g = 2 by simp [fltG, h]]
    clear h hf hg
    go_enter Tryz.func194, Tryz.ntmps194
    go_wp2_with (go_at_call 198; refine (isNaN_calls _ _).mono ?_; rintro e w2 ⟨rfl, rfl⟩)
    go_ret; exact ⟨rfl, rfl⟩

set_option maxRecDepth 100000 in
set_option maxHeartbeats 2000000 in
theorem turned_calls (c : Int) (h : c = -1 ∨ c = 0 ∨ c = 1 ∨ c = 2) (w : World) : Calls Tryz.prog 193 #[.int .i64 c] w fun e w' => e = .returned (.int .i64 (if c = 2 then 2 else -c)) ∧ w' = w := by
  rcases h with rfl | rfl | rfl | rfl
  all_goals
    go_enter Tryz.func193, Tryz.ntmps193
    go_wp2
    go_ret; exact ⟨rfl, rfl⟩

set_option maxRecDepth 100000 in
set_option maxHeartbeats 2000000 in
theorem orderWhole_nilI (n : Int)  (w : World) : Calls Tryz.prog 105 #[.int .i64 n, .nilIface] w fun e w' => e = .returned (.int .i64 3) ∧ w' = w := by
  go_enter Tryz.func105, Tryz.ntmps105; go_wp2
  go_ret; exact ⟨rfl, rfl⟩
set_option maxRecDepth 100000 in
set_option maxHeartbeats 2000000 in
theorem orderWhole_absent (n : Int)  (w : World) : Calls Tryz.prog 105 #[.int .i64 n, .iface 139 (.agg #[])] w fun e w' => e = .returned (.int .i64 3) ∧ w' = w := by
  go_enter Tryz.func105, Tryz.ntmps105; go_wp2
  go_ret; exact ⟨rfl, rfl⟩
set_option maxRecDepth 100000 in
set_option maxHeartbeats 2000000 in
theorem orderWhole_flag (n : Int) (b : Bool) (w : World) : Calls Tryz.prog 105 #[.int .i64 n, .iface 90 (.bool b)] w fun e w' => e = .returned (.int .i64 3) ∧ w' = w := by
  go_enter Tryz.func105, Tryz.ntmps105; go_wp2
  go_ret; exact ⟨rfl, rfl⟩
set_option maxRecDepth 100000 in
set_option maxHeartbeats 2000000 in
theorem orderWhole_word (n : Int) (s : ByteArray) (w : World) : Calls Tryz.prog 105 #[.int .i64 n, .iface 142 (.string s)] w fun e w' => e = .returned (.int .i64 3) ∧ w' = w := by
  go_enter Tryz.func105, Tryz.ntmps105; go_wp2
  go_ret; exact ⟨rfl, rfl⟩
set_option maxRecDepth 100000 in
set_option maxHeartbeats 2000000 in
theorem orderWhole_builtin (n : Int) (m : Int) (w : World) : Calls Tryz.prog 105 #[.int .i64 n, .iface 145 (.int .i64 m)] w fun e w' => e = .returned (.int .i64 3) ∧ w' = w := by
  go_enter Tryz.func105, Tryz.ntmps105; go_wp2
  go_ret; exact ⟨rfl, rfl⟩
set_option maxRecDepth 100000 in
set_option maxHeartbeats 2000000 in
theorem orderWhole_made (n : Int) (k r : Int) (w : World) : Calls Tryz.prog 105 #[.int .i64 n, .iface 144 (.agg #[.int .i64 k, .int .i64 r])] w fun e w' => e = .returned (.int .i64 3) ∧ w' = w := by
  go_enter Tryz.func105, Tryz.ntmps105; go_wp2
  go_ret; exact ⟨rfl, rfl⟩
set_option maxRecDepth 100000 in
set_option maxHeartbeats 2000000 in
theorem orderFloat_nilI (f : Nat)  (w : World) : Calls Tryz.prog 106 #[.float .f64 f, .nilIface] w fun e w' => e = .returned (.int .i64 3) ∧ w' = w := by
  go_enter Tryz.func106, Tryz.ntmps106; go_wp2
  go_ret; exact ⟨rfl, rfl⟩
set_option maxRecDepth 100000 in
set_option maxHeartbeats 2000000 in
theorem orderFloat_absent (f : Nat)  (w : World) : Calls Tryz.prog 106 #[.float .f64 f, .iface 139 (.agg #[])] w fun e w' => e = .returned (.int .i64 3) ∧ w' = w := by
  go_enter Tryz.func106, Tryz.ntmps106; go_wp2
  go_ret; exact ⟨rfl, rfl⟩
set_option maxRecDepth 100000 in
set_option maxHeartbeats 2000000 in
theorem orderFloat_flag (f : Nat) (b : Bool) (w : World) : Calls Tryz.prog 106 #[.float .f64 f, .iface 90 (.bool b)] w fun e w' => e = .returned (.int .i64 3) ∧ w' = w := by
  go_enter Tryz.func106, Tryz.ntmps106; go_wp2
  go_ret; exact ⟨rfl, rfl⟩
set_option maxRecDepth 100000 in
set_option maxHeartbeats 2000000 in
theorem orderFloat_word (f : Nat) (s : ByteArray) (w : World) : Calls Tryz.prog 106 #[.float .f64 f, .iface 142 (.string s)] w fun e w' => e = .returned (.int .i64 3) ∧ w' = w := by
  go_enter Tryz.func106, Tryz.ntmps106; go_wp2
  go_ret; exact ⟨rfl, rfl⟩
set_option maxRecDepth 100000 in
set_option maxHeartbeats 2000000 in
theorem orderFloat_builtin (f : Nat) (m : Int) (w : World) : Calls Tryz.prog 106 #[.float .f64 f, .iface 145 (.int .i64 m)] w fun e w' => e = .returned (.int .i64 3) ∧ w' = w := by
  go_enter Tryz.func106, Tryz.ntmps106; go_wp2
  go_ret; exact ⟨rfl, rfl⟩
set_option maxRecDepth 100000 in
set_option maxHeartbeats 2000000 in
theorem orderFloat_made (f : Nat) (k r : Int) (w : World) : Calls Tryz.prog 106 #[.float .f64 f, .iface 144 (.agg #[.int .i64 k, .int .i64 r])] w fun e w' => e = .returned (.int .i64 3) ∧ w' = w := by
  go_enter Tryz.func106, Tryz.ntmps106; go_wp2
  go_ret; exact ⟨rfl, rfl⟩
set_option maxRecDepth 100000 in
set_option maxHeartbeats 2000000 in
theorem orderWhole_whole (n m : Int) (w : World) : Calls Tryz.prog 105 #[.int .i64 n, .iface 140 (.int .i64 m)] w fun e w' => e = .returned (.int .i64 (cmpI n m)) ∧ w' = w := by
  go_enter Tryz.func105, Tryz.ntmps105
  go_wp2_with (go_at_call 191; refine (cmpWhole_calls _ _ _).mono ?_; rintro e w2 ⟨rfl, rfl⟩)
  go_ret; exact ⟨rfl, rfl⟩
set_option maxRecDepth 100000 in
set_option maxHeartbeats 2000000 in
theorem orderWhole_float (n : Int) (f : Nat) (hf : f < 2 ^ 64) (w : World) : Calls Tryz.prog 105 #[.int .i64 n, .iface 141 (.float .f64 f)] w fun e w' => e = .returned (.int .i64 (mixG n f)) ∧ w' = w := by
  have HF : Hid (f < 2 ^ 64) := hf
  clear hf
  go_enter Tryz.func105, Tryz.ntmps105
  go_wp2_with (go_at_call 192; refine (mix_calls _ _ HF.out _).mono ?_; rintro e w2 ⟨rfl, rfl⟩)
  go_ret; exact ⟨rfl, rfl⟩
set_option maxRecDepth 100000 in
set_option maxHeartbeats 2000000 in
theorem orderFloat_whole (f : Nat) (m : Int) (hf : f < 2 ^ 64) (w : World) : Calls Tryz.prog 106 #[.float .f64 f, .iface 140 (.int .i64 m)] w fun e w' => e = .returned (.int .i64 (mixR m f)) ∧ w' = w := by
  have HF : Hid (f < 2 ^ 64) := hf
  have hr : mixG m f = -1 ∨ mixG m f = 0 ∨ mixG m f = 1 ∨ mixG m f = 2 := by
    unfold mixG
    split
    · simp
    · rcases cmpIF_rng m f with h | h | h <;> rw [h] <;> simp
  have he : (if mixG m f = 2 then 2 else -(mixG m f)) = mixR m f := by
    unfold mixR mixG
    cases nanB f
    · simp
      intro h
      rcases cmpIF_rng m f with h' | h' | h' <;> omega
    · simp
  have hT : Hid (∀ w, Calls Tryz.prog 193 #[.int .i64 (mixG m f)] w fun e w' => e = .returned (.int .i64 (mixR m f)) ∧ w' = w) := by
    intro w; rw [← he]; exact turned_calls _ hr w
  clear hf hr he
  go_enter Tryz.func106, Tryz.ntmps106
  go_wp2_with (first | (go_at_call 192; refine (mix_calls _ _ HF.out _).mono ?_; rintro e w2 ⟨rfl, rfl⟩) | (go_at_call 193; refine (hT.out _).mono ?_; rintro e w2 ⟨rfl, rfl⟩))
  go_ret; exact ⟨rfl, rfl⟩
set_option maxRecDepth 100000 in
set_option maxHeartbeats 2000000 in
theorem orderFloat_float (f g : Nat) (hf : f < 2 ^ 64) (hg : g < 2 ^ 64) (w : World) : Calls Tryz.prog 106 #[.float .f64 f, .iface 141 (.float .f64 g)] w fun e w' => e = .returned (.int .i64 (fltG f g)) ∧ w' = w := by
  have HF : Hid (f < 2 ^ 64) := hf
  have HG : Hid (g < 2 ^ 64) := hg
  clear hf hg
  go_enter Tryz.func106, Tryz.ntmps106
  go_wp2_with (go_at_call 194; refine (flts_calls _ _ HF.out HG.out _).mono ?_; rintro e w2 ⟨rfl, rfl⟩)
  go_ret; exact ⟨rfl, rfl⟩

set_option maxRecDepth 100000 in
set_option maxHeartbeats 2000000 in
theorem order_nilI  (y : Value) (w : World) : Calls Tryz.prog 52 #[.nilIface, y] w fun e w' => e = .returned (.int .i64 3) ∧ w' = w := by
  go_enter Tryz.func52, Tryz.ntmps52; go_wp2
  go_ret; exact ⟨rfl, rfl⟩
set_option maxRecDepth 100000 in
set_option maxHeartbeats 2000000 in
theorem order_absent  (y : Value) (w : World) : Calls Tryz.prog 52 #[.iface 139 (.agg #[]), y] w fun e w' => e = .returned (.int .i64 3) ∧ w' = w := by
  go_enter Tryz.func52, Tryz.ntmps52; go_wp2
  go_ret; exact ⟨rfl, rfl⟩
set_option maxRecDepth 100000 in
set_option maxHeartbeats 2000000 in
theorem order_flag (b : Bool) (y : Value) (w : World) : Calls Tryz.prog 52 #[.iface 90 (.bool b), y] w fun e w' => e = .returned (.int .i64 3) ∧ w' = w := by
  go_enter Tryz.func52, Tryz.ntmps52; go_wp2
  go_ret; exact ⟨rfl, rfl⟩
set_option maxRecDepth 100000 in
set_option maxHeartbeats 2000000 in
theorem order_builtin (m : Int) (y : Value) (w : World) : Calls Tryz.prog 52 #[.iface 145 (.int .i64 m), y] w fun e w' => e = .returned (.int .i64 3) ∧ w' = w := by
  go_enter Tryz.func52, Tryz.ntmps52; go_wp2
  go_ret; exact ⟨rfl, rfl⟩
set_option maxRecDepth 100000 in
set_option maxHeartbeats 2000000 in
theorem order_made (k r : Int) (y : Value) (w : World) : Calls Tryz.prog 52 #[.iface 144 (.agg #[.int .i64 k, .int .i64 r]), y] w fun e w' => e = .returned (.int .i64 3) ∧ w' = w := by
  go_enter Tryz.func52, Tryz.ntmps52; go_wp2
  go_ret; exact ⟨rfl, rfl⟩
set_option maxRecDepth 100000 in
set_option maxHeartbeats 2000000 in
theorem order_whole (n : Int) (y : Value) (c : Int) (h : ∀ w, Calls Tryz.prog 105 #[.int .i64 n, y] w fun e w' => e = .returned (.int .i64 c) ∧ w' = w) (w : World) : Calls Tryz.prog 52 #[.iface 140 (.int .i64 n), y] w fun e w' => e = .returned (.int .i64 c) ∧ w' = w := by
  have H : Hid (∀ w, Calls Tryz.prog 105 #[.int .i64 n, y] w fun e w' => e = .returned (.int .i64 c) ∧ w' = w) := h
  clear h
  go_enter Tryz.func52, Tryz.ntmps52
  go_wp2_with (go_at_call 105; refine (H.out _).mono ?_; rintro e w2 ⟨rfl, rfl⟩)
  go_ret; exact ⟨rfl, rfl⟩
set_option maxRecDepth 100000 in
set_option maxHeartbeats 2000000 in
theorem order_float (n : Nat) (y : Value) (c : Int) (h : ∀ w, Calls Tryz.prog 106 #[.float .f64 n, y] w fun e w' => e = .returned (.int .i64 c) ∧ w' = w) (w : World) : Calls Tryz.prog 52 #[.iface 141 (.float .f64 n), y] w fun e w' => e = .returned (.int .i64 c) ∧ w' = w := by
  have H : Hid (∀ w, Calls Tryz.prog 106 #[.float .f64 n, y] w fun e w' => e = .returned (.int .i64 c) ∧ w' = w) := h
  clear h
  go_enter Tryz.func52, Tryz.ntmps52
  go_wp2_with (go_at_call 106; refine (H.out _).mono ?_; rintro e w2 ⟨rfl, rfl⟩)
  go_ret; exact ⟨rfl, rfl⟩
set_option maxRecDepth 100000 in
set_option maxHeartbeats 2000000 in
theorem order_word_nilI (a : ByteArray)  (w : World) : Calls Tryz.prog 52 #[.iface 142 (.string a), .nilIface] w fun e w' => e = .returned (.int .i64 3) ∧ w' = w := by
  go_enter Tryz.func52, Tryz.ntmps52; go_wp2
  go_ret; exact ⟨rfl, rfl⟩
set_option maxRecDepth 100000 in
set_option maxHeartbeats 2000000 in
theorem order_word_absent (a : ByteArray)  (w : World) : Calls Tryz.prog 52 #[.iface 142 (.string a), .iface 139 (.agg #[])] w fun e w' => e = .returned (.int .i64 3) ∧ w' = w := by
  go_enter Tryz.func52, Tryz.ntmps52; go_wp2
  go_ret; exact ⟨rfl, rfl⟩
set_option maxRecDepth 100000 in
set_option maxHeartbeats 2000000 in
theorem order_word_flag (a : ByteArray) (b : Bool) (w : World) : Calls Tryz.prog 52 #[.iface 142 (.string a), .iface 90 (.bool b)] w fun e w' => e = .returned (.int .i64 3) ∧ w' = w := by
  go_enter Tryz.func52, Tryz.ntmps52; go_wp2
  go_ret; exact ⟨rfl, rfl⟩
set_option maxRecDepth 100000 in
set_option maxHeartbeats 2000000 in
theorem order_word_builtin (a : ByteArray) (m : Int) (w : World) : Calls Tryz.prog 52 #[.iface 142 (.string a), .iface 145 (.int .i64 m)] w fun e w' => e = .returned (.int .i64 3) ∧ w' = w := by
  go_enter Tryz.func52, Tryz.ntmps52; go_wp2
  go_ret; exact ⟨rfl, rfl⟩
set_option maxRecDepth 100000 in
set_option maxHeartbeats 2000000 in
theorem order_word_made (a : ByteArray) (k r : Int) (w : World) : Calls Tryz.prog 52 #[.iface 142 (.string a), .iface 144 (.agg #[.int .i64 k, .int .i64 r])] w fun e w' => e = .returned (.int .i64 3) ∧ w' = w := by
  go_enter Tryz.func52, Tryz.ntmps52; go_wp2
  go_ret; exact ⟨rfl, rfl⟩
set_option maxRecDepth 100000 in
set_option maxHeartbeats 2000000 in
theorem order_word_whole (a : ByteArray) (m : Int) (w : World) : Calls Tryz.prog 52 #[.iface 142 (.string a), .iface 140 (.int .i64 m)] w fun e w' => e = .returned (.int .i64 3) ∧ w' = w := by
  go_enter Tryz.func52, Tryz.ntmps52; go_wp2
  go_ret; exact ⟨rfl, rfl⟩
set_option maxRecDepth 100000 in
set_option maxHeartbeats 2000000 in
theorem order_word_float (a : ByteArray) (f : Nat) (w : World) : Calls Tryz.prog 52 #[.iface 142 (.string a), .iface 141 (.float .f64 f)] w fun e w' => e = .returned (.int .i64 3) ∧ w' = w := by
  go_enter Tryz.func52, Tryz.ntmps52; go_wp2
  go_ret; exact ⟨rfl, rfl⟩
set_option maxRecDepth 100000 in
set_option maxHeartbeats 2000000 in
theorem order_word_word (a b : ByteArray) (w : World) : Calls Tryz.prog 52 #[.iface 142 (.string a), .iface 142 (.string b)] w fun e w' => e = .returned (.int .i64 (cbs a b)) ∧ w' = w := by
  go_enter Tryz.func52, Tryz.ntmps52
  go_wp2_with (go_at_call 107; refine (strCompare_calls _ _ _).mono ?_; rintro e w2 ⟨rfl, rfl⟩)
  go_ret; exact ⟨rfl, rfl⟩

end Go.Proofs.YtiidepafifodjabGreat
