import Derived.Test.YtdialodjllpgaaaGreatDoorPlain
/-! impl.unusedEmpty and impl.thingOf. -/
namespace Go.Proofs.YtdialodjllpgaaaGreatDoor
open Go.RowKit
attribute [local go_sem] run_store_float

set_option maxHeartbeats 1000000 in
theorem ue_calls (k n : Int) (f : Nat) (s : ByteArray) (r : Int) (w : World) :
    Calls Tryz.prog 152 #[vOf k n f s r] w fun e w' => e = .returned (.bool (ueB k n f s r)) ∧ Below w.heap.size w w' := by
  by_cases c1 : k = 1
  · subst c1; go_enter Tryz.func152, Tryz.ntmps152; go_wp2
    all_goals (go_ret; exact ⟨ret_bool (by simp_all [ueB, fz, se]), (Below.refl _ _).alloc (Nat.le_refl _) _⟩)
  by_cases c2 : k = 2
  · subst c2; go_enter Tryz.func152, Tryz.ntmps152; go_wp2
    all_goals (go_ret; exact ⟨ret_bool (by simp_all [ueB, fz, se]), (Below.refl _ _).alloc (Nat.le_refl _) _⟩)
  by_cases c8 : k = 8
  · subst c8; go_enter Tryz.func152, Tryz.ntmps152; go_wp2
    all_goals (go_ret; exact ⟨ret_bool (by simp_all [ueB, fz, se]), (Below.refl _ _).alloc (Nat.le_refl _) _⟩)
  by_cases c3 : k = 3
  · subst c3; have z0 := order00
    go_enter Tryz.func152, Tryz.ntmps152; go_wp2
    all_goals (go_ret; exact ⟨ret_bool (by simp_all [ueB, se]), (Below.refl _ _).alloc (Nat.le_refl _) _⟩)
  by_cases c4 : k = 4
  · subst c4; go_enter Tryz.func152, Tryz.ntmps152; go_wp2
    all_goals (go_ret; exact ⟨ret_bool (by simp_all [ueB, fz]), (Below.refl _ _).alloc (Nat.le_refl _) _⟩)
  by_cases c5 : k = 5
  · subst c5; go_enter Tryz.func152, Tryz.ntmps152; go_wp2
    all_goals (go_ret; exact ⟨ret_bool (by simp_all [ueB, fz, se]), (Below.refl _ _).alloc (Nat.le_refl _) _⟩)
  by_cases c6 : k = 6
  · subst c6; go_enter Tryz.func152, Tryz.ntmps152; go_wp2
    all_goals (go_ret; exact ⟨ret_bool (by simp_all [ueB, fz, se]), (Below.refl _ _).alloc (Nat.le_refl _) _⟩)
  by_cases c7 : k = 7
  · subst c7; go_enter Tryz.func152, Tryz.ntmps152; go_wp2
    all_goals (go_ret; exact ⟨ret_bool (by simp_all [ueB, fz, se]), (Below.refl _ _).alloc (Nat.le_refl _) _⟩)
  go_enter Tryz.func152, Tryz.ntmps152; go_wp2
  all_goals (go_ret; exact ⟨ret_bool (by simp_all [ueB, fz, se]), (Below.refl _ _).alloc (Nat.le_refl _) _⟩)

/-- what a valid value stands for, as the program holds it -/
def thV (k n : Int) (f : Nat) (s : ByteArray) (r : Int) : Value :=
  if k = 0 then .iface 247 (.agg #[])
  else if k = 1 then .iface 248 (.bool (n == 1))
  else if k = 2 then .iface 249 (.int .i64 n)
  else if k = 3 then .iface 250 (.float .f64 f)
  else if k = 4 then .iface 167 (.string s)
  else if k = 8 then .iface 253 (.int .i64 n)
  else .iface 252 (.agg #[.int .i64 k, .int .i64 r])

/-- the same of whatever value: nothing where it is not valid -/
def thW (k n : Int) (f : Nat) (s : ByteArray) (r : Int) : Value := if okB k n f s r then thV k n f s r else .nilIface

set_option maxHeartbeats 1000000 in
theorem th_empty (k n : Int) (f : Nat) (s : ByteArray) (r : Int) (w : World) (h : ueB k n f s r = false) :
    Calls Tryz.prog 94 #[vOf k n f s r] w fun e w' => e = .returned (thW k n f s r) ∧ Below w.heap.size w w' := by
  have e1 : thW k n f s r = .nilIface := by simp [thW, okB, h]
  rw [e1]; clear e1
  go_enter Tryz.func94, Tryz.ntmps94
  go_wp2_with (go_at_call 152; refine (ue_calls _ _ _ _ _ _).mono ?_; rintro e w1 ⟨rfl, hb⟩; obtain ⟨hc, hf⟩ := bcell hb)
  go_ret
  exact ⟨rfl, below_call (below_alloc _ _) hb⟩

set_option maxHeartbeats 1000000 in
theorem th_nil (n : Int) (f : Nat) (s : ByteArray) (r : Int) (w : World) (h : ueB 0 n f s r = true) :
    Calls Tryz.prog 94 #[vOf 0 n f s r] w fun e w' => e = .returned (.iface 247 (.agg #[])) ∧ Below w.heap.size w w' := by
  go_enter Tryz.func94, Tryz.ntmps94
  go_wp2_with (go_at_call 152; refine (ue_calls _ _ _ _ _ _).mono ?_; rintro e w1 ⟨rfl, hb⟩; obtain ⟨hc, hf⟩ := bcell hb)
  go_ret
  exact ⟨rfl, below_call (below_alloc _ _) hb⟩

set_option maxHeartbeats 1000000 in
theorem th_bool0 (n : Int) (f : Nat) (s : ByteArray) (r : Int) (w : World) (h : ueB 1 n f s r = true) (hn : n = 0) :
    Calls Tryz.prog 94 #[vOf 1 n f s r] w fun e w' => e = .returned (.iface 248 (.bool false)) ∧ Below w.heap.size w w' := by
  subst hn
  go_enter Tryz.func94, Tryz.ntmps94
  go_wp2_with (go_at_call 152; refine (ue_calls _ _ _ _ _ _).mono ?_; rintro e w1 ⟨rfl, hb⟩; obtain ⟨hc, hf⟩ := bcell hb)
  go_ret
  exact ⟨rfl, below_call (below_alloc _ _) hb⟩

set_option maxHeartbeats 1000000 in
theorem th_bool1 (n : Int) (f : Nat) (s : ByteArray) (r : Int) (w : World) (h : ueB 1 n f s r = true) (hn : n = 1) :
    Calls Tryz.prog 94 #[vOf 1 n f s r] w fun e w' => e = .returned (.iface 248 (.bool true)) ∧ Below w.heap.size w w' := by
  subst hn
  go_enter Tryz.func94, Tryz.ntmps94
  go_wp2_with (go_at_call 152; refine (ue_calls _ _ _ _ _ _).mono ?_; rintro e w1 ⟨rfl, hb⟩; obtain ⟨hc, hf⟩ := bcell hb)
  go_ret
  exact ⟨rfl, below_call (below_alloc _ _) hb⟩

set_option maxHeartbeats 1000000 in
theorem th_boolno (n : Int) (f : Nat) (s : ByteArray) (r : Int) (w : World) (h : ueB 1 n f s r = true) (h0 : n ≠ 0) (h1 : n ≠ 1) :
    Calls Tryz.prog 94 #[vOf 1 n f s r] w fun e w' => e = .returned .nilIface ∧ Below w.heap.size w w' := by
  have a0 : (n == 0) = false := by simpa using h0
  have a1 : (n == 1) = false := by simpa using h1
  go_enter Tryz.func94, Tryz.ntmps94
  go_wp2_with (go_at_call 152; refine (ue_calls _ _ _ _ _ _).mono ?_; rintro e w1 ⟨rfl, hb⟩; obtain ⟨hc, hf⟩ := bcell hb)
  go_ret
  exact ⟨rfl, below_call (below_alloc _ _) hb⟩

set_option maxHeartbeats 1000000 in
theorem th_int (n : Int) (f : Nat) (s : ByteArray) (r : Int) (w : World) (h : ueB 2 n f s r = true) :
    Calls Tryz.prog 94 #[vOf 2 n f s r] w fun e w' => e = .returned (.iface 249 (.int .i64 n)) ∧ Below w.heap.size w w' := by
  go_enter Tryz.func94, Tryz.ntmps94
  go_wp2_with (go_at_call 152; refine (ue_calls _ _ _ _ _ _).mono ?_; rintro e w1 ⟨rfl, hb⟩; obtain ⟨hc, hf⟩ := bcell hb)
  go_ret
  exact ⟨rfl, below_call (below_alloc _ _) hb⟩

set_option maxHeartbeats 1000000 in
theorem th_flt (n : Int) (f : Nat) (s : ByteArray) (r : Int) (w : World) (h : ueB 3 n f s r = true) :
    Calls Tryz.prog 94 #[vOf 3 n f s r] w fun e w' => e = .returned (.iface 250 (.float .f64 f)) ∧ Below w.heap.size w w' := by
  go_enter Tryz.func94, Tryz.ntmps94
  go_wp2_with (go_at_call 152; refine (ue_calls _ _ _ _ _ _).mono ?_; rintro e w1 ⟨rfl, hb⟩; obtain ⟨hc, hf⟩ := bcell hb)
  go_ret
  exact ⟨rfl, below_call (below_alloc _ _) hb⟩

set_option maxHeartbeats 1000000 in
theorem th_str (n : Int) (f : Nat) (s : ByteArray) (r : Int) (w : World) (h : ueB 4 n f s r = true) (hs : s.size ≤ 4000) :
    Calls Tryz.prog 94 #[vOf 4 n f s r] w fun e w' => e = .returned (.iface 167 (.string s)) ∧ Below w.heap.size w w' := by
  go_enter Tryz.func94, Tryz.ntmps94
  go_wp2_with (go_at_call 152; refine (ue_calls _ _ _ _ _ _).mono ?_; rintro e w1 ⟨rfl, hb⟩; obtain ⟨hc, hf⟩ := bcell hb)
  go_ret
  exact ⟨rfl, below_call (below_alloc _ _) hb⟩

set_option maxHeartbeats 1000000 in
theorem th_strno (n : Int) (f : Nat) (s : ByteArray) (r : Int) (w : World) (h : ueB 4 n f s r = true) (hs : 4000 < s.size) :
    Calls Tryz.prog 94 #[vOf 4 n f s r] w fun e w' => e = .returned .nilIface ∧ Below w.heap.size w w' := by
  go_enter Tryz.func94, Tryz.ntmps94
  go_wp2_with (go_at_call 152; refine (ue_calls _ _ _ _ _ _).mono ?_; rintro e w1 ⟨rfl, hb⟩; obtain ⟨hc, hf⟩ := bcell hb)
  go_ret
  exact ⟨rfl, below_call (below_alloc _ _) hb⟩

set_option maxHeartbeats 1000000 in
theorem th_ref5 (n : Int) (f : Nat) (s : ByteArray) (r : Int) (w : World) (h : ueB 5 n f s r = true) (hr : 0 ≤ r) :
    Calls Tryz.prog 94 #[vOf 5 n f s r] w fun e w' => e = .returned (.iface 252 (.agg #[.int .i64 5, .int .i64 r])) ∧ Below w.heap.size w w' := by
  go_enter Tryz.func94, Tryz.ntmps94
  go_wp2_with (go_at_call 152; refine (ue_calls _ _ _ _ _ _).mono ?_; rintro e w1 ⟨rfl, hb⟩; obtain ⟨hc, hf⟩ := bcell hb)
  go_ret
  exact ⟨rfl, below_call (below_alloc _ _) hb⟩

set_option maxHeartbeats 1000000 in
theorem th_refno5 (n : Int) (f : Nat) (s : ByteArray) (r : Int) (w : World) (h : ueB 5 n f s r = true) (hr : r < 0) :
    Calls Tryz.prog 94 #[vOf 5 n f s r] w fun e w' => e = .returned .nilIface ∧ Below w.heap.size w w' := by
  go_enter Tryz.func94, Tryz.ntmps94
  go_wp2_with (go_at_call 152; refine (ue_calls _ _ _ _ _ _).mono ?_; rintro e w1 ⟨rfl, hb⟩; obtain ⟨hc, hf⟩ := bcell hb)
  go_ret
  exact ⟨rfl, below_call (below_alloc _ _) hb⟩

set_option maxHeartbeats 1000000 in
theorem th_ref6 (n : Int) (f : Nat) (s : ByteArray) (r : Int) (w : World) (h : ueB 6 n f s r = true) (hr : 0 ≤ r) :
    Calls Tryz.prog 94 #[vOf 6 n f s r] w fun e w' => e = .returned (.iface 252 (.agg #[.int .i64 6, .int .i64 r])) ∧ Below w.heap.size w w' := by
  go_enter Tryz.func94, Tryz.ntmps94
  go_wp2_with (go_at_call 152; refine (ue_calls _ _ _ _ _ _).mono ?_; rintro e w1 ⟨rfl, hb⟩; obtain ⟨hc, hf⟩ := bcell hb)
  go_ret
  exact ⟨rfl, below_call (below_alloc _ _) hb⟩

set_option maxHeartbeats 1000000 in
theorem th_refno6 (n : Int) (f : Nat) (s : ByteArray) (r : Int) (w : World) (h : ueB 6 n f s r = true) (hr : r < 0) :
    Calls Tryz.prog 94 #[vOf 6 n f s r] w fun e w' => e = .returned .nilIface ∧ Below w.heap.size w w' := by
  go_enter Tryz.func94, Tryz.ntmps94
  go_wp2_with (go_at_call 152; refine (ue_calls _ _ _ _ _ _).mono ?_; rintro e w1 ⟨rfl, hb⟩; obtain ⟨hc, hf⟩ := bcell hb)
  go_ret
  exact ⟨rfl, below_call (below_alloc _ _) hb⟩

set_option maxHeartbeats 1000000 in
theorem th_ref7 (n : Int) (f : Nat) (s : ByteArray) (r : Int) (w : World) (h : ueB 7 n f s r = true) (hr : 0 ≤ r) :
    Calls Tryz.prog 94 #[vOf 7 n f s r] w fun e w' => e = .returned (.iface 252 (.agg #[.int .i64 7, .int .i64 r])) ∧ Below w.heap.size w w' := by
  go_enter Tryz.func94, Tryz.ntmps94
  go_wp2_with (go_at_call 152; refine (ue_calls _ _ _ _ _ _).mono ?_; rintro e w1 ⟨rfl, hb⟩; obtain ⟨hc, hf⟩ := bcell hb)
  go_ret
  exact ⟨rfl, below_call (below_alloc _ _) hb⟩

set_option maxHeartbeats 1000000 in
theorem th_refno7 (n : Int) (f : Nat) (s : ByteArray) (r : Int) (w : World) (h : ueB 7 n f s r = true) (hr : r < 0) :
    Calls Tryz.prog 94 #[vOf 7 n f s r] w fun e w' => e = .returned .nilIface ∧ Below w.heap.size w w' := by
  go_enter Tryz.func94, Tryz.ntmps94
  go_wp2_with (go_at_call 152; refine (ue_calls _ _ _ _ _ _).mono ?_; rintro e w1 ⟨rfl, hb⟩; obtain ⟨hc, hf⟩ := bcell hb)
  go_ret
  exact ⟨rfl, below_call (below_alloc _ _) hb⟩

set_option maxHeartbeats 1000000 in
theorem th_blt (n : Int) (f : Nat) (s : ByteArray) (r : Int) (w : World) (h : ueB 8 n f s r = true) (h0 : 0 ≤ n) (h1 : n < 15) :
    Calls Tryz.prog 94 #[vOf 8 n f s r] w fun e w' => e = .returned (.iface 253 (.int .i64 n)) ∧ Below w.heap.size w w' := by
  go_enter Tryz.func94, Tryz.ntmps94
  go_wp2_with (go_at_call 152; refine (ue_calls _ _ _ _ _ _).mono ?_; rintro e w1 ⟨rfl, hb⟩; obtain ⟨hc, hf⟩ := bcell hb)
  go_ret
  exact ⟨rfl, below_call (below_alloc _ _) hb⟩

set_option maxHeartbeats 1000000 in
theorem th_bltlo (n : Int) (f : Nat) (s : ByteArray) (r : Int) (w : World) (h : ueB 8 n f s r = true) (h0 : n < 0) :
    Calls Tryz.prog 94 #[vOf 8 n f s r] w fun e w' => e = .returned .nilIface ∧ Below w.heap.size w w' := by
  go_enter Tryz.func94, Tryz.ntmps94
  go_wp2_with (go_at_call 152; refine (ue_calls _ _ _ _ _ _).mono ?_; rintro e w1 ⟨rfl, hb⟩; obtain ⟨hc, hf⟩ := bcell hb)
  go_ret
  exact ⟨rfl, below_call (below_alloc _ _) hb⟩

set_option maxHeartbeats 1000000 in
theorem th_blthi (n : Int) (f : Nat) (s : ByteArray) (r : Int) (w : World) (h : ueB 8 n f s r = true) (h0 : 0 ≤ n) (h1 : 15 ≤ n) :
    Calls Tryz.prog 94 #[vOf 8 n f s r] w fun e w' => e = .returned .nilIface ∧ Below w.heap.size w w' := by
  go_enter Tryz.func94, Tryz.ntmps94
  go_wp2_with (go_at_call 152; refine (ue_calls _ _ _ _ _ _).mono ?_; rintro e w1 ⟨rfl, hb⟩; obtain ⟨hc, hf⟩ := bcell hb)
  go_ret
  exact ⟨rfl, below_call (below_alloc _ _) hb⟩

set_option maxHeartbeats 1000000 in
theorem th_none (k n : Int) (f : Nat) (s : ByteArray) (r : Int) (w : World) (h : ueB k n f s r = true) (hk : k < 0 ∨ 8 < k) :
    Calls Tryz.prog 94 #[vOf k n f s r] w fun e w' => e = .returned .nilIface ∧ Below w.heap.size w w' := by
  have a0 : (k == 0) = false := by simp; omega
  have a1 : (k == 1) = false := by simp; omega
  have a2 : (k == 2) = false := by simp; omega
  have a3 : (k == 3) = false := by simp; omega
  have a4 : (k == 4) = false := by simp; omega
  have a5 : (k == 5) = false := by simp; omega
  have a6 : (k == 6) = false := by simp; omega
  have a7 : (k == 7) = false := by simp; omega
  have a8 : (k == 8) = false := by simp; omega
  clear hk
  go_enter Tryz.func94, Tryz.ntmps94
  go_wp2_with (go_at_call 152; refine (ue_calls _ _ _ _ _ _).mono ?_; rintro e w1 ⟨rfl, hb⟩; obtain ⟨hc, hf⟩ := bcell hb)
  go_ret
  exact ⟨rfl, below_call (below_alloc _ _) hb⟩

/-- thingOf, at every value. -/
theorem th_calls (k n : Int) (f : Nat) (s : ByteArray) (r : Int) (w : World) :
    Calls Tryz.prog 94 #[vOf k n f s r] w fun e w' => e = .returned (thW k n f s r) ∧ Below w.heap.size w w' := by
  cases h : ueB k n f s r
  · exact th_empty k n f s r w h
  by_cases hk : k < 0 ∨ 8 < k
  · have e : thW k n f s r = .nilIface := by
      have a : usB k n s r = false := by
        unfold usB
        rw [if_neg (by omega), if_neg (by omega), if_neg (by omega), if_neg (by omega), if_neg (by omega), if_neg (by omega), if_neg (by omega)]
      simp [thW, okB, a]
    rw [e]; exact th_none k n f s r w h hk
  have hk' : k = 0 ∨ k = 1 ∨ k = 2 ∨ k = 3 ∨ k = 4 ∨ k = 5 ∨ k = 6 ∨ k = 7 ∨ k = 8 := by omega
  rcases hk' with rfl | rfl | rfl | rfl | rfl | rfl | rfl | rfl | rfl
  · rw [show thW 0 n f s r = .iface 247 (.agg #[]) by simp [thW, thV, okB, usB, h]]; exact th_nil n f s r w h
  · by_cases h0 : n = 0
    · rw [show thW 1 n f s r = .iface 248 (.bool false) by subst h0; simp [thW, thV, okB, usB, h]]; exact th_bool0 n f s r w h h0
    by_cases h1 : n = 1
    · rw [show thW 1 n f s r = .iface 248 (.bool true) by subst h1; simp [thW, thV, okB, usB, h]]; exact th_bool1 n f s r w h h1
    rw [show thW 1 n f s r = .nilIface by simp [thW, okB, usB, h0, h1]]; exact th_boolno n f s r w h h0 h1
  · rw [show thW 2 n f s r = .iface 249 (.int .i64 n) by simp [thW, thV, okB, usB, h]]; exact th_int n f s r w h
  · rw [show thW 3 n f s r = .iface 250 (.float .f64 f) by simp [thW, thV, okB, usB, h]]; exact th_flt n f s r w h
  · by_cases h0 : (s.size : Int) ≤ 4000
    · rw [show thW 4 n f s r = .iface 167 (.string s) by simp [thW, thV, okB, usB, h, h0]]; exact th_str n f s r w h (by omega)
    rw [show thW 4 n f s r = .nilIface by simp [thW, okB, usB, h0]]; exact th_strno n f s r w h (by omega)
  · by_cases h0 : 0 ≤ r
    · rw [show thW 5 n f s r = .iface 252 (.agg #[.int .i64 5, .int .i64 r]) by simp [thW, thV, okB, usB, h, h0]]; exact th_ref5 n f s r w h h0
    rw [show thW 5 n f s r = .nilIface by simp [thW, okB, usB, h0]]; exact th_refno5 n f s r w h (by omega)
  · by_cases h0 : 0 ≤ r
    · rw [show thW 6 n f s r = .iface 252 (.agg #[.int .i64 6, .int .i64 r]) by simp [thW, thV, okB, usB, h, h0]]; exact th_ref6 n f s r w h h0
    rw [show thW 6 n f s r = .nilIface by simp [thW, okB, usB, h0]]; exact th_refno6 n f s r w h (by omega)
  · by_cases h0 : 0 ≤ r
    · rw [show thW 7 n f s r = .iface 252 (.agg #[.int .i64 7, .int .i64 r]) by simp [thW, thV, okB, usB, h, h0]]; exact th_ref7 n f s r w h h0
    rw [show thW 7 n f s r = .nilIface by simp [thW, okB, usB, h0]]; exact th_refno7 n f s r w h (by omega)
  · by_cases h0 : 0 ≤ n
    · by_cases h1 : n < 15
      · rw [show thW 8 n f s r = .iface 253 (.int .i64 n) by simp [thW, thV, okB, usB, h, h0, h1]]; exact th_blt n f s r w h h0 h1
      rw [show thW 8 n f s r = .nilIface by simp [thW, okB, usB, h1]]; exact th_blthi n f s r w h h0 (by omega)
    rw [show thW 8 n f s r = .nilIface by simp [thW, okB, usB, h0]]; exact th_bltlo n f s r w h (by omega)
end Go.Proofs.YtdialodjllpgaaaGreatDoor
