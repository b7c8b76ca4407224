import Derived.Test.YtiidepafifodjabGreatCompare
import Derived.Laws.StructEq
/-! impl.sameThing, impl.Same. -/
namespace Go.Proofs.YtiidepafifodjabGreat
open Go.RowKit

theorem run_eql_iface_agg {P : Program} (w : World) {t tx : TypeId} {ms : Array (String × TypeId)} (xs ys : Array Value)
    (ht : P.underlying t = some (.interface ms)) (hc : (P.info? tx).map (·.comparable) = some true) (hx : P.underlying tx = some (.struct (P.fieldsOf tx))) (hp : P.stoodInHeld tx = false) :
    (binOp .eql t (.iface tx (.agg xs)) (.iface tx (.agg ys))).run P w = ((Op.eqFields 9998 xs ys (P.fieldsOf tx).toList).run P w).andThen fun b w' => .ok (.bool b) w' := by
  cases hi : P.info? tx with
  | none => simp [hi] at hc
  | some i =>
    have hcc : i.comparable = true := by simpa [hi] using hc
    have h : ∀ d : Nat, (Op.equalIn (d + 1) t (.iface tx (.agg xs)) (.iface tx (.agg ys))).run P w = (Op.equalIn d tx (.agg xs) (.agg ys)).run P w := fun d => by
      simp [Op.equalIn, run_underlying ht, typeInfo, hi, hcc]
    rw [← run_equalIn_agg w 9998 tx xs ys hx hp, ← h 9999]
    simp only [binOp]
    simp [Op.equal, Op.maxDepth]
theorem made_und : Tryz.prog.underlying 144 = some (.struct (Tryz.prog.fieldsOf 144)) := by kernel_rfl
theorem made_not : Tryz.prog.stoodInHeld 144 = false := by kernel_rfl
theorem made_cmp : (Tryz.prog.info? 144).map (·.comparable) = some true := by kernel_rfl
theorem eq_made_made (k k' a b : Int) (w : World) : (binOp .eql 79 (.iface 144 (.agg #[.int .i64 k, .int .i64 a])) (.iface 144 (.agg #[.int .i64 k', .int .i64 b]))).run Tryz.prog w = .ok (.bool (k == k' && a == b)) w := by
  rw [run_eql_iface_agg w _ _ Tryz.underlying79 made_cmp made_und made_not]
  simp only [Program.fieldsOf, Tryz.underlying144]
  have p0 : ∀ (x y : Value) (w : World), (part 3 #[x, y] 0).run Tryz.prog w = .ok x w := fun _ _ _ => by kernel_rfl
  have p1 : ∀ (x y : Value) (w : World), (part 3 #[x, y] 1).run Tryz.prog w = .ok y w := fun _ _ _ => by kernel_rfl
  have q := fun (a b : Int) (w : World) => run_equalIn_int (P := Tryz.prog) w 9997 3 .i64 .i64 a b Tryz.underlying3
  cases hk : (k == k')
  · simp [Op.eqFields, p0, q, hk]
  · by_cases h : a = b <;> simp [Op.eqFields, p0, p1, q, hk, h]

theorem eq_absent_flag (x y : Value) (w : World) : (binOp .eql 79 (.iface 139 x) (.iface 90 y)).run Tryz.prog w = .ok (.bool false) w := by kernel_rfl
theorem eq_absent_whole (x y : Value) (w : World) : (binOp .eql 79 (.iface 139 x) (.iface 140 y)).run Tryz.prog w = .ok (.bool false) w := by kernel_rfl
theorem eq_absent_float (x y : Value) (w : World) : (binOp .eql 79 (.iface 139 x) (.iface 141 y)).run Tryz.prog w = .ok (.bool false) w := by kernel_rfl
theorem eq_absent_word (x y : Value) (w : World) : (binOp .eql 79 (.iface 139 x) (.iface 142 y)).run Tryz.prog w = .ok (.bool false) w := by kernel_rfl
theorem eq_absent_builtin (x y : Value) (w : World) : (binOp .eql 79 (.iface 139 x) (.iface 145 y)).run Tryz.prog w = .ok (.bool false) w := by kernel_rfl
theorem eq_absent_made (x y : Value) (w : World) : (binOp .eql 79 (.iface 139 x) (.iface 144 y)).run Tryz.prog w = .ok (.bool false) w := by kernel_rfl
theorem eq_flag_absent (x y : Value) (w : World) : (binOp .eql 79 (.iface 90 x) (.iface 139 y)).run Tryz.prog w = .ok (.bool false) w := by kernel_rfl
theorem eq_flag_whole (x y : Value) (w : World) : (binOp .eql 79 (.iface 90 x) (.iface 140 y)).run Tryz.prog w = .ok (.bool false) w := by kernel_rfl
theorem eq_flag_float (x y : Value) (w : World) : (binOp .eql 79 (.iface 90 x) (.iface 141 y)).run Tryz.prog w = .ok (.bool false) w := by kernel_rfl
theorem eq_flag_word (x y : Value) (w : World) : (binOp .eql 79 (.iface 90 x) (.iface 142 y)).run Tryz.prog w = .ok (.bool false) w := by kernel_rfl
theorem eq_flag_builtin (x y : Value) (w : World) : (binOp .eql 79 (.iface 90 x) (.iface 145 y)).run Tryz.prog w = .ok (.bool false) w := by kernel_rfl
theorem eq_flag_made (x y : Value) (w : World) : (binOp .eql 79 (.iface 90 x) (.iface 144 y)).run Tryz.prog w = .ok (.bool false) w := by kernel_rfl
theorem eq_whole_absent (x y : Value) (w : World) : (binOp .eql 79 (.iface 140 x) (.iface 139 y)).run Tryz.prog w = .ok (.bool false) w := by kernel_rfl
theorem eq_whole_flag (x y : Value) (w : World) : (binOp .eql 79 (.iface 140 x) (.iface 90 y)).run Tryz.prog w = .ok (.bool false) w := by kernel_rfl
theorem eq_whole_float (x y : Value) (w : World) : (binOp .eql 79 (.iface 140 x) (.iface 141 y)).run Tryz.prog w = .ok (.bool false) w := by kernel_rfl
theorem eq_whole_word (x y : Value) (w : World) : (binOp .eql 79 (.iface 140 x) (.iface 142 y)).run Tryz.prog w = .ok (.bool false) w := by kernel_rfl
theorem eq_whole_builtin (x y : Value) (w : World) : (binOp .eql 79 (.iface 140 x) (.iface 145 y)).run Tryz.prog w = .ok (.bool false) w := by kernel_rfl
theorem eq_whole_made (x y : Value) (w : World) : (binOp .eql 79 (.iface 140 x) (.iface 144 y)).run Tryz.prog w = .ok (.bool false) w := by kernel_rfl
theorem eq_float_absent (x y : Value) (w : World) : (binOp .eql 79 (.iface 141 x) (.iface 139 y)).run Tryz.prog w = .ok (.bool false) w := by kernel_rfl
theorem eq_float_flag (x y : Value) (w : World) : (binOp .eql 79 (.iface 141 x) (.iface 90 y)).run Tryz.prog w = .ok (.bool false) w := by kernel_rfl
theorem eq_float_whole (x y : Value) (w : World) : (binOp .eql 79 (.iface 141 x) (.iface 140 y)).run Tryz.prog w = .ok (.bool false) w := by kernel_rfl
theorem eq_float_word (x y : Value) (w : World) : (binOp .eql 79 (.iface 141 x) (.iface 142 y)).run Tryz.prog w = .ok (.bool false) w := by kernel_rfl
theorem eq_float_builtin (x y : Value) (w : World) : (binOp .eql 79 (.iface 141 x) (.iface 145 y)).run Tryz.prog w = .ok (.bool false) w := by kernel_rfl
theorem eq_float_made (x y : Value) (w : World) : (binOp .eql 79 (.iface 141 x) (.iface 144 y)).run Tryz.prog w = .ok (.bool false) w := by kernel_rfl
theorem eq_word_absent (x y : Value) (w : World) : (binOp .eql 79 (.iface 142 x) (.iface 139 y)).run Tryz.prog w = .ok (.bool false) w := by kernel_rfl
theorem eq_word_flag (x y : Value) (w : World) : (binOp .eql 79 (.iface 142 x) (.iface 90 y)).run Tryz.prog w = .ok (.bool false) w := by kernel_rfl
theorem eq_word_whole (x y : Value) (w : World) : (binOp .eql 79 (.iface 142 x) (.iface 140 y)).run Tryz.prog w = .ok (.bool false) w := by kernel_rfl
theorem eq_word_float (x y : Value) (w : World) : (binOp .eql 79 (.iface 142 x) (.iface 141 y)).run Tryz.prog w = .ok (.bool false) w := by kernel_rfl
theorem eq_word_builtin (x y : Value) (w : World) : (binOp .eql 79 (.iface 142 x) (.iface 145 y)).run Tryz.prog w = .ok (.bool false) w := by kernel_rfl
theorem eq_word_made (x y : Value) (w : World) : (binOp .eql 79 (.iface 142 x) (.iface 144 y)).run Tryz.prog w = .ok (.bool false) w := by kernel_rfl
theorem eq_builtin_absent (x y : Value) (w : World) : (binOp .eql 79 (.iface 145 x) (.iface 139 y)).run Tryz.prog w = .ok (.bool false) w := by kernel_rfl
theorem eq_builtin_flag (x y : Value) (w : World) : (binOp .eql 79 (.iface 145 x) (.iface 90 y)).run Tryz.prog w = .ok (.bool false) w := by kernel_rfl
theorem eq_builtin_whole (x y : Value) (w : World) : (binOp .eql 79 (.iface 145 x) (.iface 140 y)).run Tryz.prog w = .ok (.bool false) w := by kernel_rfl
theorem eq_builtin_float (x y : Value) (w : World) : (binOp .eql 79 (.iface 145 x) (.iface 141 y)).run Tryz.prog w = .ok (.bool false) w := by kernel_rfl
theorem eq_builtin_word (x y : Value) (w : World) : (binOp .eql 79 (.iface 145 x) (.iface 142 y)).run Tryz.prog w = .ok (.bool false) w := by kernel_rfl
theorem eq_builtin_made (x y : Value) (w : World) : (binOp .eql 79 (.iface 145 x) (.iface 144 y)).run Tryz.prog w = .ok (.bool false) w := by kernel_rfl
theorem eq_made_absent (x y : Value) (w : World) : (binOp .eql 79 (.iface 144 x) (.iface 139 y)).run Tryz.prog w = .ok (.bool false) w := by kernel_rfl
theorem eq_made_flag (x y : Value) (w : World) : (binOp .eql 79 (.iface 144 x) (.iface 90 y)).run Tryz.prog w = .ok (.bool false) w := by kernel_rfl
theorem eq_made_whole (x y : Value) (w : World) : (binOp .eql 79 (.iface 144 x) (.iface 140 y)).run Tryz.prog w = .ok (.bool false) w := by kernel_rfl
theorem eq_made_float (x y : Value) (w : World) : (binOp .eql 79 (.iface 144 x) (.iface 141 y)).run Tryz.prog w = .ok (.bool false) w := by kernel_rfl
theorem eq_made_word (x y : Value) (w : World) : (binOp .eql 79 (.iface 144 x) (.iface 142 y)).run Tryz.prog w = .ok (.bool false) w := by kernel_rfl
theorem eq_made_builtin (x y : Value) (w : World) : (binOp .eql 79 (.iface 144 x) (.iface 145 y)).run Tryz.prog w = .ok (.bool false) w := by kernel_rfl
theorem eq_absent_absent (w : World) : (binOp .eql 79 (.iface 139 (.agg #[])) (.iface 139 (.agg #[]))).run Tryz.prog w = .ok (.bool true) w := by kernel_rfl
theorem eq_flag_flag (a b : Bool) (w : World) : (binOp .eql 79 (.iface 90 (.bool a)) (.iface 90 (.bool b))).run Tryz.prog w = .ok (.bool (a == b)) w := by kernel_rfl
theorem eq_builtin_builtin (a b : Int) (w : World) : (binOp .eql 79 (.iface 145 (.int .i64 a)) (.iface 145 (.int .i64 b))).run Tryz.prog w = .ok (.bool (a == b)) w := by kernel_rfl

set_option maxRecDepth 100000 in
set_option maxHeartbeats 4000000 in
theorem st_num (x y : Value) (c : Int) (h : ∀ w, Calls Tryz.prog 52 #[x, y] w fun e w' => e = .returned (.int .i64 c) ∧ w' = w) (hc : c ≠ 3) (w : World) :
    Calls Tryz.prog 62 #[x, y] w fun e w' => e = .returned (.bool (c == 0)) ∧ w' = w := by
  have hO : Hid (∀ w, Calls Tryz.prog 52 #[x, y] w fun e w' => e = .returned (.int .i64 c) ∧ w' = w) := h
  clear h
  have c3 : (c == 3) = false := by simpa using hc
  clear hc
  cases c0 : (c == 0)
  · go_enter Tryz.func62, Tryz.ntmps62
    go_wp2_with (go_at_call 52; refine (hO.out _).mono ?_; rintro e w2 ⟨rfl, rfl⟩)
    go_ret; exact ⟨rfl, rfl⟩
  · go_enter Tryz.func62, Tryz.ntmps62
    go_wp2_with (go_at_call 52; refine (hO.out _).mono ?_; rintro e w2 ⟨rfl, rfl⟩)
    go_ret; exact ⟨rfl, rfl⟩

set_option maxRecDepth 100000 in
set_option maxHeartbeats 4000000 in
theorem st_nil (y : Value) (h : ∀ w, Calls Tryz.prog 52 #[.nilIface, y] w fun e w' => e = .returned (.int .i64 3) ∧ w' = w) (w : World) :
    Calls Tryz.prog 62 #[.nilIface, y] w fun e w' => e = .returned (.bool false) ∧ w' = w := by
  have hO : Hid (∀ w, Calls Tryz.prog 52 #[.nilIface, y] w fun e w' => e = .returned (.int .i64 3) ∧ w' = w) := h
  clear h
  go_enter Tryz.func62, Tryz.ntmps62
  go_wp2_with (go_at_call 52; refine (hO.out _).mono ?_; rintro e w2 ⟨rfl, rfl⟩)
  go_ret; exact ⟨rfl, rfl⟩

set_option maxRecDepth 100000 in
set_option maxHeartbeats 4000000 in
theorem st_apart (t u : TypeId) (x y : Value) (b : Bool) (h : ∀ w, Calls Tryz.prog 52 #[.iface t x, .iface u y] w fun e w' => e = .returned (.int .i64 3) ∧ w' = w)
    (he : ∀ w, (binOp .eql 79 (.iface t x) (.iface u y)).run Tryz.prog w = .ok (.bool b) w) (w : World) :
    Calls Tryz.prog 62 #[.iface t x, .iface u y] w fun e w' => e = .returned (.bool b) ∧ w' = w := by
  have hO : Hid (∀ w, Calls Tryz.prog 52 #[.iface t x, .iface u y] w fun e w' => e = .returned (.int .i64 3) ∧ w' = w) := h
  clear h
  go_enter Tryz.func62, Tryz.ntmps62
  go_wp2_with (go_at_call 52; refine (hO.out _).mono ?_; rintro e w2 ⟨rfl, rfl⟩)
  go_ret; exact ⟨rfl, rfl⟩

set_option maxRecDepth 100000 in
set_option maxHeartbeats 4000000 in
theorem st_nil2 (t : TypeId) (x : Value) (h : ∀ w, Calls Tryz.prog 52 #[.iface t x, .nilIface] w fun e w' => e = .returned (.int .i64 3) ∧ w' = w) (w : World) :
    Calls Tryz.prog 62 #[.iface t x, .nilIface] w fun e w' => e = .returned (.bool false) ∧ w' = w := by
  have hO : Hid (∀ w, Calls Tryz.prog 52 #[.iface t x, .nilIface] w fun e w' => e = .returned (.int .i64 3) ∧ w' = w) := h
  clear h
  go_enter Tryz.func62, Tryz.ntmps62
  go_wp2_with (go_at_call 52; refine (hO.out _).mono ?_; rintro e w2 ⟨rfl, rfl⟩)
  go_ret; exact ⟨rfl, rfl⟩

def smG (k n : Int) (f : Nat) (s : ByteArray) (r : Int) (k' n' : Int) (f' : Nat) (s' : ByteArray) (r' : Int) : Bool :=
  if okB k n f s r = false ∨ okB k' n' f' s' r' = false then false
  else if (k = 2 ∨ k = 3) ∧ (k' = 2 ∨ k' = 3) then cmG k n f s r k' n' f' s' r' == 0
  else k == k' && n == n' && s.toList == s'.toList && r == r'

theorem cb_zero : ∀ (a b : List UInt8), (Lib.compareBytes a b == 0) = (a == b)
  | [], [] => rfl
  | [], _ :: _ => rfl
  | _ :: _, [] => rfl
  | x :: a, y :: b => by
    unfold Lib.compareBytes
    by_cases h1 : x < y
    · have : ¬ x = y := by intro h; subst h; exact UInt8.lt_irrefl x h1
      simp [h1, this]
    · by_cases h2 : y < x
      · have : ¬ x = y := by intro h; subst h; exact UInt8.lt_irrefl x h2
        simp [h1, h2, this]
      · have e : x = y := by
          have a1 : y ≤ x := UInt8.not_lt.1 h1
          have a2 : x ≤ y := UInt8.not_lt.1 h2
          exact UInt8.le_antisymm a2 a1
        subst e
        simp only [h1, if_false]
        rw [cb_zero a b]
        simp
theorem cb_rng : ∀ (a b : List UInt8), Lib.compareBytes a b ≠ 3
  | [], [] => by decide
  | [], _ :: _ => by simp [Lib.compareBytes]
  | _ :: _, [] => by simp [Lib.compareBytes]
  | x :: a, y :: b => by
    unfold Lib.compareBytes
    split
    · decide
    · split
      · decide
      · exact cb_rng a b

theorem ue_of_ok {k n : Int} {f : Nat} {s : ByteArray} {r : Int} (h : okB k n f s r = true) : ueB k n f s r = true := by simp only [okB, Bool.and_eq_true] at h; exact h.1

/-- what is not used is empty, kind by kind -/
theorem ok_nil {n : Int} {f : Nat} {s : ByteArray} {r : Int} (h : okB 0 n f s r = true) : n = 0 ∧ s.toList = [] ∧ r = 0 := by
  have := ue_of_ok h
  simp [ueB, se] at this
  exact ⟨this.1.1.1, this.1.2, this.2⟩
theorem ok_bool {n : Int} {f : Nat} {s : ByteArray} {r : Int} (h : okB 1 n f s r = true) : s.toList = [] ∧ r = 0 := by
  have := ue_of_ok h
  simp [ueB, se] at this
  exact ⟨this.1.2, this.2⟩
theorem ok_blt {n : Int} {f : Nat} {s : ByteArray} {r : Int} (h : okB 8 n f s r = true) : s.toList = [] ∧ r = 0 := by
  have := ue_of_ok h
  simp [ueB, se] at this
  exact ⟨this.1.2, this.2⟩
theorem ok_str {n : Int} {f : Nat} {s : ByteArray} {r : Int} (h : okB 4 n f s r = true) : n = 0 ∧ r = 0 := by
  have := ue_of_ok h
  simp [ueB] at this
  exact ⟨this.1.1, this.2⟩
theorem ok_ref {k n : Int} {f : Nat} {s : ByteArray} {r : Int} (c : k = 5 ∨ k = 6 ∨ k = 7) (h : okB k n f s r = true) : n = 0 ∧ s.toList = [] := by
  have := ue_of_ok h
  rcases c with c | c | c <;> subst c <;> simp [ueB, se] at this <;> exact ⟨this.1.1, this.2⟩

theorem cmG_num (k n : Int) (f : Nat) (s : ByteArray) (r : Int) (k' n' : Int) (f' : Nat) (s' : ByteArray) (r' : Int) (h : okB k n f s r = true) (h' : okB k' n' f' s' r' = true) (c : k = 2 ∨ k = 3) (c' : k' = 2 ∨ k' = 3) : cmG k n f s r k' n' f' s' r' ≠ 3 := by
  unfold cmG
  rw [if_neg (by rw [h, h']; decide), if_neg (by omega)]
  have e1 : ∀ a b : Int, cmpI a b ≠ 3 := by intro a b; unfold cmpI; (repeat' split) <;> decide
  have e2 : ∀ a b, mixG a b ≠ 3 := by
    intro a b; unfold mixG; split
    · decide
    · rcases cmpIF_rng a b with h | h | h <;> rw [h] <;> decide
  have e3 : ∀ a b, mixR a b ≠ 3 := by
    intro a b; unfold mixR; split
    · decide
    · rcases cmpIF_rng a b with h | h | h <;> rw [h] <;> decide
  have e4 : ∀ a b, fltG a b ≠ 3 := by
    intro a b; unfold fltG; split
    · decide
    · unfold cmpF; (repeat' split) <;> decide
  rcases c with c | c <;> rcases c' with c' | c'
  · rw [if_pos ⟨c, c'⟩]; exact e1 _ _
  · rw [if_neg (by omega), if_pos ⟨c, c'⟩]; exact e2 _ _
  · rw [if_neg (by omega), if_neg (by omega), if_pos ⟨c, c'⟩]; exact e3 _ _
  · rw [if_neg (by omega), if_neg (by omega), if_neg (by omega), if_pos ⟨c, c'⟩]; exact e4 _ _

theorem cmG_apart (k n : Int) (f : Nat) (s : ByteArray) (r : Int) (k' n' : Int) (f' : Nat) (s' : ByteArray) (r' : Int) (h : okB k n f s r = true) (h' : okB k' n' f' s' r' = true) (c : ¬ ((k = 2 ∨ k = 3) ∧ (k' = 2 ∨ k' = 3))) (c4 : ¬ (k = 4 ∧ k' = 4)) : cmG k n f s r k' n' f' s' r' = 3 := by
  unfold cmG
  rw [if_neg (by rw [h, h']; decide), if_neg c4, if_neg (by omega), if_neg (by omega), if_neg (by omega), if_neg (by omega)]

theorem same_th (k n : Int) (f : Nat) (s : ByteArray) (r : Int) (k' n' : Int) (f' : Nat) (s' : ByteArray) (r' : Int) (hf : f < 2 ^ 64) (hf' : f' < 2 ^ 64) (w : World) :
    Calls Tryz.prog 62 #[thW k n f s r, thW k' n' f' s' r'] w fun e w' => e = .returned (.bool (smG k n f s r k' n' f' s' r')) ∧ w' = w := by
  have ho := fun w => order_th k n f s r k' n' f' s' r' hf hf' w
  cases h : okB k n f s r
  · have e : thW k n f s r = .nilIface := by simp [thW, h]
    have e3 : cmG k n f s r k' n' f' s' r' = 3 := by unfold cmG; rw [if_pos (.inl h)]
    rw [show smG k n f s r k' n' f' s' r' = false by unfold smG; rw [if_pos (.inl h)], e]
    rw [e, e3] at ho
    exact st_nil _ ho w
  cases h' : okB k' n' f' s' r'
  · have e : thW k' n' f' s' r' = .nilIface := by simp [thW, h']
    have e3 : cmG k n f s r k' n' f' s' r' = 3 := by unfold cmG; rw [if_pos (.inr h')]
    obtain ⟨t, v, e1⟩ := iface_ne_nil k n f s r h
    rw [show smG k n f s r k' n' f' s' r' = false by unfold smG; rw [if_pos (.inr h')], e, e1]
    rw [e, e1, e3] at ho
    exact st_nil2 _ _ ho w
  by_cases cn : (k = 2 ∨ k = 3) ∧ (k' = 2 ∨ k' = 3)
  · rw [show smG k n f s r k' n' f' s' r' = (cmG k n f s r k' n' f' s' r' == 0) by unfold smG; rw [if_neg (by rw [h, h']; decide), if_pos cn]]
    exact st_num _ _ _ ho (cmG_num k n f s r k' n' f' s' r' h h' cn.1 cn.2) w
  by_cases c4 : k = 4 ∧ k' = 4
  · obtain ⟨rfl, rfl⟩ := c4
    have ec : cmG 4 n f s r 4 n' f' s' r' = cbs s s' := by unfold cmG; rw [if_neg (by rw [h, h']; decide), if_pos ⟨rfl, rfl⟩]
    obtain ⟨rfl, rfl⟩ := ok_str h
    obtain ⟨rfl, rfl⟩ := ok_str h'
    rw [show smG 4 0 f s 0 4 0 f' s' 0 = (cbs s s' == 0) by
      unfold smG
      rw [if_neg (by rw [h, h']; decide), if_neg (by omega), cb_zero, ByteArray.toList_eq, ByteArray.toList_eq]; simp]
    rw [ec] at ho
    exact st_num _ _ _ ho (cb_rng _ _) w
  have e3 := cmG_apart k n f s r k' n' f' s' r' h h' cn c4
  rw [show smG k n f s r k' n' f' s' r' = (k == k' && n == n' && s.toList == s'.toList && r == r') by unfold smG; rw [if_neg (by rw [h, h']; decide), if_neg cn]]
  rw [e3] at ho
  rcases th_cases k n f s r with ⟨g, _⟩ | ⟨_, c, e⟩ | ⟨_, c, cc, e⟩ | ⟨_, c, e⟩ | ⟨_, c, e⟩ | ⟨_, c, _, e⟩ | ⟨_, c, _, _, e⟩ | ⟨_, c, _, e⟩
  · rw [h] at g; cases g
  · rw [e] at ho ⊢
    rcases th_cases k' n' f' s' r' with ⟨g, _⟩ | ⟨_, c', e'⟩ | ⟨_, c', cc', e'⟩ | ⟨_, c', e'⟩ | ⟨_, c', e'⟩ | ⟨_, c', _, e'⟩ | ⟨_, c', _, _, e'⟩ | ⟨_, c', _, e'⟩
    · rw [h'] at g; cases g
    · subst c c'; obtain ⟨rfl, a2, rfl⟩ := ok_nil h; obtain ⟨rfl, b2, rfl⟩ := ok_nil h'; rw [e'] at ho ⊢; rw [a2, b2]; exact st_apart _ _ _ _ _ ho eq_absent_absent w
    · rw [e'] at ho ⊢; rw [show (k == k') = false by simp; omega]; exact st_apart _ _ _ _ _ ho (eq_absent_flag _ _) w
    · rw [e'] at ho ⊢; rw [show (k == k') = false by simp; omega]; exact st_apart _ _ _ _ _ ho (eq_absent_whole _ _) w
    · rw [e'] at ho ⊢; rw [show (k == k') = false by simp; omega]; exact st_apart _ _ _ _ _ ho (eq_absent_float _ _) w
    · rw [e'] at ho ⊢; rw [show (k == k') = false by simp; omega]; exact st_apart _ _ _ _ _ ho (eq_absent_word _ _) w
    · rw [e'] at ho ⊢; rw [show (k == k') = false by simp; omega]; exact st_apart _ _ _ _ _ ho (eq_absent_builtin _ _) w
    · rw [e'] at ho ⊢; rw [show (k == k') = false by simp; omega]; exact st_apart _ _ _ _ _ ho (eq_absent_made _ _) w
  · rw [e] at ho ⊢
    rcases th_cases k' n' f' s' r' with ⟨g, _⟩ | ⟨_, c', e'⟩ | ⟨_, c', cc', e'⟩ | ⟨_, c', e'⟩ | ⟨_, c', e'⟩ | ⟨_, c', _, e'⟩ | ⟨_, c', _, _, e'⟩ | ⟨_, c', _, e'⟩
    · rw [h'] at g; cases g
    · rw [e'] at ho ⊢; rw [show (k == k') = false by simp; omega]; exact st_apart _ _ _ _ _ ho (eq_flag_absent _ _) w
    · subst c c'; obtain ⟨a2, rfl⟩ := ok_bool h; obtain ⟨b2, rfl⟩ := ok_bool h'; rw [e'] at ho ⊢; rw [a2, b2, show ((1 : Int) == 1 && n == n' && ([] : List UInt8) == [] && (0 : Int) == 0) = ((n == 1) == (n' == 1)) by rcases cc with rfl | rfl <;> rcases cc' with rfl | rfl <;> decide]; exact st_apart _ _ _ _ _ ho (eq_flag_flag _ _) w
    · rw [e'] at ho ⊢; rw [show (k == k') = false by simp; omega]; exact st_apart _ _ _ _ _ ho (eq_flag_whole _ _) w
    · rw [e'] at ho ⊢; rw [show (k == k') = false by simp; omega]; exact st_apart _ _ _ _ _ ho (eq_flag_float _ _) w
    · rw [e'] at ho ⊢; rw [show (k == k') = false by simp; omega]; exact st_apart _ _ _ _ _ ho (eq_flag_word _ _) w
    · rw [e'] at ho ⊢; rw [show (k == k') = false by simp; omega]; exact st_apart _ _ _ _ _ ho (eq_flag_builtin _ _) w
    · rw [e'] at ho ⊢; rw [show (k == k') = false by simp; omega]; exact st_apart _ _ _ _ _ ho (eq_flag_made _ _) w
  · rw [e] at ho ⊢
    rcases th_cases k' n' f' s' r' with ⟨g, _⟩ | ⟨_, c', e'⟩ | ⟨_, c', cc', e'⟩ | ⟨_, c', e'⟩ | ⟨_, c', e'⟩ | ⟨_, c', _, e'⟩ | ⟨_, c', _, _, e'⟩ | ⟨_, c', _, e'⟩
    · rw [h'] at g; cases g
    · rw [e'] at ho ⊢; rw [show (k == k') = false by simp; omega]; exact st_apart _ _ _ _ _ ho (eq_whole_absent _ _) w
    · rw [e'] at ho ⊢; rw [show (k == k') = false by simp; omega]; exact st_apart _ _ _ _ _ ho (eq_whole_flag _ _) w
    · omega
    · omega
    · rw [e'] at ho ⊢; rw [show (k == k') = false by simp; omega]; exact st_apart _ _ _ _ _ ho (eq_whole_word _ _) w
    · rw [e'] at ho ⊢; rw [show (k == k') = false by simp; omega]; exact st_apart _ _ _ _ _ ho (eq_whole_builtin _ _) w
    · rw [e'] at ho ⊢; rw [show (k == k') = false by simp; omega]; exact st_apart _ _ _ _ _ ho (eq_whole_made _ _) w
  · rw [e] at ho ⊢
    rcases th_cases k' n' f' s' r' with ⟨g, _⟩ | ⟨_, c', e'⟩ | ⟨_, c', cc', e'⟩ | ⟨_, c', e'⟩ | ⟨_, c', e'⟩ | ⟨_, c', _, e'⟩ | ⟨_, c', _, _, e'⟩ | ⟨_, c', _, e'⟩
    · rw [h'] at g; cases g
    · rw [e'] at ho ⊢; rw [show (k == k') = false by simp; omega]; exact st_apart _ _ _ _ _ ho (eq_float_absent _ _) w
    · rw [e'] at ho ⊢; rw [show (k == k') = false by simp; omega]; exact st_apart _ _ _ _ _ ho (eq_float_flag _ _) w
    · omega
    · omega
    · rw [e'] at ho ⊢; rw [show (k == k') = false by simp; omega]; exact st_apart _ _ _ _ _ ho (eq_float_word _ _) w
    · rw [e'] at ho ⊢; rw [show (k == k') = false by simp; omega]; exact st_apart _ _ _ _ _ ho (eq_float_builtin _ _) w
    · rw [e'] at ho ⊢; rw [show (k == k') = false by simp; omega]; exact st_apart _ _ _ _ _ ho (eq_float_made _ _) w
  · rw [e] at ho ⊢
    rcases th_cases k' n' f' s' r' with ⟨g, _⟩ | ⟨_, c', e'⟩ | ⟨_, c', cc', e'⟩ | ⟨_, c', e'⟩ | ⟨_, c', e'⟩ | ⟨_, c', _, e'⟩ | ⟨_, c', _, _, e'⟩ | ⟨_, c', _, e'⟩
    · rw [h'] at g; cases g
    · rw [e'] at ho ⊢; rw [show (k == k') = false by simp; omega]; exact st_apart _ _ _ _ _ ho (eq_word_absent _ _) w
    · rw [e'] at ho ⊢; rw [show (k == k') = false by simp; omega]; exact st_apart _ _ _ _ _ ho (eq_word_flag _ _) w
    · rw [e'] at ho ⊢; rw [show (k == k') = false by simp; omega]; exact st_apart _ _ _ _ _ ho (eq_word_whole _ _) w
    · rw [e'] at ho ⊢; rw [show (k == k') = false by simp; omega]; exact st_apart _ _ _ _ _ ho (eq_word_float _ _) w
    · omega
    · rw [e'] at ho ⊢; rw [show (k == k') = false by simp; omega]; exact st_apart _ _ _ _ _ ho (eq_word_builtin _ _) w
    · rw [e'] at ho ⊢; rw [show (k == k') = false by simp; omega]; exact st_apart _ _ _ _ _ ho (eq_word_made _ _) w
  · rw [e] at ho ⊢
    rcases th_cases k' n' f' s' r' with ⟨g, _⟩ | ⟨_, c', e'⟩ | ⟨_, c', cc', e'⟩ | ⟨_, c', e'⟩ | ⟨_, c', e'⟩ | ⟨_, c', _, e'⟩ | ⟨_, c', _, _, e'⟩ | ⟨_, c', _, e'⟩
    · rw [h'] at g; cases g
    · rw [e'] at ho ⊢; rw [show (k == k') = false by simp; omega]; exact st_apart _ _ _ _ _ ho (eq_builtin_absent _ _) w
    · rw [e'] at ho ⊢; rw [show (k == k') = false by simp; omega]; exact st_apart _ _ _ _ _ ho (eq_builtin_flag _ _) w
    · rw [e'] at ho ⊢; rw [show (k == k') = false by simp; omega]; exact st_apart _ _ _ _ _ ho (eq_builtin_whole _ _) w
    · rw [e'] at ho ⊢; rw [show (k == k') = false by simp; omega]; exact st_apart _ _ _ _ _ ho (eq_builtin_float _ _) w
    · rw [e'] at ho ⊢; rw [show (k == k') = false by simp; omega]; exact st_apart _ _ _ _ _ ho (eq_builtin_word _ _) w
    · subst c c'; obtain ⟨a2, rfl⟩ := ok_blt h; obtain ⟨b2, rfl⟩ := ok_blt h'; rw [e'] at ho ⊢; rw [a2, b2, show ((8 : Int) == 8 && n == n' && ([] : List UInt8) == [] && (0 : Int) == 0) = (n == n') by simp]; exact st_apart _ _ _ _ _ ho (eq_builtin_builtin _ _) w
    · rw [e'] at ho ⊢; rw [show (k == k') = false by simp; omega]; exact st_apart _ _ _ _ _ ho (eq_builtin_made _ _) w
  · rw [e] at ho ⊢
    rcases th_cases k' n' f' s' r' with ⟨g, _⟩ | ⟨_, c', e'⟩ | ⟨_, c', cc', e'⟩ | ⟨_, c', e'⟩ | ⟨_, c', e'⟩ | ⟨_, c', _, e'⟩ | ⟨_, c', _, _, e'⟩ | ⟨_, c', _, e'⟩
    · rw [h'] at g; cases g
    · rw [e'] at ho ⊢; rw [show (k == k') = false by simp; omega]; exact st_apart _ _ _ _ _ ho (eq_made_absent _ _) w
    · rw [e'] at ho ⊢; rw [show (k == k') = false by simp; omega]; exact st_apart _ _ _ _ _ ho (eq_made_flag _ _) w
    · rw [e'] at ho ⊢; rw [show (k == k') = false by simp; omega]; exact st_apart _ _ _ _ _ ho (eq_made_whole _ _) w
    · rw [e'] at ho ⊢; rw [show (k == k') = false by simp; omega]; exact st_apart _ _ _ _ _ ho (eq_made_float _ _) w
    · rw [e'] at ho ⊢; rw [show (k == k') = false by simp; omega]; exact st_apart _ _ _ _ _ ho (eq_made_word _ _) w
    · rw [e'] at ho ⊢; rw [show (k == k') = false by simp; omega]; exact st_apart _ _ _ _ _ ho (eq_made_builtin _ _) w
    · obtain ⟨rfl, a2⟩ := ok_ref c h; obtain ⟨rfl, b2⟩ := ok_ref c' h'; rw [e'] at ho ⊢; rw [a2, b2, show (k == k' && (0 : Int) == 0 && ([] : List UInt8) == [] && r == r') = (k == k' && r == r') by simp]; exact st_apart _ _ _ _ _ ho (eq_made_made _ _ _ _) w

set_option maxRecDepth 100000 in
set_option maxHeartbeats 4000000 in
theorem implSame_calls (k n : Int) (f : Nat) (s : ByteArray) (r : Int) (k' n' : Int) (f' : Nat) (s' : ByteArray) (r' : Int) (hf : f < 2 ^ 64) (hf' : f' < 2 ^ 64) (w : World) :
    Calls Tryz.prog 26 #[vOf k n f s r, vOf k' n' f' s' r'] w fun e w' => e = .returned (.bool (smG k n f s r k' n' f' s' r')) ∧ Below w.heap.size w w' := by
  have hO : Hid (∀ w, Calls Tryz.prog 62 #[thW k n f s r, thW k' n' f' s' r'] w fun e w' => e = .returned (.bool (smG k n f s r k' n' f' s' r')) ∧ w' = w) := fun w => same_th k n f s r k' n' f' s' r' hf hf' w
  generalize smG k n f s r k' n' f' s' r' = c at *
  clear hf hf'
  have hB : Below w.heap.size w w := Below.refl _ _
  go_enter Tryz.func26, Tryz.ntmps26
  go_wp2_with fail
  go_region_with (first | (go_at_call 50; refine (th_calls _ _ _ _ _ _).mono ?_; rintro e w2 ⟨rfl, hb2⟩; obtain ⟨hc2, hf2⟩ := bcell hb2; (first | replace hB := below_call hB hb2 | replace hB := below_call (below_a hB _) hb2 | replace hB := below_call (below_a (below_a hB _) _) hb2 | replace hB := below_call hB.drew hb2 | replace hB := below_call (below_a hB _).drew hb2 | replace hB := below_call (below_a (below_a hB _) _).drew hb2 | replace hB := below_call hB.drew.drew hb2 | replace hB := below_call (below_a hB _).drew.drew hb2 | replace hB := below_call (below_a (below_a hB _) _).drew.drew hb2 | replace hB := below_call hB.drew.drew.drew hb2 | replace hB := below_call (below_a hB _).drew.drew.drew hb2 | replace hB := below_call (below_a (below_a hB _) _).drew.drew.drew hb2 | replace hB := below_call hB.drew.drew.drew.drew hb2 | replace hB := below_call (below_a hB _).drew.drew.drew.drew hb2 | replace hB := below_call (below_a (below_a hB _) _).drew.drew.drew.drew hb2 | replace hB := below_call hB.drew.drew.drew.drew.drew hb2 | replace hB := below_call (below_a hB _).drew.drew.drew.drew.drew hb2 | replace hB := below_call (below_a (below_a hB _) _).drew.drew.drew.drew.drew hb2); clear hb2) | (go_at_call 62; refine (hO.out _).mono ?_; rintro e w2 ⟨rfl, rfl⟩))
  all_goals go_wp2
  all_goals go_ret
  all_goals exact ⟨rfl, by first | exact hB | exact hB.drew | exact hB.drew.drew | exact hB.drew.drew.drew | exact hB.drew.drew.drew.drew⟩
end Go.Proofs.YtiidepafifodjabGreat
