import Derived.Test.YtiidepafifodjabCompare
import Derived.Laws.StructEq
/-! impl.sameThing, impl.Same. -/
namespace Go.Proofs.Ytiidepafifodjab
open Go.RowKit

theorem run_eql_iface_agg {P : Program} (w : World) {t tx : TypeId} {ms : Array (String × TypeId)} (xs ys : Array Value)
    (ht : P.underlying t = some (.interface ms)) (hc : (P.info? tx).map (·.comparable) = some true) (hx : P.underlying tx = some (.struct (P.fieldsOf tx))) (hp : P.stoodInHeld tx = false) :
    (binOp .eql t (.iface tx (.agg xs)) (.iface tx (.agg ys))).run P w = ((Op.eqFields 9998 xs ys (P.fieldsOf tx).toList).run P w).andThen fun b w' => .ok (.bool b) w' := by
  cases hi : P.info? tx with
  | none => simp [hi] at hc
  | some i =>
    have hcc : i.comparable = true := by simpa [hi] using hc
    have h : ∀ d : Nat, (Op.equalIn (d + 1) t (.iface tx (.agg xs)) (.iface tx (.agg ys))).run P w = (Op.equalIn d tx (.agg xs) (.agg ys)).run P w := fun d => by
      simp [Op.equalIn, run_underlying ht, typeInfo, hi, hcc]
    rw [← run_equalIn_agg w 9998 tx xs ys hx hp, ← h 9999]
    simp only [binOp]
    simp [Op.equal, Op.maxDepth]
theorem made_und : Try.prog.underlying 106 = some (.struct (Try.prog.fieldsOf 106)) := by kernel_rfl
theorem made_not : Try.prog.stoodInHeld 106 = false := by kernel_rfl
theorem made_cmp : (Try.prog.info? 106).map (·.comparable) = some true := by kernel_rfl
theorem eq_made_made (k k' a b : Int) (w : World) : (binOp .eql 72 (.iface 106 (.agg #[.int .i64 k, .int .i64 a])) (.iface 106 (.agg #[.int .i64 k', .int .i64 b]))).run Try.prog w = .ok (.bool (k == k' && a == b)) w := by
  rw [run_eql_iface_agg w _ _ Try.underlying72 made_cmp made_und made_not]
  simp only [Program.fieldsOf, Try.underlying106]
  have p0 : ∀ (x y : Value) (w : World), (part 3 #[x, y] 0).run Try.prog w = .ok x w := fun _ _ _ => by kernel_rfl
  have p1 : ∀ (x y : Value) (w : World), (part 3 #[x, y] 1).run Try.prog w = .ok y w := fun _ _ _ => by kernel_rfl
  have q := fun (a b : Int) (w : World) => run_equalIn_int (P := Try.prog) w 9997 3 .i64 .i64 a b Try.underlying3
  cases hk : (k == k')
  · simp [Op.eqFields, p0, q, hk]
  · by_cases h : a = b <;> simp [Op.eqFields, p0, p1, q, hk, h]

theorem eq_absent_flag (x y : Value) (w : World) : (binOp .eql 72 (.iface 99 x) (.iface 102 y)).run Try.prog w = .ok (.bool false) w := by kernel_rfl
theorem eq_absent_whole (x y : Value) (w : World) : (binOp .eql 72 (.iface 99 x) (.iface 103 y)).run Try.prog w = .ok (.bool false) w := by kernel_rfl
theorem eq_absent_float (x y : Value) (w : World) : (binOp .eql 72 (.iface 99 x) (.iface 100 y)).run Try.prog w = .ok (.bool false) w := by kernel_rfl
theorem eq_absent_word (x y : Value) (w : World) : (binOp .eql 72 (.iface 99 x) (.iface 104 y)).run Try.prog w = .ok (.bool false) w := by kernel_rfl
theorem eq_absent_builtin (x y : Value) (w : World) : (binOp .eql 72 (.iface 99 x) (.iface 107 y)).run Try.prog w = .ok (.bool false) w := by kernel_rfl
theorem eq_absent_made (x y : Value) (w : World) : (binOp .eql 72 (.iface 99 x) (.iface 106 y)).run Try.prog w = .ok (.bool false) w := by kernel_rfl
theorem eq_flag_absent (x y : Value) (w : World) : (binOp .eql 72 (.iface 102 x) (.iface 99 y)).run Try.prog w = .ok (.bool false) w := by kernel_rfl
theorem eq_flag_whole (x y : Value) (w : World) : (binOp .eql 72 (.iface 102 x) (.iface 103 y)).run Try.prog w = .ok (.bool false) w := by kernel_rfl
theorem eq_flag_float (x y : Value) (w : World) : (binOp .eql 72 (.iface 102 x) (.iface 100 y)).run Try.prog w = .ok (.bool false) w := by kernel_rfl
theorem eq_flag_word (x y : Value) (w : World) : (binOp .eql 72 (.iface 102 x) (.iface 104 y)).run Try.prog w = .ok (.bool false) w := by kernel_rfl
theorem eq_flag_builtin (x y : Value) (w : World) : (binOp .eql 72 (.iface 102 x) (.iface 107 y)).run Try.prog w = .ok (.bool false) w := by kernel_rfl
theorem eq_flag_made (x y : Value) (w : World) : (binOp .eql 72 (.iface 102 x) (.iface 106 y)).run Try.prog w = .ok (.bool false) w := by kernel_rfl
theorem eq_whole_absent (x y : Value) (w : World) : (binOp .eql 72 (.iface 103 x) (.iface 99 y)).run Try.prog w = .ok (.bool false) w := by kernel_rfl
theorem eq_whole_flag (x y : Value) (w : World) : (binOp .eql 72 (.iface 103 x) (.iface 102 y)).run Try.prog w = .ok (.bool false) w := by kernel_rfl
theorem eq_whole_float (x y : Value) (w : World) : (binOp .eql 72 (.iface 103 x) (.iface 100 y)).run Try.prog w = .ok (.bool false) w := by kernel_rfl
theorem eq_whole_word (x y : Value) (w : World) : (binOp .eql 72 (.iface 103 x) (.iface 104 y)).run Try.prog w = .ok (.bool false) w := by kernel_rfl
theorem eq_whole_builtin (x y : Value) (w : World) : (binOp .eql 72 (.iface 103 x) (.iface 107 y)).run Try.prog w = .ok (.bool false) w := by kernel_rfl
theorem eq_whole_made (x y : Value) (w : World) : (binOp .eql 72 (.iface 103 x) (.iface 106 y)).run Try.prog w = .ok (.bool false) w := by kernel_rfl
theorem eq_float_absent (x y : Value) (w : World) : (binOp .eql 72 (.iface 100 x) (.iface 99 y)).run Try.prog w = .ok (.bool false) w := by kernel_rfl
theorem eq_float_flag (x y : Value) (w : World) : (binOp .eql 72 (.iface 100 x) (.iface 102 y)).run Try.prog w = .ok (.bool false) w := by kernel_rfl
theorem eq_float_whole (x y : Value) (w : World) : (binOp .eql 72 (.iface 100 x) (.iface 103 y)).run Try.prog w = .ok (.bool false) w := by kernel_rfl
theorem eq_float_word (x y : Value) (w : World) : (binOp .eql 72 (.iface 100 x) (.iface 104 y)).run Try.prog w = .ok (.bool false) w := by kernel_rfl
theorem eq_float_builtin (x y : Value) (w : World) : (binOp .eql 72 (.iface 100 x) (.iface 107 y)).run Try.prog w = .ok (.bool false) w := by kernel_rfl
theorem eq_float_made (x y : Value) (w : World) : (binOp .eql 72 (.iface 100 x) (.iface 106 y)).run Try.prog w = .ok (.bool false) w := by kernel_rfl
theorem eq_word_absent (x y : Value) (w : World) : (binOp .eql 72 (.iface 104 x) (.iface 99 y)).run Try.prog w = .ok (.bool false) w := by kernel_rfl
theorem eq_word_flag (x y : Value) (w : World) : (binOp .eql 72 (.iface 104 x) (.iface 102 y)).run Try.prog w = .ok (.bool false) w := by kernel_rfl
theorem eq_word_whole (x y : Value) (w : World) : (binOp .eql 72 (.iface 104 x) (.iface 103 y)).run Try.prog w = .ok (.bool false) w := by kernel_rfl
theorem eq_word_float (x y : Value) (w : World) : (binOp .eql 72 (.iface 104 x) (.iface 100 y)).run Try.prog w = .ok (.bool false) w := by kernel_rfl
theorem eq_word_builtin (x y : Value) (w : World) : (binOp .eql 72 (.iface 104 x) (.iface 107 y)).run Try.prog w = .ok (.bool false) w := by kernel_rfl
theorem eq_word_made (x y : Value) (w : World) : (binOp .eql 72 (.iface 104 x) (.iface 106 y)).run Try.prog w = .ok (.bool false) w := by kernel_rfl
theorem eq_builtin_absent (x y : Value) (w : World) : (binOp .eql 72 (.iface 107 x) (.iface 99 y)).run Try.prog w = .ok (.bool false) w := by kernel_rfl
theorem eq_builtin_flag (x y : Value) (w : World) : (binOp .eql 72 (.iface 107 x) (.iface 102 y)).run Try.prog w = .ok (.bool false) w := by kernel_rfl
theorem eq_builtin_whole (x y : Value) (w : World) : (binOp .eql 72 (.iface 107 x) (.iface 103 y)).run Try.prog w = .ok (.bool false) w := by kernel_rfl
theorem eq_builtin_float (x y : Value) (w : World) : (binOp .eql 72 (.iface 107 x) (.iface 100 y)).run Try.prog w = .ok (.bool false) w := by kernel_rfl
theorem eq_builtin_word (x y : Value) (w : World) : (binOp .eql 72 (.iface 107 x) (.iface 104 y)).run Try.prog w = .ok (.bool false) w := by kernel_rfl
theorem eq_builtin_made (x y : Value) (w : World) : (binOp .eql 72 (.iface 107 x) (.iface 106 y)).run Try.prog w = .ok (.bool false) w := by kernel_rfl
theorem eq_made_absent (x y : Value) (w : World) : (binOp .eql 72 (.iface 106 x) (.iface 99 y)).run Try.prog w = .ok (.bool false) w := by kernel_rfl
theorem eq_made_flag (x y : Value) (w : World) : (binOp .eql 72 (.iface 106 x) (.iface 102 y)).run Try.prog w = .ok (.bool false) w := by kernel_rfl
theorem eq_made_whole (x y : Value) (w : World) : (binOp .eql 72 (.iface 106 x) (.iface 103 y)).run Try.prog w = .ok (.bool false) w := by kernel_rfl
theorem eq_made_float (x y : Value) (w : World) : (binOp .eql 72 (.iface 106 x) (.iface 100 y)).run Try.prog w = .ok (.bool false) w := by kernel_rfl
theorem eq_made_word (x y : Value) (w : World) : (binOp .eql 72 (.iface 106 x) (.iface 104 y)).run Try.prog w = .ok (.bool false) w := by kernel_rfl
theorem eq_made_builtin (x y : Value) (w : World) : (binOp .eql 72 (.iface 106 x) (.iface 107 y)).run Try.prog w = .ok (.bool false) w := by kernel_rfl
theorem eq_absent_absent (w : World) : (binOp .eql 72 (.iface 99 (.agg #[])) (.iface 99 (.agg #[]))).run Try.prog w = .ok (.bool true) w := by kernel_rfl
theorem eq_flag_flag (a b : Bool) (w : World) : (binOp .eql 72 (.iface 102 (.bool a)) (.iface 102 (.bool b))).run Try.prog w = .ok (.bool (a == b)) w := by kernel_rfl
theorem eq_builtin_builtin (a b : Int) (w : World) : (binOp .eql 72 (.iface 107 (.int .i64 a)) (.iface 107 (.int .i64 b))).run Try.prog w = .ok (.bool (a == b)) w := by kernel_rfl

def smG (k n : Int) (f : Nat) (s : ByteArray) (r : Int) (k' n' : Int) (f' : Nat) (s' : ByteArray) (r' : Int) : Bool :=
  if okB k n f s r = false ∨ okB k' n' f' s' r' = false then false
  else if (k = 2 ∨ k = 3) ∧ (k' = 2 ∨ k' = 3) then cmG k n f s r k' n' f' s' r' == 0
  else k == k' && n == n' && s.toList == s'.toList && r == r'

theorem cb_zero : ∀ (a b : List UInt8), (Lib.compareBytes a b == 0) = (a == b)
  | [], [] => rfl
  | [], _ :: _ => rfl
  | _ :: _, [] => rfl
  | x :: a, y :: b => by
    unfold Lib.compareBytes
    by_cases h1 : x < y
    · have : ¬ x = y := by intro h; subst h; exact UInt8.lt_irrefl x h1
      simp [h1, this]
    · by_cases h2 : y < x
      · have : ¬ x = y := by intro h; subst h; exact UInt8.lt_irrefl x h2
        simp [h1, h2, this]
      · have e : x = y := by
          have a1 : y ≤ x := UInt8.not_lt.1 h1
          have a2 : x ≤ y := UInt8.not_lt.1 h2
          exact UInt8.le_antisymm a2 a1
        subst e
        simp only [h1, if_false]
        rw [cb_zero a b]
        simp
theorem cb_rng : ∀ (a b : List UInt8), Lib.compareBytes a b ≠ 3
  | [], [] => by decide
  | [], _ :: _ => by simp [Lib.compareBytes]
  | _ :: _, [] => by simp [Lib.compareBytes]
  | x :: a, y :: b => by
    unfold Lib.compareBytes
    split
    · decide
    · split
      · decide
      · exact cb_rng a b

theorem ue_of_ok {k n : Int} {f : Nat} {s : ByteArray} {r : Int} (h : okB k n f s r = true) : ueB k n f s r = true := by simp only [okB, Bool.and_eq_true] at h; exact h.1

/-- what is not used is empty, kind by kind -/
theorem ok_nil {n : Int} {f : Nat} {s : ByteArray} {r : Int} (h : okB 0 n f s r = true) : n = 0 ∧ s.toList = [] ∧ r = 0 := by
  have := ue_of_ok h
  simp [ueB, se] at this
  exact ⟨this.1.1.1, this.1.2, this.2⟩
theorem ok_bool {n : Int} {f : Nat} {s : ByteArray} {r : Int} (h : okB 1 n f s r = true) : s.toList = [] ∧ r = 0 := by
  have := ue_of_ok h
  simp [ueB, se] at this
  exact ⟨this.1.2, this.2⟩
theorem ok_blt {n : Int} {f : Nat} {s : ByteArray} {r : Int} (h : okB 8 n f s r = true) : s.toList = [] ∧ r = 0 := by
  have := ue_of_ok h
  simp [ueB, se] at this
  exact ⟨this.1.2, this.2⟩
theorem ok_str {n : Int} {f : Nat} {s : ByteArray} {r : Int} (h : okB 4 n f s r = true) : n = 0 ∧ r = 0 := by
  have := ue_of_ok h
  simp [ueB] at this
  exact ⟨this.1.1, this.2⟩
theorem ok_ref {k n : Int} {f : Nat} {s : ByteArray} {r : Int} (c : k = 5 ∨ k = 6 ∨ k = 7) (h : okB k n f s r = true) : n = 0 ∧ s.toList = [] := by
  have := ue_of_ok h
  rcases c with c | c | c <;> subst c <;> simp [ueB, se] at this <;> exact ⟨this.1.1, this.2⟩

theorem cmG_num (k n : Int) (f : Nat) (s : ByteArray) (r : Int) (k' n' : Int) (f' : Nat) (s' : ByteArray) (r' : Int) (h : okB k n f s r = true) (h' : okB k' n' f' s' r' = true) (c : k = 2 ∨ k = 3) (c' : k' = 2 ∨ k' = 3) : cmG k n f s r k' n' f' s' r' ≠ 3 := by
  unfold cmG
  rw [if_neg (by rw [h, h']; decide), if_neg (by omega)]
  have e1 : ∀ a b : Int, cmpI a b ≠ 3 := by intro a b; unfold cmpI; (repeat' split) <;> decide
  have e2 : ∀ a b, mixG a b ≠ 3 := by
    intro a b; unfold mixG; split
    · decide
    · rcases cmpIF_rng a b with h | h | h <;> rw [h] <;> decide
  have e3 : ∀ a b, mixR a b ≠ 3 := by
    intro a b; unfold mixR; split
    · decide
    · rcases cmpIF_rng a b with h | h | h <;> rw [h] <;> decide
  have e4 : ∀ a b, fltG a b ≠ 3 := by
    intro a b; unfold fltG; split
    · decide
    · unfold cmpF; (repeat' split) <;> decide
  rcases c with c | c <;> rcases c' with c' | c'
  · rw [if_pos ⟨c, c'⟩]; exact e1 _ _
  · rw [if_neg (by omega), if_pos ⟨c, c'⟩]; exact e2 _ _
  · rw [if_neg (by omega), if_neg (by omega), if_pos ⟨c, c'⟩]; exact e3 _ _
  · rw [if_neg (by omega), if_neg (by omega), if_neg (by omega), if_pos ⟨c, c'⟩]; exact e4 _ _

theorem cmG_apart (k n : Int) (f : Nat) (s : ByteArray) (r : Int) (k' n' : Int) (f' : Nat) (s' : ByteArray) (r' : Int) (h : okB k n f s r = true) (h' : okB k' n' f' s' r' = true) (c : ¬ ((k = 2 ∨ k = 3) ∧ (k' = 2 ∨ k' = 3))) (c4 : ¬ (k = 4 ∧ k' = 4)) : cmG k n f s r k' n' f' s' r' = 3 := by
  unfold cmG
  rw [if_neg (by rw [h, h']; decide), if_neg c4, if_neg (by omega), if_neg (by omega), if_neg (by omega), if_neg (by omega)]

end Go.Proofs.Ytiidepafifodjab
