import Derived.Test.YtiidepafifodjabGreatDrwB
import Derived.Test.YtiidepafifodjabGreatFloor
/-! The draws: floats. -/
namespace Go.Proofs.YtiidepafifodjabGreat
open Go.RowKit

/-- a float that is a number or an infinity -/
def NN (f : Nat) : Prop := f < 2 ^ 64 ∧ ((∃ s m i, Ieee.double.read f = .number s m i) ∨ ∃ s, Ieee.double.read f = .infinity s)
theorem nn_word (s : Bool) {r : Nat} (h : r ≤ 2047 * 2 ^ 52) : NN (Ieee.double.word s r) := by
  have h63 : r < 2 ^ 63 := by omega
  refine ⟨Ieee.double.word_lt s (by rw [Fl.sw]; exact h63), ?_⟩
  rw [Fl.read_word s h63]
  split
  · exact .inl ⟨_, _, _, rfl⟩
  · split
    · exact .inl ⟨_, _, _, rfl⟩
    · rw [if_pos (by omega)]
      exact .inr ⟨_, rfl⟩
theorem nn_write {d : Ieee.Datum} (h : ∀ s t, d ≠ .nan s t) : NN (Ieee.double.write d) := by
  cases d with
  | number s m i =>
    show NN (Ieee.double.nearest s m i)
    unfold Ieee.Format.nearest
    dsimp only
    split
    · exact nn_word s (Nat.zero_le _)
    · exact nn_word s (by rw [← Fl.infR]; exact Nat.min_le_right _ _)
  | infinity s => exact nn_word s (by rw [← Fl.infR]; exact Nat.le_refl _)
  | nan s t => exact absurd rfl (h s t)
theorem nn_mul {x c : Nat} {s : Bool} {m : Nat} {i : Int} (hx : NN x) (hc : Ieee.double.read c = .number s m i) (hm : m ≠ 0) : ∃ r, floatBits .mul .f64 x c = some r ∧ NN r := by
  show ∃ r, Ieee.double.mul x c = some r ∧ NN r
  unfold Ieee.Format.mul
  rw [hc]
  rcases hx.2 with ⟨s', m', i', h⟩ | ⟨s', h⟩
  · rw [h]
    exact ⟨_, rfl, nn_write fun _ _ e => by cases e⟩
  · rw [h]
    refine ⟨Ieee.double.write (Ieee.Datum.infinity (s' ^^ s)), ?_, nn_write fun _ _ e => by cases e⟩
    show Option.map _ (if m = 0 then none else some (Ieee.Datum.infinity (s' ^^ s))) = _
    rw [if_neg hm]
    rfl
theorem nn_sub {x c : Nat} {s : Bool} {m : Nat} {i : Int} (hx : NN x) (hc : Ieee.double.read c = .number s m i) : ∃ r, floatBits .sub .f64 x c = some r ∧ NN r := by
  show ∃ r, Ieee.double.sub x c = some r ∧ NN r
  unfold Ieee.Format.sub
  rw [hc]
  rcases hx.2 with ⟨s', m', i', h⟩ | ⟨s', h⟩
  · rw [h]
    exact ⟨_, rfl, nn_write fun _ _ e => by cases e⟩
  · rw [h]
    exact ⟨_, rfl, nn_write fun _ _ e => by cases e⟩
theorem nn_int (n : Int) : NN (floatOfInt .f64 n) := nn_write (d := .number (n < 0) n.natAbs 0) fun _ _ e => by cases e
theorem nn_zero : NN 0 := ⟨by decide, .inl ⟨false, 0, -1074, by decide +kernel⟩⟩
theorem q_half : Ieee.double.read 4602678819172646912 = .number false 4503599627370496 (-53) := by decide +kernel
theorem q_two : Ieee.double.read 4611686018427387904 = .number false 4503599627370496 (-51) := by decide +kernel
theorem q_five : Ieee.double.read 4647512505306841088 = .number false 8804889115230208 (-44) := by decide +kernel
theorem q_quart : Ieee.double.read 4598175219545276416 = .number false 4503599627370496 (-54) := by decide +kernel
theorem q_four : Ieee.double.read 4616189618054758400 = .number false 4503599627370496 (-50) := by decide +kernel
theorem q1 : floatBits .quo .f64 4607182418800017408 0 = some 9218868437227405312 := by decide +kernel
theorem q2 : floatBits .quo .f64 13830554455654793216 9218868437227405312 = some 9223372036854775808 := by decide +kernel
theorem q3 : floatBits .mul .f64 9223372036854775808 4607182418800017408 = some 9223372036854775808 := by decide +kernel
theorem q4 : floatBits .quo .f64 13830554455654793216 0 = some 18442240474082181120 := by decide +kernel
theorem q5 (P : Program) (w : World) (t : TypeId) : ∃ f : Nat, f < 2 ^ 64 ∧ (binOp .quo t (.float .f64 0) (.float .f64 0)).run P w = .ok (.float .f64 f) w.drew := by
  have h : FloatKind.f64.format.div 0 0 = none := by decide +kernel
  refine ⟨(Question.nanBits .f64 0 0).cut (w.tape w.drawn (.nanBits .f64 0 0)), ?_, ?_⟩
  · unfold Question.cut
    dsimp only
    omega
  · simp [binOp, Op.floatArith, h, Question.forced]

attribute [local go_sem ↓] Go.wp_at_zero Go.wp_at_succ
set_option maxRecDepth 100000 in
set_option maxHeartbeats 4000000 in
theorem real_calls (B : Nat) (a : Option Addr) (len cap A : Nat) (w : World) (hA : A < 700000) (h : CU B a len cap A w) :
    Calls Tryz.prog 189 #[.pointer (some ⟨B, 0, none⟩)] w fun e w' => (∃ f : Nat, e = .returned (.float .f64 f) ∧ f < 2 ^ 64) ∧ CU B a len cap (A + 6) w' ∧ w.grownBy w' (some B) := by
  have HC : Hid (CU B a len cap A w) := h
  have HG : Hid (w.grownBy w (some B)) := gby_refl _ _
  clear h
  go_enter Tryz.func189, Tryz.ntmps189
  go_upto_region 3 with (go_at_call 187; refine (pick_calls B a len cap _ _ _ (by omega) (by omega) (by omega) HC.out).mono ?_; rintro e w1 ⟨⟨v, rfl, v0, v1⟩, hc, hg⟩; have HC' : Hid (CU B a len cap _ _) := hc; have HG' : Hid (World.grownBy _ _ _) := gby_trans HG.out hg; clear hc hg HC HG; have HC : Hid (CU B a len cap _ _) := HC'.out; have HG : Hid (World.grownBy _ _ _) := HG'.out; clear HC' HG')
  rcases (show v = 0 ∨ v = 1 ∨ v = 2 ∨ v = 3 ∨ v = 4 ∨ v = 5 ∨ v = 6 ∨ v = 7 ∨ 8 ≤ v by omega) with rfl | rfl | rfl | rfl | rfl | rfl | rfl | rfl | h8
  · skip
    go_wp2_with fail
    go_ret
    exact ⟨⟨_, rfl, by decide⟩, HC.out.mono (by omega), HG.out⟩
  · skip
    have r1 := run_float_arith (P := Tryz.prog) w1 .quo 42 .f64 _ _ _ q1
    have r2 := run_float_arith (P := Tryz.prog) w1 .quo 42 .f64 _ _ _ q2
    have r3 := run_float_arith (P := Tryz.prog) w1 .mul 42 .f64 _ _ _ q3
    go_wp2_with fail
    go_ret
    exact ⟨⟨_, rfl, by decide⟩, HC.out.mono (by omega), HG.out⟩
  · skip
    have r1 := run_float_arith (P := Tryz.prog) w1 .quo 42 .f64 _ _ _ q1
    go_wp2_with fail
    go_ret
    exact ⟨⟨_, rfl, by decide⟩, HC.out.mono (by omega), HG.out⟩
  · skip
    have r1 := run_float_arith (P := Tryz.prog) w1 .quo 42 .f64 _ _ _ q4
    go_wp2_with fail
    go_ret
    exact ⟨⟨_, rfl, by decide⟩, HC.out.mono (by omega), HG.out⟩
  · obtain ⟨f, hf, hr⟩ := q5 Tryz.prog w1 42
    go_wp2_with fail
    go_ret
    exact ⟨⟨_, rfl, hf⟩, HC.out.drew.mono (by omega), gby_drew HG.out⟩
  · go_wp2_with fail
    refine (whole_calls B a len cap _ _ (by omega) HC.out).mono ?_
    rintro e w2 ⟨⟨n, rfl, hn⟩, hc, hg⟩
    have HG2 : Hid (w.grownBy w2 (some B)) := gby_trans HG.out hg
    have HC2 : Hid (CU B a len cap _ w2) := hc
    clear hc hg
    go_wp2_with fail
    go_ret
    exact ⟨⟨_, rfl, (nn_int n).1⟩, HC2.out.mono (by omega), HG2.out⟩
  · go_wp2_with (go_at_call 187; refine (pick_calls B a len cap _ _ _ (by omega) (by omega) (by omega) HC.out).mono ?_; rintro e w1 ⟨⟨v, rfl, v0, v1⟩, hc, hg⟩; have HC' : Hid (CU B a len cap _ _) := hc; have HG' : Hid (World.grownBy _ _ _) := gby_trans HG.out hg; clear hc hg HC HG; have HC : Hid (CU B a len cap _ _) := HC'.out; have HG : Hid (World.grownBy _ _ _) := HG'.out; clear HC' HG')
    go_loopw [4, 5] (fun x y wx => ∃ (f : Nat) (k : Int), NN f ∧ x = .float .f64 f ∧ y = .int .i64 k ∧ k ≤ 2000 ∧ wx = w1) (fun _ y _ => (intOf y).toNat)
    case atStart => exact ⟨_, _, nn_int _, rfl, rfl, by omega, rfl⟩
    case round =>
      obtain ⟨f, k, hf, rfl, rfl, hk, rfl⟩ := hrel
      by_cases hk0 : 0 < k
      · obtain ⟨g, hg, hgn⟩ := nn_mul hf q_half (by decide)
        have r1 := run_float_arith (P := Tryz.prog) wr .mul 42 .f64 _ _ _ hg
        go_wp2_with fail
        clear r1
        go_roundw
        case rel => exact ⟨g, _, hgn, rfl, rfl, by omega, trivial⟩
        case measure => simp [intOf]; omega
      · go_wp2_with fail
        go_ret
        exact ⟨⟨_, rfl, hf.1⟩, HC.out.mono (by omega), HG.out⟩
  · go_upto_region 24 with (go_at_call 187; refine (pick_calls B a len cap _ _ _ (by omega) (by omega) (by omega) HC.out).mono ?_; rintro e w1 ⟨⟨v, rfl, v0, v1⟩, hc, hg⟩; have HC' : Hid (CU B a len cap _ _) := hc; have HG' : Hid (World.grownBy _ _ _) := gby_trans HG.out hg; clear hc hg HC HG; have HC : Hid (CU B a len cap _ _) := HC'.out; have HG : Hid (World.grownBy _ _ _) := HG'.out; clear HC' HG'; obtain ⟨g, hg, hgn⟩ := nn_sub (nn_int v) q_five; have r1 := run_float_arith (P := Tryz.prog) w1 .sub 42 .f64 _ _ _ hg)
    clear r1 hg
    go_wp2_with (go_at_call 187; refine (pick_calls B a len cap _ _ _ (by omega) (by omega) (by omega) HC.out).mono ?_; rintro e w1 ⟨⟨v, rfl, v0, v1⟩, hc, hg⟩; have HC' : Hid (CU B a len cap _ _) := hc; have HG' : Hid (World.grownBy _ _ _) := gby_trans HG.out hg; clear hc hg HC HG; have HC : Hid (CU B a len cap _ _) := HC'.out; have HG : Hid (World.grownBy _ _ _) := HG'.out; clear HC' HG')
    go_loopw [6, 7] (fun x y wx => ∃ (f : Nat) (k : Int), NN f ∧ x = .float .f64 f ∧ y = .int .i64 k ∧ k ≤ 2000 ∧ wx = w1) (fun _ y _ => (intOf y).toNat)
    case atStart => exact ⟨_, _, hgn, rfl, rfl, by omega, rfl⟩
    case round =>
      obtain ⟨f, k, hf, rfl, rfl, hk, rfl⟩ := hrel
      by_cases hk0 : 0 < k
      · obtain ⟨g, hg, hgn⟩ := nn_mul hf q_two (by decide)
        have r1 := run_float_arith (P := Tryz.prog) wr .mul 42 .f64 _ _ _ hg
        go_wp2_with fail
        clear r1
        go_roundw
        case rel => exact ⟨g, _, hgn, rfl, rfl, by omega, trivial⟩
        case measure => simp [intOf]; omega
      · go_wp2_with fail
        go_ret
        exact ⟨⟨_, rfl, hf.1⟩, HC.out.mono (by omega), HG.out⟩
  · go_upto_region 29 with fail
    go_wp2_with (go_at_call 187; refine (pick_calls B a len cap _ _ _ (by omega) (by omega) (by omega) HC.out).mono ?_; rintro e w1 ⟨⟨v, rfl, v0, v1⟩, hc, hg⟩; have HC' : Hid (CU B a len cap _ _) := hc; have HG' : Hid (World.grownBy _ _ _) := gby_trans HG.out hg; clear hc hg HC HG; have HC : Hid (CU B a len cap _ _) := HC'.out; have HG : Hid (World.grownBy _ _ _) := HG'.out; clear HC' HG'; obtain ⟨g, hg, hgn⟩ := nn_mul (nn_int v) q_quart (by decide); have r1 := run_float_arith (P := Tryz.prog) w1 .mul 42 .f64 _ _ _ hg; obtain ⟨g2, hg2, hgn2⟩ := nn_sub hgn q_four; have r2 := run_float_arith (P := Tryz.prog) w1 .sub 42 .f64 _ _ _ hg2)
    go_ret
    exact ⟨⟨_, rfl, hgn2.1⟩, HC.out.mono (by omega), HG.out⟩
end Go.Proofs.YtiidepafifodjabGreat
