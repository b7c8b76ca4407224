import Derived.Test.YtiidepafifodjabInB
/-! Inputs: the program's own check. -/
namespace Go.Proofs.Ytiidepafifodjab
open Go.RowKit
attribute [local go_sem] run_store_float
attribute [local go_sem ↓] Go.wp_at_zero Go.wp_at_succ

def bwB (i l m : Int) : Bool := decide (l ≤ i) && decide (i ≤ m)
set_option maxRecDepth 100000 in
set_option maxHeartbeats 2000000 in
theorem btw_calls (i l m : Int) (w : World) : Calls Try.prog 61 #[.int .i64 i, .int .i64 l, .int .i64 m] w fun e w' => e = .returned (.bool (bwB i l m)) ∧ w' = w := by
  go_enter Try.func61, Try.ntmps61
  go_wp2_with fail
  all_goals go_ret
  all_goals exact ⟨by simp [bwB, *] <;> (intros; omega), rfl⟩
set_option maxRecDepth 100000 in
set_option maxHeartbeats 2000000 in
theorem tooLong_calls (s : ByteArray) (w : World) : Calls Try.prog 60 #[.string s] w fun e w' => e = .returned (.bool (decide (4000 < s.size))) ∧ w' = w := by
  go_enter Try.func60, Try.ntmps60
  go_wp2_with fail
  go_ret
  exact ⟨by simp; omega, rfl⟩
def LongAt (n : Nat) (q : Nat → ByteArray) (r : Int) : Prop := (r = -1 ∧ ∀ i, i < n → (q i).size ≤ 4000) ∨ ∃ i : Nat, r = i ∧ i < n ∧ 4000 < (q i).size
set_option maxRecDepth 100000 in
set_option maxHeartbeats 4000000 in
theorem indexF_calls (L : Nat) (a : Option Addr) (n cap : Nat) (q : Nat → ByteArray) (w : World) (hn : n ≤ 1048576) (hT : StrAt L w a n q) :
    Calls Try.prog 82 #[.slice a n cap, .func (.func 60) #[] #[]] w fun e w' => (∃ r, e = .returned (.int .i64 r) ∧ LongAt n q r) ∧ w' = w := by
  have HT : Hid (StrAt L w a n q) := hT
  clear hT
  go_enter Try.func82, Try.ntmps82
  go_wp2_with fail
  go_loopw [8] (fun i wr => ∃ (k : Nat), k ≤ n ∧ i = .int .i64 k ∧ Hid (∀ j, j < k → (q j).size ≤ 4000) ∧ wr = w) (fun i _ => n - (intOf i).toNat)
  case atStart => exact ⟨0, Nat.zero_le _, rfl, fun j hj => by omega, rfl⟩
  case round =>
    obtain ⟨k, hk, rfl, HK, rfl⟩ := hrel
    by_cases hkn : k < n
    · obtain ⟨b, off, rfl, _, hb, d0⟩ := cells1 HT.out hkn
      by_cases c3 : 4000 < (q k).size
      · go_wp2_with (go_at_call 60; refine (tooLong_calls _ _).mono ?_; rw [decide_eq_true c3]; rintro e w1 ⟨rfl, rfl⟩)
        go_ret
        exact ⟨⟨_, rfl, .inr ⟨k, rfl, hkn, c3⟩⟩, rfl⟩
      · go_wp2_with (go_at_call 60; refine (tooLong_calls _ _).mono ?_; rw [decide_eq_false c3]; rintro e w1 ⟨rfl, rfl⟩)
        go_roundw
        case rel => exact ⟨k + 1, by omega, by go_num, fun j hj => by
          by_cases e : j = k
          · subst e; omega
          · exact HK.out j (by omega), by first | rfl | trivial⟩
        case measure => simp [intOf]; omega
    · go_wp2_with fail
      go_ret
      exact ⟨⟨_, rfl, .inl ⟨rfl, fun i hi => HK.out i (by omega)⟩⟩, rfl⟩
def ContSays (n : Nat) (q : Nat → ByteArray) (e : Ending) : Prop := ∃ b, e = .returned (.bool b) ∧ (b = false ↔ ∀ i, i < n → (q i).size ≤ 4000)
set_option maxRecDepth 100000 in
set_option maxHeartbeats 4000000 in
theorem containsF_calls (L : Nat) (a : Option Addr) (n cap : Nat) (q : Nat → ByteArray) (w : World) (hn : n ≤ 1048576) (hT : StrAt L w a n q) :
    Calls Try.prog 59 #[.slice a n cap, .func (.func 60) #[] #[]] w fun e w' => ContSays n q e ∧ w' = w := by
  have HT : Hid (StrAt L w a n q) := hT
  clear hT
  go_enter Try.func59, Try.ntmps59
  go_wp2_with (go_at_call 82; refine (indexF_calls L a n cap q _ hn HT.out).mono ?_; rintro e w1 ⟨⟨r, rfl, hr⟩, rfl⟩; have HR : Hid (LongAt n q r) := hr; clear hr)
  go_ret
  refine ⟨⟨_, rfl, ?_⟩, rfl⟩
  rcases HR.out with ⟨rfl, h⟩ | ⟨i, rfl, hi, h⟩
  · exact ⟨fun _ => h, fun _ => rfl⟩
  · constructor
    · intro h0
      simp at h0
    · intro h0
      have := h0 i hi
      omega
abbrev inW2 (w : World) (d : ID) (x : IA) : World := (inW w d x).alloc (.cells #[.slice x.aa d.an x.ac, .slice x.la d.ln x.lc] 55)
set_option maxRecDepth 100000 in
set_option maxHeartbeats 4000000 in
theorem implInputOk_calls (L : Nat) (d : ID) (x : IA) (w : World) (hs : d.sm) (hT : InAt L w d x) :
    Calls Try.prog 31 #[inV d x] w fun e w' => InSays d e ∧ Below w.heap.size w w' := by
  have HT : Hid (InAt L w d x) := hT
  have HS : Hid d.sm := hs
  have ha := hs.an
  have hl := hs.ln
  clear hT hs
  go_enter Try.func31, Try.ntmps31
  go_wp2_with fail
  refine wp_loop_rounds 3 ?_
  rw [rounds_succ]
  by_cases c1 : 200 < d.an
  · go_wp2_with fail
    go_ret
    exact ⟨InSays.no fun h => by have := h.1.1; omega, below_alloc2 _ _ _⟩
  go_wp2_with fail
  refine (containsF_calls L x.aa d.an x.ac d.a _ ha ((HT.out.alloc _).alloc _).1).mono ?_
  rintro e w1 ⟨⟨b, rfl, hb⟩, rfl⟩
  cases b
  case true =>
    go_wp2_with fail
    go_ret
    exact ⟨InSays.no fun h => Bool.noConfusion (hb.2 h.1.2), below_alloc2 _ _ _⟩
  have HLa : Hid (lstOk d.an d.a) := ⟨by omega, hb.1 rfl⟩
  clear hb
  go_wp2_with fail
  rw [rounds_succ]
  by_cases c2 : 200 < d.ln
  · go_wp2_with fail
    go_ret
    exact ⟨InSays.no fun h => by have := h.2.1.1; omega, below_alloc2 _ _ _⟩
  go_wp2_with fail
  refine (containsF_calls L x.la d.ln x.lc d.l _ hl ((HT.out.alloc _).alloc _).2).mono ?_
  rintro e w1 ⟨⟨b, rfl, hb⟩, rfl⟩
  cases b
  case true =>
    go_wp2_with fail
    go_ret
    exact ⟨InSays.no fun h => Bool.noConfusion (hb.2 h.2.1.2), below_alloc2 _ _ _⟩
  have HLl : Hid (lstOk d.ln d.l) := ⟨by omega, hb.1 rfl⟩
  clear hb
  go_wp2_with fail
  rw [rounds_succ]
  cases q1 : bwB d.t 0 5000
  · go_wp2_with (go_at_call 61; refine (btw_calls _ _ _ _).mono ?_; rw [q1]; rintro e w1 ⟨rfl, rfl⟩)
    go_ret
    exact ⟨InSays.num HLa.out HLl.out (by unfold numOk; unfold bwB at q1; simp at q1 ⊢; intros; omega), below_alloc2 _ _ _⟩
  · cases q2 : bwB d.d 1 60
    · go_wp2_with (go_at_call 61; refine (btw_calls _ _ _ _).mono ?_; (first | rw [q1] | rw [q2]); rintro e w1 ⟨rfl, rfl⟩)
      go_ret
      exact ⟨InSays.num HLa.out HLl.out (by unfold numOk; unfold bwB at q2; simp at q2 ⊢; intros; omega), below_alloc2 _ _ _⟩
    · go_wp2_with (go_at_call 61; refine (btw_calls _ _ _ _).mono ?_; (first | rw [q1] | rw [q2] | skip); rintro e w1 ⟨rfl, rfl⟩)
      go_ret
      exact ⟨InSays.num HLa.out HLl.out (by unfold numOk; unfold bwB at q1 q2 ⊢; simp at q1 q2 ⊢; omega), below_alloc2 _ _ _⟩
end Go.Proofs.Ytiidepafifodjab
