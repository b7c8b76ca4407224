import Derived.Test.YtcpjnddkibbddaaGreatSkD
import Derived.Deep.QuietTactic
/-! The program's scopes: the steps of nodes without kids. -/
namespace Go.Proofs.YtcpjnddkibbddaaGreat
open Go.RowKit
attribute [local go_sem] run_store_float
attribute [local go_sem ↓] Go.wp_at_zero Go.wp_at_succ

def Six (u : UD) (f n : Nat) : Prop := ((((u.fn f).nd n).k = 26 ∧ ¬ (InR (((u.fn f).nd n).r 0) (u.fn f).vn ∧ Scoped (u.fn f) n (((u.fn f).nd n).r 0)))
      ∨ (((u.fn f).nd n).k = 27 ∧ ¬ InR (((u.fn f).nd n).r 0) (u.fn f).un)
      ∨ (((u.fn f).nd n).k = 36 ∧ ¬ InR (((u.fn f).nd n).r 0) u.n))
theorem noteA_six {u : UD} {f n : Nat} (h6 : Six u f n) (h7 : ¬ JumpBad (u.fn f) n) (h8 : ¬ MakeBad u f n) (y : FT) : NoteA u f n y ↔ y = ⟨6, f, n⟩ := by
  constructor
  · rintro ⟨h1, h2, h3 | h3 | h3⟩
    · exact FT.ext h3.1 h1 h2
    · exact absurd h3.2 h7
    · exact absurd h3.2 h8
  · rintro rfl
    exact ⟨rfl, rfl, .inl ⟨rfl, h6⟩⟩
theorem noteA_seven {u : UD} {f n : Nat} (h6 : ¬ Six u f n) (h7 : JumpBad (u.fn f) n) (h8 : ¬ MakeBad u f n) (y : FT) : NoteA u f n y ↔ y = ⟨7, f, n⟩ := by
  constructor
  · rintro ⟨h1, h2, h3 | h3 | h3⟩
    · exact absurd h3.2 h6
    · exact FT.ext h3.1 h1 h2
    · exact absurd h3.2 h8
  · rintro rfl
    exact ⟨rfl, rfl, .inr (.inl ⟨rfl, h7⟩)⟩
theorem noteA_eight {u : UD} {f n : Nat} (h6 : ¬ Six u f n) (h7 : ¬ JumpBad (u.fn f) n) (h8 : MakeBad u f n) (y : FT) : NoteA u f n y ↔ y = ⟨8, f, n⟩ := by
  constructor
  · rintro ⟨h1, h2, h3 | h3 | h3⟩
    · exact absurd h3.2 h6
    · exact absurd h3.2 h7
    · exact FT.ext h3.1 h1 h2
  · rintro rfl
    exact ⟨rfl, rfl, .inr (.inr ⟨rfl, h8⟩)⟩
theorem noteA_none {u : UD} {f n : Nat} (h6 : ¬ Six u f n) (h7 : ¬ JumpBad (u.fn f) n) (h8 : ¬ MakeBad u f n) (y : FT) : ¬ NoteA u f n y := by
  rintro ⟨_, _, h3 | h3 | h3⟩
  · exact h6 h3.2
  · exact h7 h3.2
  · exact h8 h3.2
theorem no_six {u : UD} {f n : Nat} (h1 : ((u.fn f).nd n).k ≠ 26) (h2 : ((u.fn f).nd n).k ≠ 27) (h3 : ((u.fn f).nd n).k ≠ 36) : ¬ Six u f n := by
  rintro (h | h | h)
  · exact h1 h.1
  · exact h2 h.1
  · exact h3 h.1
theorem no_jump {d : FD} {n : Nat} (h1 : (d.nd n).k ≠ 9) (h2 : (d.nd n).k ≠ 10) : ¬ JumpBad d n := by
  rintro ⟨h | h, _⟩
  · exact h1 h
  · exact h2 h
theorem no_make {u : UD} {f n : Nat} (h1 : ((u.fn f).nd n).k ≠ 36) (h2 : ((u.fn f).nd n).k ≠ 37) : ¬ MakeBad u f n := by
  rintro (h | h)
  · exact h2 h.1
  · exact h1 h.1
theorem leaf_note {u : UD} {f n : Nat} (h : ((u.fn f).nd n).kn = 0) (y : FT) : NoteT u f n y ↔ NoteA u f n y := by
  rw [noteT_iff]
  constructor
  · rintro (⟨i, c, h1, _⟩ | h1)
    · omega
    · exact h1
  · exact .inr
theorem least_yes {C : CX} {n c : Nat} {P : FT → Prop} {x : FT} (h : Least P x) (hc : 0 < c) (hk : (C.d.nd n).kn = 0) (hN : ∀ y, NoteA C.u C.f n y ↔ y = ⟨c, C.f, n⟩) : Least (fun y => P y ∨ NoteT C.u C.f n y) (fstOf x ⟨c, C.f, n⟩) :=
  (h.note (b := ⟨c, C.f, n⟩) hc).congr fun y => by rw [leaf_note hk, hN]
theorem least_no {C : CX} {n : Nat} {P : FT → Prop} {x : FT} (h : Least P x) (hk : (C.d.nd n).kn = 0) (hN : ∀ y, ¬ NoteA C.u C.f n y) : Least (fun y => P y ∨ NoteT C.u C.f n y) x :=
  h.congr fun y => by rw [leaf_note hk]; exact ⟨.inl, fun h' => h'.resolve_right (hN y)⟩
theorem leaves_nil {C : CX} {n : Nat} (h : (C.d.nd n).k ≠ 2) (st : List Int) : st ++ leaves C n = st := by unfold leaves; rw [if_neg h, List.append_nil]
theorem step_yes {C : CX} {n c : Nat} {st : List Int} {ins : Nat} {x : FT} {a : Option Addr} {cap : Nat} {P : FT → Prop} {w w' : World} (h : NotePost C st ins (fstOf x ⟨c, C.f, n⟩) a cap w w') (h2 : (C.d.nd n).k ≠ 2) (hL : Least P x) (hc : 0 < c) (hk : (C.d.nd n).kn = 0) (hN : ∀ y, NoteA C.u C.f n y ↔ y = ⟨c, C.f, n⟩) : VPost C (st ++ leaves C n) ins (fun y => P y ∨ NoteT C.u C.f n y) a w w' := by
  rw [leaves_nil h2]
  exact ⟨_, a, cap, h.1, least_yes hL hc hk hN, h.2⟩
theorem step_no {C : CX} {n : Nat} {st : List Int} {ins : Nat} {x : FT} {a : Option Addr} {cap : Nat} {P : FT → Prop} {w w' : World} (h : SS C st ins x a cap w') (hm : Mv C.S C.T a w a w') (h2 : (C.d.nd n).k ≠ 2) (hL : Least P x) (hk : (C.d.nd n).kn = 0) (hN : ∀ y, ¬ NoteA C.u C.f n y) : VPost C (st ++ leaves C n) ins (fun y => P y ∨ NoteT C.u C.f n y) a w w' := by
  rw [leaves_nil h2]
  exact ⟨_, a, cap, h, least_no hL hk hN, hm⟩

set_option maxRecDepth 100000 in
set_option maxHeartbeats 4000000 in
theorem jump_step (C : CX) (hC : C.ok) (n : Nat) (hk : (C.d.nd n).k = 9 ∨ (C.d.nd n).k = 10) : StepSays C 118 n := by
  intro st ins x a cap P w hP
  have hk' : ((C.u.fn C.f).nd n).k = 9 ∨ ((C.u.fn C.f).nd n).k = 10 := hk
  have hk0 := (hC.node hP.lt).leaf (by omega)
  have HP : Hid (VPre C n st ins x a cap P w) := hP
  have HC : Hid C.ok := hC
  have c50 := hP.ss.c50
  have hlp := hP.loop
  clear hP hC
  have h6 : Hid (¬ Six C.u C.f n) := no_six (by omega) (by omega) (by omega)
  have h8 : Hid (¬ MakeBad C.u C.f n) := no_make (by omega) (by omega)
  have h2 : Hid ((C.d.nd n).k ≠ 2) := by show _ ≠ _; omega
  have HK : Hid ((C.d.nd n).kn = 0) := hk0
  by_cases h0 : ins = 0
  · subst h0
    have hN : Hid (∀ y, NoteA C.u C.f n y ↔ y = ⟨7, C.f, n⟩) := noteA_seven h6.out ⟨hk, fun h => by have := hlp.2 h; omega⟩ h8.out
    clear hlp hk hk' hk0
    go_enter Tryz.func118, Tryz.ntmps118
    go_wp2_with (go_at_call 153; refine (note_calls C st 0 x a cap 7 n _ HP.out.ss).mono ?_; rintro e w1 ⟨rfl, hn1⟩; have HN1 : Hid _ := hn1; clear hn1)
    go_end0
    exact ⟨rfl, step_yes HN1.out h2.out HP.out.least (by decide) HK.out hN.out⟩
  · have hN : Hid (∀ y, ¬ NoteA C.u C.f n y) := noteA_none h6.out (fun h => h.2 (hlp.1 (by omega))) h8.out
    have q : ((ins : Int) == 0) = false := by simp; omega
    clear hlp hk hk' hk0
    go_enter Tryz.func118, Tryz.ntmps118
    go_wp2_with fail
    go_end0
    exact ⟨rfl, step_no HP.out.ss (Mv.refl _ _ _ _) h2.out HP.out.least HK.out hN.out⟩

set_option maxRecDepth 100000 in
set_option maxHeartbeats 4000000 in
theorem rest_step (C : CX) (hC : C.ok) (n : Nat) (hk : (C.d.nd n).k = 37) : StepSays C 122 n := by
  intro st ins x a cap P w hP
  have hk' : ((C.u.fn C.f).nd n).k = 37 := hk
  have hk0 := (hC.node hP.lt).leaf (by omega)
  have HP : Hid (VPre C n st ins x a cap P w) := hP
  have c5 := hP.ss.c5
  clear hP hC
  have h6 : Hid (¬ Six C.u C.f n) := no_six (by omega) (by omega) (by omega)
  have h7 : Hid (¬ JumpBad (C.u.fn C.f) n) := no_jump (by omega) (by omega)
  have h2 : Hid ((C.d.nd n).k ≠ 2) := by show _ ≠ _; omega
  have HK : Hid ((C.d.nd n).kn = 0) := hk0
  cases hr : C.d.rest
  · have hN : Hid (∀ y, NoteA C.u C.f n y ↔ y = ⟨8, C.f, n⟩) := noteA_eight h6.out h7.out (.inl ⟨hk, hr⟩)
    rw [hr] at c5
    clear hk hk' hk0 hr
    go_enter Tryz.func122, Tryz.ntmps122
    go_wp2_with (go_at_call 153; refine (note_calls C st ins x a cap 8 n _ HP.out.ss).mono ?_; rintro e w1 ⟨rfl, hn1⟩; have HN1 : Hid _ := hn1; clear hn1)
    go_end0
    exact ⟨rfl, step_yes HN1.out h2.out HP.out.least (by decide) HK.out hN.out⟩
  · have hN : Hid (∀ y, ¬ NoteA C.u C.f n y) := noteA_none h6.out h7.out (by
      rintro (h | h)
      · rw [show (C.u.fn C.f).rest = true from hr] at h; exact Bool.noConfusion h.2
      · omega)
    rw [hr] at c5
    clear hk hk' hk0 hr
    go_enter Tryz.func122, Tryz.ntmps122
    go_wp2_with fail
    go_end0
    exact ⟨rfl, step_no HP.out.ss (Mv.refl _ _ _ _) h2.out HP.out.least HK.out hN.out⟩

set_option maxRecDepth 100000 in
set_option maxHeartbeats 4000000 in
theorem variable_step (C : CX) (hC : C.ok) (n : Nat) (hk : (C.d.nd n).k = 26) : StepSays C 119 n := by
  intro st ins x a cap P w hP
  have hk' : ((C.u.fn C.f).nd n).k = 26 := hk
  have hk0 := (hC.node hP.lt).leaf (by omega)
  have hr1 := (hC.node hP.lt).one (by omega)
  have HP : Hid (VPre C n st ins x a cap P w) := hP
  have c8 := hP.ss.c8
  have hn := hP.lt
  have hnn := hC.nn
  obtain ⟨b, off, e0, _, hb, d0, d1, d2, d3, d4, d5, d6, d7⟩ := cells8 ((hP.ss.fns hC).2 C.f hC.f).2.2.1 hn
  obtain ⟨b2, o2, e2, _, hb2, r0⟩ := cells1 (((hP.ss.fns hC).2 C.f hC.f).2.2.2 n hn).1 (show 0 < (C.d.nd n).rn by omega)
  rw [e0] at c8
  rw [show (C.u.fn C.f).nd n = C.d.nd n from rfl, e2, hr1] at d6
  rw [Nat.add_zero] at r0
  clear d0 d1 d2 d3 d4 d5 d7 e0 e2
  have h7 : Hid (¬ JumpBad (C.u.fn C.f) n) := no_jump (by omega) (by omega)
  have h8 : Hid (¬ MakeBad C.u C.f n) := no_make (by omega) (by omega)
  have h2 : Hid ((C.d.nd n).k ≠ 2) := by show _ ≠ _; omega
  have HK : Hid ((C.d.nd n).kn = 0) := hk0
  have hsx : Six C.u C.f n ↔ ¬ (C.d.nd n).r 0 ∈ st := by
    constructor
    · rintro (h | h | h)
      · intro hm
        exact h.2 ⟨hP.ss.rg _ hm, (hP.stack _ (hP.ss.rg _ hm)).1 hm⟩
      · omega
      · omega
    · intro hm
      exact .inl ⟨hk, fun h => hm ((hP.stack _ h.1).2 h.2)⟩
  clear hP hC hk0 hr1
  by_cases hm : (C.d.nd n).r 0 ∈ st
  · have hN : Hid (∀ y, ¬ NoteA C.u C.f n y) := noteA_none (fun h => hsx.1 h hm) h7.out h8.out
    have q : dB ((C.d.nd n).r 0 ∈ st) = true := dB_true hm
    clear hsx hk hk' hm
    go_enter Tryz.func119, Tryz.ntmps119
    go_wp2_with (go_at_call 154; refine (inScope_calls C st ins x a cap _ _ HP.out.ss).mono ?_; rw [q]; rintro e w1 ⟨rfl, rfl⟩)
    go_end0
    exact ⟨rfl, step_no HP.out.ss (Mv.refl _ _ _ _) h2.out HP.out.least HK.out hN.out⟩
  · have hN : Hid (∀ y, NoteA C.u C.f n y ↔ y = ⟨6, C.f, n⟩) := noteA_six (hsx.2 hm) h7.out h8.out
    have q : dB ((C.d.nd n).r 0 ∈ st) = false := dB_false hm
    clear hsx hk hk' hm
    go_enter Tryz.func119, Tryz.ntmps119
    go_wp2_with (first | (go_at_call 154; refine (inScope_calls C st ins x a cap _ _ HP.out.ss).mono ?_; rw [q]; rintro e w1 ⟨rfl, rfl⟩) | (go_at_call 153; refine (note_calls C st ins x a cap 6 n _ HP.out.ss).mono ?_; rintro e w2 ⟨rfl, hn1⟩; have HN1 : Hid _ := hn1; clear hn1))
    go_end0
    exact ⟨rfl, step_yes HN1.out h2.out HP.out.least (by decide) HK.out hN.out⟩

set_option maxRecDepth 100000 in
set_option maxHeartbeats 4000000 in
theorem up_step (C : CX) (hC : C.ok) (n : Nat) (hk : (C.d.nd n).k = 27) : StepSays C 120 n := by
  intro st ins x a cap P w hP
  have hk' : ((C.u.fn C.f).nd n).k = 27 := hk
  have hk0 := (hC.node hP.lt).leaf (by omega)
  have hr1 := (hC.node hP.lt).one (by omega)
  have HP : Hid (VPre C n st ins x a cap P w) := hP
  have c8 := hP.ss.c8
  have c7 := hP.ss.c7
  have hn := hP.lt
  have hnn := hC.nn
  obtain ⟨b, off, e0, _, hb, d0, d1, d2, d3, d4, d5, d6, d7⟩ := cells8 ((hP.ss.fns hC).2 C.f hC.f).2.2.1 hn
  obtain ⟨b2, o2, e2, _, hb2, r0⟩ := cells1 (((hP.ss.fns hC).2 C.f hC.f).2.2.2 n hn).1 (show 0 < (C.d.nd n).rn by omega)
  rw [e0] at c8
  rw [show (C.u.fn C.f).nd n = C.d.nd n from rfl, e2, hr1] at d6
  rw [Nat.add_zero] at r0
  clear d0 d1 d2 d3 d4 d5 d7 e0 e2
  have h7 : Hid (¬ JumpBad (C.u.fn C.f) n) := no_jump (by omega) (by omega)
  have h8 : Hid (¬ MakeBad C.u C.f n) := no_make (by omega) (by omega)
  have h2 : Hid ((C.d.nd n).k ≠ 2) := by show _ ≠ _; omega
  have HK : Hid ((C.d.nd n).kn = 0) := hk0
  have hsx : Six C.u C.f n ↔ ¬ InR ((C.d.nd n).r 0) C.d.un := by
    constructor
    · rintro (h | h | h)
      · omega
      · exact h.2
      · omega
    · intro hm
      exact .inr (.inl ⟨hk, hm⟩)
  clear hP hC hk0 hr1
  by_cases hm : InR ((C.d.nd n).r 0) C.d.un
  · have hN : Hid (∀ y, ¬ NoteA C.u C.f n y) := noteA_none (fun h => hsx.1 h hm) h7.out h8.out
    have q : wiB ((C.d.nd n).r 0) (C.d.un : Int) = true := by unfold wiB; have := hm.1; have := hm.2; simp; omega
    clear hsx hk hk' hm
    go_enter Tryz.func120, Tryz.ntmps120
    go_wp2_with fail
    go_quiet ((go_at_call 126; exact Calls.quiet_of_same (within_calls _ _ _)))
    go_wp2_with fail
    go_end0
    exact ⟨rfl, step_no (HP.out.ss.call (below_drewN (Below.refl _ _) nq)) ((Mv.refl _ _ _ _).call (below_drewN (Below.refl _ _) nq)) h2.out HP.out.least HK.out hN.out⟩
  · have hN : Hid (∀ y, NoteA C.u C.f n y ↔ y = ⟨6, C.f, n⟩) := noteA_six (hsx.2 hm) h7.out h8.out
    have q : wiB ((C.d.nd n).r 0) (C.d.un : Int) = false := by
      unfold wiB InR at *
      simp
      omega
    clear hsx hk hk' hm
    go_enter Tryz.func120, Tryz.ntmps120
    go_wp2_with fail
    go_quiet ((go_at_call 126; exact Calls.quiet_of_same (within_calls _ _ _)))
    have HSd : Hid (SS C st ins x a cap (w.drewN nq)) := HP.out.ss.call (below_drewN (Below.refl _ _) nq)
    have HMd : Hid (Mv C.S C.T a w a (w.drewN nq)) := (Mv.refl _ _ _ _).call (below_drewN (Below.refl _ _) nq)
    go_wp2_with (go_at_call 153; refine (note_calls C st ins x a cap 6 n _ HSd.out).mono ?_; rintro e w2 ⟨rfl, hn1⟩; have HN1 : Hid _ := hn1; clear hn1)
    go_end0
    exact ⟨rfl, step_yes ⟨HN1.out.1, HMd.out.trans HN1.out.2⟩ h2.out HP.out.least (by decide) HK.out hN.out⟩
end Go.Proofs.YtcpjnddkibbddaaGreat

/-! The program's scopes: fns that are made. -/
namespace Go.Proofs.YtcpjnddkibbddaaGreat
open Go.RowKit
attribute [local go_sem] run_store_float
attribute [local go_sem ↓] Go.wp_at_zero Go.wp_at_succ

/-- what one up says -/
def UpOne (C : CX) (st : List Int) (q : UPD) : Prop := (q.loc = true → q.ix ∈ st) ∧ (q.loc = false → InR q.ix C.d.un)
def HoldsP (C : CX) (st : List Int) (un : Nat) (q : Nat → UPD) : Prop := ∀ i, i < un → UpOne C st (q i)
set_option maxRecDepth 100000 in
set_option maxHeartbeats 4000000 in
theorem holds_calls (C : CX) (st : List Int) (ins : Nat) (x : FT) (a : Option Addr) (cap : Nat) (va : Option Addr) (un vc : Nat) (q : Nat → UPD) (L : Nat) (w : World) (hn : un ≤ 1048576) (hS : SS C st ins x a cap w) (hT : RowN 2 L w va un fun i => upC (q i)) :
    Calls Tryz.prog 155 #[.pointer (some ⟨C.S, 0, none⟩), .slice va un vc] w fun e w' => e = .returned (.bool (dB (HoldsP C st un q))) ∧ Below w.heap.size w w' := by
  have HS : Hid (SS C st ins x a cap w) := hS
  have HT : Hid (RowN 2 L w va un fun i => upC (q i)) := hT
  clear hS hT
  go_enter Tryz.func155, Tryz.ntmps155
  go_wp2_with fail
  go_loopw [9] (fun i wr => ∃ (k : Nat), k ≤ un ∧ i = .int .i64 k ∧ Hid (∀ j, j < k → UpOne C st (q j)) ∧ Hid (Below w.heap.size w wr)) (fun i _ => un - (intOf i).toNat)
  case atStart => exact ⟨0, Nat.zero_le _, rfl, fun j hj => by omega, Below.refl _ _⟩
  case round =>
    obtain ⟨k, hk, rfl, HK, HB⟩ := hrel
    by_cases hkn : k < un
    · obtain ⟨b, off, rfl, _, hb, d0, d1⟩ := cells2 (HT.out.below HB.out) hkn
      obtain ⟨lc, ix, hq⟩ : ∃ lc ix, q k = ⟨lc, ix⟩ := ⟨_, _, rfl⟩
      have HQ : Hid (q k = ⟨lc, ix⟩) := hq
      rw [hq] at d0 d1
      have HSr : Hid (SS C st ins x a cap (wr.alloc (.cells #[.bool lc, .int .i64 ix] 114))) := (HS.out.call HB.out).alloc _
      have HB1 : Hid (Below w.heap.size w (wr.alloc (.cells #[.bool lc, .int .i64 ix] 114))) := below_a' HB.out _
      have c7 := HSr.out.c7
      clear hq
      cases lc
      · by_cases hin : InR ix C.d.un
        · have HU : Hid (UpOne C st (q k)) := by show UpOne C st (q k); rw [HQ.out]; exact ⟨fun h => Bool.noConfusion h, fun _ => hin⟩
          have hw : wiB ix (C.d.un : Int) = true := by unfold wiB; have := hin.1; have := hin.2; simp; omega
          clear hin
          go_wp2_with fail
          go_quiet ((first | (go_at_call 154; exact Calls.quiet_of_same (inScope_calls C st ins x a cap _ _ (by first | exact HSr.out | exact HSr.out.drew | exact HSr.out.call (below_drewN (Below.refl _ _) _)))) | (go_at_call 126; exact Calls.quiet_of_same (within_calls _ _ _))))
          go_wp2_with fail
          go_roundw
          case rel => exact ⟨k + 1, by omega, by go_num, fun j hj => by
            by_cases e : j = k
            · subst e; exact HU.out
            · exact HK.out j (by omega), below_drewN HB1.out nq⟩
          case measure => simp [intOf]; omega
        · have HU : Hid (dB (HoldsP C st un q) = false) := dB_false fun h => hin (by have := h k hkn; rw [HQ.out] at this; exact this.2 rfl)
          have hw : wiB ix (C.d.un : Int) = false := by
            unfold wiB InR at *
            simp
            omega
          clear hin
          go_wp2_with fail
          go_quiet ((first | (go_at_call 154; exact Calls.quiet_of_same (inScope_calls C st ins x a cap _ _ (by first | exact HSr.out | exact HSr.out.drew | exact HSr.out.call (below_drewN (Below.refl _ _) _)))) | (go_at_call 126; exact Calls.quiet_of_same (within_calls _ _ _))))
          go_wp2_with fail
          go_ret
          exact ⟨ret_bool HU.out.symm, below_drewN HB1.out nq⟩
      · by_cases hin : ix ∈ st
        · have HU : Hid (UpOne C st (q k)) := by show UpOne C st (q k); rw [HQ.out]; exact ⟨fun _ => hin, fun h => Bool.noConfusion h⟩
          have hw : dB (ix ∈ st) = true := dB_true hin
          clear hin
          go_wp2_with fail
          go_quiet ((first | (go_at_call 154; exact Calls.quiet_of_same (inScope_calls C st ins x a cap _ _ (by first | exact HSr.out | exact HSr.out.drew | exact HSr.out.call (below_drewN (Below.refl _ _) _)))) | (go_at_call 126; exact Calls.quiet_of_same (within_calls _ _ _))))
          go_wp2_with fail
          go_roundw
          case rel => exact ⟨k + 1, by omega, by go_num, fun j hj => by
            by_cases e : j = k
            · subst e; exact HU.out
            · exact HK.out j (by omega), below_drewN HB1.out nq⟩
          case measure => simp [intOf]; omega
        · have HU : Hid (dB (HoldsP C st un q) = false) := dB_false fun h => hin (by have := h k hkn; rw [HQ.out] at this; exact this.1 rfl)
          have hw : dB (ix ∈ st) = false := dB_false hin
          clear hin
          go_wp2_with fail
          go_quiet ((first | (go_at_call 154; exact Calls.quiet_of_same (inScope_calls C st ins x a cap _ _ (by first | exact HSr.out | exact HSr.out.drew | exact HSr.out.call (below_drewN (Below.refl _ _) _)))) | (go_at_call 126; exact Calls.quiet_of_same (within_calls _ _ _))))
          go_wp2_with fail
          go_ret
          exact ⟨ret_bool HU.out.symm, below_drewN HB1.out nq⟩
    · obtain rfl : k = un := by omega
      go_wp2_with fail
      go_ret
      exact ⟨ret_bool (dB_true HK.out).symm, HB.out⟩

theorem holds_ups {C : CX} {n : Nat} {st : List Int} {ins : Nat} {x : FT} {a : Option Addr} {cap : Nat} {P : FT → Prop} {w : World} (hP : VPre C n st ins x a cap P w) (g : Nat) : HoldsP C st (C.u.fn g).un (C.u.fn g).u ↔ UpsOk C.u C.f n g := by
  constructor
  · intro h i hi
    exact ⟨fun hl => ⟨hP.ss.rg _ ((h i hi).1 hl), (hP.stack _ (hP.ss.rg _ ((h i hi).1 hl))).1 ((h i hi).1 hl)⟩, (h i hi).2⟩
  · intro h i hi
    exact ⟨fun hl => (hP.stack _ ((h i hi).1 hl).1).2 ((h i hi).1 hl).2, (h i hi).2⟩
set_option maxRecDepth 100000 in
set_option maxHeartbeats 4000000 in
theorem makes_step (C : CX) (hC : C.ok) (n : Nat) (hk : (C.d.nd n).k = 36) : StepSays C 121 n := by
  intro st ins x a cap P w hP
  have hk' : ((C.u.fn C.f).nd n).k = 36 := hk
  have hk0 := (hC.node hP.lt).leaf (by omega)
  have hr1 := (hC.node hP.lt).one (by omega)
  have HP : Hid (VPre C n st ins x a cap P w) := hP
  have c8 := hP.ss.c8
  have c0 := hP.ss.c0
  have c1 := hP.ss.c1
  have hn := hP.lt
  have hnn := hC.nn
  have hun := hC.u5.size.2.1
  have hf := hC.f
  obtain ⟨b, off, e0, _, hb, d0, d1, d2, d3, d4, d5, d6, d7⟩ := cells8 ((hP.ss.fns hC).2 C.f hC.f).2.2.1 hn
  obtain ⟨b2, o2, e2, _, hb2, r0⟩ := cells1 (((hP.ss.fns hC).2 C.f hC.f).2.2.2 n hn).1 (show 0 < (C.d.nd n).rn by omega)
  have HF : Hid (FnsAt C.L w C.u.n C.u.fn C.ua C.fas) := hP.ss.fns hC
  rw [e0] at c8
  rw [show (C.u.fn C.f).nd n = C.d.nd n from rfl, e2, hr1] at d6
  rw [Nat.add_zero] at r0
  clear d0 d1 d2 d3 d4 d5 d7 e0 e2
  have h7 : Hid (¬ JumpBad (C.u.fn C.f) n) := no_jump (by omega) (by omega)
  have h2 : Hid ((C.d.nd n).k ≠ 2) := by show _ ≠ _; omega
  have HK : Hid ((C.d.nd n).kn = 0) := hk0
  have hsx : Six C.u C.f n ↔ ¬ InR ((C.d.nd n).r 0) C.u.n := by
    constructor
    · rintro (h | h | h)
      · omega
      · omega
      · exact h.2
    · intro hm
      exact .inr (.inr ⟨hk, hm⟩)
  have hmk : MakeBad C.u C.f n ↔ (InR ((C.d.nd n).r 0) C.u.n ∧ (((C.d.nd n).r 0) ≤ C.f ∨ ¬ UpsOk C.u C.f n ((C.d.nd n).r 0).toNat)) := by
    constructor
    · rintro (h | h)
      · omega
      · exact h.2
    · intro h
      exact .inr ⟨hk, h⟩
  have hho := holds_ups hP
  have hsm := hC.sm
  clear hP hC hk0 hr1
  by_cases hm : InR ((C.d.nd n).r 0) C.u.n
  · have q : wiB ((C.d.nd n).r 0) (C.u.n : Int) = true := by unfold wiB; have := hm.1; have := hm.2; simp; omega
    obtain ⟨g, hg⟩ : ∃ g : Nat, (C.d.nd n).r 0 = g := ⟨((C.d.nd n).r 0).toNat, by have := hm.1; omega⟩
    have hgn : g < C.u.n := by have := hm.2; omega
    have hg' : ((C.u.fn C.f).nd n).r 0 = g := hg
    by_cases hle : g ≤ C.f
    · have hN : Hid (∀ y, NoteA C.u C.f n y ↔ y = ⟨8, C.f, n⟩) := noteA_eight (fun h => hsx.1 h hm) h7.out (hmk.2 ⟨hm, .inl (by omega)⟩)
      rw [hg'] at r0
      rw [hg] at q
      clear hsx hk hk' hm hmk hho hg hg'
      go_enter Tryz.func121, Tryz.ntmps121
      go_wp2_with (first | (go_at_call 126; refine (within_calls _ _ _).mono ?_; rw [q]; rintro e w1 ⟨rfl, rfl⟩) | (go_at_call 153; refine (note_calls C st ins x a cap 8 n _ HP.out.ss).mono ?_; rintro e w2 ⟨rfl, hn1⟩; have HN1 : Hid _ := hn1; clear hn1))
      go_end0
      exact ⟨rfl, step_yes HN1.out h2.out HP.out.least (by decide) HK.out hN.out⟩
    · obtain ⟨b3, o3, e3, _, hb3, f0, f1, f2, f3, f4, f5, f6⟩ := cells7 HF.out.1 hgn
      rw [e3] at c0
      have hug := (hsm.fn g hgn).un
      have HH : Hid (Calls Tryz.prog 155 #[.pointer (some ⟨C.S, 0, none⟩), .slice (C.fas g).ua (C.u.fn g).un (C.fas g).uc] w fun e w' => e = .returned (.bool (dB (HoldsP C st (C.u.fn g).un (C.u.fn g).u))) ∧ Below w.heap.size w w') := holds_calls C st ins x a cap _ _ _ _ C.L w hug HP.out.ss (HF.out.2 g hgn).2.1
      by_cases hu : UpsOk C.u C.f n g
      · have hN : Hid (∀ y, ¬ NoteA C.u C.f n y) := noteA_none (fun h => hsx.1 h hm) h7.out (fun h => by
          rcases (hmk.1 h).2 with h1 | h1
          · omega
          · exact h1 (by rw [hg]; exact hu))
        have q2 : dB (HoldsP C st (C.u.fn g).un (C.u.fn g).u) = true := dB_true ((hho g).2 hu)
        rw [hg'] at r0
        rw [hg] at q
        clear hsx hk hk' hm hmk hho hg hg' f0 f1 f2 f3 f4 f6 e3 hu
        go_enter Tryz.func121, Tryz.ntmps121
        go_wp2_with (first | (go_at_call 126; refine (within_calls _ _ _).mono ?_; rw [q]; rintro e w1 ⟨rfl, rfl⟩) | (go_at_call 155; refine HH.out.mono ?_; rw [q2]; rintro e w2 ⟨rfl, hb2⟩; have HB2 : Hid _ := hb2; clear hb2))
        go_end0
        exact ⟨rfl, step_no (HP.out.ss.call HB2.out) ((Mv.refl _ _ _ _).call HB2.out) h2.out HP.out.least HK.out hN.out⟩
      · have hN : Hid (∀ y, NoteA C.u C.f n y ↔ y = ⟨8, C.f, n⟩) := noteA_eight (fun h => hsx.1 h hm) h7.out (hmk.2 ⟨hm, .inr (by rw [hg]; exact hu)⟩)
        have q2 : dB (HoldsP C st (C.u.fn g).un (C.u.fn g).u) = false := dB_false fun h => hu ((hho g).1 h)
        rw [hg'] at r0
        rw [hg] at q
        clear hsx hk hk' hm hmk hho hg hg' f0 f1 f2 f3 f4 f6 e3 hu
        go_enter Tryz.func121, Tryz.ntmps121
        go_wp2_with (first | (go_at_call 126; refine (within_calls _ _ _).mono ?_; rw [q]; rintro e w1 ⟨rfl, rfl⟩) | (go_at_call 155; refine HH.out.mono ?_; rw [q2]; rintro e w2 ⟨rfl, hb2⟩; have HB2 : Hid _ := hb2; clear hb2) | (go_at_call 153; refine (note_calls C st ins x a cap 8 n _ (HP.out.ss.call HB2.out)).mono ?_; rintro e w3 ⟨rfl, hn1⟩; have HN1 : Hid _ := hn1; clear hn1))
        go_end0
        exact ⟨rfl, step_yes ⟨HN1.out.1, ((Mv.refl _ _ _ _).call HB2.out).trans HN1.out.2⟩ h2.out HP.out.least (by decide) HK.out hN.out⟩
  · have hN : Hid (∀ y, NoteA C.u C.f n y ↔ y = ⟨6, C.f, n⟩) := noteA_six (hsx.2 hm) h7.out (fun h => hm (hmk.1 h).1)
    have q : wiB ((C.d.nd n).r 0) (C.u.n : Int) = false := by
      unfold wiB InR at *
      simp
      omega
    clear hsx hk hk' hm hmk hho
    go_enter Tryz.func121, Tryz.ntmps121
    go_wp2_with (first | (go_at_call 126; refine (within_calls _ _ _).mono ?_; rw [q]; rintro e w1 ⟨rfl, rfl⟩) | (go_at_call 153; refine (note_calls C st ins x a cap 6 n _ HP.out.ss).mono ?_; rintro e w2 ⟨rfl, hn1⟩; have HN1 : Hid _ := hn1; clear hn1))
    first | go_end0 | refine bodyPost_ret (results_none rfl _ _ _) rfl ?_
    exact ⟨rfl, step_yes HN1.out h2.out HP.out.least (by decide) HK.out hN.out⟩
end Go.Proofs.YtcpjnddkibbddaaGreat
