import Derived.Test.YtiidepafifodjabGreatSkE
/-! The program's scopes: fns that are made. -/
namespace Go.Proofs.YtiidepafifodjabGreat
open Go.RowKit
attribute [local go_sem] run_store_float
attribute [local go_sem ↓] Go.wp_at_zero Go.wp_at_succ

/-- what one up says -/
def UpOne (C : CX) (st : List Int) (q : UPD) : Prop := (q.loc = true → q.ix ∈ st) ∧ (q.loc = false → InR q.ix C.d.un)
def HoldsP (C : CX) (st : List Int) (un : Nat) (q : Nat → UPD) : Prop := ∀ i, i < un → UpOne C st (q i)
set_option maxRecDepth 100000 in
set_option maxHeartbeats 4000000 in
theorem holds_calls (C : CX) (st : List Int) (ins : Nat) (x : FT) (a : Option Addr) (cap : Nat) (va : Option Addr) (un vc : Nat) (q : Nat → UPD) (L : Nat) (w : World) (hn : un ≤ 1048576) (hS : SS C st ins x a cap w) (hT : RowN 2 L w va un fun i => upC (q i)) :
    Calls Tryz.prog 219 #[.pointer (some ⟨C.S, 0, none⟩), .slice va un vc] w fun e w' => e = .returned (.bool (dB (HoldsP C st un q))) ∧ Below w.heap.size w w' := by
  have HS : Hid (SS C st ins x a cap w) := hS
  have HT : Hid (RowN 2 L w va un fun i => upC (q i)) := hT
  clear hS hT
  go_enter Tryz.func219, Tryz.ntmps219
  go_wp2_with fail
  go_loopw [9] (fun i wr => ∃ (k : Nat), k ≤ un ∧ i = .int .i64 k ∧ Hid (∀ j, j < k → UpOne C st (q j)) ∧ Hid (Below w.heap.size w wr)) (fun i _ => un - (intOf i).toNat)
  case atStart => exact ⟨0, Nat.zero_le _, rfl, fun j hj => by omega, Below.refl _ _⟩
  case round =>
    obtain ⟨k, hk, rfl, HK, HB⟩ := hrel
    by_cases hkn : k < un
    · obtain ⟨b, off, rfl, _, hb, d0, d1⟩ := cells2 (HT.out.below HB.out) hkn
      obtain ⟨lc, ix, hq⟩ : ∃ lc ix, q k = ⟨lc, ix⟩ := ⟨_, _, rfl⟩
      have HQ : Hid (q k = ⟨lc, ix⟩) := hq
      rw [hq] at d0 d1
      have HSr : Hid (SS C st ins x a cap (wr.alloc (.cells #[.bool lc, .int .i64 ix] 169))) := (HS.out.call HB.out).alloc _
      have HB1 : Hid (Below w.heap.size w (wr.alloc (.cells #[.bool lc, .int .i64 ix] 169))) := below_a' HB.out _
      have c7 := HSr.out.c7
      clear hq
      cases lc
      · by_cases hin : InR ix C.d.un
        · have HU : Hid (UpOne C st (q k)) := by show UpOne C st (q k); rw [HQ.out]; exact ⟨fun h => Bool.noConfusion h, fun _ => hin⟩
          have hw : wiB ix (C.d.un : Int) = true := by unfold wiB; have := hin.1; have := hin.2; simp; omega
          clear hin
          go_wp2_with fail
          go_quiet ((first | (go_at_call 218; exact Calls.quiet_of_same (inScope_calls C st ins x a cap _ _ (by first | exact HSr.out | exact HSr.out.drew | exact HSr.out.call (below_drewN (Below.refl _ _) _)))) | (go_at_call 171; exact Calls.quiet_of_same (within_calls _ _ _))))
          go_wp2_with fail
          go_roundw
          case rel => exact ⟨k + 1, by omega, by go_num, fun j hj => by
            by_cases e : j = k
            · subst e; exact HU.out
            · exact HK.out j (by omega), below_drewN HB1.out nq⟩
          case measure => simp [intOf]; omega
        · have HU : Hid (dB (HoldsP C st un q) = false) := dB_false fun h => hin (by have := h k hkn; rw [HQ.out] at this; exact this.2 rfl)
          have hw : wiB ix (C.d.un : Int) = false := by
            unfold wiB InR at *
            simp
            omega
          clear hin
          go_wp2_with fail
          go_quiet ((first | (go_at_call 218; exact Calls.quiet_of_same (inScope_calls C st ins x a cap _ _ (by first | exact HSr.out | exact HSr.out.drew | exact HSr.out.call (below_drewN (Below.refl _ _) _)))) | (go_at_call 171; exact Calls.quiet_of_same (within_calls _ _ _))))
          go_wp2_with fail
          go_ret
          exact ⟨ret_bool HU.out.symm, below_drewN HB1.out nq⟩
      · by_cases hin : ix ∈ st
        · have HU : Hid (UpOne C st (q k)) := by show UpOne C st (q k); rw [HQ.out]; exact ⟨fun _ => hin, fun h => Bool.noConfusion h⟩
          have hw : dB (ix ∈ st) = true := dB_true hin
          clear hin
          go_wp2_with fail
          go_quiet ((first | (go_at_call 218; exact Calls.quiet_of_same (inScope_calls C st ins x a cap _ _ (by first | exact HSr.out | exact HSr.out.drew | exact HSr.out.call (below_drewN (Below.refl _ _) _)))) | (go_at_call 171; exact Calls.quiet_of_same (within_calls _ _ _))))
          go_wp2_with fail
          go_roundw
          case rel => exact ⟨k + 1, by omega, by go_num, fun j hj => by
            by_cases e : j = k
            · subst e; exact HU.out
            · exact HK.out j (by omega), below_drewN HB1.out nq⟩
          case measure => simp [intOf]; omega
        · have HU : Hid (dB (HoldsP C st un q) = false) := dB_false fun h => hin (by have := h k hkn; rw [HQ.out] at this; exact this.1 rfl)
          have hw : dB (ix ∈ st) = false := dB_false hin
          clear hin
          go_wp2_with fail
          go_quiet ((first | (go_at_call 218; exact Calls.quiet_of_same (inScope_calls C st ins x a cap _ _ (by first | exact HSr.out | exact HSr.out.drew | exact HSr.out.call (below_drewN (Below.refl _ _) _)))) | (go_at_call 171; exact Calls.quiet_of_same (within_calls _ _ _))))
          go_wp2_with fail
          go_ret
          exact ⟨ret_bool HU.out.symm, below_drewN HB1.out nq⟩
    · obtain rfl : k = un := by omega
      go_wp2_with fail
      go_ret
      exact ⟨ret_bool (dB_true HK.out).symm, HB.out⟩

theorem holds_ups {C : CX} {n : Nat} {st : List Int} {ins : Nat} {x : FT} {a : Option Addr} {cap : Nat} {P : FT → Prop} {w : World} (hP : VPre C n st ins x a cap P w) (g : Nat) : HoldsP C st (C.u.fn g).un (C.u.fn g).u ↔ UpsOk C.u C.f n g := by
  constructor
  · intro h i hi
    exact ⟨fun hl => ⟨hP.ss.rg _ ((h i hi).1 hl), (hP.stack _ (hP.ss.rg _ ((h i hi).1 hl))).1 ((h i hi).1 hl)⟩, (h i hi).2⟩
  · intro h i hi
    exact ⟨fun hl => (hP.stack _ ((h i hi).1 hl).1).2 ((h i hi).1 hl).2, (h i hi).2⟩
set_option maxRecDepth 100000 in
set_option maxHeartbeats 4000000 in
theorem makes_step (C : CX) (hC : C.ok) (n : Nat) (hk : (C.d.nd n).k = 36) : StepSays C 166 n := by
  intro st ins x a cap P w hP
  have hk' : ((C.u.fn C.f).nd n).k = 36 := hk
  have hk0 := (hC.node hP.lt).leaf (by omega)
  have hr1 := (hC.node hP.lt).one (by omega)
  have HP : Hid (VPre C n st ins x a cap P w) := hP
  have c8 := hP.ss.c8
  have c0 := hP.ss.c0
  have c1 := hP.ss.c1
  have hn := hP.lt
  have hnn := hC.nn
  have hun := hC.u5.size.2.1
  have hf := hC.f
  obtain ⟨b, off, e0, _, hb, d0, d1, d2, d3, d4, d5, d6, d7⟩ := cells8 ((hP.ss.fns hC).2 C.f hC.f).2.2.1 hn
  obtain ⟨b2, o2, e2, _, hb2, r0⟩ := cells1 (((hP.ss.fns hC).2 C.f hC.f).2.2.2 n hn).1 (show 0 < (C.d.nd n).rn by omega)
  have HF : Hid (FnsAt C.L w C.u.n C.u.fn C.ua C.fas) := hP.ss.fns hC
  rw [e0] at c8
  rw [show (C.u.fn C.f).nd n = C.d.nd n from rfl, e2, hr1] at d6
  rw [Nat.add_zero] at r0
  clear d0 d1 d2 d3 d4 d5 d7 e0 e2
  have h7 : Hid (¬ JumpBad (C.u.fn C.f) n) := no_jump (by omega) (by omega)
  have h2 : Hid ((C.d.nd n).k ≠ 2) := by show _ ≠ _; omega
  have HK : Hid ((C.d.nd n).kn = 0) := hk0
  have hsx : Six C.u C.f n ↔ ¬ InR ((C.d.nd n).r 0) C.u.n := by
    constructor
    · rintro (h | h | h)
      · omega
      · omega
      · exact h.2
    · intro hm
      exact .inr (.inr ⟨hk, hm⟩)
  have hmk : MakeBad C.u C.f n ↔ (InR ((C.d.nd n).r 0) C.u.n ∧ (((C.d.nd n).r 0) ≤ C.f ∨ ¬ UpsOk C.u C.f n ((C.d.nd n).r 0).toNat)) := by
    constructor
    · rintro (h | h)
      · omega
      · exact h.2
    · intro h
      exact .inr ⟨hk, h⟩
  have hho := holds_ups hP
  have hsm := hC.sm
  clear hP hC hk0 hr1
  by_cases hm : InR ((C.d.nd n).r 0) C.u.n
  · have q : wiB ((C.d.nd n).r 0) (C.u.n : Int) = true := by unfold wiB; have := hm.1; have := hm.2; simp; omega
    obtain ⟨g, hg⟩ : ∃ g : Nat, (C.d.nd n).r 0 = g := ⟨((C.d.nd n).r 0).toNat, by have := hm.1; omega⟩
    have hgn : g < C.u.n := by have := hm.2; omega
    have hg' : ((C.u.fn C.f).nd n).r 0 = g := hg
    by_cases hle : g ≤ C.f
    · have hN : Hid (∀ y, NoteA C.u C.f n y ↔ y = ⟨8, C.f, n⟩) := noteA_eight (fun h => hsx.1 h hm) h7.out (hmk.2 ⟨hm, .inl (by omega)⟩)
      rw [hg'] at r0
      rw [hg] at q
      clear hsx hk hk' hm hmk hho hg hg'
      go_enter Tryz.func166, Tryz.ntmps166
      go_wp2_with (first | (go_at_call 171; refine (within_calls _ _ _).mono ?_; rw [q]; rintro e w1 ⟨rfl, rfl⟩) | (go_at_call 217; refine (note_calls C st ins x a cap 8 n _ HP.out.ss).mono ?_; rintro e w2 ⟨rfl, hn1⟩; have HN1 : Hid _ := hn1; clear hn1))
      go_end0
      exact ⟨rfl, step_yes HN1.out h2.out HP.out.least (by decide) HK.out hN.out⟩
    · obtain ⟨b3, o3, e3, _, hb3, f0, f1, f2, f3, f4, f5, f6⟩ := cells7 HF.out.1 hgn
      rw [e3] at c0
      have hug := (hsm.fn g hgn).un
      have HH : Hid (Calls Tryz.prog 219 #[.pointer (some ⟨C.S, 0, none⟩), .slice (C.fas g).ua (C.u.fn g).un (C.fas g).uc] w fun e w' => e = .returned (.bool (dB (HoldsP C st (C.u.fn g).un (C.u.fn g).u))) ∧ Below w.heap.size w w') := holds_calls C st ins x a cap _ _ _ _ C.L w hug HP.out.ss (HF.out.2 g hgn).2.1
      by_cases hu : UpsOk C.u C.f n g
      · have hN : Hid (∀ y, ¬ NoteA C.u C.f n y) := noteA_none (fun h => hsx.1 h hm) h7.out (fun h => by
          rcases (hmk.1 h).2 with h1 | h1
          · omega
          · exact h1 (by rw [hg]; exact hu))
        have q2 : dB (HoldsP C st (C.u.fn g).un (C.u.fn g).u) = true := dB_true ((hho g).2 hu)
        rw [hg'] at r0
        rw [hg] at q
        clear hsx hk hk' hm hmk hho hg hg' f0 f1 f2 f3 f4 f6 e3 hu
        go_enter Tryz.func166, Tryz.ntmps166
        go_wp2_with (first | (go_at_call 171; refine (within_calls _ _ _).mono ?_; rw [q]; rintro e w1 ⟨rfl, rfl⟩) | (go_at_call 219; refine HH.out.mono ?_; rw [q2]; rintro e w2 ⟨rfl, hb2⟩; have HB2 : Hid _ := hb2; clear hb2))
        go_end0
        exact ⟨rfl, step_no (HP.out.ss.call HB2.out) ((Mv.refl _ _ _ _).call HB2.out) h2.out HP.out.least HK.out hN.out⟩
      · have hN : Hid (∀ y, NoteA C.u C.f n y ↔ y = ⟨8, C.f, n⟩) := noteA_eight (fun h => hsx.1 h hm) h7.out (hmk.2 ⟨hm, .inr (by rw [hg]; exact hu)⟩)
        have q2 : dB (HoldsP C st (C.u.fn g).un (C.u.fn g).u) = false := dB_false fun h => hu ((hho g).1 h)
        rw [hg'] at r0
        rw [hg] at q
        clear hsx hk hk' hm hmk hho hg hg' f0 f1 f2 f3 f4 f6 e3 hu
        go_enter Tryz.func166, Tryz.ntmps166
        go_wp2_with (first | (go_at_call 171; refine (within_calls _ _ _).mono ?_; rw [q]; rintro e w1 ⟨rfl, rfl⟩) | (go_at_call 219; refine HH.out.mono ?_; rw [q2]; rintro e w2 ⟨rfl, hb2⟩; have HB2 : Hid _ := hb2; clear hb2) | (go_at_call 217; refine (note_calls C st ins x a cap 8 n _ (HP.out.ss.call HB2.out)).mono ?_; rintro e w3 ⟨rfl, hn1⟩; have HN1 : Hid _ := hn1; clear hn1))
        go_end0
        exact ⟨rfl, step_yes ⟨HN1.out.1, ((Mv.refl _ _ _ _).call HB2.out).trans HN1.out.2⟩ h2.out HP.out.least (by decide) HK.out hN.out⟩
  · have hN : Hid (∀ y, NoteA C.u C.f n y ↔ y = ⟨6, C.f, n⟩) := noteA_six (hsx.2 hm) h7.out (fun h => hm (hmk.1 h).1)
    have q : wiB ((C.d.nd n).r 0) (C.u.n : Int) = false := by
      unfold wiB InR at *
      simp
      omega
    clear hsx hk hk' hm hmk hho
    go_enter Tryz.func166, Tryz.ntmps166
    go_wp2_with (first | (go_at_call 171; refine (within_calls _ _ _).mono ?_; rw [q]; rintro e w1 ⟨rfl, rfl⟩) | (go_at_call 217; refine (note_calls C st ins x a cap 6 n _ HP.out.ss).mono ?_; rintro e w2 ⟨rfl, hn1⟩; have HN1 : Hid _ := hn1; clear hn1))
    first | go_end0 | refine bodyPost_ret (results_none rfl _ _ _) rfl ?_
    exact ⟨rfl, step_yes HN1.out h2.out HP.out.least (by decide) HK.out hN.out⟩
end Go.Proofs.YtiidepafifodjabGreat

/-! The program's scopes: a node is visited. -/
namespace Go.Proofs.YtiidepafifodjabGreat
open Go.RowKit
attribute [local go_sem] run_store_float
attribute [local go_sem ↓] Go.wp_at_zero Go.wp_at_succ

theorem enter_sf (k : Nat) (hv : k < 39) (args : Array Value) (w : World) : (callFunc (sfN k) args).run Tryz.prog w = .ok (.enter (sfN k) args) w := by
  rcases (show k = 0 ∨ k = 1 ∨ k = 2 ∨ k = 3 ∨ k = 4 ∨ k = 5 ∨ k = 6 ∨ k = 7 ∨ k = 8 ∨ k = 9 ∨ k = 10 ∨ k = 11 ∨ k = 12 ∨ k = 13 ∨ k = 14 ∨ k = 15 ∨ k = 16 ∨ k = 17 ∨ k = 18 ∨ k = 19 ∨ k = 20 ∨ k = 21 ∨ k = 22 ∨ k = 23 ∨ k = 24 ∨ k = 25 ∨ k = 26 ∨ k = 27 ∨ k = 28 ∨ k = 29 ∨ k = 30 ∨ k = 31 ∨ k = 32 ∨ k = 33 ∨ k = 34 ∨ k = 35 ∨ k = 36 ∨ k = 37 ∨ k = 38 by omega) with rfl | rfl | rfl | rfl | rfl | rfl | rfl | rfl | rfl | rfl | rfl | rfl | rfl | rfl | rfl | rfl | rfl | rfl | rfl | rfl | rfl | rfl | rfl | rfl | rfl | rfl | rfl | rfl | rfl | rfl | rfl | rfl | rfl | rfl | rfl | rfl | rfl | rfl | rfl <;> kernel_rfl
theorem VPost.drew {C : CX} {st : List Int} {ins : Nat} {Q : FT → Prop} {a : Option Addr} {w w' : World} (h : VPost C st ins Q a w.drew w') : VPost C st ins Q a w w' := by
  obtain ⟨x', a', cap', h1, h2, h3⟩ := h
  exact ⟨x', a', cap', h1, h2, (Mv.refl _ _ _ _).drew.trans h3⟩
theorem VPre.drew {C : CX} {n : Nat} {st : List Int} {ins : Nat} {x : FT} {a : Option Addr} {cap : Nat} {P : FT → Prop} {w : World} (h : VPre C n st ins x a cap P w) : VPre C n st ins x a cap P w.drew := ⟨h.ss.drew, h.lt, h.stack, h.loop, h.room, h.deep, h.least⟩
theorem visS {C : CX} (hC : C.ok) {st : List Int} {ins : Nat} {x : FT} {a : Option Addr} {cap : Nat} {w : World} (h : SS C st ins x a cap w) {n : Nat} (hn : n < C.d.nn) {b off kN : Nat} (e0 : C.fa.na = some ⟨b, off, none⟩) (hk : (C.d.nd n).k = kN) (hk2 : kN < 39) :
    w.cell? ⟨C.S, 8, none⟩ = some (.slice (some ⟨b, off, none⟩) C.d.nn C.fa.nc) ∧ w.cell? ⟨b, off + n * 8, none⟩ = some (.int .i64 (kN : Int)) ∧ w.cell? ⟨C.S, 9 + kN, none⟩ = some (mvS C.S (sfN kN)) := by
  obtain ⟨b', off', e1, _, _, d0, _⟩ := cells8 ((h.fns hC).2 C.f hC.f).2.2.1 hn
  have e2 : some (⟨b, off, none⟩ : Addr) = some ⟨b', off', none⟩ := e0.symm.trans e1
  cases e2
  refine ⟨by rw [← e0]; exact h.c8, ?_, h.box.1.cell (9 + kN) (sc_step _ _ _ _ _ _ _ _ _ _ kN hk2)⟩
  rw [← hk]
  exact d0

set_option maxRecDepth 100000 in
set_option maxHeartbeats 4000000 in
theorem visit_of (C : CX) (hC : C.ok) (n : Nat) (hstep : StepSays C (sfN (C.d.nd n).k.toNat) n) : VisSays C n := by
  intro st ins x a cap P w hP
  have hn := hP.lt
  have hnn := hC.nn
  have hsh := (hC.node hn).kind
  obtain ⟨kN, hkN⟩ : ∃ kN : Nat, (C.d.nd n).k = kN := ⟨(C.d.nd n).k.toNat, by omega⟩
  have hk2 : kN < 39 := by omega
  have i1 : (kN : Int) < 39 := by omega
  have i2 : (0 : Int) ≤ (kN : Int) := by omega
  obtain ⟨b, off, e0, _⟩ := cells8 ((hP.ss.fns hC).2 C.f hC.f).2.2.1 hn
  have HV : Hid (∀ (st : List Int) (ins : Nat) (x : FT) (a : Option Addr) (cap : Nat) (w : World), SS C st ins x a cap w → w.cell? ⟨C.S, 8, none⟩ = some (.slice (some ⟨b, off, none⟩) C.d.nn C.fa.nc) ∧ w.cell? ⟨b, off + n * 8, none⟩ = some (.int .i64 (kN : Int)) ∧ w.cell? ⟨C.S, 9 + kN, none⟩ = some (mvS C.S (sfN kN))) := fun st ins x a cap w h => visS hC h hn e0 hkN hk2
  have HC : Hid (Calls Tryz.prog (sfN kN) #[.pointer (some ⟨C.S, 0, none⟩), .int .i64 (n : Int)] w.drew fun e w' => e = .returned (.tuple #[]) ∧ VPost C (st ++ leaves C n) ins (fun y => P y ∨ NoteT C.u C.f n y) a w.drew w') := by
    have h := hstep st ins x a cap P w.drew hP.drew
    rw [hkN] at h
    exact h
  have HP : Hid (VPre C n st ins x a cap P w) := hP
  clear hP hC hstep hkN hsh e0
  go_enter Tryz.func169, Tryz.ntmps169
  refine wp_region_held_drew (S := (fun w' => w'.cell? ⟨C.S, 8, none⟩ = some (.slice (some ⟨b, off, none⟩) C.d.nn C.fa.nc) ∧ w'.cell? ⟨b, off + n * 8, none⟩ = some (.int .i64 (kN : Int)) ∧ w'.cell? ⟨C.S, 9 + kN, none⟩ = some (mvS C.S (sfN kN)))) (by kernel_rfl) (HV.out _ _ _ _ _ _ HP.out.ss.drew) (fun hHold => ?_)
  refine wpAnyH_take (i := 0) (oi := ⟨some 4, _, _, _, _, _⟩) (v := ?v1) rfl (by kernel_rfl) (by kernel_rfl) (by kernel_rfl) (fun _ _ _ h => h) (Or.inl ⟨by rfl, ?hy1⟩) (by assumption) ?rest1
  case hy1 => (intro wz hSw; (try dsimp only at hSw); go_simp <;> with_reducible rfl)
  try simp only [Act.put, List.setIfInBounds_toArray, List.set_cons_zero, List.set_cons_succ]
  refine wpAnyH_take (i := 1) (oi := ⟨some 5, _, _, _, _, _⟩) (v := ?v2) rfl (by kernel_rfl) (by kernel_rfl) (by kernel_rfl) (fun _ _ _ h => h) (Or.inl ⟨by rfl, ?hy2⟩) (by assumption) ?rest2
  case hy2 => (intro wz hSw; (try dsimp only at hSw); go_simp <;> with_reducible rfl)
  try simp only [Act.put, List.setIfInBounds_toArray, List.set_cons_zero, List.set_cons_succ]
  refine wpAnyH_take (i := 2) (oi := ⟨some 6, _, _, _, _, _⟩) (v := ?v3) rfl (by kernel_rfl) (by kernel_rfl) (by kernel_rfl) (fun _ _ _ h => h) (Or.inl ⟨by rfl, ?hy3⟩) (by assumption) ?rest3
  case hy3 => (intro wz hSw; (try dsimp only at hSw); go_simp <;> with_reducible rfl)
  try simp only [Act.put, List.setIfInBounds_toArray, List.set_cons_zero, List.set_cons_succ]
  refine wpAnyH_take (i := 3) (oi := ⟨some 7, _, _, _, _, _⟩) (v := ?v4) rfl (by kernel_rfl) (by kernel_rfl) (by kernel_rfl) (fun _ _ _ h => h) (Or.inl ⟨by rfl, ?hy4⟩) (by assumption) ?rest4
  case hy4 => (intro wz hSw; (try dsimp only at hSw); go_simp <;> with_reducible rfl)
  try simp only [Act.put, List.setIfInBounds_toArray, List.set_cons_zero, List.set_cons_succ]
  refine wpAnyH_take (i := 4) (oi := ⟨some 8, _, _, _, _, _⟩) (v := ?v5) rfl (by kernel_rfl) (by kernel_rfl) (by kernel_rfl) (fun _ _ _ h => h) (Or.inl ⟨by rfl, ?hy5⟩) (by assumption) ?rest5
  case hy5 => (intro wz hSw; (try dsimp only at hSw); go_simp <;> with_reducible rfl)
  try simp only [Act.put, List.setIfInBounds_toArray, List.set_cons_zero, List.set_cons_succ]
  refine wpAnyH_take (i := 5) (oi := ⟨some 9, _, _, _, _, _⟩) (v := ?v6) rfl (by kernel_rfl) (by kernel_rfl) (by kernel_rfl) (fun _ _ _ h => h) (Or.inl ⟨by rfl, ?hy6⟩) (by assumption) ?rest6
  case hy6 => (intro wz hSw; (try dsimp only at hSw); go_simp <;> with_reducible rfl)
  try simp only [Act.put, List.setIfInBounds_toArray, List.set_cons_zero, List.set_cons_succ]
  refine wpAnyH_take (i := 6) (oi := ⟨some 10, _, _, _, _, _⟩) (v := ?v7) rfl (by kernel_rfl) (by kernel_rfl) (by kernel_rfl) (fun _ _ _ h => h) (Or.inl ⟨by rfl, ?hy7⟩) (by assumption) ?rest7
  case hy7 => (intro wz hSw; (try dsimp only at hSw); go_simp <;> with_reducible rfl)
  try simp only [Act.put, List.setIfInBounds_toArray, List.set_cons_zero, List.set_cons_succ]
  refine wpAnyH_take (i := 7) (oi := ⟨some 11, _, _, _, _, _⟩) (v := ?v8) rfl (by kernel_rfl) (by kernel_rfl) (by kernel_rfl) (fun _ _ _ h => h) (Or.inl ⟨by rfl, ?hy8⟩) (by assumption) ?rest8
  case hy8 => (intro wz hSw; (try dsimp only at hSw); go_simp <;> with_reducible rfl)
  try simp only [Act.put, List.setIfInBounds_toArray, List.set_cons_zero, List.set_cons_succ]
  refine wpAnyH_take (i := 8) (oi := ⟨some 12, _, _, _, _, _⟩) (v := ?v9) rfl (by kernel_rfl) (by kernel_rfl) (by kernel_rfl) (fun _ _ _ h => h) (Or.inl ⟨by rfl, ?hy9⟩) (by assumption) ?rest9
  case hy9 => (intro wz hSw; (try dsimp only at hSw); go_simp <;> with_reducible rfl)
  try simp only [Act.put, List.setIfInBounds_toArray, List.set_cons_zero, List.set_cons_succ]
  refine wpAnyH_take (i := 9) (oi := ⟨some 13, _, _, _, _, _⟩) (v := ?v10) rfl (by kernel_rfl) (by kernel_rfl) (by kernel_rfl) (fun _ _ _ h => h) (Or.inl ⟨by rfl, ?hy10⟩) (by assumption) ?rest10
  case hy10 => (intro wz hSw; (try dsimp only at hSw); go_simp <;> with_reducible rfl)
  try simp only [Act.put, List.setIfInBounds_toArray, List.set_cons_zero, List.set_cons_succ]
  refine wpAnyH_take (i := 10) (oi := ⟨some 14, _, _, _, _, _⟩) (v := ?v11) rfl (by kernel_rfl) (by kernel_rfl) (by kernel_rfl) (fun _ _ _ h => h) (Or.inl ⟨by rfl, ?hy11⟩) (by assumption) ?rest11
  case hy11 => (intro wz hSw; (try dsimp only at hSw); go_simp <;> with_reducible rfl)
  try simp only [Act.put, List.setIfInBounds_toArray, List.set_cons_zero, List.set_cons_succ]
  refine wpAnyH_take (i := 11) (oi := ⟨some 15, _, _, _, _, _⟩) (v := ?v12) rfl (by kernel_rfl) (by kernel_rfl) (by kernel_rfl) (fun _ _ _ h => h) (Or.inl ⟨by rfl, ?hy12⟩) (by assumption) ?rest12
  case hy12 => (intro wz hSw; (try dsimp only at hSw); go_simp <;> with_reducible rfl)
  try simp only [Act.put, List.setIfInBounds_toArray, List.set_cons_zero, List.set_cons_succ]
  refine wpAnyH_take (i := 12) (oi := ⟨some 16, _, _, _, _, _⟩) (v := ?v13) rfl (by kernel_rfl) (by kernel_rfl) (by kernel_rfl) (fun _ _ _ h => h) (Or.inl ⟨by rfl, ?hy13⟩) (by assumption) ?rest13
  case hy13 => (intro wz hSw; (try dsimp only at hSw); go_simp <;> with_reducible rfl)
  try simp only [Act.put, List.setIfInBounds_toArray, List.set_cons_zero, List.set_cons_succ]
  refine wpAnyH_take (i := 13) (oi := ⟨some 17, _, _, _, _, _⟩) (v := ?v14) rfl (by kernel_rfl) (by kernel_rfl) (by kernel_rfl) (fun _ _ _ h => h) (Or.inl ⟨by rfl, ?hy14⟩) (by assumption) ?rest14
  case hy14 => (intro wz hSw; (try dsimp only at hSw); go_simp <;> with_reducible rfl)
  try simp only [Act.put, List.setIfInBounds_toArray, List.set_cons_zero, List.set_cons_succ]
  refine wpAnyH_take (i := 14) (oi := ⟨some 18, _, _, _, _, _⟩) (v := ?v15) rfl (by kernel_rfl) (by kernel_rfl) (by kernel_rfl) (fun _ _ _ h => h) (Or.inl ⟨by rfl, ?hy15⟩) (by assumption) ?rest15
  case hy15 => (intro wz hSw; (try dsimp only at hSw); go_simp <;> with_reducible rfl)
  try simp only [Act.put, List.setIfInBounds_toArray, List.set_cons_zero, List.set_cons_succ]
  refine wpAnyH_ready (rs := [15]) (by kernel_rfl) (by simp) ?_
  refine AllReadyH.cons (o := ⟨some 19, _, _, _, _, _⟩) rfl (fun K hK => ?_) AllReadyH.nil
  go_simp
  rw [enter_sf kN hk2]
  dsimp only [Oper.upon]
  refine HC.out.mono ?_
  rintro e w9 ⟨rfl, hp9⟩
  have HP9 : Hid _ := hp9
  dsimp only
  refine hK.out _ _ (by obtain ⟨x', a', cap', h1, _⟩ := HP9.out; exact HV.out _ _ _ _ _ _ h1) (fun hHeld => ?_)
  refine wpAnyH_done (by kernel_rfl) ?_ _
  go_end0
  exact ⟨rfl, VPost.drew HP9.out⟩
end Go.Proofs.YtiidepafifodjabGreat
