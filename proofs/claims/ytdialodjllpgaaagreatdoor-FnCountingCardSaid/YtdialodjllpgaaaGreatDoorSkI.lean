import Derived.Test.YtdialodjllpgaaaGreatDoorSkE
/-! The program's scopes: kids, blocks, lets. -/
namespace Go.Proofs.YtdialodjllpgaaaGreatDoor
open Go.RowKit
attribute [local go_sem] run_store_float
attribute [local go_sem ↓] Go.wp_at_zero Go.wp_at_succ

theorem CX.ok.rn {C : CX} (h : C.ok) {n : Nat} (hn : n < C.d.nn) : (C.d.nd n).rn ≤ 1048576 := ((h.sm.fn C.f h.f).nd n hn).rn
theorem vref_len (d : ND) (vn : Nat) : (vref d vn).length ≤ d.rn := by rw [← vrN_ref]; exact vrN_len _ _ _
theorem lets_len (C : CX) (hC : C.ok) (n : Nat) (hn : n < C.d.nn) : ∀ j, j ≤ (C.d.nd n).kn → (letsOf C.d.nd C.d.vn n j).length ≤ 1048576 * j
  | 0, _ => by simp [letsOf]
  | j + 1, hj => by
    have ih := lets_len C hC n hn j (by omega)
    have hc := (hC.node hn).kids j (by omega)
    have h1 := vref_len (C.d.nd ((C.d.nd n).c j).toNat) C.d.vn
    have h2 := hC.rn (n := ((C.d.nd n).c j).toNat) (by omega)
    unfold letsOf
    rw [List.length_append]
    split
    · omega
    · simp; omega
theorem leaves_kid {C : CX} (n j c : Nat) (hc : (C.d.nd n).c j = (c : Int)) : letsOf C.d.nd C.d.vn n (j + 1) = letsOf C.d.nd C.d.vn n j ++ leaves C c := by
  show letsOf C.d.nd C.d.vn n j ++ _ = _
  rw [hc, Int.toNat_natCast]
  rfl
theorem lets_nil {C : CX} (hC : C.ok) {n : Nat} (hn : n < C.d.nn) (hk : (C.d.nd n).k ≠ 1) : ∀ j, j ≤ (C.d.nd n).kn → letsOf C.d.nd C.d.vn n j = []
  | 0, _ => rfl
  | j + 1, hj => by
    have := (hC.node hn).lets hk j (by omega)
    unfold letsOf
    rw [lets_nil hC hn hk j (by omega), if_neg this]
    rfl
/-- what holds at kid j when the step at n may go there with the stack as it is -/
theorem VPre.kid {C : CX} (hC : C.ok) {n : Nat} {st : List Int} {ins : Nat} {x : FT} {a : Option Addr} {cap : Nat} {P : FT → Prop} {w : World} (h : VPre C n st ins x a cap P w) {j c : Nat} (hj : j < (C.d.nd n).kn) (hc : (C.d.nd n).c j = (c : Int)) {st' : List Int} {ins' : Nat} {x' : FT} {a' : Option Addr} {cap' : Nat} {P' : FT → Prop} {w' : World} (hs : SS C st' ins' x' a' cap' w') (hst : StackOk C.d c st') (hlp : 0 < ins' ↔ InL C.d.nd C.d.nn c) (hlen : st'.length ≤ st.length + 209715200) (hins : ins' ≤ ins + 1) (hl : Least P' x') : VPre C c st' ins' x' a' cap' P' w' := by
  have h0 := h.lt
  have h1 := (hC.node h0).kids j hj
  have h2 := h.room
  have h3 := h.deep
  exact ⟨hs, by omega, hst, hlp, by omega, by omega, hl⟩
/-- the stack at kid j of a plain node or of a block -/
theorem VPre.stackK {C : CX} (hC : C.ok) {n : Nat} {st : List Int} {ins : Nat} {x : FT} {a : Option Addr} {cap : Nat} {P : FT → Prop} {w : World} (h : VPre C n st ins x a cap P w) (hk : (C.d.nd n).k ≠ 7 ∧ (C.d.nd n).k ≠ 8 ∧ (C.d.nd n).k ≠ 12) {j c : Nat} (hj : j < (C.d.nd n).kn) (hc : (C.d.nd n).c j = (c : Int)) : StackOk C.d c (st ++ letsOf C.d.nd C.d.vn n j) := by
  by_cases e : (C.d.nd n).k = 1
  · exact StackOk.block hC.tree ⟨h.lt, hj, hc⟩ e h.stack
  · rw [lets_nil hC h.lt e j (by omega), List.append_nil]
    exact StackOk.plain hC.tree ⟨h.lt, hj, hc⟩ e (fun h => by omega) h.stack
theorem VPre.loopK {C : CX} (hC : C.ok) {n : Nat} {st : List Int} {ins : Nat} {x : FT} {a : Option Addr} {cap : Nat} {P : FT → Prop} {w : World} (h : VPre C n st ins x a cap P w) {j c : Nat} (hj : j < (C.d.nd n).kn) (hc : (C.d.nd n).c j = (c : Int)) (hk : ¬ (((C.d.nd n).k = 6 ∨ (C.d.nd n).k = 7 ∨ (C.d.nd n).k = 8) ∧ j + 1 = (C.d.nd n).kn)) : 0 < ins ↔ InL C.d.nd C.d.nn c := by
  rw [InL.iff hC.tree ⟨h.lt, hj, hc⟩, h.loop]
  exact ⟨.inr, fun h' => h'.resolve_left hk⟩

/-- how kids ends -/
def KPost (C : CX) (n : Nat) (st : List Int) (ins : Nat) (P : FT → Prop) (a : Option Addr) (w w' : World) : Prop := VPost C (st ++ letsOf C.d.nd C.d.vn n (C.d.nd n).kn) ins (fun y => P y ∨ NoteK C.u C.f n (C.d.nd n).kn y) a w w'
set_option maxRecDepth 100000 in
set_option maxHeartbeats 4000000 in
theorem kids_calls (C : CX) (hC : C.ok) (n : Nat) (ih : ∀ m, m < n → VisSays C m) (hk : (C.d.nd n).k ≠ 6 ∧ (C.d.nd n).k ≠ 7 ∧ (C.d.nd n).k ≠ 8 ∧ (C.d.nd n).k ≠ 12) (st : List Int) (ins : Nat) (x : FT) (a : Option Addr) (cap : Nat) (P : FT → Prop) (w : World) (hP : VPre C n st ins x a cap P w) :
    Calls Tryz.prog 126 #[.pointer (some ⟨C.S, 0, none⟩), .int .i64 (n : Int)] w fun e w' => e = .returned (.tuple #[]) ∧ KPost C n st ins P a w w' := by
  have HP : Hid (VPre C n st ins x a cap P w) := hP
  have HC : Hid C.ok := hC
  have IH : Hid (∀ m, m < n → VisSays C m) := ih
  have HK : Hid ((C.d.nd n).k ≠ 6 ∧ (C.d.nd n).k ≠ 7 ∧ (C.d.nd n).k ≠ 8 ∧ (C.d.nd n).k ≠ 12) := hk
  have c8 := hP.ss.c8
  have hn := hP.lt
  have hnn := hC.nn
  have hkn := (hC.node hn).kn
  obtain ⟨b, off, e0, _, hb, d0, d1, d2, d3, d4, d5, d6, d7⟩ := cells8 ((hP.ss.fns hC).2 C.f hC.f).2.2.1 hn
  rw [e0] at c8
  rw [show (C.u.fn C.f).nd n = C.d.nd n from rfl] at d7
  clear d0 d1 d2 d3 d4 d5 d6 e0 hP hC ih hk
  go_enter Tryz.func126, Tryz.ntmps126
  go_wp2_with fail
  clear c8 d7
  go_loopw [16] (fun i wr => ∃ (k : Nat) (x' : FT) (a' : Option Addr) (cap' : Nat), k ≤ (C.d.nd n).kn ∧ i = .int .i64 k ∧ Hid (SS C (st ++ letsOf C.d.nd C.d.vn n k) ins x' a' cap' wr) ∧ Hid (Least (fun y => P y ∨ NoteK C.u C.f n k y) x') ∧ Hid (Mv C.S C.T a w a' wr)) (fun i _ => (C.d.nd n).kn - (intOf i).toNat)
  case atStart => exact ⟨0, x, a, cap, Nat.zero_le _, rfl, by show SS _ _ _ _ _ _ _; rw [show letsOf C.d.nd C.d.vn n 0 = [] from rfl, List.append_nil]; exact HP.out.ss, HP.out.least.congr fun y => ⟨.inl, fun h => h.resolve_right (noteK_zero _ _ _ _)⟩, Mv.refl _ _ _ _⟩
  case round =>
    obtain ⟨k, x', a', cap', hk, rfl, HS, HL, HM⟩ := hrel
    by_cases hkn2 : k < (C.d.nd n).kn
    · obtain ⟨b2, o2, e2, _, hb2, g0⟩ := cells1 (((HS.out.fns HC.out).2 C.f HC.out.f).2.2.2 n hn).2 hkn2
      rw [show C.fas C.f = C.fa from rfl] at e2
      rw [e2]
      have hc := (HC.out.node hn).kids k hkn2
      obtain ⟨c, hcc⟩ : ∃ c : Nat, (C.d.nd n).c k = c := ⟨((C.d.nd n).c k).toNat, by omega⟩
      rw [show ((C.u.fn C.f).nd n).c k = (c : Int) from hcc] at g0
      have hcn : c < n := by omega
      have hlen := lets_len C HC.out n hn k hk
      have HV : Hid (Calls Tryz.prog 137 #[.pointer (some ⟨C.S, 0, none⟩), .int .i64 (c : Int)] wr fun e w' => e = .returned (.tuple #[]) ∧ VPost C ((st ++ letsOf C.d.nd C.d.vn n k) ++ leaves C c) ins (fun y => (P y ∨ NoteK C.u C.f n k y) ∨ NoteT C.u C.f c y) a' wr w') :=
        IH.out c hcn _ _ _ _ _ _ _ (HP.out.kid HC.out hkn2 hcc HS.out (HP.out.stackK HC.out HK.out.2 hkn2 hcc) (HP.out.loopK HC.out hkn2 hcc (fun h => by have := HK.out; omega)) (by rw [List.length_append]; omega) (by omega) HL.out)
      have HE : Hid (st ++ letsOf C.d.nd C.d.vn n (k + 1) = (st ++ letsOf C.d.nd C.d.vn n k) ++ leaves C c) := by show _ = _; rw [leaves_kid n k c hcc, List.append_assoc]
      have HQ : Hid (∀ y, ((P y ∨ NoteK C.u C.f n k y) ∨ NoteT C.u C.f c y) ↔ (P y ∨ NoteK C.u C.f n (k + 1) y)) := fun y => by rw [noteK_succ C.u C.f n k c hcc y, or_assoc]
      clear hc hcc hlen e2
      go_wp2_with (go_at_call 137; refine HV.out.mono ?_; rintro e w9 ⟨rfl, ⟨x9, a9, cap9, hs9, hl9, hm9⟩⟩; have HS9 : Hid _ := hs9; have HL9 : Hid _ := hl9; have HM9 : Hid _ := hm9; clear hs9 hl9 hm9)
      go_roundw
      case rel => exact ⟨k + 1, x9, a9, cap9, by omega, by go_num, by rw [HE.out]; exact HS9, Least.congr HL9.out HQ.out, HM.out.trans HM9.out⟩
      case measure => simp [intOf]; omega
    · obtain rfl : k = (C.d.nd n).kn := by omega
      go_wp2_with fail
      go_end0
      exact ⟨rfl, x', a', cap', HS.out, HL.out, HM.out⟩
end Go.Proofs.YtdialodjllpgaaaGreatDoor

/-! The program's scopes: kids, blocks and lets as steps. -/
namespace Go.Proofs.YtdialodjllpgaaaGreatDoor
open Go.RowKit
attribute [local go_sem] run_store_float
attribute [local go_sem ↓] Go.wp_at_zero Go.wp_at_succ

/-- a node's refs lie elsewhere -/
theorem FarI.node {C : CX} (hC : C.ok) {st : List Int} {ins : Nat} {x : FT} {a : Option Addr} {cap : Nat} {w : World} (h : SS C st ins x a cap w) {n : Nat} (hn : n < C.d.nn) : FarI C a w (C.fa.nas n).ra (C.d.nd n).rn (C.d.nd n).r := by
  refine ⟨RowN.less (((h.fns hC).2 C.f hC.f).2.2.2 n hn).1 (Nat.zero_le _), fun h0 b off e => ?_⟩
  obtain ⟨b', off', e', _, hb, _⟩ := ((hC.at_.2 C.f hC.f).2.2.2 n hn).1 h0
  rw [show C.fas C.f = C.fa from rfl, e] at e'
  cases e'
  have h1 := h.nS
  have h2 := h.nT
  exact ⟨by omega, by omega, fun c => by have := (h.ge c).1; omega⟩
theorem KPost.step {C : CX} {n : Nat} {st : List Int} {ins : Nat} {P : FT → Prop} {a : Option Addr} {w w' : World} (h : KPost C n st ins P a w w') (hl : letsOf C.d.nd C.d.vn n (C.d.nd n).kn = []) (h2 : (C.d.nd n).k ≠ 2) (hN : ∀ y, ¬ NoteA C.u C.f n y) : VPost C (st ++ leaves C n) ins (fun y => P y ∨ NoteT C.u C.f n y) a w w' := by
  obtain ⟨x', a', cap', h1, h3, h4⟩ := h
  rw [hl, List.append_nil] at h1
  rw [leaves_nil h2]
  exact ⟨x', a', cap', h1, h3.congr fun y => by rw [noteT_iff]; exact ⟨fun h => h.elim .inl fun h => .inr (.inl h), fun h => h.elim .inl fun h => .inr (h.resolve_right (hN y))⟩, h4⟩
theorem kids_step (C : CX) (hC : C.ok) (n : Nat) (hn : n < C.d.nn) (ih : ∀ m, m < n → VisSays C m) (hk : (C.d.nd n).k ≠ 1 ∧ (C.d.nd n).k ≠ 2 ∧ (C.d.nd n).k ≠ 6 ∧ (C.d.nd n).k ≠ 7 ∧ (C.d.nd n).k ≠ 8 ∧ (C.d.nd n).k ≠ 12 ∧ (C.d.nd n).k ≠ 9 ∧ (C.d.nd n).k ≠ 10 ∧ (C.d.nd n).k ≠ 26 ∧ (C.d.nd n).k ≠ 27 ∧ (C.d.nd n).k ≠ 36 ∧ (C.d.nd n).k ≠ 37) : StepSays C 126 n := by
  intro st ins x a cap P w hP
  have hN := noteA_none (no_six (u := C.u) (f := C.f) (n := n) hk.2.2.2.2.2.2.2.2.1 hk.2.2.2.2.2.2.2.2.2.1 hk.2.2.2.2.2.2.2.2.2.2.1) (no_jump hk.2.2.2.2.2.2.1 hk.2.2.2.2.2.2.2.1) (no_make hk.2.2.2.2.2.2.2.2.2.2.1 hk.2.2.2.2.2.2.2.2.2.2.2)
  refine (kids_calls C hC n ih ⟨hk.2.2.1, hk.2.2.2.1, hk.2.2.2.2.1, hk.2.2.2.2.2.1⟩ st ins x a cap P w hP).mono ?_
  rintro e w' ⟨rfl, h⟩
  exact ⟨rfl, h.step (lets_nil hC hn hk.1 _ (Nat.le_refl _)) hk.2.1 hN⟩

set_option maxRecDepth 100000 in
set_option maxHeartbeats 4000000 in
theorem let_step (C : CX) (hC : C.ok) (n : Nat) (ih : ∀ m, m < n → VisSays C m) (hk : (C.d.nd n).k = 2) : StepSays C 128 n := by
  intro st ins x a cap P w hP
  have hk' : ((C.u.fn C.f).nd n).k = 2 := hk
  have HN : Hid (∀ y, ¬ NoteA C.u C.f n y) := noteA_none (no_six (by omega) (by omega) (by omega)) (no_jump (by omega) (by omega)) (no_make (by omega) (by omega))
  have HKC : Hid (Calls Tryz.prog 126 #[.pointer (some ⟨C.S, 0, none⟩), .int .i64 (n : Int)] w fun e w' => e = .returned (.tuple #[]) ∧ KPost C n st ins P a w w') := kids_calls C hC n ih (by omega) st ins x a cap P w hP
  have HE : Hid (letsOf C.d.nd C.d.vn n (C.d.nd n).kn = []) := lets_nil hC hP.lt (by omega) _ (Nat.le_refl _)
  have HP : Hid (VPre C n st ins x a cap P w) := hP
  have HC : Hid C.ok := hC
  have HL : Hid (leaves C n = vrN (C.d.nd n).r C.d.vn (C.d.nd n).rn) := by show leaves C n = _; unfold leaves; rw [if_pos hk, vrN_ref]
  have hn := hP.lt
  have hnn := hC.nn
  have hrn := hC.rn hn
  have hroom := hP.room
  clear hP hC ih hk hk'
  go_enter Tryz.func128, Tryz.ntmps128
  go_wp2_with fail
  refine HKC.out.mono ?_
  rintro e w1 ⟨rfl, ⟨x1, a1, cap1, hs1, hl1, hm1⟩⟩
  rw [HE.out, List.append_nil] at hs1
  have HS1 : Hid (SS C st ins x1 a1 cap1 w1) := hs1
  have HL1 : Hid (Least (fun y => P y ∨ NoteK C.u C.f n (C.d.nd n).kn y) x1) := hl1
  have HM1 : Hid (Mv C.S C.T a w a1 w1) := hm1
  have c8 := hs1.c8
  obtain ⟨b, off, e0, _, hb, d0, d1, d2, d3, d4, d5, d6, d7⟩ := cells8 ((hs1.fns HC.out).2 C.f HC.out.f).2.2.1 hn
  rw [e0] at c8
  rw [show (C.u.fn C.f).nd n = C.d.nd n from rfl] at d6
  have HI : Hid (FarI C a1 w1 (C.fa.nas n).ra (C.d.nd n).rn (C.d.nd n).r) := FarI.node HC.out hs1 hn
  clear d0 d1 d2 d3 d4 d5 d7 e0 hs1 hl1 hm1
  go_wp2_with (go_at_call 136; refine (declareS_calls C st ins x1 a1 cap1 _ _ _ _ _ hrn (by omega) HS1.out HI.out).mono ?_; rintro e w2 ⟨rfl, ⟨a2, cap2, hs2, hm2⟩⟩; have HS2 : Hid _ := hs2; have HM2 : Hid _ := hm2; clear hs2 hm2)
  go_end0
  refine ⟨rfl, x1, a2, cap2, by rw [HL.out]; exact HS2.out, HL1.out.congr fun y => ?_, HM1.out.trans HM2.out⟩
  rw [noteT_iff]
  exact ⟨fun h => h.elim .inl fun h => .inr (.inl h), fun h => h.elim .inl fun h => .inr (h.resolve_right (HN.out y))⟩

set_option maxRecDepth 100000 in
set_option maxHeartbeats 4000000 in
theorem block_step (C : CX) (hC : C.ok) (n : Nat) (ih : ∀ m, m < n → VisSays C m) (hk : (C.d.nd n).k = 1) : StepSays C 127 n := by
  intro st ins x a cap P w hP
  have hk' : ((C.u.fn C.f).nd n).k = 1 := hk
  have HN : Hid (∀ y, ¬ NoteA C.u C.f n y) := noteA_none (no_six (by omega) (by omega) (by omega)) (no_jump (by omega) (by omega)) (no_make (by omega) (by omega))
  have h2 : Hid ((C.d.nd n).k ≠ 2) := by show _ ≠ _; omega
  have HKC : Hid (Calls Tryz.prog 126 #[.pointer (some ⟨C.S, 0, none⟩), .int .i64 (n : Int)] w fun e w' => e = .returned (.tuple #[]) ∧ KPost C n st ins P a w w') := kids_calls C hC n ih (by omega) st ins x a cap P w hP
  have HP : Hid (VPre C n st ins x a cap P w) := hP
  have c48 := hP.ss.c48
  have hroom := hP.room
  have hlen := lets_len C hC n hP.lt _ (Nat.le_refl _)
  have hkn := (hC.node hP.lt).kn
  clear hP hC ih hk hk'
  go_enter_defers Tryz.func127, Tryz.ntmps127
  go_wp2_with (go_at_call 126; refine HKC.out.mono ?_; rintro e w1 ⟨rfl, ⟨x1, a1, cap1, hs1, hl1, hm1⟩⟩; have HS1 : Hid _ := hs1; have HL1 : Hid _ := hl1; have HM1 : Hid _ := hm1; clear hs1 hl1 hm1)
  refine leaves_cons (f := 160) (args := #[.pointer (some ⟨C.S, 0, none⟩), .int .i64 (st.length : Int)]) (by simp) (by simp [go_sem]) ?_
  refine (takeDown_deferred C _ ins x1 a1 cap1 st.length .returning _ (by rw [List.length_append]; omega) (by simp) HS1.out).mono ?_
  rintro e u' w2 ⟨rfl, rfl, hs2, hm2⟩
  refine ⟨_, results_none rfl _ _ _, rfl, x1, a1, cap1, ?_, Least.congr HL1.out fun y => ?_, HM1.out.trans hm2⟩
  · rw [leaves_nil h2.out]
    rw [List.take_left] at hs2
    exact hs2
  · rw [noteT_iff]
    exact ⟨fun h => h.elim .inl fun h => .inr (.inl h), fun h => h.elim .inl fun h => .inr (h.resolve_right (HN.out y))⟩

set_option maxRecDepth 100000 in
set_option maxHeartbeats 4000000 in
theorem visitWith_calls (C : CX) (m : Nat) (ih : VisSays C m) (va : Option Addr) (vn vc : Nat) (r : Nat → Int) (st : List Int) (ins : Nat) (x : FT) (a : Option Addr) (cap : Nat) (P : FT → Prop) (w : World) (hm2 : (C.d.nd m).k ≠ 2) (hvn : vn ≤ 1048576) (hroom : st.length ≤ 700000000000) (hS : SS C st ins x a cap w) (hI : FarI C a w va vn r) (hL : Least P x)
    (hV : ∀ (a' : Option Addr) (cap' : Nat) (w' : World), SS C (st ++ vrN r C.d.vn vn) ins x a' cap' w' → VPre C m (st ++ vrN r C.d.vn vn) ins x a' cap' P w') :
    Calls Tryz.prog 161 #[.pointer (some ⟨C.S, 0, none⟩), .slice va vn vc, .int .i64 (m : Int)] w fun e w' => e = .returned (.tuple #[]) ∧ VPost C st ins (fun y => P y ∨ NoteT C.u C.f m y) a w w' := by
  have HS : Hid (SS C st ins x a cap w) := hS
  have HI : Hid (FarI C a w va vn r) := hI
  have HL : Hid (Least P x) := hL
  have HV : Hid (∀ (a' : Option Addr) (cap' : Nat) (w' : World), SS C (st ++ vrN r C.d.vn vn) ins x a' cap' w' → VPre C m (st ++ vrN r C.d.vn vn) ins x a' cap' P w') := hV
  have IH : Hid (VisSays C m) := ih
  have h2 : Hid ((C.d.nd m).k ≠ 2) := hm2
  have c48 := hS.c48
  have hlen := vrN_len r C.d.vn vn
  clear hS hI hL hV ih hm2
  go_enter_defers Tryz.func161, Tryz.ntmps161
  go_wp2_with (first | (go_at_call 136; refine (declareS_calls C st ins x a cap va vn vc r _ hvn hroom HS.out HI.out).mono ?_; rintro e w1 ⟨rfl, ⟨a1, cap1, hs1, hm1⟩⟩; have HS1 : Hid _ := hs1; have HM1 : Hid _ := hm1; clear hs1 hm1) | (go_at_call 137; refine (IH.out _ _ _ _ _ _ _ (HV.out _ _ _ HS1.out)).mono ?_; rintro e w2 ⟨rfl, ⟨x2, a2, cap2, hs2, hl2, hm2⟩⟩; have HS2 : Hid _ := hs2; have HL2 : Hid _ := hl2; have HM2 : Hid _ := hm2; clear hs2 hl2 hm2))
  have hs3 := HS2.out
  rw [leaves_nil h2.out] at hs3
  refine leaves_cons (f := 160) (args := #[.pointer (some ⟨C.S, 0, none⟩), .int .i64 (st.length : Int)]) (by simp) (by simp [go_sem]) ?_
  refine (takeDown_deferred C _ ins x2 a2 cap2 st.length .returning _ (by rw [List.length_append]; omega) (by simp) hs3).mono ?_
  rintro e u' w3 ⟨rfl, rfl, hs4, hm4⟩
  refine ⟨_, results_none rfl _ _ _, rfl, x2, a2, cap2, ?_, HL2.out, (HM1.out.trans HM2.out).trans hm4⟩
  rw [List.take_left] at hs4
  exact hs4
end Go.Proofs.YtdialodjllpgaaaGreatDoor

/-! The program's scopes: catches and loops. -/
namespace Go.Proofs.YtdialodjllpgaaaGreatDoor
open Go.RowKit
attribute [local go_sem] run_store_float
attribute [local go_sem ↓] Go.wp_at_zero Go.wp_at_succ

theorem kid_cells {C : CX} (hC : C.ok) {st : List Int} {ins : Nat} {x : FT} {a : Option Addr} {cap : Nat} {w : World} (h : SS C st ins x a cap w) {n j c b o : Nat} (hn : n < C.d.nn) (hj : j < (C.d.nd n).kn) (e : (C.fa.nas n).ka = some ⟨b, o, none⟩) (hc : (C.d.nd n).c j = (c : Int)) : w.cell? ⟨b, o + j, none⟩ = some (.int .i64 (c : Int)) := by
  obtain ⟨b', o', e', _, _, g⟩ := cells1 (((h.fns hC).2 C.f hC.f).2.2.2 n hn).2 hj
  have e2 : some (⟨b, o, none⟩ : Addr) = some ⟨b', o', none⟩ := e.symm.trans e'
  cases e2
  rw [← hc]
  exact g
/-- the first two kids, and nothing at the node itself -/
theorem note_two {u : UD} {f n c0 c1 : Nat} (hk : ((u.fn f).nd n).kn = 2) (h0 : ((u.fn f).nd n).c 0 = (c0 : Int)) (h1 : ((u.fn f).nd n).c 1 = (c1 : Int)) (hN : ∀ y, ¬ NoteA u f n y) (P : FT → Prop) (y : FT) : ((P y ∨ NoteT u f c0 y) ∨ NoteT u f c1 y) ↔ (P y ∨ NoteT u f n y) := by
  rw [noteT_iff u f n y, hk, noteK_succ u f n 1 c1 h1 y, noteK_succ u f n 0 c0 h0 y]
  constructor
  · rintro ((h | h) | h)
    · exact .inl h
    · exact .inr (.inl (.inl (.inr h)))
    · exact .inr (.inl (.inr h))
  · rintro (h | ((h | h) | h) | h)
    · exact .inl (.inl h)
    · exact absurd h (noteK_zero _ _ _ _)
    · exact .inl (.inr h)
    · exact .inr h
    · exact absurd h (hN y)

set_option maxRecDepth 100000 in
set_option maxHeartbeats 4000000 in
theorem try_step (C : CX) (hC : C.ok) (n : Nat) (ih : ∀ m, m < n → VisSays C m) (hk : (C.d.nd n).k = 12) : StepSays C 130 n := by
  intro st ins x a cap P w hP
  have hk' : ((C.u.fn C.f).nd n).k = 12 := hk
  have HN : Hid (∀ y, ¬ NoteA C.u C.f n y) := noteA_none (no_six (by omega) (by omega) (by omega)) (no_jump (by omega) (by omega)) (no_make (by omega) (by omega))
  have hn := hP.lt
  have hnn := hC.nn
  have hkn : (C.d.nd n).kn = 2 := (hC.node hn).two (by omega)
  have hc0 := (hC.node hn).kids 0 (by omega)
  have hc1 := (hC.node hn).kids 1 (by omega)
  obtain ⟨k0, hk0⟩ : ∃ c : Nat, (C.d.nd n).c 0 = c := ⟨((C.d.nd n).c 0).toNat, by omega⟩
  obtain ⟨k1, hk1⟩ : ∃ c : Nat, (C.d.nd n).c 1 = c := ⟨((C.d.nd n).c 1).toNat, by omega⟩
  have hlt0 : k0 < n := by omega
  have hlt1 : k1 < n := by omega
  have h2 : Hid ((C.d.nd n).k ≠ 2) := by show _ ≠ _; omega
  have h20 : Hid ((C.d.nd k0).k ≠ 2) := by
    have h := (hC.node hn).lets (by omega) 0 (by omega)
    rw [hk0, Int.toNat_natCast] at h
    exact h
  have h21 : Hid ((C.d.nd k1).k ≠ 2) := by
    have h := (hC.node hn).lets (by omega) 1 (by omega)
    rw [hk1, Int.toNat_natCast] at h
    exact h
  have IH0 : Hid (VisSays C k0) := ih k0 hlt0
  have IH1 : Hid (VisSays C k1) := ih k1 hlt1
  have HP : Hid (VPre C n st ins x a cap P w) := hP
  have HC : Hid C.ok := hC
  have hrn := hC.rn hn
  have hroom := hP.room
  have HQ : Hid (∀ y, ((P y ∨ NoteT C.u C.f k0 y) ∨ NoteT C.u C.f k1 y) ↔ (P y ∨ NoteT C.u C.f n y)) := note_two hkn hk0 hk1 HN.out P
  have HV0 : Hid (∀ (x' : FT) (a' : Option Addr) (cap' : Nat) (P' : FT → Prop) (w' : World), SS C st ins x' a' cap' w' → Least P' x' → VPre C k0 st ins x' a' cap' P' w') := fun x' a' cap' P' w' hs hl =>
    hP.kid hC (j := 0) (by omega) hk0 hs (StackOk.plain hC.tree ⟨hn, by omega, hk0⟩ (by omega) (fun _ => by omega) hP.stack) (hP.loopK hC (by omega) hk0 (fun h => by omega)) (by omega) (by omega) hl
  have HV1 : Hid (∀ (x' : FT) (a' : Option Addr) (cap' : Nat) (P' : FT → Prop) (w' : World), SS C (st ++ vrN (C.d.nd n).r C.d.vn (C.d.nd n).rn) ins x' a' cap' w' → Least P' x' → VPre C k1 (st ++ vrN (C.d.nd n).r C.d.vn (C.d.nd n).rn) ins x' a' cap' P' w') := fun x' a' cap' P' w' hs hl =>
    hP.kid hC (j := 1) (by omega) hk1 hs (by rw [vrN_ref]; exact StackOk.last hC.tree ⟨hn, by omega, hk1⟩ (by omega) (by omega) hP.stack) (hP.loopK hC (by omega) hk1 (fun h => by omega)) (by rw [List.length_append]; have := vrN_len (C.d.nd n).r C.d.vn (C.d.nd n).rn; omega) (by omega) hl
  have c8 := hP.ss.c8
  obtain ⟨b, off, e0, _, hb, d0, d1, d2, d3, d4, d5, d6, d7⟩ := cells8 ((hP.ss.fns hC).2 C.f hC.f).2.2.1 hn
  obtain ⟨b2, o2, e2, _, hb2, g0⟩ := cells1 (((hP.ss.fns hC).2 C.f hC.f).2.2.2 n hn).2 (k := 0) (show 0 < (C.d.nd n).kn by omega)
  rw [e0] at c8
  rw [show C.fas C.f = C.fa from rfl] at e2 d6 d7
  rw [show (C.u.fn C.f).nd n = C.d.nd n from rfl] at d0 d1 d2 d3 d4 d5 d6 d7
  rw [e2] at d7
  rw [show ((C.u.fn C.f).nd n).c 0 = (k0 : Int) from hk0] at g0
  rw [hkn] at d7
  have HE2 : Hid ((C.fa.nas n).ka = some ⟨b2, o2, none⟩) := e2
  have HKD : Hid (∀ (st : List Int) (ins : Nat) (x : FT) (a : Option Addr) (cap : Nat) (w : World), SS C st ins x a cap w → w.cell? ⟨b2, o2, none⟩ = some (.int .i64 (k0 : Int)) ∧ w.cell? ⟨b2, o2 + 1, none⟩ = some (.int .i64 (k1 : Int))) := fun st ins x a cap w h => ⟨kid_cells hC h hn (by omega) e2 hk0, kid_cells hC h hn (by omega) e2 hk1⟩
  clear hP hC ih hk hk' hc0 hc1 e0 e2 hkn g0
  go_enter Tryz.func130, Tryz.ntmps130
  go_upto_region 1 with fail
  obtain ⟨w5, hw5⟩ : ∃ w5, w5 = w.alloc (.cells #[.int .i64 (C.d.nd n).k, .int .i64 (C.d.nd n).l, .int .i64 (C.d.nd n).o, .int .i64 (C.d.nd n).n, .float .f64 (C.d.nd n).f, .string (C.d.nd n).s, .slice (C.fa.nas n).ra (C.d.nd n).rn (C.fa.nas n).rc, .slice (some ⟨b2, o2, none⟩) 2 (C.fa.nas n).kc] 95) := ⟨_, rfl⟩
  have HS5 : Hid (SS C st ins x a cap w5) := by show SS _ _ _ _ _ _ _; rw [hw5]; exact HP.out.ss.alloc _
  have HM5 : Hid (Mv C.S C.T a w a w5) := by show Mv _ _ _ _ _ _; rw [hw5]; exact (Mv.refl _ _ _ _).alloc _
  have HX5 : Hid (Has w5 w.heap.size #[.int .i64 (C.d.nd n).k, .int .i64 (C.d.nd n).l, .int .i64 (C.d.nd n).o, .int .i64 (C.d.nd n).n, .float .f64 (C.d.nd n).f, .string (C.d.nd n).s, .slice (C.fa.nas n).ra (C.d.nd n).rn (C.fa.nas n).rc, .slice (some ⟨b2, o2, none⟩) 2 (C.fa.nas n).kc]) := by show Has _ _ _; rw [hw5]; exact Has.new _ _ _
  have HO : Hid (w.heap.size ≠ C.S ∧ w.heap.size ≠ C.T ∧ bkOf a ≠ some w.heap.size) := HP.out.ss.other (Nat.le_refl _)
  rw [← hw5]
  clear hw5 c8 d0 d1 d2 d3 d4 d5 d6 d7
  have x7 := HX5.out.cell 7 rfl
  obtain ⟨g0, g1⟩ := HKD.out _ _ _ _ _ _ HS5.out
  go_upto_region 2 with (go_at_call 137; refine (IH0.out _ _ _ _ _ _ _ (HV0.out _ _ _ _ _ HS5.out HP.out.least)).mono ?_; rintro e w6 ⟨rfl, ⟨x6, a6, cap6, hs6, hl6, hm6⟩⟩; rw [leaves_nil h20.out] at hs6; have HS6 : Hid (SS C st ins x6 a6 cap6 w6) := hs6; have HL6 : Hid (Least (fun y => P y ∨ NoteT C.u C.f k0 y) x6) := hl6; have HM6 : Hid (Mv C.S C.T a w5 a6 w6) := hm6; clear hs6 hl6 hm6)
  have HX6 := HM6.out.has HX5.out HO.out.1 HO.out.2.1 HO.out.2.2
  clear x7 g0 g1
  have x7 := HX6.cell 7 rfl
  have x6' := HX6.cell 6 rfl
  obtain ⟨g0, g1⟩ := HKD.out _ _ _ _ _ _ HS6.out
  clear HX6
  go_region_with (go_at_call 161; refine (visitWith_calls C k1 IH1.out _ _ _ (C.d.nd n).r st ins x6 a6 cap6 (fun y => P y ∨ NoteT C.u C.f k0 y) _ h21.out hrn (by omega) (by first | exact HS6.out | exact HS6.out.drew) (FarI.node HC.out (by first | exact HS6.out | exact HS6.out.drew) hn) HL6.out (fun a' cap' w' hs => HV1.out _ _ _ _ _ hs HL6.out)).mono ?_; rintro e w7 ⟨rfl, ⟨x7', a7, cap7, hs7, hl7, hm7⟩⟩; have HS7 : Hid (SS C st ins x7' a7 cap7 w7) := hs7; have HL7 : Hid (Least (fun y => (P y ∨ NoteT C.u C.f k0 y) ∨ NoteT C.u C.f k1 y) x7') := hl7; have HM7 : Hid (Mv C.S C.T a6 w6 a7 w7) := (by first | exact hm7 | exact (Mv.refl _ _ _ _).drew.trans hm7); clear hs7 hl7 hm7)
  all_goals go_end0
  all_goals exact ⟨rfl, x7', a7, cap7, by rw [leaves_nil h2.out]; exact HS7.out, HL7.out.congr HQ.out, (HM5.out.trans HM6.out).trans HM7.out⟩
end Go.Proofs.YtdialodjllpgaaaGreatDoor

/-! The program's scopes: loops. -/
namespace Go.Proofs.YtdialodjllpgaaaGreatDoor
open Go.RowKit
attribute [local go_sem] run_store_float
attribute [local go_sem ↓] Go.wp_at_zero Go.wp_at_succ

theorem note_last {u : UD} {f n c m : Nat} (hk : ((u.fn f).nd n).kn = m + 1) (h0 : ((u.fn f).nd n).c m = (c : Int)) (hN : ∀ y, ¬ NoteA u f n y) (P : FT → Prop) (y : FT) : ((P y ∨ NoteK u f n m y) ∨ NoteT u f c y) ↔ (P y ∨ NoteT u f n y) := by
  rw [noteT_iff u f n y, hk, noteK_succ u f n m c h0 y]
  constructor
  · rintro ((h | h) | h)
    · exact .inl h
    · exact .inr (.inl (.inl h))
    · exact .inr (.inl (.inr h))
  · rintro (h | (h | h) | h)
    · exact .inl (.inl h)
    · exact .inl (.inr h)
    · exact .inr h
    · exact absurd h (hN y)

set_option maxRecDepth 100000 in
set_option maxHeartbeats 4000000 in
theorem loop_step (C : CX) (hC : C.ok) (n : Nat) (ih : ∀ m, m < n → VisSays C m) (hk : (C.d.nd n).k = 6 ∨ (C.d.nd n).k = 7 ∨ (C.d.nd n).k = 8) : StepSays C 129 n := by
  intro st ins x a cap P w hP
  have hk' : ((C.u.fn C.f).nd n).k = 6 ∨ ((C.u.fn C.f).nd n).k = 7 ∨ ((C.u.fn C.f).nd n).k = 8 := hk
  have HN : Hid (∀ y, ¬ NoteA C.u C.f n y) := noteA_none (no_six (by omega) (by omega) (by omega)) (no_jump (by omega) (by omega)) (no_make (by omega) (by omega))
  have hn := hP.lt
  have hnn := hC.nn
  have hsh := hC.node hn
  obtain ⟨m, hm⟩ : ∃ m : Nat, (C.d.nd n).kn = m + 1 := ⟨(C.d.nd n).kn - 1, by have := hsh.two; have := hsh.four; omega⟩
  have hm2 : m ≤ 3 := by have := hsh.two; have := hsh.four; omega
  have hcm := hsh.kids m (by omega)
  obtain ⟨kl, hkl⟩ : ∃ c : Nat, (C.d.nd n).c m = c := ⟨((C.d.nd n).c m).toNat, by omega⟩
  have hltl : kl < n := by omega
  have h2 : Hid ((C.d.nd n).k ≠ 2) := by show _ ≠ _; omega
  have h2l : Hid ((C.d.nd kl).k ≠ 2) := by
    have h := hsh.lets (by omega) m (by omega)
    rw [hkl, Int.toNat_natCast] at h
    exact h
  have IHl : Hid (VisSays C kl) := ih kl hltl
  have IH : Hid (∀ m, m < n → VisSays C m) := ih
  have HP : Hid (VPre C n st ins x a cap P w) := hP
  have HC : Hid C.ok := hC
  have hrn := hC.rn hn
  have hroom := hP.room
  have hdeep := hP.deep
  have HQ : Hid (∀ y, ((P y ∨ NoteK C.u C.f n m y) ∨ NoteT C.u C.f kl y) ↔ (P y ∨ NoteT C.u C.f n y)) := note_last hm hkl HN.out P
  have HVl : Hid (∀ (x' : FT) (a' : Option Addr) (cap' : Nat) (P' : FT → Prop) (w' : World), SS C (st ++ vrN (C.d.nd n).r C.d.vn (C.d.nd n).rn) (ins + 1) x' a' cap' w' → Least P' x' → VPre C kl (st ++ vrN (C.d.nd n).r C.d.vn (C.d.nd n).rn) (ins + 1) x' a' cap' P' w') := fun x' a' cap' P' w' hs hl =>
    hP.kid hC (j := m) (by omega) hkl hs (by
      by_cases e : (C.d.nd n).k = 6
      · have hr0 : (C.d.nd n).rn = 0 := Classical.byContradiction fun h => by have := hsh.refs h; omega
        rw [hr0, vrN_zero, List.append_nil]
        exact StackOk.plain hC.tree ⟨hn, by omega, hkl⟩ (by omega) (fun h => by omega) hP.stack
      · rw [vrN_ref]
        exact StackOk.last hC.tree ⟨hn, by omega, hkl⟩ (by omega) (by omega) hP.stack) (by rw [InL.iff hC.tree ⟨hn, by omega, hkl⟩]; exact ⟨fun _ => .inl ⟨hk, by omega⟩, fun _ => by omega⟩) (by rw [List.length_append]; have := vrN_len (C.d.nd n).r C.d.vn (C.d.nd n).rn; omega) (by omega) hl
  have HVK : Hid (∀ (j c : Nat), j < m → (C.d.nd n).c j = (c : Int) → ∀ (x' : FT) (a' : Option Addr) (cap' : Nat) (P' : FT → Prop) (w' : World), SS C st ins x' a' cap' w' → Least P' x' → VPre C c st ins x' a' cap' P' w') := fun j c hj hc x' a' cap' P' w' hs hl =>
    hP.kid hC (j := j) (by omega) hc hs (StackOk.plain hC.tree ⟨hn, by omega, hc⟩ (by omega) (fun _ => by omega) hP.stack) (hP.loopK hC (by omega) hc (fun h => by omega)) (by omega) (by omega) hl
  have HLT : Hid (∀ (j c : Nat), j < m → (C.d.nd n).c j = (c : Int) → (C.d.nd c).k ≠ 2) := fun j c hj hc => by
    have h := hsh.lets (by omega) j (by omega)
    rw [hc, Int.toNat_natCast] at h
    exact h
  have HKN : Hid (∀ j, j < m → 0 ≤ (C.d.nd n).c j ∧ (C.d.nd n).c j < n) := fun j hj => hsh.kids j (by omega)
  have c8 := hP.ss.c8
  obtain ⟨b, off, e0, _, hb, d0, d1, d2, d3, d4, d5, d6, d7⟩ := cells8 ((hP.ss.fns hC).2 C.f hC.f).2.2.1 hn
  obtain ⟨b2, o2, e2, _, hb2, g0⟩ := cells1 (((hP.ss.fns hC).2 C.f hC.f).2.2.2 n hn).2 (k := 0) (show 0 < (C.d.nd n).kn by omega)
  rw [e0] at c8
  rw [show C.fas C.f = C.fa from rfl] at e2 d6 d7
  rw [show (C.u.fn C.f).nd n = C.d.nd n from rfl] at d0 d1 d2 d3 d4 d5 d6 d7
  rw [e2, hm] at d7
  have hcap : m + 1 ≤ (C.fa.nas n).kc := by have := hC.cap.2 n hn; omega
  have HKD : Hid (∀ (st : List Int) (ins : Nat) (x : FT) (a : Option Addr) (cap : Nat) (w : World), SS C st ins x a cap w → ∀ (j c : Nat), j < m + 1 → (C.d.nd n).c j = (c : Int) → w.cell? ⟨b2, o2 + j, none⟩ = some (.int .i64 (c : Int))) := fun st ins x a cap w h j c hj hc => kid_cells hC h hn (by omega) e2 hc
  have HKL : Hid ((C.d.nd n).c m = (kl : Int)) := hkl
  clear hP hC ih hk hk' hcm e0 e2 hm g0 hsh hkl
  go_enter Tryz.func129, Tryz.ntmps129
  go_upto_region 1 with fail
  obtain ⟨w5, hw5⟩ : ∃ w5, w5 = w.alloc (.cells #[.int .i64 (C.d.nd n).k, .int .i64 (C.d.nd n).l, .int .i64 (C.d.nd n).o, .int .i64 (C.d.nd n).n, .float .f64 (C.d.nd n).f, .string (C.d.nd n).s, .slice (C.fa.nas n).ra (C.d.nd n).rn (C.fa.nas n).rc, .slice (some ⟨b2, o2, none⟩) (m + 1) (C.fa.nas n).kc] 95) := ⟨_, rfl⟩
  have HS5 : Hid (SS C st ins x a cap w5) := by show SS _ _ _ _ _ _ _; rw [hw5]; exact HP.out.ss.alloc _
  have HM5 : Hid (Mv C.S C.T a w a w5) := by show Mv _ _ _ _ _ _; rw [hw5]; exact (Mv.refl _ _ _ _).alloc _
  have HX5 : Hid (Has w5 w.heap.size #[.int .i64 (C.d.nd n).k, .int .i64 (C.d.nd n).l, .int .i64 (C.d.nd n).o, .int .i64 (C.d.nd n).n, .float .f64 (C.d.nd n).f, .string (C.d.nd n).s, .slice (C.fa.nas n).ra (C.d.nd n).rn (C.fa.nas n).rc, .slice (some ⟨b2, o2, none⟩) (m + 1) (C.fa.nas n).kc]) := by show Has _ _ _; rw [hw5]; exact Has.new _ _ _
  have HO : Hid (w.heap.size ≠ C.S ∧ w.heap.size ≠ C.T ∧ bkOf a ≠ some w.heap.size) := HP.out.ss.other (Nat.le_refl _)
  rw [← hw5]
  clear hw5 c8 d0 d1 d2 d3 d4 d5 d6 d7
  have x7 := HX5.out.cell 7 rfl
  go_wp2_with fail
  clear x7
  go_loopw [25] (fun i wr => ∃ (k : Nat) (x' : FT) (a' : Option Addr) (cap' : Nat), k ≤ m ∧ i = .int .i64 k ∧ Hid (SS C st ins x' a' cap' wr) ∧ Hid (Least (fun y => P y ∨ NoteK C.u C.f n k y) x') ∧ Hid (Mv C.S C.T a w5 a' wr)) (fun i _ => m - (intOf i).toNat)
  case atStart => exact ⟨0, x, a, cap, Nat.zero_le _, rfl, HS5, HP.out.least.congr fun y => ⟨.inl, fun h => h.resolve_right (noteK_zero _ _ _ _)⟩, Mv.refl _ _ _ _⟩
  case round =>
    obtain ⟨k, x', a', cap', hk, rfl, HS, HL, HM⟩ := hrel
    by_cases hkm : k < m
    · have hc := HKN.out k hkm
      obtain ⟨c, hcc⟩ : ∃ c : Nat, (C.d.nd n).c k = c := ⟨((C.d.nd n).c k).toNat, by omega⟩
      have hcn : c < n := by omega
      have g0 := HKD.out _ _ _ _ _ _ HS.out k c (by omega) hcc
      have HV : Hid (Calls Tryz.prog 137 #[.pointer (some ⟨C.S, 0, none⟩), .int .i64 (c : Int)] wr fun e w' => e = .returned (.tuple #[]) ∧ VPost C (st ++ leaves C c) ins (fun y => (P y ∨ NoteK C.u C.f n k y) ∨ NoteT C.u C.f c y) a' wr w') := IH.out c hcn _ _ _ _ _ _ _ (HVK.out k c hkm hcc _ _ _ _ _ HS.out HL.out)
      have HE : Hid (st ++ leaves C c = st) := leaves_nil (HLT.out k c hkm hcc) st
      have HQk : Hid (∀ y, ((P y ∨ NoteK C.u C.f n k y) ∨ NoteT C.u C.f c y) ↔ (P y ∨ NoteK C.u C.f n (k + 1) y)) := fun y => by rw [noteK_succ C.u C.f n k c hcc y, or_assoc]
      clear hc hcc
      go_wp2_with (go_at_call 137; refine HV.out.mono ?_; rintro e w9 ⟨rfl, ⟨x9, a9, cap9, hs9, hl9, hm9⟩⟩; rw [HE.out] at hs9; have HS9 : Hid (SS C st ins x9 a9 cap9 w9) := hs9; have HL9 : Hid (Least (fun y => (P y ∨ NoteK C.u C.f n k y) ∨ NoteT C.u C.f c y) x9) := hl9; have HM9 : Hid (Mv C.S C.T a' wr a9 w9) := hm9; clear hs9 hl9 hm9)
      go_roundw
      case rel => exact ⟨k + 1, x9, a9, cap9, by omega, by go_num, HS9, HL9.out.congr HQk.out, HM.out.trans HM9.out⟩
      case measure => simp [intOf]; omega
    · obtain rfl : k = m := by omega
      have c50 := HS.out.c50
      have z := HS.out.fz
      go_upto_region 8 with fail
      obtain ⟨w6, hw6⟩ : ∃ w6, w6 = wr.setCell ⟨C.S, 50, none⟩ (.int .i64 ((ins : Int) + 1)) := ⟨_, rfl⟩
      have HS6 : Hid (SS C st (ins + 1) x' a' cap' w6) := by
        show SS _ _ _ _ _ _ _
        rw [hw6]
        have h := HS.out.ins (ins + 1)
        rwa [show (((ins + 1 : Nat)) : Int) = (ins : Int) + 1 by omega] at h
      have HM6 : Hid (Mv C.S C.T a w5 a' w6) := by show Mv _ _ _ _ _ _; rw [hw6]; exact HM.out.set (p := ⟨C.S, 50, none⟩) (.inl rfl) _
      rw [← hw6]
      clear hw6 c50 z
      have HX6 := HM6.out.has HX5.out HO.out.1 HO.out.2.1 HO.out.2.2
      have y7 := HX6.cell 7 rfl
      have y6 := HX6.cell 6 rfl
      have gl := HKD.out _ _ _ _ _ _ HS6.out k kl (by omega) HKL.out
      clear HX6
      go_region_with (go_at_call 161; refine (visitWith_calls C kl IHl.out _ _ _ (C.d.nd n).r st (ins + 1) x' a' cap' (fun y => P y ∨ NoteK C.u C.f n k y) _ h2l.out hrn (by omega) (by first | exact HS6.out | exact HS6.out.drew) (FarI.node HC.out (by first | exact HS6.out | exact HS6.out.drew) hn) HL.out (fun a' cap' w' hs => HVl.out _ _ _ _ _ hs HL.out)).mono ?_; rintro e w7 ⟨rfl, ⟨x7', a7, cap7, hs7, hl7, hm7⟩⟩; have HS7 : Hid (SS C st (ins + 1) x7' a7 cap7 w7) := hs7; have HL7 : Hid (Least (fun y => (P y ∨ NoteK C.u C.f n k y) ∨ NoteT C.u C.f kl y) x7') := hl7; have HM7 : Hid (Mv C.S C.T a' w6 a7 w7) := (by first | exact hm7 | exact (Mv.refl _ _ _ _).drew.trans hm7); clear hs7 hl7 hm7)
      all_goals
        have c50 : w7.cell? ⟨C.S, 50, none⟩ = some (.int .i64 ((ins : Int) + 1)) := by
          have h := HS7.out.c50
          rwa [show (((ins + 1 : Nat)) : Int) = (ins : Int) + 1 by omega] at h
        have z := HS7.out.fz
        go_wp2_with fail
        go_end0
        exact ⟨rfl, x7', a7, cap7, by rw [leaves_nil h2.out]; exact HS7.out.ins ins, HL7.out.congr HQ.out, ((HM5.out.trans HM6.out).trans HM7.out).set (p := ⟨C.S, 50, none⟩) (.inl rfl) _⟩
end Go.Proofs.YtdialodjllpgaaaGreatDoor
