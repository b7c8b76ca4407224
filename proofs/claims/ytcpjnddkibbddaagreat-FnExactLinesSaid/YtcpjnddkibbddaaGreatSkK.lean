import Derived.Test.YtcpjnddkibbddaaGreatSkH
/-! The program's scopes: catches and loops. -/
namespace Go.Proofs.YtcpjnddkibbddaaGreat
open Go.RowKit
attribute [local go_sem] run_store_float
attribute [local go_sem ↓] Go.wp_at_zero Go.wp_at_succ

theorem kid_cells {C : CX} (hC : C.ok) {st : List Int} {ins : Nat} {x : FT} {a : Option Addr} {cap : Nat} {w : World} (h : SS C st ins x a cap w) {n j c b o : Nat} (hn : n < C.d.nn) (hj : j < (C.d.nd n).kn) (e : (C.fa.nas n).ka = some ⟨b, o, none⟩) (hc : (C.d.nd n).c j = (c : Int)) : w.cell? ⟨b, o + j, none⟩ = some (.int .i64 (c : Int)) := by
  obtain ⟨b', o', e', _, _, g⟩ := cells1 (((h.fns hC).2 C.f hC.f).2.2.2 n hn).2 hj
  have e2 : some (⟨b, o, none⟩ : Addr) = some ⟨b', o', none⟩ := e.symm.trans e'
  cases e2
  rw [← hc]
  exact g
/-- the first two kids, and nothing at the node itself -/
theorem note_two {u : UD} {f n c0 c1 : Nat} (hk : ((u.fn f).nd n).kn = 2) (h0 : ((u.fn f).nd n).c 0 = (c0 : Int)) (h1 : ((u.fn f).nd n).c 1 = (c1 : Int)) (hN : ∀ y, ¬ NoteA u f n y) (P : FT → Prop) (y : FT) : ((P y ∨ NoteT u f c0 y) ∨ NoteT u f c1 y) ↔ (P y ∨ NoteT u f n y) := by
  rw [noteT_iff u f n y, hk, noteK_succ u f n 1 c1 h1 y, noteK_succ u f n 0 c0 h0 y]
  constructor
  · rintro ((h | h) | h)
    · exact .inl h
    · exact .inr (.inl (.inl (.inr h)))
    · exact .inr (.inl (.inr h))
  · rintro (h | ((h | h) | h) | h)
    · exact .inl (.inl h)
    · exact absurd h (noteK_zero _ _ _ _)
    · exact .inl (.inr h)
    · exact .inr h
    · exact absurd h (hN y)

set_option maxRecDepth 100000 in
set_option maxHeartbeats 4000000 in
theorem try_step (C : CX) (hC : C.ok) (n : Nat) (ih : ∀ m, m < n → VisSays C m) (hk : (C.d.nd n).k = 12) : StepSays C 117 n := by
  intro st ins x a cap P w hP
  have hk' : ((C.u.fn C.f).nd n).k = 12 := hk
  have HN : Hid (∀ y, ¬ NoteA C.u C.f n y) := noteA_none (no_six (by omega) (by omega) (by omega)) (no_jump (by omega) (by omega)) (no_make (by omega) (by omega))
  have hn := hP.lt
  have hnn := hC.nn
  have hkn : (C.d.nd n).kn = 2 := (hC.node hn).two (by omega)
  have hc0 := (hC.node hn).kids 0 (by omega)
  have hc1 := (hC.node hn).kids 1 (by omega)
  obtain ⟨k0, hk0⟩ : ∃ c : Nat, (C.d.nd n).c 0 = c := ⟨((C.d.nd n).c 0).toNat, by omega⟩
  obtain ⟨k1, hk1⟩ : ∃ c : Nat, (C.d.nd n).c 1 = c := ⟨((C.d.nd n).c 1).toNat, by omega⟩
  have hlt0 : k0 < n := by omega
  have hlt1 : k1 < n := by omega
  have h2 : Hid ((C.d.nd n).k ≠ 2) := by show _ ≠ _; omega
  have h20 : Hid ((C.d.nd k0).k ≠ 2) := by
    have h := (hC.node hn).lets (by omega) 0 (by omega)
    rw [hk0, Int.toNat_natCast] at h
    exact h
  have h21 : Hid ((C.d.nd k1).k ≠ 2) := by
    have h := (hC.node hn).lets (by omega) 1 (by omega)
    rw [hk1, Int.toNat_natCast] at h
    exact h
  have IH0 : Hid (VisSays C k0) := ih k0 hlt0
  have IH1 : Hid (VisSays C k1) := ih k1 hlt1
  have HP : Hid (VPre C n st ins x a cap P w) := hP
  have HC : Hid C.ok := hC
  have hrn := hC.rn hn
  have hroom := hP.room
  have HQ : Hid (∀ y, ((P y ∨ NoteT C.u C.f k0 y) ∨ NoteT C.u C.f k1 y) ↔ (P y ∨ NoteT C.u C.f n y)) := note_two hkn hk0 hk1 HN.out P
  have HV0 : Hid (∀ (x' : FT) (a' : Option Addr) (cap' : Nat) (P' : FT → Prop) (w' : World), SS C st ins x' a' cap' w' → Least P' x' → VPre C k0 st ins x' a' cap' P' w') := fun x' a' cap' P' w' hs hl =>
    hP.kid hC (j := 0) (by omega) hk0 hs (StackOk.plain hC.tree ⟨hn, by omega, hk0⟩ (by omega) (fun _ => by omega) hP.stack) (hP.loopK hC (by omega) hk0 (fun h => by omega)) (by omega) (by omega) hl
  have HV1 : Hid (∀ (x' : FT) (a' : Option Addr) (cap' : Nat) (P' : FT → Prop) (w' : World), SS C (st ++ vrN (C.d.nd n).r C.d.vn (C.d.nd n).rn) ins x' a' cap' w' → Least P' x' → VPre C k1 (st ++ vrN (C.d.nd n).r C.d.vn (C.d.nd n).rn) ins x' a' cap' P' w') := fun x' a' cap' P' w' hs hl =>
    hP.kid hC (j := 1) (by omega) hk1 hs (by rw [vrN_ref]; exact StackOk.last hC.tree ⟨hn, by omega, hk1⟩ (by omega) (by omega) hP.stack) (hP.loopK hC (by omega) hk1 (fun h => by omega)) (by rw [List.length_append]; have := vrN_len (C.d.nd n).r C.d.vn (C.d.nd n).rn; omega) (by omega) hl
  have c8 := hP.ss.c8
  obtain ⟨b, off, e0, _, hb, d0, d1, d2, d3, d4, d5, d6, d7⟩ := cells8 ((hP.ss.fns hC).2 C.f hC.f).2.2.1 hn
  obtain ⟨b2, o2, e2, _, hb2, g0⟩ := cells1 (((hP.ss.fns hC).2 C.f hC.f).2.2.2 n hn).2 (k := 0) (show 0 < (C.d.nd n).kn by omega)
  rw [e0] at c8
  rw [show C.fas C.f = C.fa from rfl] at e2 d6 d7
  rw [show (C.u.fn C.f).nd n = C.d.nd n from rfl] at d0 d1 d2 d3 d4 d5 d6 d7
  rw [e2] at d7
  rw [show ((C.u.fn C.f).nd n).c 0 = (k0 : Int) from hk0] at g0
  rw [hkn] at d7
  have HE2 : Hid ((C.fa.nas n).ka = some ⟨b2, o2, none⟩) := e2
  have HKD : Hid (∀ (st : List Int) (ins : Nat) (x : FT) (a : Option Addr) (cap : Nat) (w : World), SS C st ins x a cap w → w.cell? ⟨b2, o2, none⟩ = some (.int .i64 (k0 : Int)) ∧ w.cell? ⟨b2, o2 + 1, none⟩ = some (.int .i64 (k1 : Int))) := fun st ins x a cap w h => ⟨kid_cells hC h hn (by omega) e2 hk0, kid_cells hC h hn (by omega) e2 hk1⟩
  clear hP hC ih hk hk' hc0 hc1 e0 e2 hkn g0
  go_enter Tryz.func117, Tryz.ntmps117
  go_upto_region 1 with fail
  obtain ⟨w5, hw5⟩ : ∃ w5, w5 = w.alloc (.cells #[.int .i64 (C.d.nd n).k, .int .i64 (C.d.nd n).l, .int .i64 (C.d.nd n).o, .int .i64 (C.d.nd n).n, .float .f64 (C.d.nd n).f, .string (C.d.nd n).s, .slice (C.fa.nas n).ra (C.d.nd n).rn (C.fa.nas n).rc, .slice (some ⟨b2, o2, none⟩) 2 (C.fa.nas n).kc] 48) := ⟨_, rfl⟩
  have HS5 : Hid (SS C st ins x a cap w5) := by show SS _ _ _ _ _ _ _; rw [hw5]; exact HP.out.ss.alloc _
  have HM5 : Hid (Mv C.S C.T a w a w5) := by show Mv _ _ _ _ _ _; rw [hw5]; exact (Mv.refl _ _ _ _).alloc _
  have HX5 : Hid (Has w5 w.heap.size #[.int .i64 (C.d.nd n).k, .int .i64 (C.d.nd n).l, .int .i64 (C.d.nd n).o, .int .i64 (C.d.nd n).n, .float .f64 (C.d.nd n).f, .string (C.d.nd n).s, .slice (C.fa.nas n).ra (C.d.nd n).rn (C.fa.nas n).rc, .slice (some ⟨b2, o2, none⟩) 2 (C.fa.nas n).kc]) := by show Has _ _ _; rw [hw5]; exact Has.new _ _ _
  have HO : Hid (w.heap.size ≠ C.S ∧ w.heap.size ≠ C.T ∧ bkOf a ≠ some w.heap.size) := HP.out.ss.other (Nat.le_refl _)
  rw [← hw5]
  clear hw5 c8 d0 d1 d2 d3 d4 d5 d6 d7
  have x7 := HX5.out.cell 7 rfl
  obtain ⟨g0, g1⟩ := HKD.out _ _ _ _ _ _ HS5.out
  go_upto_region 2 with (go_at_call 124; refine (IH0.out _ _ _ _ _ _ _ (HV0.out _ _ _ _ _ HS5.out HP.out.least)).mono ?_; rintro e w6 ⟨rfl, ⟨x6, a6, cap6, hs6, hl6, hm6⟩⟩; rw [leaves_nil h20.out] at hs6; have HS6 : Hid (SS C st ins x6 a6 cap6 w6) := hs6; have HL6 : Hid (Least (fun y => P y ∨ NoteT C.u C.f k0 y) x6) := hl6; have HM6 : Hid (Mv C.S C.T a w5 a6 w6) := hm6; clear hs6 hl6 hm6)
  have HX6 := HM6.out.has HX5.out HO.out.1 HO.out.2.1 HO.out.2.2
  clear x7 g0 g1
  have x7 := HX6.cell 7 rfl
  have x6' := HX6.cell 6 rfl
  obtain ⟨g0, g1⟩ := HKD.out _ _ _ _ _ _ HS6.out
  clear HX6
  go_region_with (go_at_call 152; refine (visitWith_calls C k1 IH1.out _ _ _ (C.d.nd n).r st ins x6 a6 cap6 (fun y => P y ∨ NoteT C.u C.f k0 y) _ h21.out hrn (by omega) (by first | exact HS6.out | exact HS6.out.drew) (FarI.node HC.out (by first | exact HS6.out | exact HS6.out.drew) hn) HL6.out (fun a' cap' w' hs => HV1.out _ _ _ _ _ hs HL6.out)).mono ?_; rintro e w7 ⟨rfl, ⟨x7', a7, cap7, hs7, hl7, hm7⟩⟩; have HS7 : Hid (SS C st ins x7' a7 cap7 w7) := hs7; have HL7 : Hid (Least (fun y => (P y ∨ NoteT C.u C.f k0 y) ∨ NoteT C.u C.f k1 y) x7') := hl7; have HM7 : Hid (Mv C.S C.T a6 w6 a7 w7) := (by first | exact hm7 | exact (Mv.refl _ _ _ _).drew.trans hm7); clear hs7 hl7 hm7)
  all_goals go_end0
  all_goals exact ⟨rfl, x7', a7, cap7, by rw [leaves_nil h2.out]; exact HS7.out, HL7.out.congr HQ.out, (HM5.out.trans HM6.out).trans HM7.out⟩
end Go.Proofs.YtcpjnddkibbddaaGreat

/-! The program's scopes: loops. -/
namespace Go.Proofs.YtcpjnddkibbddaaGreat
open Go.RowKit
attribute [local go_sem] run_store_float
attribute [local go_sem ↓] Go.wp_at_zero Go.wp_at_succ

theorem note_last {u : UD} {f n c m : Nat} (hk : ((u.fn f).nd n).kn = m + 1) (h0 : ((u.fn f).nd n).c m = (c : Int)) (hN : ∀ y, ¬ NoteA u f n y) (P : FT → Prop) (y : FT) : ((P y ∨ NoteK u f n m y) ∨ NoteT u f c y) ↔ (P y ∨ NoteT u f n y) := by
  rw [noteT_iff u f n y, hk, noteK_succ u f n m c h0 y]
  constructor
  · rintro ((h | h) | h)
    · exact .inl h
    · exact .inr (.inl (.inl h))
    · exact .inr (.inl (.inr h))
  · rintro (h | (h | h) | h)
    · exact .inl (.inl h)
    · exact .inl (.inr h)
    · exact .inr h
    · exact absurd h (hN y)

set_option maxRecDepth 100000 in
set_option maxHeartbeats 4000000 in
theorem loop_step (C : CX) (hC : C.ok) (n : Nat) (ih : ∀ m, m < n → VisSays C m) (hk : (C.d.nd n).k = 6 ∨ (C.d.nd n).k = 7 ∨ (C.d.nd n).k = 8) : StepSays C 116 n := by
  intro st ins x a cap P w hP
  have hk' : ((C.u.fn C.f).nd n).k = 6 ∨ ((C.u.fn C.f).nd n).k = 7 ∨ ((C.u.fn C.f).nd n).k = 8 := hk
  have HN : Hid (∀ y, ¬ NoteA C.u C.f n y) := noteA_none (no_six (by omega) (by omega) (by omega)) (no_jump (by omega) (by omega)) (no_make (by omega) (by omega))
  have hn := hP.lt
  have hnn := hC.nn
  have hsh := hC.node hn
  obtain ⟨m, hm⟩ : ∃ m : Nat, (C.d.nd n).kn = m + 1 := ⟨(C.d.nd n).kn - 1, by have := hsh.two; have := hsh.four; omega⟩
  have hm2 : m ≤ 3 := by have := hsh.two; have := hsh.four; omega
  have hcm := hsh.kids m (by omega)
  obtain ⟨kl, hkl⟩ : ∃ c : Nat, (C.d.nd n).c m = c := ⟨((C.d.nd n).c m).toNat, by omega⟩
  have hltl : kl < n := by omega
  have h2 : Hid ((C.d.nd n).k ≠ 2) := by show _ ≠ _; omega
  have h2l : Hid ((C.d.nd kl).k ≠ 2) := by
    have h := hsh.lets (by omega) m (by omega)
    rw [hkl, Int.toNat_natCast] at h
    exact h
  have IHl : Hid (VisSays C kl) := ih kl hltl
  have IH : Hid (∀ m, m < n → VisSays C m) := ih
  have HP : Hid (VPre C n st ins x a cap P w) := hP
  have HC : Hid C.ok := hC
  have hrn := hC.rn hn
  have hroom := hP.room
  have hdeep := hP.deep
  have HQ : Hid (∀ y, ((P y ∨ NoteK C.u C.f n m y) ∨ NoteT C.u C.f kl y) ↔ (P y ∨ NoteT C.u C.f n y)) := note_last hm hkl HN.out P
  have HVl : Hid (∀ (x' : FT) (a' : Option Addr) (cap' : Nat) (P' : FT → Prop) (w' : World), SS C (st ++ vrN (C.d.nd n).r C.d.vn (C.d.nd n).rn) (ins + 1) x' a' cap' w' → Least P' x' → VPre C kl (st ++ vrN (C.d.nd n).r C.d.vn (C.d.nd n).rn) (ins + 1) x' a' cap' P' w') := fun x' a' cap' P' w' hs hl =>
    hP.kid hC (j := m) (by omega) hkl hs (by
      by_cases e : (C.d.nd n).k = 6
      · have hr0 : (C.d.nd n).rn = 0 := Classical.byContradiction fun h => by have := hsh.refs h; omega
        rw [hr0, vrN_zero, List.append_nil]
        exact StackOk.plain hC.tree ⟨hn, by omega, hkl⟩ (by omega) (fun h => by omega) hP.stack
      · rw [vrN_ref]
        exact StackOk.last hC.tree ⟨hn, by omega, hkl⟩ (by omega) (by omega) hP.stack) (by rw [InL.iff hC.tree ⟨hn, by omega, hkl⟩]; exact ⟨fun _ => .inl ⟨hk, by omega⟩, fun _ => by omega⟩) (by rw [List.length_append]; have := vrN_len (C.d.nd n).r C.d.vn (C.d.nd n).rn; omega) (by omega) hl
  have HVK : Hid (∀ (j c : Nat), j < m → (C.d.nd n).c j = (c : Int) → ∀ (x' : FT) (a' : Option Addr) (cap' : Nat) (P' : FT → Prop) (w' : World), SS C st ins x' a' cap' w' → Least P' x' → VPre C c st ins x' a' cap' P' w') := fun j c hj hc x' a' cap' P' w' hs hl =>
    hP.kid hC (j := j) (by omega) hc hs (StackOk.plain hC.tree ⟨hn, by omega, hc⟩ (by omega) (fun _ => by omega) hP.stack) (hP.loopK hC (by omega) hc (fun h => by omega)) (by omega) (by omega) hl
  have HLT : Hid (∀ (j c : Nat), j < m → (C.d.nd n).c j = (c : Int) → (C.d.nd c).k ≠ 2) := fun j c hj hc => by
    have h := hsh.lets (by omega) j (by omega)
    rw [hc, Int.toNat_natCast] at h
    exact h
  have HKN : Hid (∀ j, j < m → 0 ≤ (C.d.nd n).c j ∧ (C.d.nd n).c j < n) := fun j hj => hsh.kids j (by omega)
  have c8 := hP.ss.c8
  obtain ⟨b, off, e0, _, hb, d0, d1, d2, d3, d4, d5, d6, d7⟩ := cells8 ((hP.ss.fns hC).2 C.f hC.f).2.2.1 hn
  obtain ⟨b2, o2, e2, _, hb2, g0⟩ := cells1 (((hP.ss.fns hC).2 C.f hC.f).2.2.2 n hn).2 (k := 0) (show 0 < (C.d.nd n).kn by omega)
  rw [e0] at c8
  rw [show C.fas C.f = C.fa from rfl] at e2 d6 d7
  rw [show (C.u.fn C.f).nd n = C.d.nd n from rfl] at d0 d1 d2 d3 d4 d5 d6 d7
  rw [e2, hm] at d7
  have hcap : m + 1 ≤ (C.fa.nas n).kc := by have := hC.cap.2 n hn; omega
  have HKD : Hid (∀ (st : List Int) (ins : Nat) (x : FT) (a : Option Addr) (cap : Nat) (w : World), SS C st ins x a cap w → ∀ (j c : Nat), j < m + 1 → (C.d.nd n).c j = (c : Int) → w.cell? ⟨b2, o2 + j, none⟩ = some (.int .i64 (c : Int))) := fun st ins x a cap w h j c hj hc => kid_cells hC h hn (by omega) e2 hc
  have HKL : Hid ((C.d.nd n).c m = (kl : Int)) := hkl
  clear hP hC ih hk hk' hcm e0 e2 hm g0 hsh hkl
  go_enter Tryz.func116, Tryz.ntmps116
  go_upto_region 1 with fail
  obtain ⟨w5, hw5⟩ : ∃ w5, w5 = w.alloc (.cells #[.int .i64 (C.d.nd n).k, .int .i64 (C.d.nd n).l, .int .i64 (C.d.nd n).o, .int .i64 (C.d.nd n).n, .float .f64 (C.d.nd n).f, .string (C.d.nd n).s, .slice (C.fa.nas n).ra (C.d.nd n).rn (C.fa.nas n).rc, .slice (some ⟨b2, o2, none⟩) (m + 1) (C.fa.nas n).kc] 48) := ⟨_, rfl⟩
  have HS5 : Hid (SS C st ins x a cap w5) := by show SS _ _ _ _ _ _ _; rw [hw5]; exact HP.out.ss.alloc _
  have HM5 : Hid (Mv C.S C.T a w a w5) := by show Mv _ _ _ _ _ _; rw [hw5]; exact (Mv.refl _ _ _ _).alloc _
  have HX5 : Hid (Has w5 w.heap.size #[.int .i64 (C.d.nd n).k, .int .i64 (C.d.nd n).l, .int .i64 (C.d.nd n).o, .int .i64 (C.d.nd n).n, .float .f64 (C.d.nd n).f, .string (C.d.nd n).s, .slice (C.fa.nas n).ra (C.d.nd n).rn (C.fa.nas n).rc, .slice (some ⟨b2, o2, none⟩) (m + 1) (C.fa.nas n).kc]) := by show Has _ _ _; rw [hw5]; exact Has.new _ _ _
  have HO : Hid (w.heap.size ≠ C.S ∧ w.heap.size ≠ C.T ∧ bkOf a ≠ some w.heap.size) := HP.out.ss.other (Nat.le_refl _)
  rw [← hw5]
  clear hw5 c8 d0 d1 d2 d3 d4 d5 d6 d7
  have x7 := HX5.out.cell 7 rfl
  go_wp2_with fail
  clear x7
  go_loopw [25] (fun i wr => ∃ (k : Nat) (x' : FT) (a' : Option Addr) (cap' : Nat), k ≤ m ∧ i = .int .i64 k ∧ Hid (SS C st ins x' a' cap' wr) ∧ Hid (Least (fun y => P y ∨ NoteK C.u C.f n k y) x') ∧ Hid (Mv C.S C.T a w5 a' wr)) (fun i _ => m - (intOf i).toNat)
  case atStart => exact ⟨0, x, a, cap, Nat.zero_le _, rfl, HS5, HP.out.least.congr fun y => ⟨.inl, fun h => h.resolve_right (noteK_zero _ _ _ _)⟩, Mv.refl _ _ _ _⟩
  case round =>
    obtain ⟨k, x', a', cap', hk, rfl, HS, HL, HM⟩ := hrel
    by_cases hkm : k < m
    · have hc := HKN.out k hkm
      obtain ⟨c, hcc⟩ : ∃ c : Nat, (C.d.nd n).c k = c := ⟨((C.d.nd n).c k).toNat, by omega⟩
      have hcn : c < n := by omega
      have g0 := HKD.out _ _ _ _ _ _ HS.out k c (by omega) hcc
      have HV : Hid (Calls Tryz.prog 124 #[.pointer (some ⟨C.S, 0, none⟩), .int .i64 (c : Int)] wr fun e w' => e = .returned (.tuple #[]) ∧ VPost C (st ++ leaves C c) ins (fun y => (P y ∨ NoteK C.u C.f n k y) ∨ NoteT C.u C.f c y) a' wr w') := IH.out c hcn _ _ _ _ _ _ _ (HVK.out k c hkm hcc _ _ _ _ _ HS.out HL.out)
      have HE : Hid (st ++ leaves C c = st) := leaves_nil (HLT.out k c hkm hcc) st
      have HQk : Hid (∀ y, ((P y ∨ NoteK C.u C.f n k y) ∨ NoteT C.u C.f c y) ↔ (P y ∨ NoteK C.u C.f n (k + 1) y)) := fun y => by rw [noteK_succ C.u C.f n k c hcc y, or_assoc]
      clear hc hcc
      go_wp2_with (go_at_call 124; refine HV.out.mono ?_; rintro e w9 ⟨rfl, ⟨x9, a9, cap9, hs9, hl9, hm9⟩⟩; rw [HE.out] at hs9; have HS9 : Hid (SS C st ins x9 a9 cap9 w9) := hs9; have HL9 : Hid (Least (fun y => (P y ∨ NoteK C.u C.f n k y) ∨ NoteT C.u C.f c y) x9) := hl9; have HM9 : Hid (Mv C.S C.T a' wr a9 w9) := hm9; clear hs9 hl9 hm9)
      go_roundw
      case rel => exact ⟨k + 1, x9, a9, cap9, by omega, by go_num, HS9, HL9.out.congr HQk.out, HM.out.trans HM9.out⟩
      case measure => simp [intOf]; omega
    · obtain rfl : k = m := by omega
      have c50 := HS.out.c50
      have z := HS.out.fz
      go_upto_region 8 with fail
      obtain ⟨w6, hw6⟩ : ∃ w6, w6 = wr.setCell ⟨C.S, 50, none⟩ (.int .i64 ((ins : Int) + 1)) := ⟨_, rfl⟩
      have HS6 : Hid (SS C st (ins + 1) x' a' cap' w6) := by
        show SS _ _ _ _ _ _ _
        rw [hw6]
        have h := HS.out.ins (ins + 1)
        rwa [show (((ins + 1 : Nat)) : Int) = (ins : Int) + 1 by omega] at h
      have HM6 : Hid (Mv C.S C.T a w5 a' w6) := by show Mv _ _ _ _ _ _; rw [hw6]; exact HM.out.set (p := ⟨C.S, 50, none⟩) (.inl rfl) _
      rw [← hw6]
      clear hw6 c50 z
      have HX6 := HM6.out.has HX5.out HO.out.1 HO.out.2.1 HO.out.2.2
      have y7 := HX6.cell 7 rfl
      have y6 := HX6.cell 6 rfl
      have gl := HKD.out _ _ _ _ _ _ HS6.out k kl (by omega) HKL.out
      clear HX6
      go_region_with (go_at_call 152; refine (visitWith_calls C kl IHl.out _ _ _ (C.d.nd n).r st (ins + 1) x' a' cap' (fun y => P y ∨ NoteK C.u C.f n k y) _ h2l.out hrn (by omega) (by first | exact HS6.out | exact HS6.out.drew) (FarI.node HC.out (by first | exact HS6.out | exact HS6.out.drew) hn) HL.out (fun a' cap' w' hs => HVl.out _ _ _ _ _ hs HL.out)).mono ?_; rintro e w7 ⟨rfl, ⟨x7', a7, cap7, hs7, hl7, hm7⟩⟩; have HS7 : Hid (SS C st (ins + 1) x7' a7 cap7 w7) := hs7; have HL7 : Hid (Least (fun y => (P y ∨ NoteK C.u C.f n k y) ∨ NoteT C.u C.f kl y) x7') := hl7; have HM7 : Hid (Mv C.S C.T a' w6 a7 w7) := (by first | exact hm7 | exact (Mv.refl _ _ _ _).drew.trans hm7); clear hs7 hl7 hm7)
      all_goals
        have c50 : w7.cell? ⟨C.S, 50, none⟩ = some (.int .i64 ((ins : Int) + 1)) := by
          have h := HS7.out.c50
          rwa [show (((ins + 1 : Nat)) : Int) = (ins : Int) + 1 by omega] at h
        have z := HS7.out.fz
        go_wp2_with fail
        go_end0
        exact ⟨rfl, x7', a7, cap7, by rw [leaves_nil h2.out]; exact HS7.out.ins ins, HL7.out.congr HQ.out, ((HM5.out.trans HM6.out).trans HM7.out).set (p := ⟨C.S, 50, none⟩) (.inl rfl) _⟩
end Go.Proofs.YtcpjnddkibbddaaGreat

/-! The program's scopes: all nodes; a new visitor. -/
namespace Go.Proofs.YtcpjnddkibbddaaGreat
open Go.RowKit
attribute [local go_sem] run_store_float
attribute [local go_sem ↓] Go.wp_at_zero Go.wp_at_succ

theorem sf_kids (k : Nat) (hk : k < 39) (h : k ≠ 1 ∧ k ≠ 2 ∧ k ≠ 6 ∧ k ≠ 7 ∧ k ≠ 8 ∧ k ≠ 9 ∧ k ≠ 10 ∧ k ≠ 12 ∧ k ≠ 26 ∧ k ≠ 27 ∧ k ≠ 36 ∧ k ≠ 37) : sfN k = 113 := by
  rcases (show k = 0 ∨ k = 1 ∨ k = 2 ∨ k = 3 ∨ k = 4 ∨ k = 5 ∨ k = 6 ∨ k = 7 ∨ k = 8 ∨ k = 9 ∨ k = 10 ∨ k = 11 ∨ k = 12 ∨ k = 13 ∨ k = 14 ∨ k = 15 ∨ k = 16 ∨ k = 17 ∨ k = 18 ∨ k = 19 ∨ k = 20 ∨ k = 21 ∨ k = 22 ∨ k = 23 ∨ k = 24 ∨ k = 25 ∨ k = 26 ∨ k = 27 ∨ k = 28 ∨ k = 29 ∨ k = 30 ∨ k = 31 ∨ k = 32 ∨ k = 33 ∨ k = 34 ∨ k = 35 ∨ k = 36 ∨ k = 37 ∨ k = 38 by omega) with rfl | rfl | rfl | rfl | rfl | rfl | rfl | rfl | rfl | rfl | rfl | rfl | rfl | rfl | rfl | rfl | rfl | rfl | rfl | rfl | rfl | rfl | rfl | rfl | rfl | rfl | rfl | rfl | rfl | rfl | rfl | rfl | rfl | rfl | rfl | rfl | rfl | rfl | rfl <;> first | rfl | omega
theorem visit_all (C : CX) (hC : C.ok) : ∀ n, n < C.d.nn → VisSays C n := by
  intro n
  induction n using Nat.strongRecOn with
  | ind n ih =>
    intro hn
    have ih' : ∀ m, m < n → VisSays C m := fun m hm => ih m hm (by omega)
    refine visit_of C hC n ?_
    have hsh := (hC.node hn).kind
    by_cases k1 : (C.d.nd n).k = 1
    · rw [k1]; exact block_step C hC n ih' k1
    by_cases k2 : (C.d.nd n).k = 2
    · rw [k2]; exact let_step C hC n ih' k2
    by_cases k6 : (C.d.nd n).k = 6
    · rw [k6]; exact loop_step C hC n ih' (by omega)
    by_cases k7 : (C.d.nd n).k = 7
    · rw [k7]; exact loop_step C hC n ih' (by omega)
    by_cases k8 : (C.d.nd n).k = 8
    · rw [k8]; exact loop_step C hC n ih' (by omega)
    by_cases k12 : (C.d.nd n).k = 12
    · rw [k12]; exact try_step C hC n ih' k12
    by_cases k9 : (C.d.nd n).k = 9
    · rw [k9]; exact jump_step C hC n (by omega)
    by_cases k10 : (C.d.nd n).k = 10
    · rw [k10]; exact jump_step C hC n (by omega)
    by_cases k26 : (C.d.nd n).k = 26
    · rw [k26]; exact variable_step C hC n k26
    by_cases k27 : (C.d.nd n).k = 27
    · rw [k27]; exact up_step C hC n k27
    by_cases k36 : (C.d.nd n).k = 36
    · rw [k36]; exact makes_step C hC n k36
    by_cases k37 : (C.d.nd n).k = 37
    · rw [k37]; exact rest_step C hC n k37
    rw [sf_kids (C.d.nd n).k.toNat (by omega) (by omega)]
    exact kids_step C hC n hn ih' ⟨k1, k2, k6, k7, k8, k12, k9, k10, k26, k27, k36, k37⟩

/-- the visitor's cells, its steps not all there yet -/
abbrev scB (K : Nat → Value) (T : Nat) (u : UD) (f : Nat) (ua : Option Addr) (uc : Nat) (fa : FA) : Array Value := #[.slice ua u.n uc, .int .i64 (f : Int), .string (u.fn f).name, .int .i64 (u.fn f).line, .int .i64 (u.fn f).params, .bool (u.fn f).rest, .slice fa.va (u.fn f).vn fa.vc, .slice fa.ua (u.fn f).un fa.uc, .slice fa.na (u.fn f).nn fa.nc, K 0, K 1, K 2, K 3, K 4, K 5, K 6, K 7, K 8, K 9, K 10, K 11, K 12, K 13, K 14, K 15, K 16, K 17, K 18, K 19, K 20, K 21, K 22, K 23, K 24, K 25, K 26, K 27, K 28, K 29, K 30, K 31, K 32, K 33, K 34, K 35, K 36, K 37, K 38, .slice none 0 0, .slice (some ⟨T, 0, none⟩) (u.fn f).vn (u.fn f).vn, .int .i64 0, .int .i64 0, .int .i64 0, .int .i64 0]
theorem scB_set (K : Nat → Value) (T : Nat) (u : UD) (f : Nat) (ua : Option Addr) (uc : Nat) (fa : FA) (k : Nat) (hk : k < 39) (v : Value) : (scB K T u f ua uc fa).setIfInBounds (9 + k) v = scB (fun j => if j = k then v else K j) T u f ua uc fa := by
  rcases (show k = 0 ∨ k = 1 ∨ k = 2 ∨ k = 3 ∨ k = 4 ∨ k = 5 ∨ k = 6 ∨ k = 7 ∨ k = 8 ∨ k = 9 ∨ k = 10 ∨ k = 11 ∨ k = 12 ∨ k = 13 ∨ k = 14 ∨ k = 15 ∨ k = 16 ∨ k = 17 ∨ k = 18 ∨ k = 19 ∨ k = 20 ∨ k = 21 ∨ k = 22 ∨ k = 23 ∨ k = 24 ∨ k = 25 ∨ k = 26 ∨ k = 27 ∨ k = 28 ∨ k = 29 ∨ k = 30 ∨ k = 31 ∨ k = 32 ∨ k = 33 ∨ k = 34 ∨ k = 35 ∨ k = 36 ∨ k = 37 ∨ k = 38 by omega) with rfl | rfl | rfl | rfl | rfl | rfl | rfl | rfl | rfl | rfl | rfl | rfl | rfl | rfl | rfl | rfl | rfl | rfl | rfl | rfl | rfl | rfl | rfl | rfl | rfl | rfl | rfl | rfl | rfl | rfl | rfl | rfl | rfl | rfl | rfl | rfl | rfl | rfl | rfl <;> rfl
theorem scB_at (K : Nat → Value) (T : Nat) (u : UD) (f : Nat) (ua : Option Addr) (uc : Nat) (fa : FA) (k : Nat) (hk : k < 39) : (scB K T u f ua uc fa)[9 + k]? = some (K k) := by
  rcases (show k = 0 ∨ k = 1 ∨ k = 2 ∨ k = 3 ∨ k = 4 ∨ k = 5 ∨ k = 6 ∨ k = 7 ∨ k = 8 ∨ k = 9 ∨ k = 10 ∨ k = 11 ∨ k = 12 ∨ k = 13 ∨ k = 14 ∨ k = 15 ∨ k = 16 ∨ k = 17 ∨ k = 18 ∨ k = 19 ∨ k = 20 ∨ k = 21 ∨ k = 22 ∨ k = 23 ∨ k = 24 ∨ k = 25 ∨ k = 26 ∨ k = 27 ∨ k = 28 ∨ k = 29 ∨ k = 30 ∨ k = 31 ∨ k = 32 ∨ k = 33 ∨ k = 34 ∨ k = 35 ∨ k = 36 ∨ k = 37 ∨ k = 38 by omega) with rfl | rfl | rfl | rfl | rfl | rfl | rfl | rfl | rfl | rfl | rfl | rfl | rfl | rfl | rfl | rfl | rfl | rfl | rfl | rfl | rfl | rfl | rfl | rfl | rfl | rfl | rfl | rfl | rfl | rfl | rfl | rfl | rfl | rfl | rfl | rfl | rfl | rfl | rfl <;> rfl
theorem scB_congr {K K' : Nat → Value} (h : ∀ j, j < 39 → K j = K' j) (T : Nat) (u : UD) (f : Nat) (ua : Option Addr) (uc : Nat) (fa : FA) : scB K T u f ua uc fa = scB K' T u f ua uc fa := by
  unfold scB
  rw [h 0 (by omega), h 1 (by omega), h 2 (by omega), h 3 (by omega), h 4 (by omega), h 5 (by omega), h 6 (by omega), h 7 (by omega), h 8 (by omega), h 9 (by omega), h 10 (by omega), h 11 (by omega), h 12 (by omega), h 13 (by omega), h 14 (by omega), h 15 (by omega), h 16 (by omega), h 17 (by omega), h 18 (by omega), h 19 (by omega), h 20 (by omega), h 21 (by omega), h 22 (by omega), h 23 (by omega), h 24 (by omega), h 25 (by omega), h 26 (by omega), h 27 (by omega), h 28 (by omega), h 29 (by omega), h 30 (by omega), h 31 (by omega), h 32 (by omega), h 33 (by omega), h 34 (by omega), h 35 (by omega), h 36 (by omega), h 37 (by omega), h 38 (by omega)]
/-- the methods that are there behind k rounds -/
def mvK (S k : Nat) : Nat → Value := fun j => if j < k then mvS S 113 else .nilFunc
theorem mvK_succ (S k : Nat) (j : Nat) : (if j = k then mvS S 113 else mvK S k j) = mvK S (k + 1) j := by
  unfold mvK
  by_cases e : j = k
  · rw [if_pos e, if_pos (by omega)]
  · rw [if_neg e]
    by_cases c : j < k
    · rw [if_pos c, if_pos (by omega)]
    · rw [if_neg c, if_neg (by omega)]

end Go.Proofs.YtcpjnddkibbddaaGreat
