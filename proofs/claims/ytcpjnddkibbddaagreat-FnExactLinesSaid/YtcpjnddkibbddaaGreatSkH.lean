import Derived.Test.YtcpjnddkibbddaaGreatSkF
/-! The program's scopes: a node is visited. -/
namespace Go.Proofs.YtcpjnddkibbddaaGreat
open Go.RowKit
attribute [local go_sem] run_store_float
attribute [local go_sem ↓] Go.wp_at_zero Go.wp_at_succ

theorem enter_sf (k : Nat) (hv : k < 39) (args : Array Value) (w : World) : (callFunc (sfN k) args).run Tryz.prog w = .ok (.enter (sfN k) args) w := by
  rcases (show k = 0 ∨ k = 1 ∨ k = 2 ∨ k = 3 ∨ k = 4 ∨ k = 5 ∨ k = 6 ∨ k = 7 ∨ k = 8 ∨ k = 9 ∨ k = 10 ∨ k = 11 ∨ k = 12 ∨ k = 13 ∨ k = 14 ∨ k = 15 ∨ k = 16 ∨ k = 17 ∨ k = 18 ∨ k = 19 ∨ k = 20 ∨ k = 21 ∨ k = 22 ∨ k = 23 ∨ k = 24 ∨ k = 25 ∨ k = 26 ∨ k = 27 ∨ k = 28 ∨ k = 29 ∨ k = 30 ∨ k = 31 ∨ k = 32 ∨ k = 33 ∨ k = 34 ∨ k = 35 ∨ k = 36 ∨ k = 37 ∨ k = 38 by omega) with rfl | rfl | rfl | rfl | rfl | rfl | rfl | rfl | rfl | rfl | rfl | rfl | rfl | rfl | rfl | rfl | rfl | rfl | rfl | rfl | rfl | rfl | rfl | rfl | rfl | rfl | rfl | rfl | rfl | rfl | rfl | rfl | rfl | rfl | rfl | rfl | rfl | rfl | rfl <;> kernel_rfl
theorem VPost.drew {C : CX} {st : List Int} {ins : Nat} {Q : FT → Prop} {a : Option Addr} {w w' : World} (h : VPost C st ins Q a w.drew w') : VPost C st ins Q a w w' := by
  obtain ⟨x', a', cap', h1, h2, h3⟩ := h
  exact ⟨x', a', cap', h1, h2, (Mv.refl _ _ _ _).drew.trans h3⟩
theorem VPre.drew {C : CX} {n : Nat} {st : List Int} {ins : Nat} {x : FT} {a : Option Addr} {cap : Nat} {P : FT → Prop} {w : World} (h : VPre C n st ins x a cap P w) : VPre C n st ins x a cap P w.drew := ⟨h.ss.drew, h.lt, h.stack, h.loop, h.room, h.deep, h.least⟩
theorem visS {C : CX} (hC : C.ok) {st : List Int} {ins : Nat} {x : FT} {a : Option Addr} {cap : Nat} {w : World} (h : SS C st ins x a cap w) {n : Nat} (hn : n < C.d.nn) {b off kN : Nat} (e0 : C.fa.na = some ⟨b, off, none⟩) (hk : (C.d.nd n).k = kN) (hk2 : kN < 39) :
    w.cell? ⟨C.S, 8, none⟩ = some (.slice (some ⟨b, off, none⟩) C.d.nn C.fa.nc) ∧ w.cell? ⟨b, off + n * 8, none⟩ = some (.int .i64 (kN : Int)) ∧ w.cell? ⟨C.S, 9 + kN, none⟩ = some (mvS C.S (sfN kN)) := by
  obtain ⟨b', off', e1, _, _, d0, _⟩ := cells8 ((h.fns hC).2 C.f hC.f).2.2.1 hn
  have e2 : some (⟨b, off, none⟩ : Addr) = some ⟨b', off', none⟩ := e0.symm.trans e1
  cases e2
  refine ⟨by rw [← e0]; exact h.c8, ?_, h.box.1.cell (9 + kN) (sc_step _ _ _ _ _ _ _ _ _ _ kN hk2)⟩
  rw [← hk]
  exact d0

set_option maxRecDepth 100000 in
set_option maxHeartbeats 4000000 in
theorem visit_of (C : CX) (hC : C.ok) (n : Nat) (hstep : StepSays C (sfN (C.d.nd n).k.toNat) n) : VisSays C n := by
  intro st ins x a cap P w hP
  have hn := hP.lt
  have hnn := hC.nn
  have hsh := (hC.node hn).kind
  obtain ⟨kN, hkN⟩ : ∃ kN : Nat, (C.d.nd n).k = kN := ⟨(C.d.nd n).k.toNat, by omega⟩
  have hk2 : kN < 39 := by omega
  have i1 : (kN : Int) < 39 := by omega
  have i2 : (0 : Int) ≤ (kN : Int) := by omega
  obtain ⟨b, off, e0, _⟩ := cells8 ((hP.ss.fns hC).2 C.f hC.f).2.2.1 hn
  have HV : Hid (∀ (st : List Int) (ins : Nat) (x : FT) (a : Option Addr) (cap : Nat) (w : World), SS C st ins x a cap w → w.cell? ⟨C.S, 8, none⟩ = some (.slice (some ⟨b, off, none⟩) C.d.nn C.fa.nc) ∧ w.cell? ⟨b, off + n * 8, none⟩ = some (.int .i64 (kN : Int)) ∧ w.cell? ⟨C.S, 9 + kN, none⟩ = some (mvS C.S (sfN kN))) := fun st ins x a cap w h => visS hC h hn e0 hkN hk2
  have HC : Hid (Calls Tryz.prog (sfN kN) #[.pointer (some ⟨C.S, 0, none⟩), .int .i64 (n : Int)] w.drew fun e w' => e = .returned (.tuple #[]) ∧ VPost C (st ++ leaves C n) ins (fun y => P y ∨ NoteT C.u C.f n y) a w.drew w') := by
    have h := hstep st ins x a cap P w.drew hP.drew
    rw [hkN] at h
    exact h
  have HP : Hid (VPre C n st ins x a cap P w) := hP
  clear hP hC hstep hkN hsh e0
  go_enter Tryz.func124, Tryz.ntmps124
  refine wp_region_held_drew (S := (fun w' => w'.cell? ⟨C.S, 8, none⟩ = some (.slice (some ⟨b, off, none⟩) C.d.nn C.fa.nc) ∧ w'.cell? ⟨b, off + n * 8, none⟩ = some (.int .i64 (kN : Int)) ∧ w'.cell? ⟨C.S, 9 + kN, none⟩ = some (mvS C.S (sfN kN)))) (by kernel_rfl) (HV.out _ _ _ _ _ _ HP.out.ss.drew) (fun hHold => ?_)
  refine wpAnyH_take (i := 0) (oi := ⟨some 4, _, _, _, _, _⟩) (v := ?v1) rfl (by kernel_rfl) (by kernel_rfl) (by kernel_rfl) (fun _ _ _ h => h) (Or.inl ⟨by rfl, ?hy1⟩) (by assumption) ?rest1
  case hy1 => (intro wz hSw; (try dsimp only at hSw); go_simp <;> with_reducible rfl)
  try simp only [Act.put, List.setIfInBounds_toArray, List.set_cons_zero, List.set_cons_succ]
  refine wpAnyH_take (i := 1) (oi := ⟨some 5, _, _, _, _, _⟩) (v := ?v2) rfl (by kernel_rfl) (by kernel_rfl) (by kernel_rfl) (fun _ _ _ h => h) (Or.inl ⟨by rfl, ?hy2⟩) (by assumption) ?rest2
  case hy2 => (intro wz hSw; (try dsimp only at hSw); go_simp <;> with_reducible rfl)
  try simp only [Act.put, List.setIfInBounds_toArray, List.set_cons_zero, List.set_cons_succ]
  refine wpAnyH_take (i := 2) (oi := ⟨some 6, _, _, _, _, _⟩) (v := ?v3) rfl (by kernel_rfl) (by kernel_rfl) (by kernel_rfl) (fun _ _ _ h => h) (Or.inl ⟨by rfl, ?hy3⟩) (by assumption) ?rest3
  case hy3 => (intro wz hSw; (try dsimp only at hSw); go_simp <;> with_reducible rfl)
  try simp only [Act.put, List.setIfInBounds_toArray, List.set_cons_zero, List.set_cons_succ]
  refine wpAnyH_take (i := 3) (oi := ⟨some 7, _, _, _, _, _⟩) (v := ?v4) rfl (by kernel_rfl) (by kernel_rfl) (by kernel_rfl) (fun _ _ _ h => h) (Or.inl ⟨by rfl, ?hy4⟩) (by assumption) ?rest4
  case hy4 => (intro wz hSw; (try dsimp only at hSw); go_simp <;> with_reducible rfl)
  try simp only [Act.put, List.setIfInBounds_toArray, List.set_cons_zero, List.set_cons_succ]
  refine wpAnyH_take (i := 4) (oi := ⟨some 8, _, _, _, _, _⟩) (v := ?v5) rfl (by kernel_rfl) (by kernel_rfl) (by kernel_rfl) (fun _ _ _ h => h) (Or.inl ⟨by rfl, ?hy5⟩) (by assumption) ?rest5
  case hy5 => (intro wz hSw; (try dsimp only at hSw); go_simp <;> with_reducible rfl)
  try simp only [Act.put, List.setIfInBounds_toArray, List.set_cons_zero, List.set_cons_succ]
  refine wpAnyH_take (i := 5) (oi := ⟨some 9, _, _, _, _, _⟩) (v := ?v6) rfl (by kernel_rfl) (by kernel_rfl) (by kernel_rfl) (fun _ _ _ h => h) (Or.inl ⟨by rfl, ?hy6⟩) (by assumption) ?rest6
  case hy6 => (intro wz hSw; (try dsimp only at hSw); go_simp <;> with_reducible rfl)
  try simp only [Act.put, List.setIfInBounds_toArray, List.set_cons_zero, List.set_cons_succ]
  refine wpAnyH_take (i := 6) (oi := ⟨some 10, _, _, _, _, _⟩) (v := ?v7) rfl (by kernel_rfl) (by kernel_rfl) (by kernel_rfl) (fun _ _ _ h => h) (Or.inl ⟨by rfl, ?hy7⟩) (by assumption) ?rest7
  case hy7 => (intro wz hSw; (try dsimp only at hSw); go_simp <;> with_reducible rfl)
  try simp only [Act.put, List.setIfInBounds_toArray, List.set_cons_zero, List.set_cons_succ]
  refine wpAnyH_take (i := 7) (oi := ⟨some 11, _, _, _, _, _⟩) (v := ?v8) rfl (by kernel_rfl) (by kernel_rfl) (by kernel_rfl) (fun _ _ _ h => h) (Or.inl ⟨by rfl, ?hy8⟩) (by assumption) ?rest8
  case hy8 => (intro wz hSw; (try dsimp only at hSw); go_simp <;> with_reducible rfl)
  try simp only [Act.put, List.setIfInBounds_toArray, List.set_cons_zero, List.set_cons_succ]
  refine wpAnyH_take (i := 8) (oi := ⟨some 12, _, _, _, _, _⟩) (v := ?v9) rfl (by kernel_rfl) (by kernel_rfl) (by kernel_rfl) (fun _ _ _ h => h) (Or.inl ⟨by rfl, ?hy9⟩) (by assumption) ?rest9
  case hy9 => (intro wz hSw; (try dsimp only at hSw); go_simp <;> with_reducible rfl)
  try simp only [Act.put, List.setIfInBounds_toArray, List.set_cons_zero, List.set_cons_succ]
  refine wpAnyH_take (i := 9) (oi := ⟨some 13, _, _, _, _, _⟩) (v := ?v10) rfl (by kernel_rfl) (by kernel_rfl) (by kernel_rfl) (fun _ _ _ h => h) (Or.inl ⟨by rfl, ?hy10⟩) (by assumption) ?rest10
  case hy10 => (intro wz hSw; (try dsimp only at hSw); go_simp <;> with_reducible rfl)
  try simp only [Act.put, List.setIfInBounds_toArray, List.set_cons_zero, List.set_cons_succ]
  refine wpAnyH_take (i := 10) (oi := ⟨some 14, _, _, _, _, _⟩) (v := ?v11) rfl (by kernel_rfl) (by kernel_rfl) (by kernel_rfl) (fun _ _ _ h => h) (Or.inl ⟨by rfl, ?hy11⟩) (by assumption) ?rest11
  case hy11 => (intro wz hSw; (try dsimp only at hSw); go_simp <;> with_reducible rfl)
  try simp only [Act.put, List.setIfInBounds_toArray, List.set_cons_zero, List.set_cons_succ]
  refine wpAnyH_take (i := 11) (oi := ⟨some 15, _, _, _, _, _⟩) (v := ?v12) rfl (by kernel_rfl) (by kernel_rfl) (by kernel_rfl) (fun _ _ _ h => h) (Or.inl ⟨by rfl, ?hy12⟩) (by assumption) ?rest12
  case hy12 => (intro wz hSw; (try dsimp only at hSw); go_simp <;> with_reducible rfl)
  try simp only [Act.put, List.setIfInBounds_toArray, List.set_cons_zero, List.set_cons_succ]
  refine wpAnyH_take (i := 12) (oi := ⟨some 16, _, _, _, _, _⟩) (v := ?v13) rfl (by kernel_rfl) (by kernel_rfl) (by kernel_rfl) (fun _ _ _ h => h) (Or.inl ⟨by rfl, ?hy13⟩) (by assumption) ?rest13
  case hy13 => (intro wz hSw; (try dsimp only at hSw); go_simp <;> with_reducible rfl)
  try simp only [Act.put, List.setIfInBounds_toArray, List.set_cons_zero, List.set_cons_succ]
  refine wpAnyH_take (i := 13) (oi := ⟨some 17, _, _, _, _, _⟩) (v := ?v14) rfl (by kernel_rfl) (by kernel_rfl) (by kernel_rfl) (fun _ _ _ h => h) (Or.inl ⟨by rfl, ?hy14⟩) (by assumption) ?rest14
  case hy14 => (intro wz hSw; (try dsimp only at hSw); go_simp <;> with_reducible rfl)
  try simp only [Act.put, List.setIfInBounds_toArray, List.set_cons_zero, List.set_cons_succ]
  refine wpAnyH_take (i := 14) (oi := ⟨some 18, _, _, _, _, _⟩) (v := ?v15) rfl (by kernel_rfl) (by kernel_rfl) (by kernel_rfl) (fun _ _ _ h => h) (Or.inl ⟨by rfl, ?hy15⟩) (by assumption) ?rest15
  case hy15 => (intro wz hSw; (try dsimp only at hSw); go_simp <;> with_reducible rfl)
  try simp only [Act.put, List.setIfInBounds_toArray, List.set_cons_zero, List.set_cons_succ]
  refine wpAnyH_ready (rs := [15]) (by kernel_rfl) (by simp) ?_
  refine AllReadyH.cons (o := ⟨some 19, _, _, _, _, _⟩) rfl (fun K hK => ?_) AllReadyH.nil
  go_simp
  rw [enter_sf kN hk2]
  dsimp only [Oper.upon]
  refine HC.out.mono ?_
  rintro e w9 ⟨rfl, hp9⟩
  have HP9 : Hid _ := hp9
  dsimp only
  refine hK.out _ _ (by obtain ⟨x', a', cap', h1, _⟩ := HP9.out; exact HV.out _ _ _ _ _ _ h1) (fun hHeld => ?_)
  refine wpAnyH_done (by kernel_rfl) ?_ _
  go_end0
  exact ⟨rfl, VPost.drew HP9.out⟩
end Go.Proofs.YtcpjnddkibbddaaGreat

/-! The program's scopes: kids, blocks, lets. -/
namespace Go.Proofs.YtcpjnddkibbddaaGreat
open Go.RowKit
attribute [local go_sem] run_store_float
attribute [local go_sem ↓] Go.wp_at_zero Go.wp_at_succ

theorem CX.ok.rn {C : CX} (h : C.ok) {n : Nat} (hn : n < C.d.nn) : (C.d.nd n).rn ≤ 1048576 := ((h.sm.fn C.f h.f).nd n hn).rn
theorem vref_len (d : ND) (vn : Nat) : (vref d vn).length ≤ d.rn := by rw [← vrN_ref]; exact vrN_len _ _ _
theorem lets_len (C : CX) (hC : C.ok) (n : Nat) (hn : n < C.d.nn) : ∀ j, j ≤ (C.d.nd n).kn → (letsOf C.d.nd C.d.vn n j).length ≤ 1048576 * j
  | 0, _ => by simp [letsOf]
  | j + 1, hj => by
    have ih := lets_len C hC n hn j (by omega)
    have hc := (hC.node hn).kids j (by omega)
    have h1 := vref_len (C.d.nd ((C.d.nd n).c j).toNat) C.d.vn
    have h2 := hC.rn (n := ((C.d.nd n).c j).toNat) (by omega)
    unfold letsOf
    rw [List.length_append]
    split
    · omega
    · simp; omega
theorem leaves_kid {C : CX} (n j c : Nat) (hc : (C.d.nd n).c j = (c : Int)) : letsOf C.d.nd C.d.vn n (j + 1) = letsOf C.d.nd C.d.vn n j ++ leaves C c := by
  show letsOf C.d.nd C.d.vn n j ++ _ = _
  rw [hc, Int.toNat_natCast]
  rfl
theorem lets_nil {C : CX} (hC : C.ok) {n : Nat} (hn : n < C.d.nn) (hk : (C.d.nd n).k ≠ 1) : ∀ j, j ≤ (C.d.nd n).kn → letsOf C.d.nd C.d.vn n j = []
  | 0, _ => rfl
  | j + 1, hj => by
    have := (hC.node hn).lets hk j (by omega)
    unfold letsOf
    rw [lets_nil hC hn hk j (by omega), if_neg this]
    rfl
/-- what holds at kid j when the step at n may go there with the stack as it is -/
theorem VPre.kid {C : CX} (hC : C.ok) {n : Nat} {st : List Int} {ins : Nat} {x : FT} {a : Option Addr} {cap : Nat} {P : FT → Prop} {w : World} (h : VPre C n st ins x a cap P w) {j c : Nat} (hj : j < (C.d.nd n).kn) (hc : (C.d.nd n).c j = (c : Int)) {st' : List Int} {ins' : Nat} {x' : FT} {a' : Option Addr} {cap' : Nat} {P' : FT → Prop} {w' : World} (hs : SS C st' ins' x' a' cap' w') (hst : StackOk C.d c st') (hlp : 0 < ins' ↔ InL C.d.nd C.d.nn c) (hlen : st'.length ≤ st.length + 209715200) (hins : ins' ≤ ins + 1) (hl : Least P' x') : VPre C c st' ins' x' a' cap' P' w' := by
  have h0 := h.lt
  have h1 := (hC.node h0).kids j hj
  have h2 := h.room
  have h3 := h.deep
  exact ⟨hs, by omega, hst, hlp, by omega, by omega, hl⟩
/-- the stack at kid j of a plain node or of a block -/
theorem VPre.stackK {C : CX} (hC : C.ok) {n : Nat} {st : List Int} {ins : Nat} {x : FT} {a : Option Addr} {cap : Nat} {P : FT → Prop} {w : World} (h : VPre C n st ins x a cap P w) (hk : (C.d.nd n).k ≠ 7 ∧ (C.d.nd n).k ≠ 8 ∧ (C.d.nd n).k ≠ 12) {j c : Nat} (hj : j < (C.d.nd n).kn) (hc : (C.d.nd n).c j = (c : Int)) : StackOk C.d c (st ++ letsOf C.d.nd C.d.vn n j) := by
  by_cases e : (C.d.nd n).k = 1
  · exact StackOk.block hC.tree ⟨h.lt, hj, hc⟩ e h.stack
  · rw [lets_nil hC h.lt e j (by omega), List.append_nil]
    exact StackOk.plain hC.tree ⟨h.lt, hj, hc⟩ e (fun h => by omega) h.stack
theorem VPre.loopK {C : CX} (hC : C.ok) {n : Nat} {st : List Int} {ins : Nat} {x : FT} {a : Option Addr} {cap : Nat} {P : FT → Prop} {w : World} (h : VPre C n st ins x a cap P w) {j c : Nat} (hj : j < (C.d.nd n).kn) (hc : (C.d.nd n).c j = (c : Int)) (hk : ¬ (((C.d.nd n).k = 6 ∨ (C.d.nd n).k = 7 ∨ (C.d.nd n).k = 8) ∧ j + 1 = (C.d.nd n).kn)) : 0 < ins ↔ InL C.d.nd C.d.nn c := by
  rw [InL.iff hC.tree ⟨h.lt, hj, hc⟩, h.loop]
  exact ⟨.inr, fun h' => h'.resolve_left hk⟩

/-- how kids ends -/
def KPost (C : CX) (n : Nat) (st : List Int) (ins : Nat) (P : FT → Prop) (a : Option Addr) (w w' : World) : Prop := VPost C (st ++ letsOf C.d.nd C.d.vn n (C.d.nd n).kn) ins (fun y => P y ∨ NoteK C.u C.f n (C.d.nd n).kn y) a w w'
set_option maxRecDepth 100000 in
set_option maxHeartbeats 4000000 in
theorem kids_calls (C : CX) (hC : C.ok) (n : Nat) (ih : ∀ m, m < n → VisSays C m) (hk : (C.d.nd n).k ≠ 6 ∧ (C.d.nd n).k ≠ 7 ∧ (C.d.nd n).k ≠ 8 ∧ (C.d.nd n).k ≠ 12) (st : List Int) (ins : Nat) (x : FT) (a : Option Addr) (cap : Nat) (P : FT → Prop) (w : World) (hP : VPre C n st ins x a cap P w) :
    Calls Tryz.prog 113 #[.pointer (some ⟨C.S, 0, none⟩), .int .i64 (n : Int)] w fun e w' => e = .returned (.tuple #[]) ∧ KPost C n st ins P a w w' := by
  have HP : Hid (VPre C n st ins x a cap P w) := hP
  have HC : Hid C.ok := hC
  have IH : Hid (∀ m, m < n → VisSays C m) := ih
  have HK : Hid ((C.d.nd n).k ≠ 6 ∧ (C.d.nd n).k ≠ 7 ∧ (C.d.nd n).k ≠ 8 ∧ (C.d.nd n).k ≠ 12) := hk
  have c8 := hP.ss.c8
  have hn := hP.lt
  have hnn := hC.nn
  have hkn := (hC.node hn).kn
  obtain ⟨b, off, e0, _, hb, d0, d1, d2, d3, d4, d5, d6, d7⟩ := cells8 ((hP.ss.fns hC).2 C.f hC.f).2.2.1 hn
  rw [e0] at c8
  rw [show (C.u.fn C.f).nd n = C.d.nd n from rfl] at d7
  clear d0 d1 d2 d3 d4 d5 d6 e0 hP hC ih hk
  go_enter Tryz.func113, Tryz.ntmps113
  go_wp2_with fail
  clear c8 d7
  go_loopw [16] (fun i wr => ∃ (k : Nat) (x' : FT) (a' : Option Addr) (cap' : Nat), k ≤ (C.d.nd n).kn ∧ i = .int .i64 k ∧ Hid (SS C (st ++ letsOf C.d.nd C.d.vn n k) ins x' a' cap' wr) ∧ Hid (Least (fun y => P y ∨ NoteK C.u C.f n k y) x') ∧ Hid (Mv C.S C.T a w a' wr)) (fun i _ => (C.d.nd n).kn - (intOf i).toNat)
  case atStart => exact ⟨0, x, a, cap, Nat.zero_le _, rfl, by show SS _ _ _ _ _ _ _; rw [show letsOf C.d.nd C.d.vn n 0 = [] from rfl, List.append_nil]; exact HP.out.ss, HP.out.least.congr fun y => ⟨.inl, fun h => h.resolve_right (noteK_zero _ _ _ _)⟩, Mv.refl _ _ _ _⟩
  case round =>
    obtain ⟨k, x', a', cap', hk, rfl, HS, HL, HM⟩ := hrel
    by_cases hkn2 : k < (C.d.nd n).kn
    · obtain ⟨b2, o2, e2, _, hb2, g0⟩ := cells1 (((HS.out.fns HC.out).2 C.f HC.out.f).2.2.2 n hn).2 hkn2
      rw [show C.fas C.f = C.fa from rfl] at e2
      rw [e2]
      have hc := (HC.out.node hn).kids k hkn2
      obtain ⟨c, hcc⟩ : ∃ c : Nat, (C.d.nd n).c k = c := ⟨((C.d.nd n).c k).toNat, by omega⟩
      rw [show ((C.u.fn C.f).nd n).c k = (c : Int) from hcc] at g0
      have hcn : c < n := by omega
      have hlen := lets_len C HC.out n hn k hk
      have HV : Hid (Calls Tryz.prog 124 #[.pointer (some ⟨C.S, 0, none⟩), .int .i64 (c : Int)] wr fun e w' => e = .returned (.tuple #[]) ∧ VPost C ((st ++ letsOf C.d.nd C.d.vn n k) ++ leaves C c) ins (fun y => (P y ∨ NoteK C.u C.f n k y) ∨ NoteT C.u C.f c y) a' wr w') :=
        IH.out c hcn _ _ _ _ _ _ _ (HP.out.kid HC.out hkn2 hcc HS.out (HP.out.stackK HC.out HK.out.2 hkn2 hcc) (HP.out.loopK HC.out hkn2 hcc (fun h => by have := HK.out; omega)) (by rw [List.length_append]; omega) (by omega) HL.out)
      have HE : Hid (st ++ letsOf C.d.nd C.d.vn n (k + 1) = (st ++ letsOf C.d.nd C.d.vn n k) ++ leaves C c) := by show _ = _; rw [leaves_kid n k c hcc, List.append_assoc]
      have HQ : Hid (∀ y, ((P y ∨ NoteK C.u C.f n k y) ∨ NoteT C.u C.f c y) ↔ (P y ∨ NoteK C.u C.f n (k + 1) y)) := fun y => by rw [noteK_succ C.u C.f n k c hcc y, or_assoc]
      clear hc hcc hlen e2
      go_wp2_with (go_at_call 124; refine HV.out.mono ?_; rintro e w9 ⟨rfl, ⟨x9, a9, cap9, hs9, hl9, hm9⟩⟩; have HS9 : Hid _ := hs9; have HL9 : Hid _ := hl9; have HM9 : Hid _ := hm9; clear hs9 hl9 hm9)
      go_roundw
      case rel => exact ⟨k + 1, x9, a9, cap9, by omega, by go_num, by rw [HE.out]; exact HS9, Least.congr HL9.out HQ.out, HM.out.trans HM9.out⟩
      case measure => simp [intOf]; omega
    · obtain rfl : k = (C.d.nd n).kn := by omega
      go_wp2_with fail
      go_end0
      exact ⟨rfl, x', a', cap', HS.out, HL.out, HM.out⟩
end Go.Proofs.YtcpjnddkibbddaaGreat

/-! The program's scopes: kids, blocks and lets as steps. -/
namespace Go.Proofs.YtcpjnddkibbddaaGreat
open Go.RowKit
attribute [local go_sem] run_store_float
attribute [local go_sem ↓] Go.wp_at_zero Go.wp_at_succ

/-- a node's refs lie elsewhere -/
theorem FarI.node {C : CX} (hC : C.ok) {st : List Int} {ins : Nat} {x : FT} {a : Option Addr} {cap : Nat} {w : World} (h : SS C st ins x a cap w) {n : Nat} (hn : n < C.d.nn) : FarI C a w (C.fa.nas n).ra (C.d.nd n).rn (C.d.nd n).r := by
  refine ⟨RowN.less (((h.fns hC).2 C.f hC.f).2.2.2 n hn).1 (Nat.zero_le _), fun h0 b off e => ?_⟩
  obtain ⟨b', off', e', _, hb, _⟩ := ((hC.at_.2 C.f hC.f).2.2.2 n hn).1 h0
  rw [show C.fas C.f = C.fa from rfl, e] at e'
  cases e'
  have h1 := h.nS
  have h2 := h.nT
  exact ⟨by omega, by omega, fun c => by have := (h.ge c).1; omega⟩
theorem KPost.step {C : CX} {n : Nat} {st : List Int} {ins : Nat} {P : FT → Prop} {a : Option Addr} {w w' : World} (h : KPost C n st ins P a w w') (hl : letsOf C.d.nd C.d.vn n (C.d.nd n).kn = []) (h2 : (C.d.nd n).k ≠ 2) (hN : ∀ y, ¬ NoteA C.u C.f n y) : VPost C (st ++ leaves C n) ins (fun y => P y ∨ NoteT C.u C.f n y) a w w' := by
  obtain ⟨x', a', cap', h1, h3, h4⟩ := h
  rw [hl, List.append_nil] at h1
  rw [leaves_nil h2]
  exact ⟨x', a', cap', h1, h3.congr fun y => by rw [noteT_iff]; exact ⟨fun h => h.elim .inl fun h => .inr (.inl h), fun h => h.elim .inl fun h => .inr (h.resolve_right (hN y))⟩, h4⟩
theorem kids_step (C : CX) (hC : C.ok) (n : Nat) (hn : n < C.d.nn) (ih : ∀ m, m < n → VisSays C m) (hk : (C.d.nd n).k ≠ 1 ∧ (C.d.nd n).k ≠ 2 ∧ (C.d.nd n).k ≠ 6 ∧ (C.d.nd n).k ≠ 7 ∧ (C.d.nd n).k ≠ 8 ∧ (C.d.nd n).k ≠ 12 ∧ (C.d.nd n).k ≠ 9 ∧ (C.d.nd n).k ≠ 10 ∧ (C.d.nd n).k ≠ 26 ∧ (C.d.nd n).k ≠ 27 ∧ (C.d.nd n).k ≠ 36 ∧ (C.d.nd n).k ≠ 37) : StepSays C 113 n := by
  intro st ins x a cap P w hP
  have hN := noteA_none (no_six (u := C.u) (f := C.f) (n := n) hk.2.2.2.2.2.2.2.2.1 hk.2.2.2.2.2.2.2.2.2.1 hk.2.2.2.2.2.2.2.2.2.2.1) (no_jump hk.2.2.2.2.2.2.1 hk.2.2.2.2.2.2.2.1) (no_make hk.2.2.2.2.2.2.2.2.2.2.1 hk.2.2.2.2.2.2.2.2.2.2.2)
  refine (kids_calls C hC n ih ⟨hk.2.2.1, hk.2.2.2.1, hk.2.2.2.2.1, hk.2.2.2.2.2.1⟩ st ins x a cap P w hP).mono ?_
  rintro e w' ⟨rfl, h⟩
  exact ⟨rfl, h.step (lets_nil hC hn hk.1 _ (Nat.le_refl _)) hk.2.1 hN⟩

set_option maxRecDepth 100000 in
set_option maxHeartbeats 4000000 in
theorem let_step (C : CX) (hC : C.ok) (n : Nat) (ih : ∀ m, m < n → VisSays C m) (hk : (C.d.nd n).k = 2) : StepSays C 115 n := by
  intro st ins x a cap P w hP
  have hk' : ((C.u.fn C.f).nd n).k = 2 := hk
  have HN : Hid (∀ y, ¬ NoteA C.u C.f n y) := noteA_none (no_six (by omega) (by omega) (by omega)) (no_jump (by omega) (by omega)) (no_make (by omega) (by omega))
  have HKC : Hid (Calls Tryz.prog 113 #[.pointer (some ⟨C.S, 0, none⟩), .int .i64 (n : Int)] w fun e w' => e = .returned (.tuple #[]) ∧ KPost C n st ins P a w w') := kids_calls C hC n ih (by omega) st ins x a cap P w hP
  have HE : Hid (letsOf C.d.nd C.d.vn n (C.d.nd n).kn = []) := lets_nil hC hP.lt (by omega) _ (Nat.le_refl _)
  have HP : Hid (VPre C n st ins x a cap P w) := hP
  have HC : Hid C.ok := hC
  have HL : Hid (leaves C n = vrN (C.d.nd n).r C.d.vn (C.d.nd n).rn) := by show leaves C n = _; unfold leaves; rw [if_pos hk, vrN_ref]
  have hn := hP.lt
  have hnn := hC.nn
  have hrn := hC.rn hn
  have hroom := hP.room
  clear hP hC ih hk hk'
  go_enter Tryz.func115, Tryz.ntmps115
  go_wp2_with fail
  refine HKC.out.mono ?_
  rintro e w1 ⟨rfl, ⟨x1, a1, cap1, hs1, hl1, hm1⟩⟩
  rw [HE.out, List.append_nil] at hs1
  have HS1 : Hid (SS C st ins x1 a1 cap1 w1) := hs1
  have HL1 : Hid (Least (fun y => P y ∨ NoteK C.u C.f n (C.d.nd n).kn y) x1) := hl1
  have HM1 : Hid (Mv C.S C.T a w a1 w1) := hm1
  have c8 := hs1.c8
  obtain ⟨b, off, e0, _, hb, d0, d1, d2, d3, d4, d5, d6, d7⟩ := cells8 ((hs1.fns HC.out).2 C.f HC.out.f).2.2.1 hn
  rw [e0] at c8
  rw [show (C.u.fn C.f).nd n = C.d.nd n from rfl] at d6
  have HI : Hid (FarI C a1 w1 (C.fa.nas n).ra (C.d.nd n).rn (C.d.nd n).r) := FarI.node HC.out hs1 hn
  clear d0 d1 d2 d3 d4 d5 d7 e0 hs1 hl1 hm1
  go_wp2_with (go_at_call 123; refine (declare_calls C st ins x1 a1 cap1 _ _ _ _ _ hrn (by omega) HS1.out HI.out).mono ?_; rintro e w2 ⟨rfl, ⟨a2, cap2, hs2, hm2⟩⟩; have HS2 : Hid _ := hs2; have HM2 : Hid _ := hm2; clear hs2 hm2)
  go_end0
  refine ⟨rfl, x1, a2, cap2, by rw [HL.out]; exact HS2.out, HL1.out.congr fun y => ?_, HM1.out.trans HM2.out⟩
  rw [noteT_iff]
  exact ⟨fun h => h.elim .inl fun h => .inr (.inl h), fun h => h.elim .inl fun h => .inr (h.resolve_right (HN.out y))⟩

set_option maxRecDepth 100000 in
set_option maxHeartbeats 4000000 in
theorem block_step (C : CX) (hC : C.ok) (n : Nat) (ih : ∀ m, m < n → VisSays C m) (hk : (C.d.nd n).k = 1) : StepSays C 114 n := by
  intro st ins x a cap P w hP
  have hk' : ((C.u.fn C.f).nd n).k = 1 := hk
  have HN : Hid (∀ y, ¬ NoteA C.u C.f n y) := noteA_none (no_six (by omega) (by omega) (by omega)) (no_jump (by omega) (by omega)) (no_make (by omega) (by omega))
  have h2 : Hid ((C.d.nd n).k ≠ 2) := by show _ ≠ _; omega
  have HKC : Hid (Calls Tryz.prog 113 #[.pointer (some ⟨C.S, 0, none⟩), .int .i64 (n : Int)] w fun e w' => e = .returned (.tuple #[]) ∧ KPost C n st ins P a w w') := kids_calls C hC n ih (by omega) st ins x a cap P w hP
  have HP : Hid (VPre C n st ins x a cap P w) := hP
  have c48 := hP.ss.c48
  have hroom := hP.room
  have hlen := lets_len C hC n hP.lt _ (Nat.le_refl _)
  have hkn := (hC.node hP.lt).kn
  clear hP hC ih hk hk'
  go_enter_defers Tryz.func114, Tryz.ntmps114
  go_wp2_with (go_at_call 113; refine HKC.out.mono ?_; rintro e w1 ⟨rfl, ⟨x1, a1, cap1, hs1, hl1, hm1⟩⟩; have HS1 : Hid _ := hs1; have HL1 : Hid _ := hl1; have HM1 : Hid _ := hm1; clear hs1 hl1 hm1)
  refine leaves_cons (f := 151) (args := #[.pointer (some ⟨C.S, 0, none⟩), .int .i64 (st.length : Int)]) (by simp) (by simp [go_sem]) ?_
  refine (takeDown_deferred C _ ins x1 a1 cap1 st.length .returning _ (by rw [List.length_append]; omega) (by simp) HS1.out).mono ?_
  rintro e u' w2 ⟨rfl, rfl, hs2, hm2⟩
  refine ⟨_, results_none rfl _ _ _, rfl, x1, a1, cap1, ?_, Least.congr HL1.out fun y => ?_, HM1.out.trans hm2⟩
  · rw [leaves_nil h2.out]
    rw [List.take_left] at hs2
    exact hs2
  · rw [noteT_iff]
    exact ⟨fun h => h.elim .inl fun h => .inr (.inl h), fun h => h.elim .inl fun h => .inr (h.resolve_right (HN.out y))⟩

set_option maxRecDepth 100000 in
set_option maxHeartbeats 4000000 in
theorem visitWith_calls (C : CX) (m : Nat) (ih : VisSays C m) (va : Option Addr) (vn vc : Nat) (r : Nat → Int) (st : List Int) (ins : Nat) (x : FT) (a : Option Addr) (cap : Nat) (P : FT → Prop) (w : World) (hm2 : (C.d.nd m).k ≠ 2) (hvn : vn ≤ 1048576) (hroom : st.length ≤ 700000000000) (hS : SS C st ins x a cap w) (hI : FarI C a w va vn r) (hL : Least P x)
    (hV : ∀ (a' : Option Addr) (cap' : Nat) (w' : World), SS C (st ++ vrN r C.d.vn vn) ins x a' cap' w' → VPre C m (st ++ vrN r C.d.vn vn) ins x a' cap' P w') :
    Calls Tryz.prog 152 #[.pointer (some ⟨C.S, 0, none⟩), .slice va vn vc, .int .i64 (m : Int)] w fun e w' => e = .returned (.tuple #[]) ∧ VPost C st ins (fun y => P y ∨ NoteT C.u C.f m y) a w w' := by
  have HS : Hid (SS C st ins x a cap w) := hS
  have HI : Hid (FarI C a w va vn r) := hI
  have HL : Hid (Least P x) := hL
  have HV : Hid (∀ (a' : Option Addr) (cap' : Nat) (w' : World), SS C (st ++ vrN r C.d.vn vn) ins x a' cap' w' → VPre C m (st ++ vrN r C.d.vn vn) ins x a' cap' P w') := hV
  have IH : Hid (VisSays C m) := ih
  have h2 : Hid ((C.d.nd m).k ≠ 2) := hm2
  have c48 := hS.c48
  have hlen := vrN_len r C.d.vn vn
  clear hS hI hL hV ih hm2
  go_enter_defers Tryz.func152, Tryz.ntmps152
  go_wp2_with (first | (go_at_call 123; refine (declare_calls C st ins x a cap va vn vc r _ hvn hroom HS.out HI.out).mono ?_; rintro e w1 ⟨rfl, ⟨a1, cap1, hs1, hm1⟩⟩; have HS1 : Hid _ := hs1; have HM1 : Hid _ := hm1; clear hs1 hm1) | (go_at_call 124; refine (IH.out _ _ _ _ _ _ _ (HV.out _ _ _ HS1.out)).mono ?_; rintro e w2 ⟨rfl, ⟨x2, a2, cap2, hs2, hl2, hm2⟩⟩; have HS2 : Hid _ := hs2; have HL2 : Hid _ := hl2; have HM2 : Hid _ := hm2; clear hs2 hl2 hm2))
  have hs3 := HS2.out
  rw [leaves_nil h2.out] at hs3
  refine leaves_cons (f := 151) (args := #[.pointer (some ⟨C.S, 0, none⟩), .int .i64 (st.length : Int)]) (by simp) (by simp [go_sem]) ?_
  refine (takeDown_deferred C _ ins x2 a2 cap2 st.length .returning _ (by rw [List.length_append]; omega) (by simp) hs3).mono ?_
  rintro e u' w3 ⟨rfl, rfl, hs4, hm4⟩
  refine ⟨_, results_none rfl _ _ _, rfl, x2, a2, cap2, ?_, HL2.out, (HM1.out.trans HM2.out).trans hm4⟩
  rw [List.take_left] at hs4
  exact hs4
end Go.Proofs.YtcpjnddkibbddaaGreat
