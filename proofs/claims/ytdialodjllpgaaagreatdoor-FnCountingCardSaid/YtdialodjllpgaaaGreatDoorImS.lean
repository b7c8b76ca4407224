import Derived.Test.YtdialodjllpgaaaGreatDoorImO
import Derived.Test.YtdialodjllpgaaaGreatDoorThB
/-! The program's check of a unit: does a node fit? -/
namespace Go.Proofs.YtdialodjllpgaaaGreatDoor
open Go.RowKit
attribute [local go_sem] run_store_float
attribute [local go_sem ↓] Go.wp_at_zero Go.wp_at_succ

theorem enter_st (k : Nat) (hv : (1 ≤ k ∧ k ≤ 14) ∨ (20 ≤ k ∧ k ≤ 38)) (args : Array Value) (w : World) : (callFunc (stN k) args).run Tryz.prog w = .ok (.enter (stN k) args) w := by
  rcases (show k = 1 ∨ k = 2 ∨ k = 3 ∨ k = 4 ∨ k = 5 ∨ k = 6 ∨ k = 7 ∨ k = 8 ∨ k = 9 ∨ k = 10 ∨ k = 11 ∨ k = 12 ∨ k = 13 ∨ k = 14 ∨ k = 20 ∨ k = 21 ∨ k = 22 ∨ k = 23 ∨ k = 24 ∨ k = 25 ∨ k = 26 ∨ k = 27 ∨ k = 28 ∨ k = 29 ∨ k = 30 ∨ k = 31 ∨ k = 32 ∨ k = 33 ∨ k = 34 ∨ k = 35 ∨ k = 36 ∨ k = 37 ∨ k = 38 by omega) with rfl | rfl | rfl | rfl | rfl | rfl | rfl | rfl | rfl | rfl | rfl | rfl | rfl | rfl | rfl | rfl | rfl | rfl | rfl | rfl | rfl | rfl | rfl | rfl | rfl | rfl | rfl | rfl | rfl | rfl | rfl | rfl | rfl <;> kernel_rfl

/-- all but block F stays -/
structure KB (F : Nat) (w w' : World) : Prop where
  low : Below F w w'
  has : ∀ X A, X ≠ F → Has w X A → Has w' X A
theorem KB.of {F : Nat} {w w' : World} (h : Below w.heap.size w w') (hF : F ≤ w.heap.size) : KB F w w' := ⟨h.mono hF, fun _ _ _ k => k.call h⟩
theorem KB.trans {F : Nat} {w w1 w2 : World} (h : KB F w w1) (k : KB F w1 w2) : KB F w w2 := ⟨h.low.trans k.low, fun X A hX hh => k.has X A hX (h.has X A hX hh)⟩
theorem KB.set (F : Nat) (w : World) (o : Nat) (v : Value) : KB F w (w.setCell ⟨F, o, none⟩ v) := ⟨frS (Below.refl _ _) (Nat.le_refl _) _, fun _ _ hX hh => hh.far (fun e => hX e.symm) _⟩
def FitPost (nd : Nat → ND) (m F : Nat) (w : World) (e : Ending) (w' : World) : Prop := e = .returned (.bool (fitB nd m)) ∧ (∃ s, FRow w' F s) ∧ KB F w w'
theorem FRow.fn {w : World} {F : Nat} {s : Value} (h : FRow w F s) (k : Nat) (hv : (1 ≤ k ∧ k ≤ 14) ∨ (20 ≤ k ∧ k ≤ 38)) : w.cell? ⟨F, 1 + k, none⟩ = some (mv F (stN k)) := by
  have := World.rowIs.cell h (i := 1 + k) (by omega)
  rw [this]
  rcases (show k = 1 ∨ k = 2 ∨ k = 3 ∨ k = 4 ∨ k = 5 ∨ k = 6 ∨ k = 7 ∨ k = 8 ∨ k = 9 ∨ k = 10 ∨ k = 11 ∨ k = 12 ∨ k = 13 ∨ k = 14 ∨ k = 20 ∨ k = 21 ∨ k = 22 ∨ k = 23 ∨ k = 24 ∨ k = 25 ∨ k = 26 ∨ k = 27 ∨ k = 28 ∨ k = 29 ∨ k = 30 ∨ k = 31 ∨ k = 32 ∨ k = 33 ∨ k = 34 ∨ k = 35 ∨ k = 36 ∨ k = 37 ∨ k = 38 by omega) with rfl | rfl | rfl | rfl | rfl | rfl | rfl | rfl | rfl | rfl | rfl | rfl | rfl | rfl | rfl | rfl | rfl | rfl | rfl | rfl | rfl | rfl | rfl | rfl | rfl | rfl | rfl | rfl | rfl | rfl | rfl | rfl | rfl <;> rfl

theorem RowN.take {K L : Nat} {w : World} {a : Option Addr} {n k : Nat} {q : Nat → Array Value} (h : RowN K L w a n q) (hk : k ≤ n) : RowN K L w a k q := fun hn => by
  obtain ⟨b, off, e, h0, h1, h2⟩ := h (by omega)
  exact ⟨b, off, e, h0, h1, fun i hi => h2 i (by omega)⟩
/-- a drawn region's cells -/
abbrev FSr (B F kN : Nat) (d : ND) (x : NA) (w' : World) : Prop := w'.cell? ⟨B, 0, none⟩ = some (.int .i64 (kN : Int)) ∧ w'.cell? ⟨B, 1, none⟩ = some (.int .i64 d.l) ∧ w'.cell? ⟨B, 2, none⟩ = some (.int .i64 d.o) ∧ w'.cell? ⟨B, 3, none⟩ = some (.int .i64 d.n) ∧ w'.cell? ⟨B, 4, none⟩ = some (.float .f64 d.f) ∧ w'.cell? ⟨B, 5, none⟩ = some (.string d.s) ∧ w'.cell? ⟨B, 6, none⟩ = some (.slice x.ra d.rn x.rc) ∧ w'.cell? ⟨B, 7, none⟩ = some (.slice x.ka d.kn x.kc) ∧ w'.cell? ⟨F, 1 + kN, none⟩ = some (mv F (stN kN))

set_option maxRecDepth 100000 in
set_option maxHeartbeats 4000000 in
theorem fits_calls (F n : Nat) (nd : Nat → ND) (a : Option Addr) (cap : Nat) (nas : Nat → NA) (m : Nat) (s : Value) (w0 w : World) (hm : m < n) (_hn : n ≤ 1048576) (hcap : n ≤ cap) (hs : (nd m).sm) (hkc : (nd m).kn ≤ (nas m).kc) (hT : NodesAt 0 w0 n nd a nas) (h0 : w0.heap.size ≤ F) (hw : Below w0.heap.size w0 w) (hF : FRow w F s) :
    Calls Tryz.prog 74 #[.pointer (some ⟨F, 0, none⟩), .slice a n cap, .int .i64 m] w fun e w' => FitPost nd m F w e w' := by
  have HT : Hid (NodesAt 0 w0 n nd a nas) := hT
  have HW : Hid (Below w0.heap.size w0 w) := hw
  have HF : Hid (FRow w F s) := hF
  have HS : Hid ((nd m).sm) := hs
  have hFw : F < w.heap.size := World.rowIs.lt hF
  have hkn := hs.kn
  clear hT hw hF hs
  have HTw : Hid (NodesAt 0 w n nd a nas) := HT.out.below HW.out
  obtain ⟨b, off, e0, _, hb, d0, d1, d2, d3, d4, d5, d6, d7⟩ := cells8 HTw.out.1 hm
  have HE0 : Hid (a = some ⟨b, off, none⟩) := e0
  subst e0
  by_cases hk : ((1 : Int) ≤ (nd m).k ∧ (nd m).k ≤ 14) ∨ ((20 : Int) ≤ (nd m).k ∧ (nd m).k ≤ 38)
  · obtain ⟨kN, hkN⟩ : ∃ kN : Nat, (nd m).k = kN := ⟨(nd m).k.toNat, by omega⟩
    have hkv : (1 ≤ kN ∧ kN ≤ 14) ∨ (20 ≤ kN ∧ kN ≤ 38) := by omega
    have HK : Hid ((nd m).k = kN) := hkN
    rw [hkN] at d0
    clear hk
    have f0 := World.rowIs.cell HF.out (i := 0) (by omega)
    have fz := World.rowIs.frozen HF.out
    have hcd : nodeC (nd m) (nas m) = #[.int .i64 (kN : Int), .int .i64 (nd m).l, .int .i64 (nd m).o, .int .i64 (nd m).n, .float .f64 (nd m).f, .string (nd m).s, .slice (nas m).ra (nd m).rn (nas m).rc, .slice (nas m).ka (nd m).kn (nas m).kc] := by rw [← hkN]
    have HCD : Hid (nodeC (nd m) (nas m) = #[.int .i64 (kN : Int), .int .i64 (nd m).l, .int .i64 (nd m).o, .int .i64 (nd m).n, .float .f64 (nd m).f, .string (nd m).s, .slice (nas m).ra (nd m).rn (nas m).rc, .slice (nas m).ka (nd m).kn (nas m).kc]) := hcd
    clear hkN hcd
    have hset : setB 32766 (kN : Int) = true ∨ (setB 32766 (kN : Int) = false ∧ setB 549754765312 (kN : Int) = true) := by
      rw [setSt, setEx]
      unfold stK exK
      simp
      omega
    go_enter Tryz.func74, Tryz.ntmps74
    go_wp2_with fail
    rcases hset with hs1 | ⟨hs1, hs2⟩
    · refine (has_calls 32766 (by decide) _ _).mono ?_
      rw [hs1]
      rintro e w1 ⟨rfl, rfl⟩
      go_wp2_with fail
      obtain ⟨w5, hw5⟩ : ∃ w5, w5 = (w.setCell ⟨F, 0, none⟩ (.slice (some ⟨b, off, none⟩) m cap)).alloc (.cells #[.int .i64 (kN : Int), .int .i64 (nd m).l, .int .i64 (nd m).o, .int .i64 (nd m).n, .float .f64 (nd m).f, .string (nd m).s, .slice (nas m).ra (nd m).rn (nas m).rc, .slice (nas m).ka (nd m).kn (nas m).kc] 95) := ⟨_, rfl⟩
      have HKB : Hid (KB F w w5) := by
        show KB F w w5
        rw [hw5]
        exact (KB.set F w 0 _).trans (KB.of (below_alloc _ _) (by simp; omega))
      have HF5 : Hid (FRow w5 F (.slice (some ⟨b, off, none⟩) m cap)) := by show FRow _ _ _; rw [hw5]; exact (HF.out.set _).alloc _
      have HB5 : Hid (Has w5 w.heap.size #[.int .i64 (kN : Int), .int .i64 (nd m).l, .int .i64 (nd m).o, .int .i64 (nd m).n, .float .f64 (nd m).f, .string (nd m).s, .slice (nas m).ra (nd m).rn (nas m).rc, .slice (nas m).ka (nd m).kn (nas m).kc]) := by
        have h := Has.new (w.setCell ⟨F, 0, none⟩ (.slice (some ⟨b, off, none⟩) m cap)) #[.int .i64 (kN : Int), .int .i64 (nd m).l, .int .i64 (nd m).o, .int .i64 (nd m).n, .float .f64 (nd m).f, .string (nd m).s, .slice (nas m).ra (nd m).rn (nas m).rc, .slice (nas m).ka (nd m).kn (nas m).kc] 95
        rw [← hw5] at h
        show Has _ _ _
        simpa using h
      have HW5 : Hid (Below w0.heap.size w0 w5) := HW.out.trans (HKB.out.low.mono h0)
      have HN5 : Hid (NodesAt 0 w5 n nd (some ⟨b, off, none⟩) nas) := HT.out.below HW5.out
      have HA5 : Hid (AH w5 F m nd nas) := ⟨⟨some ⟨b, off, none⟩, cap, World.rowIs.cell HF5.out (i := 0) (by omega), HN5.out.1.take (by omega)⟩⟩
      have HUS : Hid (∀ W, Below w5.heap.size w5 W → FSr w.heap.size F kN (nd m) (nas m) W) := fun W hW => ⟨(HB5.out.call hW).cell 0 rfl, (HB5.out.call hW).cell 1 rfl, (HB5.out.call hW).cell 2 rfl, (HB5.out.call hW).cell 3 rfl, (HB5.out.call hW).cell 4 rfl, (HB5.out.call hW).cell 5 rfl, (HB5.out.call hW).cell 6 rfl, (HB5.out.call hW).cell 7 rfl, (HF5.out.below hW).fn kN hkv⟩
      have LF : Hid (∀ W, Calls Tryz.prog 122 #[.agg #[.int .i64 (kN : Int), .int .i64 (nd m).l, .int .i64 (nd m).o, .int .i64 (nd m).n, .float .f64 (nd m).f, .string (nd m).s, .slice (nas m).ra (nd m).rn (nas m).rc, .slice (nas m).ka (nd m).kn (nas m).kc]] W fun e w' => e = .returned (.bool (if stK (nd m).k then decide (1 ≤ (nd m).l) && decide ((nd m).l ≤ 100000) else (nd m).l == 0)) ∧ Below W.heap.size W w') := fun W => by
        have h := lineFits_calls (nd m) (nas m) W
        rw [← HCD.out]
        exact h
      have FC : Hid (∀ W, Below w5.heap.size w5 W → Calls Tryz.prog (stN kN) #[.pointer (some ⟨F, 0, none⟩), .agg #[.int .i64 (kN : Int), .int .i64 (nd m).l, .int .i64 (nd m).o, .int .i64 (nd m).n, .float .f64 (nd m).f, .string (nd m).s, .slice (nas m).ra (nd m).rn (nas m).rc, .slice (nas m).ka (nd m).kn (nas m).kc]] W fun e w' => e = .returned (.bool (fkB nd m)) ∧ Below W.heap.size W w') := fun W hW => by
        have h := forms_calls F m nd nas W (HA5.out.below hW) ((HN5.out.2 m hm).below hW) HS.out hkc kN HK.out hkv
        unfold FoSays at h
        rw [← HCD.out]
        exact h
      have HV : Hid (fitB nd m = ((if stK (nd m).k then decide (1 ≤ (nd m).l) && decide ((nd m).l ≤ 100000) else (nd m).l == 0) && decide (((nd m).kn : Int) ≤ 200) && fkB nd m)) := by
        show fitB nd m = _
        unfold fitB
        have h1 : (stK (nd m).k || exK (nd m).k) = true := by rw [HK.out]; unfold stK exK; simp; omega
        rw [h1, Bool.true_and]
      rw [← hw5]
      clear hw5 f0 fz d0 d1 d2 d3 d4 d5 d6 d7
      cases hlb : (if stK (nd m).k then decide (1 ≤ (nd m).l) && decide ((nd m).l ≤ 100000) else (nd m).l == 0)
      · have HQ : Hid (fitB nd m = false) := by show fitB nd m = false; rw [HV.out, hlb]; rfl
        refine wp_region_held_drew (S := (fun w' => w'.cell? ⟨w.heap.size, 0, none⟩ = some (.int .i64 (kN : Int)) ∧ w'.cell? ⟨w.heap.size, 1, none⟩ = some (.int .i64 (nd m).l) ∧ w'.cell? ⟨w.heap.size, 2, none⟩ = some (.int .i64 (nd m).o) ∧ w'.cell? ⟨w.heap.size, 3, none⟩ = some (.int .i64 (nd m).n) ∧ w'.cell? ⟨w.heap.size, 4, none⟩ = some (.float .f64 (nd m).f) ∧ w'.cell? ⟨w.heap.size, 5, none⟩ = some (.string (nd m).s) ∧ w'.cell? ⟨w.heap.size, 6, none⟩ = some (.slice (nas m).ra (nd m).rn (nas m).rc) ∧ w'.cell? ⟨w.heap.size, 7, none⟩ = some (.slice (nas m).ka (nd m).kn (nas m).kc) ∧ w'.cell? ⟨F, 1 + kN, none⟩ = some (mv F (stN kN)))) (by kernel_rfl) (HUS.out _ (Below.refl _ _).drew) (fun hHold => ?_)
        refine wpAnyH_take (i := 0) (oi := ⟨some 28, _, _, _, _, _⟩) (v := ?v1) rfl (by kernel_rfl) (by kernel_rfl) (by kernel_rfl) (fun _ _ _ h => h) (Or.inl ⟨by rfl, ?hy1⟩) (by assumption) ?rest1
        case hy1 => (intro wz hSw; (try dsimp only at hSw); go_simp <;> with_reducible rfl)
        try simp only [Act.put, List.setIfInBounds_toArray, List.set_cons_zero, List.set_cons_succ]
        refine wpAnyH_ready (rs := [1]) (by kernel_rfl) (by simp) ?_
        refine AllReadyH.cons (o := ⟨some 29, _, _, _, _, _⟩) rfl (fun K hK => ?_) AllReadyH.nil
        go_simp
        refine (LF.out _).mono ?_
        rw [hlb]
        rintro e w8 ⟨rfl, hb8⟩
        replace hb8 : Below w5.heap.size w5 w8 := below_call (Below.refl _ _).drew hb8
        dsimp only
        refine hK.out _ _ (HUS.out _ hb8) (fun hHeld => ?_)
        clear hK K hHold
        have hHold := hHeld
        clear hHeld
        refine wpAnyH_take (i := 2) (oi := ⟨some 30, _, _, _, _, _⟩) (v := ?v2) rfl (by kernel_rfl) (by kernel_rfl) (by kernel_rfl) (fun _ _ _ h => h) (Or.inl ⟨by rfl, ?hy2⟩) (by assumption) ?rest2
        case hy2 => (intro wz hSw; (try dsimp only at hSw); go_simp <;> with_reducible rfl)
        try simp only [Act.put, List.setIfInBounds_toArray, List.set_cons_zero, List.set_cons_succ]
        refine wpAnyH_take (i := 3) (oi := ⟨some 31, _, _, _, _, _⟩) (v := undef) rfl (by kernel_rfl) (by kernel_rfl) (by kernel_rfl) (fun _ _ _ h => h) (Or.inr ⟨by rfl, rfl⟩) (by assumption) ?_
        try simp only [Act.put, List.setIfInBounds_toArray, List.set_cons_zero, List.set_cons_succ]
        refine wpAnyH_take (i := 4) (oi := ⟨some 32, _, _, _, _, _⟩) (v := undef) rfl (by kernel_rfl) (by kernel_rfl) (by kernel_rfl) (fun _ _ _ h => h) (Or.inr ⟨by rfl, rfl⟩) (by assumption) ?_
        try simp only [Act.put, List.setIfInBounds_toArray, List.set_cons_zero, List.set_cons_succ]
        refine wpAnyH_take (i := 5) (oi := ⟨some 33, _, _, _, _, _⟩) (v := undef) rfl (by kernel_rfl) (by kernel_rfl) (by kernel_rfl) (fun _ _ _ h => h) (Or.inr ⟨by rfl, rfl⟩) (by assumption) ?_
        try simp only [Act.put, List.setIfInBounds_toArray, List.set_cons_zero, List.set_cons_succ]
        refine wpAnyH_take (i := 6) (oi := ⟨some 34, _, _, _, _, _⟩) (v := undef) rfl (by kernel_rfl) (by kernel_rfl) (by kernel_rfl) (fun _ _ _ h => h) (Or.inr ⟨by rfl, rfl⟩) (by assumption) ?_
        try simp only [Act.put, List.setIfInBounds_toArray, List.set_cons_zero, List.set_cons_succ]
        refine wpAnyH_take (i := 7) (oi := ⟨some 35, _, _, _, _, _⟩) (v := ?v3) rfl (by kernel_rfl) (by kernel_rfl) (by kernel_rfl) (fun _ _ _ h => h) (Or.inl ⟨by rfl, ?hy3⟩) (by assumption) ?rest3
        case hy3 => (intro wz hSw; (try dsimp only at hSw); go_simp <;> with_reducible rfl)
        try simp only [Act.put, List.setIfInBounds_toArray, List.set_cons_zero, List.set_cons_succ]
        refine wpAnyH_take (i := 8) (oi := ⟨some 36, _, _, _, _, _⟩) (v := ?v4) rfl (by kernel_rfl) (by kernel_rfl) (by kernel_rfl) (fun _ _ _ h => h) (Or.inl ⟨by rfl, ?hy4⟩) (by assumption) ?rest4
        case hy4 => (intro wz hSw; (try dsimp only at hSw); go_simp <;> with_reducible rfl)
        try simp only [Act.put, List.setIfInBounds_toArray, List.set_cons_zero, List.set_cons_succ]
        refine wpAnyH_take (i := 9) (oi := ⟨some 37, _, _, _, _, _⟩) (v := undef) rfl (by kernel_rfl) (by kernel_rfl) (by kernel_rfl) (fun _ _ _ h => h) (Or.inr ⟨by rfl, rfl⟩) (by assumption) ?_
        try simp only [Act.put, List.setIfInBounds_toArray, List.set_cons_zero, List.set_cons_succ]
        refine wpAnyH_take (i := 10) (oi := ⟨some 38, _, _, _, _, _⟩) (v := undef) rfl (by kernel_rfl) (by kernel_rfl) (by kernel_rfl) (fun _ _ _ h => h) (Or.inr ⟨by rfl, rfl⟩) (by assumption) ?_
        try simp only [Act.put, List.setIfInBounds_toArray, List.set_cons_zero, List.set_cons_succ]
        refine wpAnyH_take (i := 11) (oi := ⟨some 39, _, _, _, _, _⟩) (v := undef) rfl (by kernel_rfl) (by kernel_rfl) (by kernel_rfl) (fun _ _ _ h => h) (Or.inr ⟨by rfl, rfl⟩) (by assumption) ?_
        try simp only [Act.put, List.setIfInBounds_toArray, List.set_cons_zero, List.set_cons_succ]
        refine wpAnyH_take (i := 12) (oi := ⟨some 40, _, _, _, _, _⟩) (v := undef) rfl (by kernel_rfl) (by kernel_rfl) (by kernel_rfl) (fun _ _ _ h => h) (Or.inr ⟨by rfl, rfl⟩) (by assumption) ?_
        try simp only [Act.put, List.setIfInBounds_toArray, List.set_cons_zero, List.set_cons_succ]
        refine wpAnyH_take (i := 13) (oi := ⟨some 41, _, _, _, _, _⟩) (v := undef) rfl (by kernel_rfl) (by kernel_rfl) (by kernel_rfl) (fun _ _ _ h => h) (Or.inr ⟨by rfl, rfl⟩) (by assumption) ?_
        try simp only [Act.put, List.setIfInBounds_toArray, List.set_cons_zero, List.set_cons_succ]
        refine wpAnyH_take (i := 14) (oi := ⟨some 42, _, _, _, _, _⟩) (v := undef) rfl (by kernel_rfl) (by kernel_rfl) (by kernel_rfl) (fun _ _ _ h => h) (Or.inr ⟨by rfl, rfl⟩) (by assumption) ?_
        try simp only [Act.put, List.setIfInBounds_toArray, List.set_cons_zero, List.set_cons_succ]
        refine wpAnyH_take (i := 15) (oi := ⟨some 43, _, _, _, _, _⟩) (v := undef) rfl (by kernel_rfl) (by kernel_rfl) (by kernel_rfl) (fun _ _ _ h => h) (Or.inr ⟨by rfl, rfl⟩) (by assumption) ?_
        try simp only [Act.put, List.setIfInBounds_toArray, List.set_cons_zero, List.set_cons_succ]
        refine wpAnyH_take (i := 16) (oi := ⟨some 44, _, _, _, _, _⟩) (v := undef) rfl (by kernel_rfl) (by kernel_rfl) (by kernel_rfl) (fun _ _ _ h => h) (Or.inr ⟨by rfl, rfl⟩) (by assumption) ?_
        try simp only [Act.put, List.setIfInBounds_toArray, List.set_cons_zero, List.set_cons_succ]
        refine wpAnyH_take (i := 17) (oi := ⟨some 45, _, _, _, _, _⟩) (v := undef) rfl (by kernel_rfl) (by kernel_rfl) (by kernel_rfl) (fun _ _ _ h => h) (Or.inr ⟨by rfl, rfl⟩) (by assumption) ?_
        try simp only [Act.put, List.setIfInBounds_toArray, List.set_cons_zero, List.set_cons_succ]
        refine wpAnyH_take (i := 18) (oi := ⟨some 46, _, _, _, _, _⟩) (v := ?v5) rfl (by kernel_rfl) (by kernel_rfl) (by kernel_rfl) (fun _ _ _ h => h) (Or.inl ⟨by rfl, ?hy5⟩) (by assumption) ?rest5
        case hy5 => (intro wz hSw; (try dsimp only at hSw); go_simp <;> with_reducible rfl)
        try simp only [Act.put, List.setIfInBounds_toArray, List.set_cons_zero, List.set_cons_succ]
        refine wpAnyH_take (i := 19) (oi := ⟨some 6, _, _, _, _, _⟩) (v := ?v6) rfl (by kernel_rfl) (by kernel_rfl) (by kernel_rfl) (fun _ _ _ h => h) (Or.inl ⟨by rfl, ?hy6⟩) (by assumption) ?rest6
        case hy6 => (intro wz hSw; (try dsimp only at hSw); go_simp <;> with_reducible rfl)
        try simp only [Act.put, List.setIfInBounds_toArray, List.set_cons_zero, List.set_cons_succ]
        refine wpAnyH_done (by kernel_rfl) ?_ _
        go_wp2_with fail
        go_ret
        exact ⟨ret_bool HQ.out.symm, ⟨_, HF5.out.below hb8⟩, HKB.out.trans (KB.of hb8 (Nat.le_of_lt (World.rowIs.lt HF5.out)))⟩
      · by_cases hk2 : ((nd m).kn : Int) ≤ 200
        · have HQ : Hid (fitB nd m = fkB nd m) := by show fitB nd m = fkB nd m; rw [HV.out, hlb, decide_eq_true hk2]; rfl
          have i1 : (kN : Int) < 39 := by omega
          have qk : decide (((nd m).kn : Int) ≤ 200) = true := decide_eq_true hk2
          refine wp_region_held_drew (S := (fun w' => w'.cell? ⟨w.heap.size, 0, none⟩ = some (.int .i64 (kN : Int)) ∧ w'.cell? ⟨w.heap.size, 1, none⟩ = some (.int .i64 (nd m).l) ∧ w'.cell? ⟨w.heap.size, 2, none⟩ = some (.int .i64 (nd m).o) ∧ w'.cell? ⟨w.heap.size, 3, none⟩ = some (.int .i64 (nd m).n) ∧ w'.cell? ⟨w.heap.size, 4, none⟩ = some (.float .f64 (nd m).f) ∧ w'.cell? ⟨w.heap.size, 5, none⟩ = some (.string (nd m).s) ∧ w'.cell? ⟨w.heap.size, 6, none⟩ = some (.slice (nas m).ra (nd m).rn (nas m).rc) ∧ w'.cell? ⟨w.heap.size, 7, none⟩ = some (.slice (nas m).ka (nd m).kn (nas m).kc) ∧ w'.cell? ⟨F, 1 + kN, none⟩ = some (mv F (stN kN)))) (by kernel_rfl) (HUS.out _ (Below.refl _ _).drew) (fun hHold => ?_)
          refine wpAnyH_take (i := 0) (oi := ⟨some 28, _, _, _, _, _⟩) (v := ?v7) rfl (by kernel_rfl) (by kernel_rfl) (by kernel_rfl) (fun _ _ _ h => h) (Or.inl ⟨by rfl, ?hy7⟩) (by assumption) ?rest7
          case hy7 => (intro wz hSw; (try dsimp only at hSw); go_simp <;> with_reducible rfl)
          try simp only [Act.put, List.setIfInBounds_toArray, List.set_cons_zero, List.set_cons_succ]
          refine wpAnyH_ready (rs := [1]) (by kernel_rfl) (by simp) ?_
          refine AllReadyH.cons (o := ⟨some 29, _, _, _, _, _⟩) rfl (fun K hK => ?_) AllReadyH.nil
          go_simp
          refine (LF.out _).mono ?_
          rw [hlb]
          rintro e w8 ⟨rfl, hb8⟩
          replace hb8 : Below w5.heap.size w5 w8 := below_call (Below.refl _ _).drew hb8
          dsimp only
          refine hK.out _ _ (HUS.out _ hb8) (fun hHeld => ?_)
          clear hK K hHold
          have hHold := hHeld
          clear hHeld
          refine wpAnyH_take (i := 2) (oi := ⟨some 30, _, _, _, _, _⟩) (v := ?v8) rfl (by kernel_rfl) (by kernel_rfl) (by kernel_rfl) (fun _ _ _ h => h) (Or.inl ⟨by rfl, ?hy8⟩) (by assumption) ?rest8
          case hy8 => (intro wz hSw; (try dsimp only at hSw); go_simp <;> with_reducible rfl)
          try simp only [Act.put, List.setIfInBounds_toArray, List.set_cons_zero, List.set_cons_succ]
          refine wpAnyH_take (i := 3) (oi := ⟨some 31, _, _, _, _, _⟩) (v := ?v9) rfl (by kernel_rfl) (by kernel_rfl) (by kernel_rfl) (fun _ _ _ h => h) (Or.inl ⟨by rfl, ?hy9⟩) (by assumption) ?rest9
          case hy9 => (intro wz hSw; (try dsimp only at hSw); go_simp <;> with_reducible rfl)
          try simp only [Act.put, List.setIfInBounds_toArray, List.set_cons_zero, List.set_cons_succ]
          refine wpAnyH_take (i := 4) (oi := ⟨some 32, _, _, _, _, _⟩) (v := ?v10) rfl (by kernel_rfl) (by kernel_rfl) (by kernel_rfl) (fun _ _ _ h => h) (Or.inl ⟨by rfl, ?hy10⟩) (by assumption) ?rest10
          case hy10 => (intro wz hSw; (try dsimp only at hSw); go_simp <;> with_reducible rfl)
          try simp only [Act.put, List.setIfInBounds_toArray, List.set_cons_zero, List.set_cons_succ]
          refine wpAnyH_take (i := 5) (oi := ⟨some 33, _, _, _, _, _⟩) (v := ?v11) rfl (by kernel_rfl) (by kernel_rfl) (by kernel_rfl) (fun _ _ _ h => h) (Or.inl ⟨by rfl, ?hy11⟩) (by assumption) ?rest11
          case hy11 => (intro wz hSw; (try dsimp only at hSw); go_simp <;> with_reducible rfl)
          try simp only [Act.put, List.setIfInBounds_toArray, List.set_cons_zero, List.set_cons_succ]
          refine wpAnyH_take (i := 6) (oi := ⟨some 34, _, _, _, _, _⟩) (v := ?v12) rfl (by kernel_rfl) (by kernel_rfl) (by kernel_rfl) (fun _ _ _ h => h) (Or.inl ⟨by rfl, ?hy12⟩) (by assumption) ?rest12
          case hy12 => (intro wz hSw; (try dsimp only at hSw); go_simp <;> with_reducible rfl)
          try simp only [Act.put, List.setIfInBounds_toArray, List.set_cons_zero, List.set_cons_succ]
          refine wpAnyH_take (i := 7) (oi := ⟨some 35, _, _, _, _, _⟩) (v := ?v13) rfl (by kernel_rfl) (by kernel_rfl) (by kernel_rfl) (fun _ _ _ h => h) (Or.inl ⟨by rfl, ?hy13⟩) (by assumption) ?rest13
          case hy13 => (intro wz hSw; (try dsimp only at hSw); go_simp <;> with_reducible rfl)
          try simp only [Act.put, List.setIfInBounds_toArray, List.set_cons_zero, List.set_cons_succ]
          refine wpAnyH_take (i := 8) (oi := ⟨some 36, _, _, _, _, _⟩) (v := ?v14) rfl (by kernel_rfl) (by kernel_rfl) (by kernel_rfl) (fun _ _ _ h => h) (Or.inl ⟨by rfl, ?hy14⟩) (by assumption) ?rest14
          case hy14 => (intro wz hSw; (try dsimp only at hSw); go_simp <;> with_reducible rfl)
          try simp only [Act.put, List.setIfInBounds_toArray, List.set_cons_zero, List.set_cons_succ]
          refine wpAnyH_take (i := 9) (oi := ⟨some 37, _, _, _, _, _⟩) (v := ?v15) rfl (by kernel_rfl) (by kernel_rfl) (by kernel_rfl) (fun _ _ _ h => h) (Or.inl ⟨by rfl, ?hy15⟩) (by assumption) ?rest15
          case hy15 => (intro wz hSw; (try dsimp only at hSw); go_simp <;> with_reducible rfl)
          try simp only [Act.put, List.setIfInBounds_toArray, List.set_cons_zero, List.set_cons_succ]
          refine wpAnyH_take (i := 10) (oi := ⟨some 38, _, _, _, _, _⟩) (v := ?v16) rfl (by kernel_rfl) (by kernel_rfl) (by kernel_rfl) (fun _ _ _ h => h) (Or.inl ⟨by rfl, ?hy16⟩) (by assumption) ?rest16
          case hy16 => (intro wz hSw; (try dsimp only at hSw); go_simp <;> with_reducible rfl)
          try simp only [Act.put, List.setIfInBounds_toArray, List.set_cons_zero, List.set_cons_succ]
          refine wpAnyH_take (i := 11) (oi := ⟨some 39, _, _, _, _, _⟩) (v := ?v17) rfl (by kernel_rfl) (by kernel_rfl) (by kernel_rfl) (fun _ _ _ h => h) (Or.inl ⟨by rfl, ?hy17⟩) (by assumption) ?rest17
          case hy17 => (intro wz hSw; (try dsimp only at hSw); go_simp <;> with_reducible rfl)
          try simp only [Act.put, List.setIfInBounds_toArray, List.set_cons_zero, List.set_cons_succ]
          refine wpAnyH_take (i := 12) (oi := ⟨some 40, _, _, _, _, _⟩) (v := ?v18) rfl (by kernel_rfl) (by kernel_rfl) (by kernel_rfl) (fun _ _ _ h => h) (Or.inl ⟨by rfl, ?hy18⟩) (by assumption) ?rest18
          case hy18 => (intro wz hSw; (try dsimp only at hSw); go_simp <;> with_reducible rfl)
          try simp only [Act.put, List.setIfInBounds_toArray, List.set_cons_zero, List.set_cons_succ]
          refine wpAnyH_take (i := 13) (oi := ⟨some 41, _, _, _, _, _⟩) (v := ?v19) rfl (by kernel_rfl) (by kernel_rfl) (by kernel_rfl) (fun _ _ _ h => h) (Or.inl ⟨by rfl, ?hy19⟩) (by assumption) ?rest19
          case hy19 => (intro wz hSw; (try dsimp only at hSw); go_simp <;> with_reducible rfl)
          try simp only [Act.put, List.setIfInBounds_toArray, List.set_cons_zero, List.set_cons_succ]
          refine wpAnyH_take (i := 14) (oi := ⟨some 42, _, _, _, _, _⟩) (v := ?v20) rfl (by kernel_rfl) (by kernel_rfl) (by kernel_rfl) (fun _ _ _ h => h) (Or.inl ⟨by rfl, ?hy20⟩) (by assumption) ?rest20
          case hy20 => (intro wz hSw; (try dsimp only at hSw); go_simp <;> with_reducible rfl)
          try simp only [Act.put, List.setIfInBounds_toArray, List.set_cons_zero, List.set_cons_succ]
          refine wpAnyH_take (i := 15) (oi := ⟨some 43, _, _, _, _, _⟩) (v := ?v21) rfl (by kernel_rfl) (by kernel_rfl) (by kernel_rfl) (fun _ _ _ h => h) (Or.inl ⟨by rfl, ?hy21⟩) (by assumption) ?rest21
          case hy21 => (intro wz hSw; (try dsimp only at hSw); go_simp <;> with_reducible rfl)
          try simp only [Act.put, List.setIfInBounds_toArray, List.set_cons_zero, List.set_cons_succ]
          refine wpAnyH_take (i := 16) (oi := ⟨some 44, _, _, _, _, _⟩) (v := ?v22) rfl (by kernel_rfl) (by kernel_rfl) (by kernel_rfl) (fun _ _ _ h => h) (Or.inl ⟨by rfl, ?hy22⟩) (by assumption) ?rest22
          case hy22 => (intro wz hSw; (try dsimp only at hSw); go_simp <;> with_reducible rfl)
          try simp only [Act.put, List.setIfInBounds_toArray, List.set_cons_zero, List.set_cons_succ]
          refine wpAnyH_ready (rs := [17]) (by kernel_rfl) (by simp) ?_
          refine AllReadyH.cons (o := ⟨some 45, _, _, _, _, _⟩) rfl (fun K hK => ?_) AllReadyH.nil
          go_simp
          rw [enter_st kN hkv]
          dsimp only [Oper.upon]
          refine (FC.out _ hb8).mono ?_
          rintro e w9 ⟨rfl, hb9⟩
          replace hb9 : Below w5.heap.size w5 w9 := below_call hb8 hb9
          dsimp only
          refine hK.out _ _ (HUS.out _ hb9) (fun hHeld => ?_)
          clear hK K hHold
          have hHold := hHeld
          clear hHeld
          refine wpAnyH_take (i := 18) (oi := ⟨some 46, _, _, _, _, _⟩) (v := ?v23) rfl (by kernel_rfl) (by kernel_rfl) (by kernel_rfl) (fun _ _ _ h => h) (Or.inl ⟨by rfl, ?hy23⟩) (by assumption) ?rest23
          case hy23 => (intro wz hSw; (try dsimp only at hSw); go_simp <;> with_reducible rfl)
          try simp only [Act.put, List.setIfInBounds_toArray, List.set_cons_zero, List.set_cons_succ]
          refine wpAnyH_take (i := 19) (oi := ⟨some 6, _, _, _, _, _⟩) (v := ?v24) rfl (by kernel_rfl) (by kernel_rfl) (by kernel_rfl) (fun _ _ _ h => h) (Or.inl ⟨by rfl, ?hy24⟩) (by assumption) ?rest24
          case hy24 => (intro wz hSw; (try dsimp only at hSw); go_simp <;> with_reducible rfl)
          try simp only [Act.put, List.setIfInBounds_toArray, List.set_cons_zero, List.set_cons_succ]
          refine wpAnyH_done (by kernel_rfl) ?_ _
          go_wp2_with fail
          go_ret
          exact ⟨ret_bool HQ.out.symm, ⟨_, HF5.out.below hb9⟩, HKB.out.trans (KB.of hb9 (Nat.le_of_lt (World.rowIs.lt HF5.out)))⟩
        · have HQ : Hid (fitB nd m = false) := by show fitB nd m = false; rw [HV.out, hlb, decide_eq_false hk2]; rfl
          have qk : decide (((nd m).kn : Int) ≤ 200) = false := decide_eq_false hk2
          have qk2 : decide ((nd m).kn ≤ 200) = false := decide_eq_false (by omega)
          have i1 : (kN : Int) < 39 := by omega
          have i2 : (0 : Int) ≤ (kN : Int) := by omega
          refine wp_region_held_drew (S := (fun w' => w'.cell? ⟨w.heap.size, 0, none⟩ = some (.int .i64 (kN : Int)) ∧ w'.cell? ⟨w.heap.size, 1, none⟩ = some (.int .i64 (nd m).l) ∧ w'.cell? ⟨w.heap.size, 2, none⟩ = some (.int .i64 (nd m).o) ∧ w'.cell? ⟨w.heap.size, 3, none⟩ = some (.int .i64 (nd m).n) ∧ w'.cell? ⟨w.heap.size, 4, none⟩ = some (.float .f64 (nd m).f) ∧ w'.cell? ⟨w.heap.size, 5, none⟩ = some (.string (nd m).s) ∧ w'.cell? ⟨w.heap.size, 6, none⟩ = some (.slice (nas m).ra (nd m).rn (nas m).rc) ∧ w'.cell? ⟨w.heap.size, 7, none⟩ = some (.slice (nas m).ka (nd m).kn (nas m).kc) ∧ w'.cell? ⟨F, 1 + kN, none⟩ = some (mv F (stN kN)))) (by kernel_rfl) (HUS.out _ (Below.refl _ _).drew) (fun hHold => ?_)
          refine wpAnyH_take (i := 0) (oi := ⟨some 28, _, _, _, _, _⟩) (v := ?v25) rfl (by kernel_rfl) (by kernel_rfl) (by kernel_rfl) (fun _ _ _ h => h) (Or.inl ⟨by rfl, ?hy25⟩) (by assumption) ?rest25
          case hy25 => (intro wz hSw; (try dsimp only at hSw); go_simp <;> with_reducible rfl)
          try simp only [Act.put, List.setIfInBounds_toArray, List.set_cons_zero, List.set_cons_succ]
          refine wpAnyH_ready (rs := [1]) (by kernel_rfl) (by simp) ?_
          refine AllReadyH.cons (o := ⟨some 29, _, _, _, _, _⟩) rfl (fun K hK => ?_) AllReadyH.nil
          go_simp
          refine (LF.out _).mono ?_
          rw [hlb]
          rintro e w8 ⟨rfl, hb8⟩
          replace hb8 : Below w5.heap.size w5 w8 := below_call (Below.refl _ _).drew hb8
          dsimp only
          refine hK.out _ _ (HUS.out _ hb8) (fun hHeld => ?_)
          clear hK K hHold
          have hHold := hHeld
          clear hHeld
          refine wpAnyH_take (i := 2) (oi := ⟨some 30, _, _, _, _, _⟩) (v := ?v26) rfl (by kernel_rfl) (by kernel_rfl) (by kernel_rfl) (fun _ _ _ h => h) (Or.inl ⟨by rfl, ?hy26⟩) (by assumption) ?rest26
          case hy26 => (intro wz hSw; (try dsimp only at hSw); go_simp <;> with_reducible rfl)
          try simp only [Act.put, List.setIfInBounds_toArray, List.set_cons_zero, List.set_cons_succ]
          refine wpAnyH_take (i := 3) (oi := ⟨some 31, _, _, _, _, _⟩) (v := ?v27) rfl (by kernel_rfl) (by kernel_rfl) (by kernel_rfl) (fun _ _ _ h => h) (Or.inl ⟨by rfl, ?hy27⟩) (by assumption) ?rest27
          case hy27 => (intro wz hSw; (try dsimp only at hSw); go_simp <;> with_reducible rfl)
          try simp only [Act.put, List.setIfInBounds_toArray, List.set_cons_zero, List.set_cons_succ]
          refine wpAnyH_take (i := 4) (oi := ⟨some 32, _, _, _, _, _⟩) (v := ?v28) rfl (by kernel_rfl) (by kernel_rfl) (by kernel_rfl) (fun _ _ _ h => h) (Or.inl ⟨by rfl, ?hy28⟩) (by assumption) ?rest28
          case hy28 => (intro wz hSw; (try dsimp only at hSw); go_simp <;> with_reducible rfl)
          try simp only [Act.put, List.setIfInBounds_toArray, List.set_cons_zero, List.set_cons_succ]
          refine wpAnyH_take (i := 5) (oi := ⟨some 33, _, _, _, _, _⟩) (v := ?v29) rfl (by kernel_rfl) (by kernel_rfl) (by kernel_rfl) (fun _ _ _ h => h) (Or.inl ⟨by rfl, ?hy29⟩) (by assumption) ?rest29
          case hy29 => (intro wz hSw; (try dsimp only at hSw); go_simp <;> with_reducible rfl)
          try simp only [Act.put, List.setIfInBounds_toArray, List.set_cons_zero, List.set_cons_succ]
          refine wpAnyH_take (i := 6) (oi := ⟨some 34, _, _, _, _, _⟩) (v := ?v30) rfl (by kernel_rfl) (by kernel_rfl) (by kernel_rfl) (fun _ _ _ h => h) (Or.inl ⟨by rfl, ?hy30⟩) (by assumption) ?rest30
          case hy30 => (intro wz hSw; (try dsimp only at hSw); go_simp <;> with_reducible rfl)
          try simp only [Act.put, List.setIfInBounds_toArray, List.set_cons_zero, List.set_cons_succ]
          refine wpAnyH_take (i := 7) (oi := ⟨some 35, _, _, _, _, _⟩) (v := ?v31) rfl (by kernel_rfl) (by kernel_rfl) (by kernel_rfl) (fun _ _ _ h => h) (Or.inl ⟨by rfl, ?hy31⟩) (by assumption) ?rest31
          case hy31 => (intro wz hSw; (try dsimp only at hSw); go_simp <;> with_reducible rfl)
          try simp only [Act.put, List.setIfInBounds_toArray, List.set_cons_zero, List.set_cons_succ]
          refine wpAnyH_take (i := 8) (oi := ⟨some 36, _, _, _, _, _⟩) (v := ?v32) rfl (by kernel_rfl) (by kernel_rfl) (by kernel_rfl) (fun _ _ _ h => h) (Or.inl ⟨by rfl, ?hy32⟩) (by assumption) ?rest32
          case hy32 => (intro wz hSw; (try dsimp only at hSw); go_simp <;> with_reducible rfl)
          try simp only [Act.put, List.setIfInBounds_toArray, List.set_cons_zero, List.set_cons_succ]
          refine wpAnyH_take (i := 9) (oi := ⟨some 37, _, _, _, _, _⟩) (v := undef) rfl (by kernel_rfl) (by kernel_rfl) (by kernel_rfl) (fun _ _ _ h => h) (Or.inr ⟨by rfl, rfl⟩) (by assumption) ?_
          try simp only [Act.put, List.setIfInBounds_toArray, List.set_cons_zero, List.set_cons_succ]
          refine wpAnyH_take (i := 10) (oi := ⟨some 38, _, _, _, _, _⟩) (v := undef) rfl (by kernel_rfl) (by kernel_rfl) (by kernel_rfl) (fun _ _ _ h => h) (Or.inr ⟨by rfl, rfl⟩) (by assumption) ?_
          try simp only [Act.put, List.setIfInBounds_toArray, List.set_cons_zero, List.set_cons_succ]
          refine wpAnyH_take (i := 11) (oi := ⟨some 39, _, _, _, _, _⟩) (v := undef) rfl (by kernel_rfl) (by kernel_rfl) (by kernel_rfl) (fun _ _ _ h => h) (Or.inr ⟨by rfl, rfl⟩) (by assumption) ?_
          try simp only [Act.put, List.setIfInBounds_toArray, List.set_cons_zero, List.set_cons_succ]
          refine wpAnyH_take (i := 12) (oi := ⟨some 40, _, _, _, _, _⟩) (v := undef) rfl (by kernel_rfl) (by kernel_rfl) (by kernel_rfl) (fun _ _ _ h => h) (Or.inr ⟨by rfl, rfl⟩) (by assumption) ?_
          try simp only [Act.put, List.setIfInBounds_toArray, List.set_cons_zero, List.set_cons_succ]
          refine wpAnyH_take (i := 13) (oi := ⟨some 41, _, _, _, _, _⟩) (v := undef) rfl (by kernel_rfl) (by kernel_rfl) (by kernel_rfl) (fun _ _ _ h => h) (Or.inr ⟨by rfl, rfl⟩) (by assumption) ?_
          try simp only [Act.put, List.setIfInBounds_toArray, List.set_cons_zero, List.set_cons_succ]
          refine wpAnyH_take (i := 14) (oi := ⟨some 42, _, _, _, _, _⟩) (v := undef) rfl (by kernel_rfl) (by kernel_rfl) (by kernel_rfl) (fun _ _ _ h => h) (Or.inr ⟨by rfl, rfl⟩) (by assumption) ?_
          try simp only [Act.put, List.setIfInBounds_toArray, List.set_cons_zero, List.set_cons_succ]
          refine wpAnyH_take (i := 15) (oi := ⟨some 43, _, _, _, _, _⟩) (v := undef) rfl (by kernel_rfl) (by kernel_rfl) (by kernel_rfl) (fun _ _ _ h => h) (Or.inr ⟨by rfl, rfl⟩) (by assumption) ?_
          try simp only [Act.put, List.setIfInBounds_toArray, List.set_cons_zero, List.set_cons_succ]
          refine wpAnyH_take (i := 16) (oi := ⟨some 44, _, _, _, _, _⟩) (v := undef) rfl (by kernel_rfl) (by kernel_rfl) (by kernel_rfl) (fun _ _ _ h => h) (Or.inr ⟨by rfl, rfl⟩) (by assumption) ?_
          try simp only [Act.put, List.setIfInBounds_toArray, List.set_cons_zero, List.set_cons_succ]
          refine wpAnyH_take (i := 17) (oi := ⟨some 45, _, _, _, _, _⟩) (v := undef) rfl (by kernel_rfl) (by kernel_rfl) (by kernel_rfl) (fun _ _ _ h => h) (Or.inr ⟨by rfl, rfl⟩) (by assumption) ?_
          try simp only [Act.put, List.setIfInBounds_toArray, List.set_cons_zero, List.set_cons_succ]
          refine wpAnyH_take (i := 18) (oi := ⟨some 46, _, _, _, _, _⟩) (v := ?v33) rfl (by kernel_rfl) (by kernel_rfl) (by kernel_rfl) (fun _ _ _ h => h) (Or.inl ⟨by rfl, ?hy33⟩) (by assumption) ?rest33
          case hy33 => (intro wz hSw; (try dsimp only at hSw); go_simp <;> with_reducible rfl)
          try simp only [Act.put, List.setIfInBounds_toArray, List.set_cons_zero, List.set_cons_succ]
          refine wpAnyH_take (i := 19) (oi := ⟨some 6, _, _, _, _, _⟩) (v := ?v34) rfl (by kernel_rfl) (by kernel_rfl) (by kernel_rfl) (fun _ _ _ h => h) (Or.inl ⟨by rfl, ?hy34⟩) (by assumption) ?rest34
          case hy34 => (intro wz hSw; (try dsimp only at hSw); go_simp <;> with_reducible rfl)
          try simp only [Act.put, List.setIfInBounds_toArray, List.set_cons_zero, List.set_cons_succ]
          refine wpAnyH_done (by kernel_rfl) ?_ _
          go_wp2_with fail
          go_ret
          exact ⟨ret_bool HQ.out.symm, ⟨_, HF5.out.below hb8⟩, HKB.out.trans (KB.of hb8 (Nat.le_of_lt (World.rowIs.lt HF5.out)))⟩
    · refine (has_calls 32766 (by decide) _ _).mono ?_
      rw [hs1]
      rintro e w1 ⟨rfl, rfl⟩
      go_wp2_with fail
      refine (has_calls 549754765312 (by decide) _ _).mono ?_
      rw [hs2]
      rintro e w1 ⟨rfl, rfl⟩
      go_wp2_with fail
      obtain ⟨w5, hw5⟩ : ∃ w5, w5 = (w.setCell ⟨F, 0, none⟩ (.slice (some ⟨b, off, none⟩) m cap)).alloc (.cells #[.int .i64 (kN : Int), .int .i64 (nd m).l, .int .i64 (nd m).o, .int .i64 (nd m).n, .float .f64 (nd m).f, .string (nd m).s, .slice (nas m).ra (nd m).rn (nas m).rc, .slice (nas m).ka (nd m).kn (nas m).kc] 95) := ⟨_, rfl⟩
      have HKB : Hid (KB F w w5) := by
        show KB F w w5
        rw [hw5]
        exact (KB.set F w 0 _).trans (KB.of (below_alloc _ _) (by simp; omega))
      have HF5 : Hid (FRow w5 F (.slice (some ⟨b, off, none⟩) m cap)) := by show FRow _ _ _; rw [hw5]; exact (HF.out.set _).alloc _
      have HB5 : Hid (Has w5 w.heap.size #[.int .i64 (kN : Int), .int .i64 (nd m).l, .int .i64 (nd m).o, .int .i64 (nd m).n, .float .f64 (nd m).f, .string (nd m).s, .slice (nas m).ra (nd m).rn (nas m).rc, .slice (nas m).ka (nd m).kn (nas m).kc]) := by
        have h := Has.new (w.setCell ⟨F, 0, none⟩ (.slice (some ⟨b, off, none⟩) m cap)) #[.int .i64 (kN : Int), .int .i64 (nd m).l, .int .i64 (nd m).o, .int .i64 (nd m).n, .float .f64 (nd m).f, .string (nd m).s, .slice (nas m).ra (nd m).rn (nas m).rc, .slice (nas m).ka (nd m).kn (nas m).kc] 95
        rw [← hw5] at h
        show Has _ _ _
        simpa using h
      have HW5 : Hid (Below w0.heap.size w0 w5) := HW.out.trans (HKB.out.low.mono h0)
      have HN5 : Hid (NodesAt 0 w5 n nd (some ⟨b, off, none⟩) nas) := HT.out.below HW5.out
      have HA5 : Hid (AH w5 F m nd nas) := ⟨⟨some ⟨b, off, none⟩, cap, World.rowIs.cell HF5.out (i := 0) (by omega), HN5.out.1.take (by omega)⟩⟩
      have HUS : Hid (∀ W, Below w5.heap.size w5 W → FSr w.heap.size F kN (nd m) (nas m) W) := fun W hW => ⟨(HB5.out.call hW).cell 0 rfl, (HB5.out.call hW).cell 1 rfl, (HB5.out.call hW).cell 2 rfl, (HB5.out.call hW).cell 3 rfl, (HB5.out.call hW).cell 4 rfl, (HB5.out.call hW).cell 5 rfl, (HB5.out.call hW).cell 6 rfl, (HB5.out.call hW).cell 7 rfl, (HF5.out.below hW).fn kN hkv⟩
      have LF : Hid (∀ W, Calls Tryz.prog 122 #[.agg #[.int .i64 (kN : Int), .int .i64 (nd m).l, .int .i64 (nd m).o, .int .i64 (nd m).n, .float .f64 (nd m).f, .string (nd m).s, .slice (nas m).ra (nd m).rn (nas m).rc, .slice (nas m).ka (nd m).kn (nas m).kc]] W fun e w' => e = .returned (.bool (if stK (nd m).k then decide (1 ≤ (nd m).l) && decide ((nd m).l ≤ 100000) else (nd m).l == 0)) ∧ Below W.heap.size W w') := fun W => by
        have h := lineFits_calls (nd m) (nas m) W
        rw [← HCD.out]
        exact h
      have FC : Hid (∀ W, Below w5.heap.size w5 W → Calls Tryz.prog (stN kN) #[.pointer (some ⟨F, 0, none⟩), .agg #[.int .i64 (kN : Int), .int .i64 (nd m).l, .int .i64 (nd m).o, .int .i64 (nd m).n, .float .f64 (nd m).f, .string (nd m).s, .slice (nas m).ra (nd m).rn (nas m).rc, .slice (nas m).ka (nd m).kn (nas m).kc]] W fun e w' => e = .returned (.bool (fkB nd m)) ∧ Below W.heap.size W w') := fun W hW => by
        have h := forms_calls F m nd nas W (HA5.out.below hW) ((HN5.out.2 m hm).below hW) HS.out hkc kN HK.out hkv
        unfold FoSays at h
        rw [← HCD.out]
        exact h
      have HV : Hid (fitB nd m = ((if stK (nd m).k then decide (1 ≤ (nd m).l) && decide ((nd m).l ≤ 100000) else (nd m).l == 0) && decide (((nd m).kn : Int) ≤ 200) && fkB nd m)) := by
        show fitB nd m = _
        unfold fitB
        have h1 : (stK (nd m).k || exK (nd m).k) = true := by rw [HK.out]; unfold stK exK; simp; omega
        rw [h1, Bool.true_and]
      rw [← hw5]
      clear hw5 f0 fz d0 d1 d2 d3 d4 d5 d6 d7
      cases hlb : (if stK (nd m).k then decide (1 ≤ (nd m).l) && decide ((nd m).l ≤ 100000) else (nd m).l == 0)
      · have HQ : Hid (fitB nd m = false) := by show fitB nd m = false; rw [HV.out, hlb]; rfl
        refine wp_region_held_drew (S := (fun w' => w'.cell? ⟨w.heap.size, 0, none⟩ = some (.int .i64 (kN : Int)) ∧ w'.cell? ⟨w.heap.size, 1, none⟩ = some (.int .i64 (nd m).l) ∧ w'.cell? ⟨w.heap.size, 2, none⟩ = some (.int .i64 (nd m).o) ∧ w'.cell? ⟨w.heap.size, 3, none⟩ = some (.int .i64 (nd m).n) ∧ w'.cell? ⟨w.heap.size, 4, none⟩ = some (.float .f64 (nd m).f) ∧ w'.cell? ⟨w.heap.size, 5, none⟩ = some (.string (nd m).s) ∧ w'.cell? ⟨w.heap.size, 6, none⟩ = some (.slice (nas m).ra (nd m).rn (nas m).rc) ∧ w'.cell? ⟨w.heap.size, 7, none⟩ = some (.slice (nas m).ka (nd m).kn (nas m).kc) ∧ w'.cell? ⟨F, 1 + kN, none⟩ = some (mv F (stN kN)))) (by kernel_rfl) (HUS.out _ (Below.refl _ _).drew) (fun hHold => ?_)
        refine wpAnyH_take (i := 0) (oi := ⟨some 28, _, _, _, _, _⟩) (v := ?v35) rfl (by kernel_rfl) (by kernel_rfl) (by kernel_rfl) (fun _ _ _ h => h) (Or.inl ⟨by rfl, ?hy35⟩) (by assumption) ?rest35
        case hy35 => (intro wz hSw; (try dsimp only at hSw); go_simp <;> with_reducible rfl)
        try simp only [Act.put, List.setIfInBounds_toArray, List.set_cons_zero, List.set_cons_succ]
        refine wpAnyH_ready (rs := [1]) (by kernel_rfl) (by simp) ?_
        refine AllReadyH.cons (o := ⟨some 29, _, _, _, _, _⟩) rfl (fun K hK => ?_) AllReadyH.nil
        go_simp
        refine (LF.out _).mono ?_
        rw [hlb]
        rintro e w8 ⟨rfl, hb8⟩
        replace hb8 : Below w5.heap.size w5 w8 := below_call (Below.refl _ _).drew hb8
        dsimp only
        refine hK.out _ _ (HUS.out _ hb8) (fun hHeld => ?_)
        clear hK K hHold
        have hHold := hHeld
        clear hHeld
        refine wpAnyH_take (i := 2) (oi := ⟨some 30, _, _, _, _, _⟩) (v := ?v36) rfl (by kernel_rfl) (by kernel_rfl) (by kernel_rfl) (fun _ _ _ h => h) (Or.inl ⟨by rfl, ?hy36⟩) (by assumption) ?rest36
        case hy36 => (intro wz hSw; (try dsimp only at hSw); go_simp <;> with_reducible rfl)
        try simp only [Act.put, List.setIfInBounds_toArray, List.set_cons_zero, List.set_cons_succ]
        refine wpAnyH_take (i := 3) (oi := ⟨some 31, _, _, _, _, _⟩) (v := undef) rfl (by kernel_rfl) (by kernel_rfl) (by kernel_rfl) (fun _ _ _ h => h) (Or.inr ⟨by rfl, rfl⟩) (by assumption) ?_
        try simp only [Act.put, List.setIfInBounds_toArray, List.set_cons_zero, List.set_cons_succ]
        refine wpAnyH_take (i := 4) (oi := ⟨some 32, _, _, _, _, _⟩) (v := undef) rfl (by kernel_rfl) (by kernel_rfl) (by kernel_rfl) (fun _ _ _ h => h) (Or.inr ⟨by rfl, rfl⟩) (by assumption) ?_
        try simp only [Act.put, List.setIfInBounds_toArray, List.set_cons_zero, List.set_cons_succ]
        refine wpAnyH_take (i := 5) (oi := ⟨some 33, _, _, _, _, _⟩) (v := undef) rfl (by kernel_rfl) (by kernel_rfl) (by kernel_rfl) (fun _ _ _ h => h) (Or.inr ⟨by rfl, rfl⟩) (by assumption) ?_
        try simp only [Act.put, List.setIfInBounds_toArray, List.set_cons_zero, List.set_cons_succ]
        refine wpAnyH_take (i := 6) (oi := ⟨some 34, _, _, _, _, _⟩) (v := undef) rfl (by kernel_rfl) (by kernel_rfl) (by kernel_rfl) (fun _ _ _ h => h) (Or.inr ⟨by rfl, rfl⟩) (by assumption) ?_
        try simp only [Act.put, List.setIfInBounds_toArray, List.set_cons_zero, List.set_cons_succ]
        refine wpAnyH_take (i := 7) (oi := ⟨some 35, _, _, _, _, _⟩) (v := ?v37) rfl (by kernel_rfl) (by kernel_rfl) (by kernel_rfl) (fun _ _ _ h => h) (Or.inl ⟨by rfl, ?hy37⟩) (by assumption) ?rest37
        case hy37 => (intro wz hSw; (try dsimp only at hSw); go_simp <;> with_reducible rfl)
        try simp only [Act.put, List.setIfInBounds_toArray, List.set_cons_zero, List.set_cons_succ]
        refine wpAnyH_take (i := 8) (oi := ⟨some 36, _, _, _, _, _⟩) (v := ?v38) rfl (by kernel_rfl) (by kernel_rfl) (by kernel_rfl) (fun _ _ _ h => h) (Or.inl ⟨by rfl, ?hy38⟩) (by assumption) ?rest38
        case hy38 => (intro wz hSw; (try dsimp only at hSw); go_simp <;> with_reducible rfl)
        try simp only [Act.put, List.setIfInBounds_toArray, List.set_cons_zero, List.set_cons_succ]
        refine wpAnyH_take (i := 9) (oi := ⟨some 37, _, _, _, _, _⟩) (v := undef) rfl (by kernel_rfl) (by kernel_rfl) (by kernel_rfl) (fun _ _ _ h => h) (Or.inr ⟨by rfl, rfl⟩) (by assumption) ?_
        try simp only [Act.put, List.setIfInBounds_toArray, List.set_cons_zero, List.set_cons_succ]
        refine wpAnyH_take (i := 10) (oi := ⟨some 38, _, _, _, _, _⟩) (v := undef) rfl (by kernel_rfl) (by kernel_rfl) (by kernel_rfl) (fun _ _ _ h => h) (Or.inr ⟨by rfl, rfl⟩) (by assumption) ?_
        try simp only [Act.put, List.setIfInBounds_toArray, List.set_cons_zero, List.set_cons_succ]
        refine wpAnyH_take (i := 11) (oi := ⟨some 39, _, _, _, _, _⟩) (v := undef) rfl (by kernel_rfl) (by kernel_rfl) (by kernel_rfl) (fun _ _ _ h => h) (Or.inr ⟨by rfl, rfl⟩) (by assumption) ?_
        try simp only [Act.put, List.setIfInBounds_toArray, List.set_cons_zero, List.set_cons_succ]
        refine wpAnyH_take (i := 12) (oi := ⟨some 40, _, _, _, _, _⟩) (v := undef) rfl (by kernel_rfl) (by kernel_rfl) (by kernel_rfl) (fun _ _ _ h => h) (Or.inr ⟨by rfl, rfl⟩) (by assumption) ?_
        try simp only [Act.put, List.setIfInBounds_toArray, List.set_cons_zero, List.set_cons_succ]
        refine wpAnyH_take (i := 13) (oi := ⟨some 41, _, _, _, _, _⟩) (v := undef) rfl (by kernel_rfl) (by kernel_rfl) (by kernel_rfl) (fun _ _ _ h => h) (Or.inr ⟨by rfl, rfl⟩) (by assumption) ?_
        try simp only [Act.put, List.setIfInBounds_toArray, List.set_cons_zero, List.set_cons_succ]
        refine wpAnyH_take (i := 14) (oi := ⟨some 42, _, _, _, _, _⟩) (v := undef) rfl (by kernel_rfl) (by kernel_rfl) (by kernel_rfl) (fun _ _ _ h => h) (Or.inr ⟨by rfl, rfl⟩) (by assumption) ?_
        try simp only [Act.put, List.setIfInBounds_toArray, List.set_cons_zero, List.set_cons_succ]
        refine wpAnyH_take (i := 15) (oi := ⟨some 43, _, _, _, _, _⟩) (v := undef) rfl (by kernel_rfl) (by kernel_rfl) (by kernel_rfl) (fun _ _ _ h => h) (Or.inr ⟨by rfl, rfl⟩) (by assumption) ?_
        try simp only [Act.put, List.setIfInBounds_toArray, List.set_cons_zero, List.set_cons_succ]
        refine wpAnyH_take (i := 16) (oi := ⟨some 44, _, _, _, _, _⟩) (v := undef) rfl (by kernel_rfl) (by kernel_rfl) (by kernel_rfl) (fun _ _ _ h => h) (Or.inr ⟨by rfl, rfl⟩) (by assumption) ?_
        try simp only [Act.put, List.setIfInBounds_toArray, List.set_cons_zero, List.set_cons_succ]
        refine wpAnyH_take (i := 17) (oi := ⟨some 45, _, _, _, _, _⟩) (v := undef) rfl (by kernel_rfl) (by kernel_rfl) (by kernel_rfl) (fun _ _ _ h => h) (Or.inr ⟨by rfl, rfl⟩) (by assumption) ?_
        try simp only [Act.put, List.setIfInBounds_toArray, List.set_cons_zero, List.set_cons_succ]
        refine wpAnyH_take (i := 18) (oi := ⟨some 46, _, _, _, _, _⟩) (v := ?v39) rfl (by kernel_rfl) (by kernel_rfl) (by kernel_rfl) (fun _ _ _ h => h) (Or.inl ⟨by rfl, ?hy39⟩) (by assumption) ?rest39
        case hy39 => (intro wz hSw; (try dsimp only at hSw); go_simp <;> with_reducible rfl)
        try simp only [Act.put, List.setIfInBounds_toArray, List.set_cons_zero, List.set_cons_succ]
        refine wpAnyH_take (i := 19) (oi := ⟨some 6, _, _, _, _, _⟩) (v := ?v40) rfl (by kernel_rfl) (by kernel_rfl) (by kernel_rfl) (fun _ _ _ h => h) (Or.inl ⟨by rfl, ?hy40⟩) (by assumption) ?rest40
        case hy40 => (intro wz hSw; (try dsimp only at hSw); go_simp <;> with_reducible rfl)
        try simp only [Act.put, List.setIfInBounds_toArray, List.set_cons_zero, List.set_cons_succ]
        refine wpAnyH_done (by kernel_rfl) ?_ _
        go_wp2_with fail
        go_ret
        exact ⟨ret_bool HQ.out.symm, ⟨_, HF5.out.below hb8⟩, HKB.out.trans (KB.of hb8 (Nat.le_of_lt (World.rowIs.lt HF5.out)))⟩
      · by_cases hk2 : ((nd m).kn : Int) ≤ 200
        · have HQ : Hid (fitB nd m = fkB nd m) := by show fitB nd m = fkB nd m; rw [HV.out, hlb, decide_eq_true hk2]; rfl
          have i1 : (kN : Int) < 39 := by omega
          have qk : decide (((nd m).kn : Int) ≤ 200) = true := decide_eq_true hk2
          refine wp_region_held_drew (S := (fun w' => w'.cell? ⟨w.heap.size, 0, none⟩ = some (.int .i64 (kN : Int)) ∧ w'.cell? ⟨w.heap.size, 1, none⟩ = some (.int .i64 (nd m).l) ∧ w'.cell? ⟨w.heap.size, 2, none⟩ = some (.int .i64 (nd m).o) ∧ w'.cell? ⟨w.heap.size, 3, none⟩ = some (.int .i64 (nd m).n) ∧ w'.cell? ⟨w.heap.size, 4, none⟩ = some (.float .f64 (nd m).f) ∧ w'.cell? ⟨w.heap.size, 5, none⟩ = some (.string (nd m).s) ∧ w'.cell? ⟨w.heap.size, 6, none⟩ = some (.slice (nas m).ra (nd m).rn (nas m).rc) ∧ w'.cell? ⟨w.heap.size, 7, none⟩ = some (.slice (nas m).ka (nd m).kn (nas m).kc) ∧ w'.cell? ⟨F, 1 + kN, none⟩ = some (mv F (stN kN)))) (by kernel_rfl) (HUS.out _ (Below.refl _ _).drew) (fun hHold => ?_)
          refine wpAnyH_take (i := 0) (oi := ⟨some 28, _, _, _, _, _⟩) (v := ?v41) rfl (by kernel_rfl) (by kernel_rfl) (by kernel_rfl) (fun _ _ _ h => h) (Or.inl ⟨by rfl, ?hy41⟩) (by assumption) ?rest41
          case hy41 => (intro wz hSw; (try dsimp only at hSw); go_simp <;> with_reducible rfl)
          try simp only [Act.put, List.setIfInBounds_toArray, List.set_cons_zero, List.set_cons_succ]
          refine wpAnyH_ready (rs := [1]) (by kernel_rfl) (by simp) ?_
          refine AllReadyH.cons (o := ⟨some 29, _, _, _, _, _⟩) rfl (fun K hK => ?_) AllReadyH.nil
          go_simp
          refine (LF.out _).mono ?_
          rw [hlb]
          rintro e w8 ⟨rfl, hb8⟩
          replace hb8 : Below w5.heap.size w5 w8 := below_call (Below.refl _ _).drew hb8
          dsimp only
          refine hK.out _ _ (HUS.out _ hb8) (fun hHeld => ?_)
          clear hK K hHold
          have hHold := hHeld
          clear hHeld
          refine wpAnyH_take (i := 2) (oi := ⟨some 30, _, _, _, _, _⟩) (v := ?v42) rfl (by kernel_rfl) (by kernel_rfl) (by kernel_rfl) (fun _ _ _ h => h) (Or.inl ⟨by rfl, ?hy42⟩) (by assumption) ?rest42
          case hy42 => (intro wz hSw; (try dsimp only at hSw); go_simp <;> with_reducible rfl)
          try simp only [Act.put, List.setIfInBounds_toArray, List.set_cons_zero, List.set_cons_succ]
          refine wpAnyH_take (i := 3) (oi := ⟨some 31, _, _, _, _, _⟩) (v := ?v43) rfl (by kernel_rfl) (by kernel_rfl) (by kernel_rfl) (fun _ _ _ h => h) (Or.inl ⟨by rfl, ?hy43⟩) (by assumption) ?rest43
          case hy43 => (intro wz hSw; (try dsimp only at hSw); go_simp <;> with_reducible rfl)
          try simp only [Act.put, List.setIfInBounds_toArray, List.set_cons_zero, List.set_cons_succ]
          refine wpAnyH_take (i := 4) (oi := ⟨some 32, _, _, _, _, _⟩) (v := ?v44) rfl (by kernel_rfl) (by kernel_rfl) (by kernel_rfl) (fun _ _ _ h => h) (Or.inl ⟨by rfl, ?hy44⟩) (by assumption) ?rest44
          case hy44 => (intro wz hSw; (try dsimp only at hSw); go_simp <;> with_reducible rfl)
          try simp only [Act.put, List.setIfInBounds_toArray, List.set_cons_zero, List.set_cons_succ]
          refine wpAnyH_take (i := 5) (oi := ⟨some 33, _, _, _, _, _⟩) (v := ?v45) rfl (by kernel_rfl) (by kernel_rfl) (by kernel_rfl) (fun _ _ _ h => h) (Or.inl ⟨by rfl, ?hy45⟩) (by assumption) ?rest45
          case hy45 => (intro wz hSw; (try dsimp only at hSw); go_simp <;> with_reducible rfl)
          try simp only [Act.put, List.setIfInBounds_toArray, List.set_cons_zero, List.set_cons_succ]
          refine wpAnyH_take (i := 6) (oi := ⟨some 34, _, _, _, _, _⟩) (v := ?v46) rfl (by kernel_rfl) (by kernel_rfl) (by kernel_rfl) (fun _ _ _ h => h) (Or.inl ⟨by rfl, ?hy46⟩) (by assumption) ?rest46
          case hy46 => (intro wz hSw; (try dsimp only at hSw); go_simp <;> with_reducible rfl)
          try simp only [Act.put, List.setIfInBounds_toArray, List.set_cons_zero, List.set_cons_succ]
          refine wpAnyH_take (i := 7) (oi := ⟨some 35, _, _, _, _, _⟩) (v := ?v47) rfl (by kernel_rfl) (by kernel_rfl) (by kernel_rfl) (fun _ _ _ h => h) (Or.inl ⟨by rfl, ?hy47⟩) (by assumption) ?rest47
          case hy47 => (intro wz hSw; (try dsimp only at hSw); go_simp <;> with_reducible rfl)
          try simp only [Act.put, List.setIfInBounds_toArray, List.set_cons_zero, List.set_cons_succ]
          refine wpAnyH_take (i := 8) (oi := ⟨some 36, _, _, _, _, _⟩) (v := ?v48) rfl (by kernel_rfl) (by kernel_rfl) (by kernel_rfl) (fun _ _ _ h => h) (Or.inl ⟨by rfl, ?hy48⟩) (by assumption) ?rest48
          case hy48 => (intro wz hSw; (try dsimp only at hSw); go_simp <;> with_reducible rfl)
          try simp only [Act.put, List.setIfInBounds_toArray, List.set_cons_zero, List.set_cons_succ]
          refine wpAnyH_take (i := 9) (oi := ⟨some 37, _, _, _, _, _⟩) (v := ?v49) rfl (by kernel_rfl) (by kernel_rfl) (by kernel_rfl) (fun _ _ _ h => h) (Or.inl ⟨by rfl, ?hy49⟩) (by assumption) ?rest49
          case hy49 => (intro wz hSw; (try dsimp only at hSw); go_simp <;> with_reducible rfl)
          try simp only [Act.put, List.setIfInBounds_toArray, List.set_cons_zero, List.set_cons_succ]
          refine wpAnyH_take (i := 10) (oi := ⟨some 38, _, _, _, _, _⟩) (v := ?v50) rfl (by kernel_rfl) (by kernel_rfl) (by kernel_rfl) (fun _ _ _ h => h) (Or.inl ⟨by rfl, ?hy50⟩) (by assumption) ?rest50
          case hy50 => (intro wz hSw; (try dsimp only at hSw); go_simp <;> with_reducible rfl)
          try simp only [Act.put, List.setIfInBounds_toArray, List.set_cons_zero, List.set_cons_succ]
          refine wpAnyH_take (i := 11) (oi := ⟨some 39, _, _, _, _, _⟩) (v := ?v51) rfl (by kernel_rfl) (by kernel_rfl) (by kernel_rfl) (fun _ _ _ h => h) (Or.inl ⟨by rfl, ?hy51⟩) (by assumption) ?rest51
          case hy51 => (intro wz hSw; (try dsimp only at hSw); go_simp <;> with_reducible rfl)
          try simp only [Act.put, List.setIfInBounds_toArray, List.set_cons_zero, List.set_cons_succ]
          refine wpAnyH_take (i := 12) (oi := ⟨some 40, _, _, _, _, _⟩) (v := ?v52) rfl (by kernel_rfl) (by kernel_rfl) (by kernel_rfl) (fun _ _ _ h => h) (Or.inl ⟨by rfl, ?hy52⟩) (by assumption) ?rest52
          case hy52 => (intro wz hSw; (try dsimp only at hSw); go_simp <;> with_reducible rfl)
          try simp only [Act.put, List.setIfInBounds_toArray, List.set_cons_zero, List.set_cons_succ]
          refine wpAnyH_take (i := 13) (oi := ⟨some 41, _, _, _, _, _⟩) (v := ?v53) rfl (by kernel_rfl) (by kernel_rfl) (by kernel_rfl) (fun _ _ _ h => h) (Or.inl ⟨by rfl, ?hy53⟩) (by assumption) ?rest53
          case hy53 => (intro wz hSw; (try dsimp only at hSw); go_simp <;> with_reducible rfl)
          try simp only [Act.put, List.setIfInBounds_toArray, List.set_cons_zero, List.set_cons_succ]
          refine wpAnyH_take (i := 14) (oi := ⟨some 42, _, _, _, _, _⟩) (v := ?v54) rfl (by kernel_rfl) (by kernel_rfl) (by kernel_rfl) (fun _ _ _ h => h) (Or.inl ⟨by rfl, ?hy54⟩) (by assumption) ?rest54
          case hy54 => (intro wz hSw; (try dsimp only at hSw); go_simp <;> with_reducible rfl)
          try simp only [Act.put, List.setIfInBounds_toArray, List.set_cons_zero, List.set_cons_succ]
          refine wpAnyH_take (i := 15) (oi := ⟨some 43, _, _, _, _, _⟩) (v := ?v55) rfl (by kernel_rfl) (by kernel_rfl) (by kernel_rfl) (fun _ _ _ h => h) (Or.inl ⟨by rfl, ?hy55⟩) (by assumption) ?rest55
          case hy55 => (intro wz hSw; (try dsimp only at hSw); go_simp <;> with_reducible rfl)
          try simp only [Act.put, List.setIfInBounds_toArray, List.set_cons_zero, List.set_cons_succ]
          refine wpAnyH_take (i := 16) (oi := ⟨some 44, _, _, _, _, _⟩) (v := ?v56) rfl (by kernel_rfl) (by kernel_rfl) (by kernel_rfl) (fun _ _ _ h => h) (Or.inl ⟨by rfl, ?hy56⟩) (by assumption) ?rest56
          case hy56 => (intro wz hSw; (try dsimp only at hSw); go_simp <;> with_reducible rfl)
          try simp only [Act.put, List.setIfInBounds_toArray, List.set_cons_zero, List.set_cons_succ]
          refine wpAnyH_ready (rs := [17]) (by kernel_rfl) (by simp) ?_
          refine AllReadyH.cons (o := ⟨some 45, _, _, _, _, _⟩) rfl (fun K hK => ?_) AllReadyH.nil
          go_simp
          rw [enter_st kN hkv]
          dsimp only [Oper.upon]
          refine (FC.out _ hb8).mono ?_
          rintro e w9 ⟨rfl, hb9⟩
          replace hb9 : Below w5.heap.size w5 w9 := below_call hb8 hb9
          dsimp only
          refine hK.out _ _ (HUS.out _ hb9) (fun hHeld => ?_)
          clear hK K hHold
          have hHold := hHeld
          clear hHeld
          refine wpAnyH_take (i := 18) (oi := ⟨some 46, _, _, _, _, _⟩) (v := ?v57) rfl (by kernel_rfl) (by kernel_rfl) (by kernel_rfl) (fun _ _ _ h => h) (Or.inl ⟨by rfl, ?hy57⟩) (by assumption) ?rest57
          case hy57 => (intro wz hSw; (try dsimp only at hSw); go_simp <;> with_reducible rfl)
          try simp only [Act.put, List.setIfInBounds_toArray, List.set_cons_zero, List.set_cons_succ]
          refine wpAnyH_take (i := 19) (oi := ⟨some 6, _, _, _, _, _⟩) (v := ?v58) rfl (by kernel_rfl) (by kernel_rfl) (by kernel_rfl) (fun _ _ _ h => h) (Or.inl ⟨by rfl, ?hy58⟩) (by assumption) ?rest58
          case hy58 => (intro wz hSw; (try dsimp only at hSw); go_simp <;> with_reducible rfl)
          try simp only [Act.put, List.setIfInBounds_toArray, List.set_cons_zero, List.set_cons_succ]
          refine wpAnyH_done (by kernel_rfl) ?_ _
          go_wp2_with fail
          go_ret
          exact ⟨ret_bool HQ.out.symm, ⟨_, HF5.out.below hb9⟩, HKB.out.trans (KB.of hb9 (Nat.le_of_lt (World.rowIs.lt HF5.out)))⟩
        · have HQ : Hid (fitB nd m = false) := by show fitB nd m = false; rw [HV.out, hlb, decide_eq_false hk2]; rfl
          have qk : decide (((nd m).kn : Int) ≤ 200) = false := decide_eq_false hk2
          have qk2 : decide ((nd m).kn ≤ 200) = false := decide_eq_false (by omega)
          have i1 : (kN : Int) < 39 := by omega
          have i2 : (0 : Int) ≤ (kN : Int) := by omega
          refine wp_region_held_drew (S := (fun w' => w'.cell? ⟨w.heap.size, 0, none⟩ = some (.int .i64 (kN : Int)) ∧ w'.cell? ⟨w.heap.size, 1, none⟩ = some (.int .i64 (nd m).l) ∧ w'.cell? ⟨w.heap.size, 2, none⟩ = some (.int .i64 (nd m).o) ∧ w'.cell? ⟨w.heap.size, 3, none⟩ = some (.int .i64 (nd m).n) ∧ w'.cell? ⟨w.heap.size, 4, none⟩ = some (.float .f64 (nd m).f) ∧ w'.cell? ⟨w.heap.size, 5, none⟩ = some (.string (nd m).s) ∧ w'.cell? ⟨w.heap.size, 6, none⟩ = some (.slice (nas m).ra (nd m).rn (nas m).rc) ∧ w'.cell? ⟨w.heap.size, 7, none⟩ = some (.slice (nas m).ka (nd m).kn (nas m).kc) ∧ w'.cell? ⟨F, 1 + kN, none⟩ = some (mv F (stN kN)))) (by kernel_rfl) (HUS.out _ (Below.refl _ _).drew) (fun hHold => ?_)
          refine wpAnyH_take (i := 0) (oi := ⟨some 28, _, _, _, _, _⟩) (v := ?v59) rfl (by kernel_rfl) (by kernel_rfl) (by kernel_rfl) (fun _ _ _ h => h) (Or.inl ⟨by rfl, ?hy59⟩) (by assumption) ?rest59
          case hy59 => (intro wz hSw; (try dsimp only at hSw); go_simp <;> with_reducible rfl)
          try simp only [Act.put, List.setIfInBounds_toArray, List.set_cons_zero, List.set_cons_succ]
          refine wpAnyH_ready (rs := [1]) (by kernel_rfl) (by simp) ?_
          refine AllReadyH.cons (o := ⟨some 29, _, _, _, _, _⟩) rfl (fun K hK => ?_) AllReadyH.nil
          go_simp
          refine (LF.out _).mono ?_
          rw [hlb]
          rintro e w8 ⟨rfl, hb8⟩
          replace hb8 : Below w5.heap.size w5 w8 := below_call (Below.refl _ _).drew hb8
          dsimp only
          refine hK.out _ _ (HUS.out _ hb8) (fun hHeld => ?_)
          clear hK K hHold
          have hHold := hHeld
          clear hHeld
          refine wpAnyH_take (i := 2) (oi := ⟨some 30, _, _, _, _, _⟩) (v := ?v60) rfl (by kernel_rfl) (by kernel_rfl) (by kernel_rfl) (fun _ _ _ h => h) (Or.inl ⟨by rfl, ?hy60⟩) (by assumption) ?rest60
          case hy60 => (intro wz hSw; (try dsimp only at hSw); go_simp <;> with_reducible rfl)
          try simp only [Act.put, List.setIfInBounds_toArray, List.set_cons_zero, List.set_cons_succ]
          refine wpAnyH_take (i := 3) (oi := ⟨some 31, _, _, _, _, _⟩) (v := ?v61) rfl (by kernel_rfl) (by kernel_rfl) (by kernel_rfl) (fun _ _ _ h => h) (Or.inl ⟨by rfl, ?hy61⟩) (by assumption) ?rest61
          case hy61 => (intro wz hSw; (try dsimp only at hSw); go_simp <;> with_reducible rfl)
          try simp only [Act.put, List.setIfInBounds_toArray, List.set_cons_zero, List.set_cons_succ]
          refine wpAnyH_take (i := 4) (oi := ⟨some 32, _, _, _, _, _⟩) (v := ?v62) rfl (by kernel_rfl) (by kernel_rfl) (by kernel_rfl) (fun _ _ _ h => h) (Or.inl ⟨by rfl, ?hy62⟩) (by assumption) ?rest62
          case hy62 => (intro wz hSw; (try dsimp only at hSw); go_simp <;> with_reducible rfl)
          try simp only [Act.put, List.setIfInBounds_toArray, List.set_cons_zero, List.set_cons_succ]
          refine wpAnyH_take (i := 5) (oi := ⟨some 33, _, _, _, _, _⟩) (v := ?v63) rfl (by kernel_rfl) (by kernel_rfl) (by kernel_rfl) (fun _ _ _ h => h) (Or.inl ⟨by rfl, ?hy63⟩) (by assumption) ?rest63
          case hy63 => (intro wz hSw; (try dsimp only at hSw); go_simp <;> with_reducible rfl)
          try simp only [Act.put, List.setIfInBounds_toArray, List.set_cons_zero, List.set_cons_succ]
          refine wpAnyH_take (i := 6) (oi := ⟨some 34, _, _, _, _, _⟩) (v := ?v64) rfl (by kernel_rfl) (by kernel_rfl) (by kernel_rfl) (fun _ _ _ h => h) (Or.inl ⟨by rfl, ?hy64⟩) (by assumption) ?rest64
          case hy64 => (intro wz hSw; (try dsimp only at hSw); go_simp <;> with_reducible rfl)
          try simp only [Act.put, List.setIfInBounds_toArray, List.set_cons_zero, List.set_cons_succ]
          refine wpAnyH_take (i := 7) (oi := ⟨some 35, _, _, _, _, _⟩) (v := ?v65) rfl (by kernel_rfl) (by kernel_rfl) (by kernel_rfl) (fun _ _ _ h => h) (Or.inl ⟨by rfl, ?hy65⟩) (by assumption) ?rest65
          case hy65 => (intro wz hSw; (try dsimp only at hSw); go_simp <;> with_reducible rfl)
          try simp only [Act.put, List.setIfInBounds_toArray, List.set_cons_zero, List.set_cons_succ]
          refine wpAnyH_take (i := 8) (oi := ⟨some 36, _, _, _, _, _⟩) (v := ?v66) rfl (by kernel_rfl) (by kernel_rfl) (by kernel_rfl) (fun _ _ _ h => h) (Or.inl ⟨by rfl, ?hy66⟩) (by assumption) ?rest66
          case hy66 => (intro wz hSw; (try dsimp only at hSw); go_simp <;> with_reducible rfl)
          try simp only [Act.put, List.setIfInBounds_toArray, List.set_cons_zero, List.set_cons_succ]
          refine wpAnyH_take (i := 9) (oi := ⟨some 37, _, _, _, _, _⟩) (v := undef) rfl (by kernel_rfl) (by kernel_rfl) (by kernel_rfl) (fun _ _ _ h => h) (Or.inr ⟨by rfl, rfl⟩) (by assumption) ?_
          try simp only [Act.put, List.setIfInBounds_toArray, List.set_cons_zero, List.set_cons_succ]
          refine wpAnyH_take (i := 10) (oi := ⟨some 38, _, _, _, _, _⟩) (v := undef) rfl (by kernel_rfl) (by kernel_rfl) (by kernel_rfl) (fun _ _ _ h => h) (Or.inr ⟨by rfl, rfl⟩) (by assumption) ?_
          try simp only [Act.put, List.setIfInBounds_toArray, List.set_cons_zero, List.set_cons_succ]
          refine wpAnyH_take (i := 11) (oi := ⟨some 39, _, _, _, _, _⟩) (v := undef) rfl (by kernel_rfl) (by kernel_rfl) (by kernel_rfl) (fun _ _ _ h => h) (Or.inr ⟨by rfl, rfl⟩) (by assumption) ?_
          try simp only [Act.put, List.setIfInBounds_toArray, List.set_cons_zero, List.set_cons_succ]
          refine wpAnyH_take (i := 12) (oi := ⟨some 40, _, _, _, _, _⟩) (v := undef) rfl (by kernel_rfl) (by kernel_rfl) (by kernel_rfl) (fun _ _ _ h => h) (Or.inr ⟨by rfl, rfl⟩) (by assumption) ?_
          try simp only [Act.put, List.setIfInBounds_toArray, List.set_cons_zero, List.set_cons_succ]
          refine wpAnyH_take (i := 13) (oi := ⟨some 41, _, _, _, _, _⟩) (v := undef) rfl (by kernel_rfl) (by kernel_rfl) (by kernel_rfl) (fun _ _ _ h => h) (Or.inr ⟨by rfl, rfl⟩) (by assumption) ?_
          try simp only [Act.put, List.setIfInBounds_toArray, List.set_cons_zero, List.set_cons_succ]
          refine wpAnyH_take (i := 14) (oi := ⟨some 42, _, _, _, _, _⟩) (v := undef) rfl (by kernel_rfl) (by kernel_rfl) (by kernel_rfl) (fun _ _ _ h => h) (Or.inr ⟨by rfl, rfl⟩) (by assumption) ?_
          try simp only [Act.put, List.setIfInBounds_toArray, List.set_cons_zero, List.set_cons_succ]
          refine wpAnyH_take (i := 15) (oi := ⟨some 43, _, _, _, _, _⟩) (v := undef) rfl (by kernel_rfl) (by kernel_rfl) (by kernel_rfl) (fun _ _ _ h => h) (Or.inr ⟨by rfl, rfl⟩) (by assumption) ?_
          try simp only [Act.put, List.setIfInBounds_toArray, List.set_cons_zero, List.set_cons_succ]
          refine wpAnyH_take (i := 16) (oi := ⟨some 44, _, _, _, _, _⟩) (v := undef) rfl (by kernel_rfl) (by kernel_rfl) (by kernel_rfl) (fun _ _ _ h => h) (Or.inr ⟨by rfl, rfl⟩) (by assumption) ?_
          try simp only [Act.put, List.setIfInBounds_toArray, List.set_cons_zero, List.set_cons_succ]
          refine wpAnyH_take (i := 17) (oi := ⟨some 45, _, _, _, _, _⟩) (v := undef) rfl (by kernel_rfl) (by kernel_rfl) (by kernel_rfl) (fun _ _ _ h => h) (Or.inr ⟨by rfl, rfl⟩) (by assumption) ?_
          try simp only [Act.put, List.setIfInBounds_toArray, List.set_cons_zero, List.set_cons_succ]
          refine wpAnyH_take (i := 18) (oi := ⟨some 46, _, _, _, _, _⟩) (v := ?v67) rfl (by kernel_rfl) (by kernel_rfl) (by kernel_rfl) (fun _ _ _ h => h) (Or.inl ⟨by rfl, ?hy67⟩) (by assumption) ?rest67
          case hy67 => (intro wz hSw; (try dsimp only at hSw); go_simp <;> with_reducible rfl)
          try simp only [Act.put, List.setIfInBounds_toArray, List.set_cons_zero, List.set_cons_succ]
          refine wpAnyH_take (i := 19) (oi := ⟨some 6, _, _, _, _, _⟩) (v := ?v68) rfl (by kernel_rfl) (by kernel_rfl) (by kernel_rfl) (fun _ _ _ h => h) (Or.inl ⟨by rfl, ?hy68⟩) (by assumption) ?rest68
          case hy68 => (intro wz hSw; (try dsimp only at hSw); go_simp <;> with_reducible rfl)
          try simp only [Act.put, List.setIfInBounds_toArray, List.set_cons_zero, List.set_cons_succ]
          refine wpAnyH_done (by kernel_rfl) ?_ _
          go_wp2_with fail
          go_ret
          exact ⟨ret_bool HQ.out.symm, ⟨_, HF5.out.below hb8⟩, HKB.out.trans (KB.of hb8 (Nat.le_of_lt (World.rowIs.lt HF5.out)))⟩
  · have hf : fitB nd m = false := by
      have h1 : stK (nd m).k = false := by unfold stK; simp; omega
      have h2 : exK (nd m).k = false := by unfold exK; simp; omega
      unfold fitB
      rw [h1, h2]
      rfl
    have hs1 : setB 32766 (nd m).k = false := by rw [setSt]; unfold stK; simp; omega
    have hs2 : setB 549754765312 (nd m).k = false := by rw [setEx]; unfold exK; simp; omega
    have HV : Hid (fitB nd m = false) := hf
    clear hf hk
    go_enter Tryz.func74, Tryz.ntmps74
    go_wp2_with fail
    refine (has_calls 32766 (by decide) _ _).mono ?_
    rw [hs1]
    rintro e w1 ⟨rfl, rfl⟩
    go_wp2_with fail
    refine (has_calls 549754765312 (by decide) _ _).mono ?_
    rw [hs2]
    rintro e w1 ⟨rfl, rfl⟩
    go_wp2_with fail
    go_ret
    exact ⟨ret_bool HV.out.symm, ⟨s, HF.out.alloc _⟩, KB.of (below_alloc _ _) (by omega)⟩
end Go.Proofs.YtdialodjllpgaaaGreatDoor
