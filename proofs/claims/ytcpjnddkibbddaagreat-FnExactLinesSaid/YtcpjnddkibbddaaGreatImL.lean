import Derived.Test.YtcpjnddkibbddaaGreatFitQ
import Derived.Test.YtcpjnddkibbddaaGreatImO
import Derived.Test.YtcpjnddkibbddaaGreatThB
/-! The program's check of a unit: its size and its fns. -/
namespace Go.Proofs.YtcpjnddkibbddaaGreat
open Go.RowKit
attribute [local go_sem] run_store_float
attribute [local go_sem ↓] Go.wp_at_zero Go.wp_at_succ

theorem bad1_yes {u : UD} (h : ¬ SizeOk u) : Least (Bad1 u) ⟨1, 0, 0⟩ := At2.least (by decide) (fun f' hf' => by omega) (fun n' hn' => by omega) (by decide) (by decide) h
theorem bad1_no {u : UD} (h : SizeOk u) : Least (Bad1 u) ft0 := Least.zero (At2.none fun _ _ _ _ k => k h)
theorem bad2_yes {u : UD} {f : Nat} (hf : f < u.n) (h2 : ∀ f', f' < f → HeadOk u f') (h3 : ¬ HeadOk u f) : Least (Bad2 u) ⟨2, f, 0⟩ := At2.least (by decide) (fun f' hf' _ _ h => h (h2 f' hf')) (fun n' hn' => by omega) hf (by show 0 < 1; decide) h3
theorem bad2_no {u : UD} (h : ∀ f, f < u.n → HeadOk u f) : Least (Bad2 u) ft0 := Least.zero (At2.none fun f hf _ _ k => k (h f hf))
theorem btB_true {i l m : Int} (h1 : l ≤ i) (h2 : i ≤ m) : btB i l m = true := by unfold btB; simp [h1, h2]
theorem btB_false {i l m : Int} (h : ¬ (l ≤ i ∧ i ≤ m)) : btB i l m = false := by unfold btB; simp; omega

set_option maxRecDepth 100000 in
set_option maxHeartbeats 4000000 in
theorem sizeFault_calls (L : Nat) (u : UD) (a : Option Addr) (cap : Nat) (fas : Nat → FA) (w : World) (hs : u.sm) (hT : FnsAt L w u.n u.fn a fas) :
    Calls Tryz.prog 29 #[unV u a cap] w fun e w' => FtPost (Bad1 u) w e w' := by
  have HT : Hid (FnsAt L w u.n u.fn a fas) := hT
  have HS : Hid u.sm := hs
  have hun := hs.n
  clear hT hs
  go_enter Tryz.func29, Tryz.ntmps29
  go_wp2_with fail
  go_loopw [3, 9] (fun s i wr => ∃ (k : Nat), k ≤ u.n ∧ i = .int .i64 k ∧ s = .int .i64 (tot u.fn k) ∧ Hid (Below (fxW w u a cap).heap.size (fxW w u a cap) wr)) (fun _ i _ => u.n - (intOf i).toNat)
  case atStart => exact ⟨0, Nat.zero_le _, rfl, rfl, Below.refl _ _⟩
  case round =>
    obtain ⟨k, hk, rfl, rfl, HB⟩ := hrel
    have ht := tot_bd HS.out k hk
    by_cases hkn : k < u.n
    · obtain ⟨b, off, e0, _, hb, d0, d1, d2, d3, d4, d5, d6⟩ := cells7 (HT.out.below (fx_below HB.out)).1 hkn
      have hnn := (HS.out.fn k hkn).nn
      subst e0
      go_wp2_with fail
      go_roundw
      case rel => exact ⟨k + 1, by omega, by go_num, by show _ = Value.int .i64 ((tot u.fn k + (u.fn k).nn : Nat) : Int); go_num, below_a' HB.out _⟩
      case measure => simp [intOf]; omega
    · obtain rfl : k = u.n := by omega
      have f0 : wr.cell? ⟨w.heap.size, 0, none⟩ = some (.slice a u.n cap) := (fx_u HB.out).cell 0 rfl
      have s0 := (fx_row HB.out).cell (i := 0) (by omega)
      have s1 := (fx_row HB.out).cell (i := 1) (by omega)
      have s2 := (fx_row HB.out).cell (i := 2) (by omega)
      have sz := (fx_row HB.out).frozen
      by_cases hz : SizeOk u
      · have HL : Hid (Least (Bad1 u) ⟨0, 0, 0⟩) := bad1_no hz
        have hbt : btB (u.n : Int) 1 300 = true := btB_true (by have := hz.1; omega) (by have := hz.2.1; omega)
        have z3 : ¬ (3000 : Int) < tot u.fn u.n := by have := hz.2.2; omega
        clear hz
        go_wp2_with (go_at_call 55; refine (between_calls _ _ _ _).mono ?_; rw [hbt]; rintro e w1 ⟨rfl, rfl⟩)
        refine bodyPost_ret (v := ftV ⟨0, 0, 0⟩) (by simp [results, Tryz.results29, go_sem, s0, s1, s2]) rfl ?_
        exact FtPost.of HL.out (fx_out (fx_below HB.out) _ _ _)
      · have HL : Hid (Least (Bad1 u) ⟨1, 0, 0⟩) := bad1_yes hz
        by_cases c1 : (1 : Int) ≤ u.n ∧ (u.n : Int) ≤ 300
        · have hbt : btB (u.n : Int) 1 300 = true := btB_true c1.1 c1.2
          have c3 : (3000 : Int) < tot u.fn u.n := by unfold SizeOk at hz; omega
          clear hz c1
          go_wp2_with (go_at_call 55; refine (between_calls _ _ _ _).mono ?_; rw [hbt]; rintro e w1 ⟨rfl, rfl⟩)
          refine bodyPost_ret (v := ftV ⟨1, 0, 0⟩) (by simp [results, Tryz.results29, go_sem, s0, s1, s2]) rfl ?_
          exact FtPost.of HL.out (fx_out (fx_below HB.out) _ _ _)
        · have hbt : btB (u.n : Int) 1 300 = false := btB_false c1
          clear hz c1
          go_wp2_with (go_at_call 55; refine (between_calls _ _ _ _).mono ?_; rw [hbt]; rintro e w1 ⟨rfl, rfl⟩)
          refine bodyPost_ret (v := ftV ⟨1, 0, 0⟩) (by simp [results, Tryz.results29, go_sem, s0, s1, s2]) rfl ?_
          exact FtPost.of HL.out (fx_out (fx_below HB.out) _ _ _)

/-- a fn's head but for what is asked of the first -/
def HeadB (d : FD) : Prop := (d.nn ≠ 0 ∧ d.vn ≤ 200 ∧ d.un ≤ 200) ∧ (∀ i, i < d.vn → 1 ≤ (d.v i).size ∧ (d.v i).size ≤ 40) ∧ (0 ≤ d.params ∧ d.params ≤ d.vn) ∧ (0 ≤ d.line ∧ d.line ≤ 100000) ∧ d.name.size ≤ 40
theorem head_iff {u : UD} {f : Nat} : HeadOk u f ↔ HeadB (u.fn f) ∧ (f = 0 → (u.fn f).params = 0 ∧ (u.fn f).un = 0) := by
  unfold HeadOk HeadB
  constructor
  · rintro ⟨⟨a, b, c, d, e⟩, ⟨f, g, h, i⟩, j⟩
    exact ⟨⟨⟨a, b, c⟩, j, ⟨d, e⟩, ⟨f, g⟩, h⟩, i⟩
  · rintro ⟨⟨⟨a, b, c⟩, j, ⟨d, e⟩, ⟨f, g⟩, h⟩, i⟩
    exact ⟨⟨a, b, c, d, e⟩, ⟨f, g, h, i⟩, j⟩

set_option maxRecDepth 100000 in
set_option maxHeartbeats 4000000 in
theorem fnFits_calls (L : Nat) (d : FD) (x : FA) (w : World) (hs : d.sm) (hT : FnAt L w d x) :
    Calls Tryz.prog 56 #[fnV d x] w fun e w' => e = .returned (.bool (dB (HeadB d))) ∧ Below w.heap.size w w' := by
  have HT : Hid (FnAt L w d x) := hT
  have HS : Hid d.sm := hs
  have hvn := hs.vn
  have hun := hs.un
  have hnn := hs.nn
  have hnm := hs.name
  clear hT hs
  by_cases c1 : d.nn = 0
  · have he : dB (HeadB d) = false := dB_false fun h => h.1.1 c1
    have q1 : ((d.nn : Int) == 0) = true := by simp; omega
    rw [he]
    clear he c1
    go_enter Tryz.func56, Tryz.ntmps56
    go_wp2_with fail
    go_ret
    exact ⟨rfl, below_alloc _ _⟩
  have q1 : ((d.nn : Int) == 0) = false := by simp; omega
  have C1 : Hid (d.nn ≠ 0) := c1
  clear c1
  by_cases c2 : 200 < d.vn
  · have he : dB (HeadB d) = false := dB_false fun h => by have := h.1.2.1; omega
    rw [he]
    clear he
    go_enter Tryz.func56, Tryz.ntmps56
    go_wp2_with fail
    go_ret
    exact ⟨rfl, below_alloc _ _⟩
  by_cases c3 : 200 < d.un
  · have he : dB (HeadB d) = false := dB_false fun h => by have := h.1.2.2; omega
    rw [he]
    clear he
    go_enter Tryz.func56, Tryz.ntmps56
    go_wp2_with fail
    go_ret
    exact ⟨rfl, below_alloc _ _⟩
  have HW : Hid (Has (w.alloc (.cells (fnC d x) 45)) w.heap.size (fnC d x)) := Has.new _ _ _
  go_enter Tryz.func56, Tryz.ntmps56
  go_wp2_with fail
  go_loopw [24] (fun i wr => ∃ (k : Nat), k ≤ d.vn ∧ i = .int .i64 k ∧ Hid (∀ j, j < k → 1 ≤ (d.v j).size ∧ (d.v j).size ≤ 40) ∧ Hid (Below (w.alloc (.cells (fnC d x) 45)).heap.size (w.alloc (.cells (fnC d x) 45)) wr)) (fun i _ => d.vn - (intOf i).toNat)
  case atStart => exact ⟨0, Nat.zero_le _, rfl, fun j hj => by omega, Below.refl _ _⟩
  case round =>
    obtain ⟨k, hk, rfl, HK, HB⟩ := hrel
    have HBw : Hid (Below w.heap.size w wr) := below_call (below_alloc _ _) HB.out
    by_cases hkn : k < d.vn
    · obtain ⟨b2, o2, e2, _, hb2, g0⟩ := cells1 (HT.out.below HBw.out).1 hkn
      rw [e2]
      clear e2
      have hsz := HS.out.v k hkn
      by_cases hg : 1 ≤ (d.v k).size ∧ (d.v k).size ≤ 40
      · have hbt : btB ((d.v k).size : Int) 1 40 = true := btB_true (by omega) (by omega)
        have HG : Hid (1 ≤ (d.v k).size ∧ (d.v k).size ≤ 40) := hg
        clear hg
        go_wp2_with (go_at_call 55; refine (between_calls _ _ _ _).mono ?_; rw [hbt]; rintro e w1 ⟨rfl, rfl⟩)
        go_roundw
        case rel => exact ⟨k + 1, by omega, by go_num, fun j hj => by
          by_cases e : j = k
          · subst e; exact HG.out
          · exact HK.out j (by omega), HB⟩
        case measure => simp [intOf]; omega
      · have hbt : btB ((d.v k).size : Int) 1 40 = false := btB_false (by omega)
        have HE : Hid (dB (HeadB d) = false) := dB_false fun h => hg (h.2.1 k hkn)
        clear hg
        go_wp2_with (go_at_call 55; refine (between_calls _ _ _ _).mono ?_; rw [hbt]; rintro e w1 ⟨rfl, rfl⟩)
        go_ret
        exact ⟨ret_bool HE.out.symm, HBw.out⟩
    · have HA : Hid (∀ i, i < d.vn → 1 ≤ (d.v i).size ∧ (d.v i).size ≤ 40) := fun i hi => HK.out i (by omega)
      have x0 : wr.cell? ⟨w.heap.size, 0, none⟩ = some (.string d.name) := (HW.out.call HB.out).cell 0 rfl
      have x1 : wr.cell? ⟨w.heap.size, 1, none⟩ = some (.int .i64 d.line) := (HW.out.call HB.out).cell 1 rfl
      have x2 : wr.cell? ⟨w.heap.size, 2, none⟩ = some (.int .i64 d.params) := (HW.out.call HB.out).cell 2 rfl
      have x4 : wr.cell? ⟨w.heap.size, 4, none⟩ = some (.slice x.va d.vn x.vc) := (HW.out.call HB.out).cell 4 rfl
      cases h1 : btB d.params 0 d.vn
      · have HE : Hid (dB (HeadB d) = false) := dB_false fun h => by
          rw [btB_true h.2.2.1.1 h.2.2.1.2] at h1; cases h1
        go_wp2_with (go_at_call 55; refine (between_calls _ _ _ _).mono ?_; rw [h1]; rintro e w1 ⟨rfl, rfl⟩)
        go_ret
        exact ⟨ret_bool HE.out.symm, HBw.out⟩
      · have H1 : Hid (0 ≤ d.params ∧ d.params ≤ d.vn) := by show _ ∧ _; unfold btB at h1; simpa using h1
        cases h2 : btB d.line 0 100000
        · have HE : Hid (dB (HeadB d) = false) := dB_false fun h => by
            rw [btB_true h.2.2.2.1.1 h.2.2.2.1.2] at h2; cases h2
          go_wp2_with (go_at_call 55; refine (between_calls _ _ _ _).mono ?_; first | (rw [h1]; rintro e w1 ⟨rfl, rfl⟩) | (rw [h2]; rintro e w1 ⟨rfl, rfl⟩))
          go_ret
          exact ⟨ret_bool HE.out.symm, HBw.out⟩
        · have H2 : Hid (0 ≤ d.line ∧ d.line ≤ 100000) := by show _ ∧ _; unfold btB at h2; simpa using h2
          by_cases c8 : d.name.size ≤ 40
          · have HE : Hid (dB (HeadB d) = true) := dB_true ⟨⟨C1.out, by omega, by omega⟩, HA.out, H1.out, H2.out, c8⟩
            go_wp2_with (go_at_call 55; refine (between_calls _ _ _ _).mono ?_; first | (rw [h1]; rintro e w1 ⟨rfl, rfl⟩) | (rw [h2]; rintro e w1 ⟨rfl, rfl⟩))
            go_ret
            exact ⟨ret_bool (by rw [HE.out]; simp; omega), HBw.out⟩
          · have HE : Hid (dB (HeadB d) = false) := dB_false fun h => c8 h.2.2.2.2
            go_wp2_with (go_at_call 55; refine (between_calls _ _ _ _).mono ?_; first | (rw [h1]; rintro e w1 ⟨rfl, rfl⟩) | (rw [h2]; rintro e w1 ⟨rfl, rfl⟩))
            go_ret
            exact ⟨ret_bool (by rw [HE.out]; simp; omega), HBw.out⟩
end Go.Proofs.YtcpjnddkibbddaaGreat

/-! The program's check of a unit: fns. -/
namespace Go.Proofs.YtcpjnddkibbddaaGreat
open Go.RowKit
attribute [local go_sem] run_store_float
attribute [local go_sem ↓] Go.wp_at_zero Go.wp_at_succ

set_option maxRecDepth 100000 in
set_option maxHeartbeats 4000000 in
theorem fnFault_calls (L : Nat) (u : UD) (a : Option Addr) (cap : Nat) (fas : Nat → FA) (w : World) (hs : u.sm) (hT : FnsAt L w u.n u.fn a fas) :
    Calls Tryz.prog 30 #[unV u a cap] w fun e w' => FtPost (Bad2 u) w e w' := by
  have HT : Hid (FnsAt L w u.n u.fn a fas) := hT
  have HS : Hid u.sm := hs
  have hun := hs.n
  clear hT hs
  go_enter Tryz.func30, Tryz.ntmps30
  go_wp2_with fail
  go_loopw [8] (fun i wr => ∃ (k : Nat), k ≤ u.n ∧ i = .int .i64 k ∧ Hid (∀ f', f' < k → HeadOk u f') ∧ Hid (Below (fxW w u a cap).heap.size (fxW w u a cap) wr)) (fun i _ => u.n - (intOf i).toNat)
  case atStart => exact ⟨0, Nat.zero_le _, rfl, fun f' hf' => by omega, Below.refl _ _⟩
  case round =>
    obtain ⟨k, hk, rfl, HH, HB⟩ := hrel
    by_cases hkn : k < u.n
    · have HTr : Hid (FnsAt L wr u.n u.fn a fas) := HT.out.below (fx_below HB.out)
      obtain ⟨b, off, e0, _, hb, d0, d1, d2, d3, d4, d5, d6⟩ := cells7 HTr.out.1 hkn
      subst e0
      have hun2 := (HS.out.fn k hkn).un
      by_cases hk0 : k = 0
      · subst hk0
        simp only [Nat.zero_mul, Nat.add_zero] at d0 d1 d2 d3 d4 d5 d6
        have HA : Hid (∀ w2, Below (wr.alloc (.cells (fnC (u.fn 0) (fas 0)) 45)).heap.size (wr.alloc (.cells (fnC (u.fn 0) (fas 0)) 45)) w2 → Below (fxW w u (some ⟨b, off, none⟩) cap).heap.size (fxW w u (some ⟨b, off, none⟩) cap) w2 ∧ Has w2 wr.heap.size (fnC (u.fn 0) (fas 0))) := fun w2 h => ⟨below_call (below_a' HB.out _) h, Has.made h⟩
        by_cases hh : HeadB (u.fn 0)
        · have hdb : dB (HeadB (u.fn 0)) = true := dB_true hh
          by_cases hp : (u.fn 0).params = 0
          · have qp : ((u.fn 0).params != 0) = false := by rw [hp]; rfl
            by_cases hu : (u.fn 0).un = 0
            · have qu : (((u.fn 0).un : Int) != 0) = false := by simp; omega
              have HG : Hid (HeadOk u 0) := head_iff.2 ⟨hh, fun _ => ⟨hp, hu⟩⟩
              clear hh hp hu
              go_wp2_with (go_at_call 56; refine (fnFits_calls L (u.fn 0) (fas 0) _ (HS.out.fn 0 hkn) ((HTr.out.2 0 hkn).alloc _)).mono ?_; rw [hdb]; rintro e w2 ⟨rfl, hb2⟩; have HB2 : Hid (Below (fxW w u (some ⟨b, off, none⟩) cap).heap.size (fxW w u (some ⟨b, off, none⟩) cap) w2) := (HA.out _ hb2).1; have x2 : w2.cell? ⟨wr.heap.size, 2, none⟩ = some (.int .i64 (u.fn 0).params) := (HA.out _ hb2).2.cell 2 rfl; have x5 : w2.cell? ⟨wr.heap.size, 5, none⟩ = some (.slice (fas 0).ua (u.fn 0).un (fas 0).uc) := (HA.out _ hb2).2.cell 5 rfl; have s0 := (fx_row HB2.out).cell (i := 0) (by omega); have s1 := (fx_row HB2.out).cell (i := 1) (by omega); have s2 := (fx_row HB2.out).cell (i := 2) (by omega); have sz := (fx_row HB2.out).frozen; clear hb2)
              go_roundw
              case rel => exact ⟨0 + 1, by omega, by go_num, fun j hj => by
                by_cases e : j = 0
                · subst e; exact HG.out
                · exact HH.out j (by omega), HB2⟩
              case measure => simp [intOf]; omega
            · have qu : (((u.fn 0).un : Int) != 0) = true := by simp; omega
              have HL : Hid (Least (Bad2 u) ⟨2, 0, 0⟩) := bad2_yes hkn HH.out fun h => hu ((head_iff.1 h).2 rfl).2
              clear hh hp hu
              go_wp2_with (go_at_call 56; refine (fnFits_calls L (u.fn 0) (fas 0) _ (HS.out.fn 0 hkn) ((HTr.out.2 0 hkn).alloc _)).mono ?_; rw [hdb]; rintro e w2 ⟨rfl, hb2⟩; have HB2 : Hid (Below (fxW w u (some ⟨b, off, none⟩) cap).heap.size (fxW w u (some ⟨b, off, none⟩) cap) w2) := (HA.out _ hb2).1; have x2 : w2.cell? ⟨wr.heap.size, 2, none⟩ = some (.int .i64 (u.fn 0).params) := (HA.out _ hb2).2.cell 2 rfl; have x5 : w2.cell? ⟨wr.heap.size, 5, none⟩ = some (.slice (fas 0).ua (u.fn 0).un (fas 0).uc) := (HA.out _ hb2).2.cell 5 rfl; have s0 := (fx_row HB2.out).cell (i := 0) (by omega); have s1 := (fx_row HB2.out).cell (i := 1) (by omega); have s2 := (fx_row HB2.out).cell (i := 2) (by omega); have sz := (fx_row HB2.out).frozen; clear hb2)
              refine bodyPost_ret (v := ftV ⟨2, 0, 0⟩) (by simp [results, Tryz.results30, go_sem, s0, s1, s2]) rfl ?_
              exact FtPost.of HL.out (fx_out (fx_below HB2.out) _ _ _)
          · have qp : ((u.fn 0).params != 0) = true := by simpa using hp
            have HL : Hid (Least (Bad2 u) ⟨2, 0, 0⟩) := bad2_yes hkn HH.out fun h => hp ((head_iff.1 h).2 rfl).1
            clear hh hp
            go_wp2_with (go_at_call 56; refine (fnFits_calls L (u.fn 0) (fas 0) _ (HS.out.fn 0 hkn) ((HTr.out.2 0 hkn).alloc _)).mono ?_; rw [hdb]; rintro e w2 ⟨rfl, hb2⟩; have HB2 : Hid (Below (fxW w u (some ⟨b, off, none⟩) cap).heap.size (fxW w u (some ⟨b, off, none⟩) cap) w2) := (HA.out _ hb2).1; have x2 : w2.cell? ⟨wr.heap.size, 2, none⟩ = some (.int .i64 (u.fn 0).params) := (HA.out _ hb2).2.cell 2 rfl; have x5 : w2.cell? ⟨wr.heap.size, 5, none⟩ = some (.slice (fas 0).ua (u.fn 0).un (fas 0).uc) := (HA.out _ hb2).2.cell 5 rfl; have s0 := (fx_row HB2.out).cell (i := 0) (by omega); have s1 := (fx_row HB2.out).cell (i := 1) (by omega); have s2 := (fx_row HB2.out).cell (i := 2) (by omega); have sz := (fx_row HB2.out).frozen; clear hb2)
            refine bodyPost_ret (v := ftV ⟨2, 0, 0⟩) (by simp [results, Tryz.results30, go_sem, s0, s1, s2]) rfl ?_
            exact FtPost.of HL.out (fx_out (fx_below HB2.out) _ _ _)
        · have hdb : dB (HeadB (u.fn 0)) = false := dB_false hh
          have HL : Hid (Least (Bad2 u) ⟨2, 0, 0⟩) := bad2_yes hkn HH.out fun h => hh (head_iff.1 h).1
          clear hh
          go_wp2_with (go_at_call 56; refine (fnFits_calls L (u.fn 0) (fas 0) _ (HS.out.fn 0 hkn) ((HTr.out.2 0 hkn).alloc _)).mono ?_; rw [hdb]; rintro e w2 ⟨rfl, hb2⟩; have HB2 : Hid (Below (fxW w u (some ⟨b, off, none⟩) cap).heap.size (fxW w u (some ⟨b, off, none⟩) cap) w2) := (HA.out _ hb2).1; have x2 : w2.cell? ⟨wr.heap.size, 2, none⟩ = some (.int .i64 (u.fn 0).params) := (HA.out _ hb2).2.cell 2 rfl; have x5 : w2.cell? ⟨wr.heap.size, 5, none⟩ = some (.slice (fas 0).ua (u.fn 0).un (fas 0).uc) := (HA.out _ hb2).2.cell 5 rfl; have s0 := (fx_row HB2.out).cell (i := 0) (by omega); have s1 := (fx_row HB2.out).cell (i := 1) (by omega); have s2 := (fx_row HB2.out).cell (i := 2) (by omega); have sz := (fx_row HB2.out).frozen; clear hb2)
          refine bodyPost_ret (v := ftV ⟨2, 0, 0⟩) (by simp [results, Tryz.results30, go_sem, s0, s1, s2]) rfl ?_
          exact FtPost.of HL.out (fx_out (fx_below HB2.out) _ _ _)
      · have qk : ((k : Int) == 0) = false := by simp; omega
        have HK0 : Hid (k ≠ 0) := hk0
        clear hk0
        have HA : Hid (∀ w2, Below (wr.alloc (.cells (fnC (u.fn k) (fas k)) 45)).heap.size (wr.alloc (.cells (fnC (u.fn k) (fas k)) 45)) w2 → Below (fxW w u (some ⟨b, off, none⟩) cap).heap.size (fxW w u (some ⟨b, off, none⟩) cap) w2 ∧ Has w2 wr.heap.size (fnC (u.fn k) (fas k))) := fun w2 h => ⟨below_call (below_a' HB.out _) h, Has.made h⟩
        by_cases hh : HeadB (u.fn k)
        · have hdb : dB (HeadB (u.fn k)) = true := dB_true hh
          have HG : Hid (HeadOk u k) := head_iff.2 ⟨hh, fun h => absurd h HK0.out⟩
          clear hh
          go_wp2_with (go_at_call 56; refine (fnFits_calls L (u.fn k) (fas k) _ (HS.out.fn k hkn) ((HTr.out.2 k hkn).alloc _)).mono ?_; rw [hdb]; rintro e w2 ⟨rfl, hb2⟩; have HB2 : Hid (Below (fxW w u (some ⟨b, off, none⟩) cap).heap.size (fxW w u (some ⟨b, off, none⟩) cap) w2) := (HA.out _ hb2).1; have x2 : w2.cell? ⟨wr.heap.size, 2, none⟩ = some (.int .i64 (u.fn k).params) := (HA.out _ hb2).2.cell 2 rfl; have x5 : w2.cell? ⟨wr.heap.size, 5, none⟩ = some (.slice (fas k).ua (u.fn k).un (fas k).uc) := (HA.out _ hb2).2.cell 5 rfl; have s0 := (fx_row HB2.out).cell (i := 0) (by omega); have s1 := (fx_row HB2.out).cell (i := 1) (by omega); have s2 := (fx_row HB2.out).cell (i := 2) (by omega); have sz := (fx_row HB2.out).frozen; clear hb2)
          go_roundw
          case rel => exact ⟨k + 1, by omega, by go_num, fun j hj => by
            by_cases e : j = k
            · subst e; exact HG.out
            · exact HH.out j (by omega), HB2⟩
          case measure => simp [intOf]; omega
        · have hdb : dB (HeadB (u.fn k)) = false := dB_false hh
          have HL : Hid (Least (Bad2 u) ⟨2, k, 0⟩) := bad2_yes hkn HH.out fun h => hh (head_iff.1 h).1
          clear hh
          go_wp2_with (go_at_call 56; refine (fnFits_calls L (u.fn k) (fas k) _ (HS.out.fn k hkn) ((HTr.out.2 k hkn).alloc _)).mono ?_; rw [hdb]; rintro e w2 ⟨rfl, hb2⟩; have HB2 : Hid (Below (fxW w u (some ⟨b, off, none⟩) cap).heap.size (fxW w u (some ⟨b, off, none⟩) cap) w2) := (HA.out _ hb2).1; have x2 : w2.cell? ⟨wr.heap.size, 2, none⟩ = some (.int .i64 (u.fn k).params) := (HA.out _ hb2).2.cell 2 rfl; have x5 : w2.cell? ⟨wr.heap.size, 5, none⟩ = some (.slice (fas k).ua (u.fn k).un (fas k).uc) := (HA.out _ hb2).2.cell 5 rfl; have s0 := (fx_row HB2.out).cell (i := 0) (by omega); have s1 := (fx_row HB2.out).cell (i := 1) (by omega); have s2 := (fx_row HB2.out).cell (i := 2) (by omega); have sz := (fx_row HB2.out).frozen; clear hb2)
          refine bodyPost_ret (v := ftV ⟨2, k, 0⟩) (by simp [results, Tryz.results30, go_sem, s0, s1, s2]) rfl ?_
          exact FtPost.of HL.out (fx_out (fx_below HB2.out) _ _ _)
    · obtain rfl : k = u.n := by omega
      have HL : Hid (Least (Bad2 u) ⟨0, 0, 0⟩) := bad2_no HH.out
      have s0 := (fx_row HB.out).cell (i := 0) (by omega)
      have s1 := (fx_row HB.out).cell (i := 1) (by omega)
      have s2 := (fx_row HB.out).cell (i := 2) (by omega)
      have sz := (fx_row HB.out).frozen
      go_wp2_with fail
      refine bodyPost_ret (v := ftV ⟨0, 0, 0⟩) (by simp [results, Tryz.results30, go_sem, s0, s1, s2]) rfl ?_
      exact FtPost.of HL.out (fx_out (fx_below HB.out) _ _ _)
end Go.Proofs.YtcpjnddkibbddaaGreat

/-! The specification's check of a unit, whole. -/
namespace Go.Proofs.YtcpjnddkibbddaaGreat
open Go.RowKit
attribute [local go_sem] run_store_float
attribute [local go_sem ↓] Go.wp_at_zero Go.wp_at_succ

theorem Least.in {P : FT → Prop} {x : FT} (h : Least P x) (h0 : x.c ≠ 0) : P x := by
  rcases h with ⟨rfl, _⟩ | ⟨_, h, _⟩
  · exact absurd rfl h0
  · exact h
theorem badU_split (u : UD) (y : FT) : BadU u y ↔ B13 u y ∨ (B45 u y ∨ BadS u y) := by
  unfold BadU B13 B45
  constructor
  · rintro (h | h | h | h | h | h)
    · exact .inl (.inl h)
    · exact .inl (.inr (.inl h))
    · exact .inl (.inr (.inr h))
    · exact .inr (.inl (.inl h))
    · exact .inr (.inl (.inr h))
    · exact .inr (.inr h)
  · rintro ((h | h | h) | (h | h) | h)
    · exact .inl h
    · exact .inr (.inl h)
    · exact .inr (.inr (.inl h))
    · exact .inr (.inr (.inr (.inl h)))
    · exact .inr (.inr (.inr (.inr (.inl h))))
    · exact .inr (.inr (.inr (.inr (.inr h))))
theorem b13_code {u : UD} {y : FT} (h : B13 u y) : y.c ≤ 3 := by rcases h with h | h | h <;> (rw [h.1]; decide)
theorem b45_code {u : UD} {y : FT} (h : B45 u y) : 4 ≤ y.c ∧ y.c ≤ 5 := by rcases h with h | h <;> (rw [h.1]; decide)
theorem badU_first {u : UD} {x : FT} (h : Least (B13 u) x) (h0 : x.c ≠ 0) : Least (BadU u) x :=
  (Least.ahead h h0 fun y hy => by
    have := b13_code (h.in h0)
    rcases hy with hy | hy
    · have := b45_code hy; omega
    · have := badS_code hy; omega).congr fun y => (badU_split u y).symm
theorem badU_second {u : UD} {x : FT} (h1 : ∀ y, ¬ B13 u y) (h : Least (B45 u) x) (h0 : x.c ≠ 0) : Least (BadU u) x :=
  (Least.behind h1 (Least.ahead h h0 fun y hy => by
    have := (b45_code (h.in h0)).2
    have := badS_code hy; omega)).congr fun y => (badU_split u y).symm
theorem badU_third {u : UD} {x : FT} (h1 : ∀ y, ¬ B13 u y) (h2 : ∀ y, ¬ B45 u y) (h : Least (BadS u) x) : Least (BadU u) x :=
  (Least.behind h1 (Least.behind h2 h)).congr fun y => (badU_split u y).symm
theorem u3_b13 {u : UD} (h : ∀ y, ¬ B13 u y) : U3 u := u3_of (fun y k => h y (.inl k)) (fun y k => h y (.inr (.inl k))) (fun y k => h y (.inr (.inr k)))
theorem u5_b45 {u : UD} (h3 : U3 u) (h : ∀ y, ¬ B45 u y) : U5 u := u5_of h3 (fun y k => h y (.inl k))

set_option maxRecDepth 100000 in
set_option maxHeartbeats 4000000 in
theorem specCheck_calls (L : Nat) (u : UD) (a : Option Addr) (cap : Nat) (fas : Nat → FA) (w : World) (hs : u.sm) (hT : FnsAt L w u.n u.fn a fas) :
    Calls Tryz.prog 14 #[unV u a cap] w fun e w' => FtPost (BadU u) w e w' := by
  have HT : Hid (FnsAt L w u.n u.fn a fas) := hT
  have HS : Hid u.sm := hs
  clear hT hs
  have HF0 : Hid (Below (fxW w u a cap).heap.size (fxW w u a cap) (fxW w u a cap)) := Below.refl _ _
  have arm1 := fun (W : World) (hW : Below (fxW w u a cap).heap.size (fxW w u a cap) W) => l3first_calls L u a cap fas W HS.out (HT.out.below (fx_below hW))
  have arm2 := fun (h3 : U3 u) (W : World) (hW : Below (fxW w u a cap).heap.size (fxW w u a cap) W) => l3second_calls L u a cap fas W HS.out h3 (HT.out.below (fx_below hW))
  have arm3 := fun (h5 : U5 u) (W : World) (hW : Below (fxW w u a cap).heap.size (fxW w u a cap) W) => l3third_calls L u a cap fas W HS.out h5 (HT.out.below (fx_below hW))
  have A1 : Hid (∀ W, Below (fxW w u a cap).heap.size (fxW w u a cap) W → Calls Tryz.prog 25 #[unV u a cap] W fun e w' => FtPost (B13 u) W e w') := arm1
  have A2 : Hid (U3 u → ∀ W, Below (fxW w u a cap).heap.size (fxW w u a cap) W → Calls Tryz.prog 26 #[unV u a cap] W fun e w' => FtPost (B45 u) W e w') := arm2
  have A3 : Hid (U5 u → ∀ W, Below (fxW w u a cap).heap.size (fxW w u a cap) W → Calls Tryz.prog 27 #[unV u a cap] W fun e w' => FtPost (BadS u) W e w') := arm3
  clear arm1 arm2 arm3
  go_enter Tryz.func14, Tryz.ntmps14
  go_upto_region 1 with fail
  obtain ⟨w0, HB0, hw0⟩ : ∃ w0, Hid (Below (fxW w u a cap).heap.size (fxW w u a cap) w0) ∧ fxW w u a cap = w0 := ⟨_, Below.refl _ _, rfl⟩
  simp only [fxW] at hw0
  rw [hw0]
  clear hw0 HF0
  have f0 : w0.cell? ⟨w.heap.size, 0, none⟩ = some (.slice a u.n cap) := (fx_u HB0.out).cell 0 rfl
  go_upto_region 2 with (go_at_call 25; refine (A1.out _ HB0.out).mono ?_; rintro e w1 ⟨⟨c1, f1, n1⟩, rfl, hL1, hb1⟩; have HL1 : Hid (Least (B13 u) ⟨c1, f1, n1⟩) := hL1; clear hL1)
  clear f0
  have HB1 : Hid (Below (fxW w u a cap).heap.size (fxW w u a cap) (w1.alloc (.cells #[.int .i64 (c1 : Int), .int .i64 (f1 : Int), .int .i64 (n1 : Int)] 39))) := below_a' (below_call HB0.out hb1) _
  obtain ⟨wA, hwA⟩ : ∃ wA, wA = w1.alloc (.cells #[.int .i64 (c1 : Int), .int .i64 (f1 : Int), .int .i64 (n1 : Int)] 39) := ⟨_, rfl⟩
  have HA : Hid (Has wA w1.heap.size #[.int .i64 (c1 : Int), .int .i64 (f1 : Int), .int .i64 (n1 : Int)]) := by show Has _ _ _; rw [hwA]; exact Has.new _ _ _
  rw [← hwA] at HB1
  rw [← hwA]
  clear hwA hb1
  have a0 : wA.cell? ⟨w1.heap.size, 0, none⟩ = some (.int .i64 (c1 : Int)) := HA.out.cell 0 rfl
  have a1 : wA.cell? ⟨w1.heap.size, 1, none⟩ = some (.int .i64 (f1 : Int)) := HA.out.cell 1 rfl
  have a2 : wA.cell? ⟨w1.heap.size, 2, none⟩ = some (.int .i64 (n1 : Int)) := HA.out.cell 2 rfl
  have f0 : wA.cell? ⟨w.heap.size, 0, none⟩ = some (.slice a u.n cap) := (fx_u HB1.out).cell 0 rfl
  by_cases c0 : c1 = 0
  · subst c0
    have hz := HL1.out.nil rfl
    have H1 : Hid (∀ y, ¬ B13 u y) := by
      have h := HL1.out
      rw [hz] at h
      exact h.none
    clear hz
    go_upto_region 5 with (go_at_call 26; refine (A2.out (u3_b13 H1.out) _ HB1.out).mono ?_; rintro e w2 ⟨⟨c2, f2, n2⟩, rfl, hL2, hb2⟩; have HL2 : Hid (Least (B45 u) ⟨c2, f2, n2⟩) := hL2; clear hL2)
    clear f0 a0 a1 a2
    have HB2 : Hid (Below (fxW w u a cap).heap.size (fxW w u a cap) (w2.alloc (.cells #[.int .i64 (c2 : Int), .int .i64 (f2 : Int), .int .i64 (n2 : Int)] 39))) := below_a' (below_call HB1.out hb2) _
    obtain ⟨wB, hwB⟩ : ∃ wB, wB = w2.alloc (.cells #[.int .i64 (c2 : Int), .int .i64 (f2 : Int), .int .i64 (n2 : Int)] 39) := ⟨_, rfl⟩
    have HA2 : Hid (Has wB w2.heap.size #[.int .i64 (c2 : Int), .int .i64 (f2 : Int), .int .i64 (n2 : Int)]) := by show Has _ _ _; rw [hwB]; exact Has.new _ _ _
    rw [← hwB] at HB2
    rw [← hwB]
    clear hwB hb2
    have a0 : wB.cell? ⟨w2.heap.size, 0, none⟩ = some (.int .i64 (c2 : Int)) := HA2.out.cell 0 rfl
    have a1 : wB.cell? ⟨w2.heap.size, 1, none⟩ = some (.int .i64 (f2 : Int)) := HA2.out.cell 1 rfl
    have a2 : wB.cell? ⟨w2.heap.size, 2, none⟩ = some (.int .i64 (n2 : Int)) := HA2.out.cell 2 rfl
    have f0 : wB.cell? ⟨w.heap.size, 0, none⟩ = some (.slice a u.n cap) := (fx_u HB2.out).cell 0 rfl
    by_cases c0 : c2 = 0
    · subst c0
      have hz := HL2.out.nil rfl
      have H2 : Hid (∀ y, ¬ B45 u y) := by
        have h := HL2.out
        rw [hz] at h
        exact h.none
      clear hz
      go_wp2_with (go_at_call 27; refine (A3.out (u5_b45 (u3_b13 H1.out) H2.out) _ HB2.out).mono ?_; rintro e w3 ⟨⟨c3, f3, n3⟩, rfl, hL3, hb3⟩; have HL3 : Hid (Least (BadS u) ⟨c3, f3, n3⟩) := hL3; have HB3 : Hid (Below (fxW w u a cap).heap.size (fxW w u a cap) w3) := below_call HB2.out hb3; clear hL3; have s0 := (fx_row HB3.out).cell (i := 0) (by omega); have s1 := (fx_row HB3.out).cell (i := 1) (by omega); have s2 := (fx_row HB3.out).cell (i := 2) (by omega); have sz := (fx_row HB3.out).frozen)
      refine bodyPost_ret (v := ftV ⟨c3, f3, n3⟩) (by simp [results, Tryz.results14, go_sem, s0, s1, s2]) rfl ?_
      exact FtPost.of (badU_third H1.out H2.out HL3.out) (fx_out (fx_below HB3.out) _ _ _)
    · have q : ((c2 : Int) != 0) = true := by simp; omega
      have s0 := (fx_row HB2.out).cell (i := 0) (by omega)
      have s1 := (fx_row HB2.out).cell (i := 1) (by omega)
      have s2 := (fx_row HB2.out).cell (i := 2) (by omega)
      have sz := (fx_row HB2.out).frozen
      have HQ : Hid (Least (BadU u) ⟨c2, f2, n2⟩) := badU_second H1.out HL2.out c0
      clear c0
      go_wp2_with fail
      refine bodyPost_ret (v := ftV ⟨c2, f2, n2⟩) (by simp [results, Tryz.results14, go_sem, s0, s1, s2]) rfl ?_
      exact FtPost.of HQ.out (fx_out (fx_below HB2.out) _ _ _)
  · have q : ((c1 : Int) != 0) = true := by simp; omega
    have s0 := (fx_row HB1.out).cell (i := 0) (by omega)
    have s1 := (fx_row HB1.out).cell (i := 1) (by omega)
    have s2 := (fx_row HB1.out).cell (i := 2) (by omega)
    have sz := (fx_row HB1.out).frozen
    have HQ : Hid (Least (BadU u) ⟨c1, f1, n1⟩) := badU_first HL1.out c0
    clear c0
    go_wp2_with fail
    refine bodyPost_ret (v := ftV ⟨c1, f1, n1⟩) (by simp [results, Tryz.results14, go_sem, s0, s1, s2]) rfl ?_
    exact FtPost.of HQ.out (fx_out (fx_below HB1.out) _ _ _)
end Go.Proofs.YtcpjnddkibbddaaGreat
