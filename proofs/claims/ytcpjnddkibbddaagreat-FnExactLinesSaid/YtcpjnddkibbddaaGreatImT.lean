import Derived.Test.YtcpjnddkibbddaaGreatThB
import Derived.Test.YtcpjnddkibbddaaGreatFitQ
import Derived.Test.YtcpjnddkibbddaaGreatSkP
import Derived.Test.YtcpjnddkibbddaaGreatImX
import Derived.Test.YtcpjnddkibbddaaGreatDepB
/-! The program's check of a unit: makers. -/
namespace Go.Proofs.YtcpjnddkibbddaaGreat
open Go.RowKit
attribute [local go_sem] run_store_float
attribute [local go_sem ↓] Go.wp_at_zero Go.wp_at_succ

set_option maxRecDepth 100000 in
set_option maxHeartbeats 4000000 in
theorem indexB_calls (B o n cap : Nat) (p : Nat → Bool) (w : World) (hn : n ≤ 1048576) (hT : ∀ i, i < n → w.cell? ⟨B, o + i, none⟩ = some (.bool (p i))) :
    Calls Tryz.prog 127 #[.slice (some ⟨B, o, none⟩) n cap, .bool false] w fun e w' => (∃ r : Int, e = .returned (.int .i64 r) ∧ ((r = -1 ∧ ∀ i, i < n → p i = true) ∨ ∃ i : Nat, r = i ∧ i < n ∧ p i = false ∧ ∀ j, j < i → p j = true)) ∧ w' = w := by
  have HT : Hid (∀ i, i < n → w.cell? ⟨B, o + i, none⟩ = some (.bool (p i))) := hT
  clear hT
  go_enter Tryz.func127, Tryz.ntmps127
  go_wp2_with fail
  go_loopw [8] (fun i wr => ∃ (k : Nat), k ≤ n ∧ i = .int .i64 k ∧ Hid (∀ j, j < k → p j = true) ∧ wr = w) (fun i _ => n - (intOf i).toNat)
  case atStart => exact ⟨0, Nat.zero_le _, rfl, fun j hj => by omega, rfl⟩
  case round =>
    obtain ⟨k, hk, rfl, HK, rfl⟩ := hrel
    by_cases hkn : k < n
    · have d0 := HT.out k hkn
      cases hp : p k
      · rw [hp] at d0
        go_wp2_with fail
        go_ret
        exact ⟨⟨_, rfl, .inr ⟨k, rfl, hkn, hp, HK.out⟩⟩, rfl⟩
      · rw [hp] at d0
        have HP : Hid (p k = true) := hp
        go_wp2_with fail
        go_roundw
        case rel => exact ⟨k + 1, by omega, by go_num, fun j hj => by
          by_cases e : j = k
          · subst e; exact HP.out
          · exact HK.out j (by omega), by first | rfl | trivial⟩
        case measure => simp [intOf]; omega
    · go_wp2_with fail
      go_ret
      exact ⟨⟨_, rfl, .inl ⟨rfl, fun i hi => HK.out i (by omega)⟩⟩, rfl⟩

theorem noteM_eight {u : UD} {f n : Nat} (hf : f < u.n) (hn : n < (u.fn f).nn) (h3 : ∀ f', f' < f → ∀ n', n' < (u.fn f').nn → ¬ TwiceBad u f' n') (h4 : ∀ n', n' < n → ¬ TwiceBad u f n') (h5 : TwiceBad u f n) : Least (NoteM u) ⟨8, f, n⟩ :=
  Least.ahead (At2.least (N := fun f => (u.fn f).nn) (bad := TwiceBad u) (by decide) h3 h4 hf hn h5) (by show (8 : Nat) ≠ 0; decide) fun y hy => by
    show 8 < y.c
    rw [hy.1]; decide
theorem noteM_nine {u : UD} {f : Nat} (hf : f < u.n) (h1 : 1 ≤ f) (h8 : ∀ f', f' < u.n → ∀ n', n' < (u.fn f').nn → ¬ TwiceBad u f' n') (h3 : ∀ f', 1 ≤ f' → f' < f → ∃ g x, MakesAt u g x f') (h5 : ¬ ∃ g x, MakesAt u g x f) : Least (NoteM u) ⟨9, f, 0⟩ :=
  Least.behind (fun y hy => h8 _ hy.2.1 _ hy.2.2.1 hy.2.2.2) (.inr ⟨by show (0 : Nat) < 9; decide, ⟨rfl, rfl, h1, hf, h5⟩, fun y hy => .inr ⟨hy.1.symm, by
    show f < y.f ∨ f = y.f ∧ 0 ≤ y.n
    by_cases e : y.f < f
    · exact absurd (h3 _ hy.2.2.1 e) hy.2.2.2.2
    · omega⟩⟩)
theorem noteM_none {u : UD} (h8 : ∀ f', f' < u.n → ∀ n', n' < (u.fn f').nn → ¬ TwiceBad u f' n') (h9 : ∀ f', 1 ≤ f' → f' < u.n → ∃ g x, MakesAt u g x f') : Least (NoteM u) ft0 :=
  Least.zero fun y hy => by
    rcases hy with hy | hy
    · exact h8 _ hy.2.1 _ hy.2.2.1 hy.2.2.2
    · exact hy.2.2.2.2 (h9 _ hy.2.2.1 hy.2.2.2.1)
/-- what is noted hangs on makers of fns that are there alone -/
theorem made_in {w : World} {M : Nat} {u : UD} {f x : Nat} (hf : f < u.n) (hx : x < (u.fn f).nn) (h : MadeRow w M u f x) (hk : ¬ InR (((u.fn f).nd x).r 0) u.n) : MadeRow w M u f (x + 1) := (World.rowIs.congr h fun i hi => by
  have e : MadeBefore u f (x + 1) i ↔ MadeBefore u f x i := by
    rw [made_succ hf hx]
    exact ⟨fun h => h.elim id fun h => absurd (⟨by omega, by omega⟩ : InR (((u.fn f).nd x).r 0) u.n) hk, .inl⟩
  by_cases c : MadeBefore u f x i
  · rw [dB_true c, dB_true (e.2 c)]
  · rw [dB_false c, dB_false fun c' => c (e.1 c')])

set_option maxRecDepth 100000 in
set_option maxHeartbeats 4000000 in
theorem makerFault_calls (L : Nat) (u : UD) (a : Option Addr) (cap : Nat) (fas : Nat → FA) (w : World) (hs : u.sm) (h3 : U3 u) (hT : FnsAt L w u.n u.fn a fas) :
    Calls Tryz.prog 64 #[unV u a cap] w fun e w' => FtPost (NoteM u) w e w' := by
  have HT : Hid (FnsAt L w u.n u.fn a fas) := hT
  have HS : Hid u.sm := hs
  have H3 : Hid (U3 u) := h3
  have hun := h3.size.2.1
  have hun1 := h3.size.1
  obtain ⟨b, off, e0, _, hb, _⟩ := cells7 hT.1 (show 0 < u.n from h3.size.1)
  subst e0
  clear hT hs h3
  have hmk := fun v => run_make_row' (P := Tryz.prog) 81 4 (.bool false) 1 Tryz.underlying81 infoBool rfl .i64 .i64 u.n (by omega) (by omega) v
  go_enter Tryz.func64, Tryz.ntmps64
  go_wp2_with fail
  clear hmk
  obtain ⟨w3, hw3⟩ : ∃ w3, w3 = (fxW w u (some ⟨b, off, none⟩) cap).alloc (.cells (madeCells #[.bool false] u.n) 4) := ⟨_, rfl⟩
  have HBm : Hid (Below (fxW w u (some ⟨b, off, none⟩) cap).heap.size (fxW w u (some ⟨b, off, none⟩) cap) w3) := by show Below _ _ _; rw [hw3]; exact below_alloc _ _
  have HR3 : Hid (MadeRow w3 (w.heap.size + 1 + 1) u 0 0) := by
    show World.rowIs _ _ _ _ _
    rw [hw3]
    exact (rowMade _ _ _ (by simp)).congr fun i _ => by rw [dB_false made_zero]
  simp only [fxW] at hw3
  rw [← hw3]
  clear hw3
  have hfm : (fxW w u (some ⟨b, off, none⟩) cap).heap.size ≤ w.heap.size + 1 + 1 := by simp
  have hm3 : w.heap.size + 1 + 1 < w3.heap.size := World.rowIs.lt HR3.out
  go_loopw [16] (fun i wr => ∃ (k : Nat), k ≤ u.n ∧ i = .int .i64 k ∧ Hid (∀ f', f' < k → ∀ n', n' < (u.fn f').nn → ¬ TwiceBad u f' n') ∧ Hid (Below (w.heap.size + 1 + 1) w3 wr) ∧ Hid (MadeRow wr (w.heap.size + 1 + 1) u k 0)) (fun i _ => u.n - (intOf i).toNat)
  case atStart => exact ⟨0, Nat.zero_le _, rfl, fun f' hf' => by omega, Below.refl _ _, HR3⟩
  case round =>
    clear HR3
    obtain ⟨k, hk, rfl, H8, HW, HM⟩ := hrel
    have HB : Hid (Below (fxW w u (some ⟨b, off, none⟩) cap).heap.size (fxW w u (some ⟨b, off, none⟩) cap) wr) := HBm.out.trans (HW.out.mono hfm)
    by_cases hkn : k < u.n
    · have HTr : Hid (FnsAt L wr u.n u.fn (some ⟨b, off, none⟩) fas) := HT.out.below (fx_below HB.out)
      obtain ⟨b', off', e0, _, hbz, d0, d1, d2, d3, d4, d5, d6⟩ := cells7 HTr.out.1 hkn
      obtain ⟨rfl, rfl⟩ : b = b' ∧ off = off' := by simpa using e0
      clear e0
      have hnn := H3.out.nn hkn
      have hMw : w.heap.size + 1 + 1 < wr.heap.size := Nat.lt_of_lt_of_le hm3 HW.out.size
      rename World => wa
      go_wp2_with fail
      clear d0 d1 d2 d3 d4 d5 d6
      have HW1 : Hid (Below (w.heap.size + 1 + 1) w3 (wa.alloc (.cells (fnC (u.fn k) (fas k)) 45))) := HW.out.alloc (by omega) _
      have HM1 : Hid (MadeRow (wa.alloc (.cells (fnC (u.fn k) (fas k)) 45)) (w.heap.size + 1 + 1) u k 0) := HM.out.below (below_alloc _ _)
      clear HB HTr HW HM
      go_loopw [24] (fun i wr => ∃ (m : Nat), m ≤ (u.fn k).nn ∧ i = .int .i64 m ∧ Hid (∀ n', n' < m → ¬ TwiceBad u k n') ∧ Hid (Below (w.heap.size + 1 + 1) w3 wr) ∧ Hid (MadeRow wr (w.heap.size + 1 + 1) u k m)) (fun i _ => (u.fn k).nn - (intOf i).toNat)
      case atStart => exact ⟨0, Nat.zero_le _, rfl, fun f' hf' => by omega, HW1, HM1⟩
      case round =>
        clear HW1 HM1
        obtain ⟨m, hm, rfl, HN, HW, HM⟩ := hrel
        have HB : Hid (Below (fxW w u (some ⟨b, off, none⟩) cap).heap.size (fxW w u (some ⟨b, off, none⟩) cap) wr) := HBm.out.trans (HW.out.mono hfm)
        by_cases hmn : m < (u.fn k).nn
        · have HTr : Hid (FnsAt L wr u.n u.fn (some ⟨b, off, none⟩) fas) := HT.out.below (fx_below HB.out)
          have hMw2 : w.heap.size + 1 + 1 < wr.heap.size := World.rowIs.lt HM.out
          obtain ⟨b2, o2, e2, _, hb2, g0, g1, g2, g3, g4, g5, g6, g7⟩ := cells8 (HTr.out.2 k hkn).2.2.1 hmn
          rw [e2]
          clear e2
          have HWn : Hid (Below (w.heap.size + 1 + 1) w3 (wr.alloc (.cells (nodeC ((u.fn k).nd m) ((fas k).nas m)) 48))) := HW.out.alloc (by omega) _
          have s0 := (fx_row HB.out).cell (i := 0) (by omega)
          have s1 := (fx_row HB.out).cell (i := 1) (by omega)
          have s2 := (fx_row HB.out).cell (i := 2) (by omega)
          have sz := (fx_row HB.out).frozen
          have hrz : w.heap.size + 1 < wr.heap.size := (fx_row HB.out).lt
          by_cases h36 : ((u.fn k).nd m).k = 36
          · have q36 : (((u.fn k).nd m).k != 36) = false := by rw [h36]; rfl
            have hrn := (H3.out.facts hkn hmn).one (.inr (.inr (.inl h36)))
            obtain ⟨b3, o3, e3, _, hb3, r0⟩ := cells1 ((HTr.out.2 k hkn).2.2.2 m hmn).1 (show 0 < ((u.fn k).nd m).rn by omega)
            rw [e3, hrn] at g6
            rw [Nat.add_zero] at r0
            have hcell : nodeC ((u.fn k).nd m) ((fas k).nas m) = nodeX ((u.fn k).nd m) (some ⟨b3, o3, none⟩) 1 ((fas k).nas m) := by
              show #[_, _, _, _, _, _, _, _] = #[_, _, _, _, _, _, _, _]
              rw [e3, hrn]
            have HCL : Hid (nodeC ((u.fn k).nd m) ((fas k).nas m) = nodeX ((u.fn k).nd m) (some ⟨b3, o3, none⟩) 1 ((fas k).nas m)) := hcell
            clear hcell hrn e3
            have H36 : Hid (((u.fn k).nd m).k = 36) := h36
            clear h36
            by_cases hin : InR (((u.fn k).nd m).r 0) u.n
            · obtain ⟨g, hg⟩ : ∃ g : Nat, ((u.fn k).nd m).r 0 = g := ⟨(((u.fn k).nd m).r 0).toNat, by have := hin.1; omega⟩
              have hgn : g < u.n := by have := hin.2; omega
              have HI : Hid (InR (((u.fn k).nd m).r 0) u.n) := hin
              have HG : Hid (((u.fn k).nd m).r 0 = g) := hg
              rw [hg] at r0
              have hw : wiB (g : Int) (u.n : Int) = true := by unfold wiB; simp; omega
              clear hin hg
              have m0 := World.rowIs.cell HM.out (i := g) hgn
              have mz := World.rowIs.frozen HM.out
              by_cases c2 : MadeBefore u k m g
              · have HL : Hid (Least (NoteM u) ⟨8, k, m⟩) := noteM_eight hkn hmn H8.out HN.out ⟨H36.out, HI.out, by rw [HG.out]; exact c2⟩
                rw [dB_true c2] at m0
                clear c2
                go_wp2_with (go_at_call 126; refine (within_calls _ _ _).mono ?_; rw [hw]; rintro e w1 ⟨rfl, rfl⟩)
                refine bodyPost_ret (v := ftV ⟨8, k, m⟩) (by simp [results, Tryz.results64, go_sem, s0, s1, s2, hrz]) rfl ?_
                exact FtPost.of HL.out (below_a' (fx_out (fx_below HB.out) _ _ _) _)
              · have HT2 : Hid (¬ TwiceBad u k m) := fun h => c2 (by have := h.2.2; rw [HG.out] at this; exact this)
                rw [dB_false c2] at m0
                clear c2
                have HMn : Hid (MadeRow ((wr.setCell ⟨w.heap.size + 1 + 1, g, none⟩ (.bool true)).alloc (.cells (nodeX ((u.fn k).nd m) (some ⟨b3, o3, none⟩) 1 ((fas k).nas m)) 48)) (w.heap.size + 1 + 1) u k (m + 1)) := (MadeRow.set hkn hmn HM.out H36.out HG.out).below (below_alloc _ _)
                have HWs : Hid (Below (w.heap.size + 1 + 1) w3 ((wr.setCell ⟨w.heap.size + 1 + 1, g, none⟩ (.bool true)).alloc (.cells (nodeX ((u.fn k).nd m) (some ⟨b3, o3, none⟩) 1 ((fas k).nas m)) 48))) := (frS HW.out (Nat.le_refl _) _).alloc (by simp; omega) _
                go_wp2_with (go_at_call 126; refine (within_calls _ _ _).mono ?_; rw [hw]; rintro e w1 ⟨rfl, rfl⟩)
                go_roundw
                case rel => exact ⟨m + 1, by omega, by go_num, fun j hj => by
                  by_cases e : j = m
                  · subst e; exact HT2.out
                  · exact HN.out j (by omega), HWs, HMn⟩
                case measure => simp [intOf]; omega
            · have hw : wiB (((u.fn k).nd m).r 0) (u.n : Int) = false := by unfold wiB; unfold InR at hin; simp; omega
              have HT2 : Hid (¬ TwiceBad u k m) := fun h => hin h.2.1
              have HMn : Hid (MadeRow (wr.alloc (.cells (nodeX ((u.fn k).nd m) (some ⟨b3, o3, none⟩) 1 ((fas k).nas m)) 48)) (w.heap.size + 1 + 1) u k (m + 1)) := (made_in hkn hmn HM.out hin).below (below_alloc _ _)
              rw [HCL.out] at HWn
              clear hin
              go_wp2_with (go_at_call 126; refine (within_calls _ _ _).mono ?_; rw [hw]; rintro e w1 ⟨rfl, rfl⟩)
              go_roundw
              case rel => exact ⟨m + 1, by omega, by go_num, fun j hj => by
                by_cases e : j = m
                · subst e; exact HT2.out
                · exact HN.out j (by omega), HWn, HMn⟩
              case measure => simp [intOf]; omega
          · have q36 : (((u.fn k).nd m).k != 36) = true := by simpa using h36
            have HT2 : Hid (¬ TwiceBad u k m) := fun h => h36 h.1
            have HMn : Hid (MadeRow (wr.alloc (.cells (nodeC ((u.fn k).nd m) ((fas k).nas m)) 48)) (w.heap.size + 1 + 1) u k (m + 1)) := (HM.out.skip hkn hmn h36).below (below_alloc _ _)
            clear h36
            go_wp2_with fail
            go_roundw
            case rel => exact ⟨m + 1, by omega, by go_num, fun j hj => by
              by_cases e : j = m
              · subst e; exact HT2.out
              · exact HN.out j (by omega), HWn, HMn⟩
            case measure => simp [intOf]; omega
        · obtain rfl : m = (u.fn k).nn := by omega
          have HM2 : Hid (MadeRow wr (w.heap.size + 1 + 1) u (k + 1) 0) := HM.out.congr fun v => made_next.symm
          go_wp2_with fail
          go_roundw
          case rel => exact ⟨k + 1, by omega, by go_num, fun j hj => by
            by_cases e : j = k
            · subst e; exact HN.out
            · exact H8.out j (by omega), HW, HM2⟩
          case measure => simp [intOf]; omega
    · obtain rfl : k = u.n := by omega
      have s0 := (fx_row HB.out).cell (i := 0) (by omega)
      have s1 := (fx_row HB.out).cell (i := 1) (by omega)
      have s2 := (fx_row HB.out).cell (i := 2) (by omega)
      have sz := (fx_row HB.out).frozen
      have hrz : w.heap.size + 1 < wr.heap.size := (fx_row HB.out).lt
      have HC : Hid (∀ i, i < u.n - 1 → wr.cell? ⟨w.heap.size + 1 + 1, 1 + i, none⟩ = some (.bool (dB (MadeBefore u u.n 0 ((1 + i : Nat) : Int))))) := fun i hi => World.rowIs.cell HM.out (i := 1 + i) (by omega)
      have hsub : u.n - 1 ≤ 1048576 := by omega
      have H8a : Hid (∀ f', f' < u.n → ∀ n', n' < (u.fn f').nn → ¬ TwiceBad u f' n') := H8.out
      by_cases h1n : u.n = 1
      · have HL : Hid (Least (NoteM u) ft0) := noteM_none H8a.out fun f' a b => by omega
        go_wp2_with fail
        all_goals first
          | (refine (indexB_calls (w.heap.size + 1 + 1) 0 0 0 (fun _ => true) wr (by omega) (fun i hi => by omega)).mono ?_)
          | omega
        rintro e w1 ⟨⟨r, rfl, hr⟩, rfl⟩
        rcases hr with ⟨rfl, _⟩ | ⟨i, rfl, hin, _⟩
        · go_wp2_with fail
          refine bodyPost_ret (v := ftV ft0) (by simp [results, Tryz.results64, go_sem, s0, s1, s2]) rfl ?_
          exact FtPost.of HL.out (fx_out (fx_below HB.out) _ _ _)
        · omega
      · go_wp2_with fail
        all_goals first
          | (refine (indexB_calls (w.heap.size + 1 + 1) 1 (u.n - 1) (u.n - 1) (fun i => dB (MadeBefore u u.n 0 ((1 + i : Nat) : Int))) wr hsub HC.out).mono ?_)
          | omega
        rintro e w1 ⟨⟨r, rfl, hr⟩, rfl⟩
        rcases hr with ⟨rfl, ha⟩ | ⟨i, rfl, hin, hpi, hbe⟩
        · have HL : Hid (Least (NoteM u) ft0) := noteM_none H8a.out fun f' a b => by
            have : dB (MadeBefore u u.n 0 ((1 + (f' - 1) : Nat) : Int)) = true := ha (f' - 1) (by omega)
            rw [show 1 + (f' - 1) = f' by omega] at this
            exact made_all.1 (dB_iff.1 this)
          clear ha
          go_wp2_with fail
          refine bodyPost_ret (v := ftV ft0) (by simp [results, Tryz.results64, go_sem, s0, s1, s2]) rfl ?_
          exact FtPost.of HL.out (fx_out (fx_below HB.out) _ _ _)
        · have HL : Hid (Least (NoteM u) ⟨9, 1 + i, 0⟩) := noteM_nine (by omega) (by omega) H8a.out (fun f' a b => by
            have : dB (MadeBefore u u.n 0 ((1 + (f' - 1) : Nat) : Int)) = true := hbe (f' - 1) (by omega)
            rw [show 1 + (f' - 1) = f' by omega] at this
            exact made_all.1 (dB_iff.1 this)) (fun h => by
            have hpj : dB (MadeBefore u u.n 0 ((1 + i : Nat) : Int)) = false := hpi
            rw [dB_true (made_all.2 h)] at hpj
            cases hpj)
          clear hbe hpi
          go_wp2_with fail
          refine bodyPost_ret (v := ftV ⟨9, 1 + i, 0⟩) (by simp [results, Tryz.results64, go_sem, s0, s1, s2]; omega) rfl ?_
          exact FtPost.of HL.out (fx_out (fx_below HB.out) _ _ _)
end Go.Proofs.YtcpjnddkibbddaaGreat

/-! The program's check of a unit: scopes, jumps, makers. -/
namespace Go.Proofs.YtcpjnddkibbddaaGreat
open Go.RowKit
attribute [local go_sem] run_store_float
attribute [local go_sem ↓] Go.wp_at_zero Go.wp_at_succ

/-- behind the boxes -/
abbrev sfW (w : World) (u : UD) (a : Option Addr) (cap : Nat) : World := ((w.alloc (.cells #[.slice a u.n cap] 30)).alloc (.cells #[.int .i64 0, .int .i64 0, .int .i64 0] 39)).alloc (.cells #[.int .i64 0, .int .i64 0, .int .i64 0] 39)
abbrev ftC (x : FT) : Array Value := #[.int .i64 (x.c : Int), .int .i64 (x.f : Int), .int .i64 (x.n : Int)]
theorem sf_below {w wr : World} {u : UD} {a : Option Addr} {cap : Nat} (h : Below (w.heap.size + 1 + 1) (sfW w u a cap) wr) : Below w.heap.size w wr := (below_alloc3 w _ _ _).trans (h.mono (by omega))
theorem sf_u {w wr : World} {u : UD} {a : Option Addr} {cap : Nat} (h : Below (w.heap.size + 1 + 1) (sfW w u a cap) wr) : wr.cell? ⟨w.heap.size, 0, none⟩ = some (.slice a u.n cap) := (h.cell (p := ⟨w.heap.size, 0, none⟩) (by show w.heap.size < _; omega)).trans (((Has.new w #[.slice a u.n cap] 30).alloc _).alloc _ |>.cell 0 rfl)
theorem sf_row {w wr : World} {u : UD} {a : Option Addr} {cap : Nat} (h : Below (w.heap.size + 1 + 1) (sfW w u a cap) wr) : wr.rowIs (w.heap.size + 1) 39 3 (fun _ => .int .i64 0) := by
  have h1 := (World.rowIs_alloc (w.alloc (.cells #[.slice a u.n cap] 30)) #[.int .i64 0, .int .i64 0, .int .i64 0] 39 (fun _ => .int .i64 0) (fun i hi => by
    have : i = 0 ∨ i = 1 ∨ i = 2 := by simp at hi; omega
    rcases this with rfl | rfl | rfl <;> rfl)).alloc (.cells #[.int .i64 0, .int .i64 0, .int .i64 0] 39)
  rw [show (w.alloc (.cells #[.slice a u.n cap] 30)).heap.size = w.heap.size + 1 by simp] at h1
  exact h1.of_block (h.block _ (by omega))
theorem sf_below_set {w wr : World} {u : UD} {a : Option Addr} {cap : Nat} (h : Below (w.heap.size + 1 + 1) (sfW w u a cap) wr) (v0 v1 v2 : Value) : Below w.heap.size w (((wr.setCell ⟨w.heap.size + 1, 0, none⟩ v0).setCell ⟨w.heap.size + 1, 1, none⟩ v1).setCell ⟨w.heap.size + 1, 2, none⟩ v2) := frS (frS (frS (sf_below h) (Nat.le_add_right _ _) _) (Nat.le_add_right _ _) _) (Nat.le_add_right _ _) _
theorem OwnB.call {w w' : World} {B : Nat} {A : Array Value} (h : OwnB w B A) (hb : Below w.heap.size w w') : OwnB w' B A := h.block hb.size (hb.block _ h.1.1)
theorem OwnB.ft {w : World} {B : Nat} {x : FT} (h : OwnB w B (ftC x)) (y : FT) : OwnB (((w.setCell ⟨B, 0, none⟩ (.int .i64 (y.c : Int))).setCell ⟨B, 1, none⟩ (.int .i64 (y.f : Int))).setCell ⟨B, 2, none⟩ (.int .i64 (y.n : Int))) B (ftC y) :=
  ((h.set (o := 0) (by show 0 < 3; omega) _).set (o := 1) (by show 1 < 3; omega) _).set (o := 2) (by show 2 < 3; omega) _
theorem note_upto (u : UD) (k : Nat) (y : FT) : ((∃ g, g < k ∧ NoteF u g y) ∨ NoteF u k y) ↔ ∃ g, g < k + 1 ∧ NoteF u g y := by
  constructor
  · rintro (⟨g, h1, h2⟩ | h)
    · exact ⟨g, by omega, h2⟩
    · exact ⟨k, by omega, h⟩
  · rintro ⟨g, h1, h2⟩
    by_cases e : g = k
    · subst e; exact .inr h2
    · exact .inl ⟨g, by omega, h2⟩
def ScopeSaysC : Prop := ∀ (L : Nat) (u : UD) (a : Option Addr) (cap : Nat) (fas : Nat → FA) (w : World), u.sm → U5 u → (∀ i, i < u.n → CapF (u.fn i) (fas i)) → FnsAt L w u.n u.fn a fas →
  Calls Tryz.prog 34 #[unV u a cap] w fun e w' => FtPost (BadS u) w e w'

set_option maxRecDepth 100000 in
set_option maxHeartbeats 4000000 in
theorem scopeFault_calls : ScopeSaysC := by
  intro L u a cap fas w hs h5 hcf hT
  have HT : Hid (FnsAt L w u.n u.fn a fas) := hT
  have HS : Hid u.sm := hs
  have H5 : Hid (U5 u) := h5
  have HCF : Hid (∀ i, i < u.n → CapF (u.fn i) (fas i)) := hcf
  have hun := h5.size.2.1
  clear hT hs h5 hcf
  go_enter Tryz.func34, Tryz.ntmps34
  go_wp2_with fail
  obtain ⟨w3, hw3⟩ : ∃ w3, w3 = sfW w u a cap := ⟨_, rfl⟩
  have HB3 : Hid (Below (w.heap.size + 1 + 1) (sfW w u a cap) w3) := by show Below _ _ _; rw [hw3]; exact Below.refl _ _
  have HO3 : Hid (OwnB w3 (w.heap.size + 1 + 1) (ftC ft0)) := by
    show OwnB _ _ _
    rw [hw3]
    have h := OwnB.new ((w.alloc (.cells #[.slice a u.n cap] 30)).alloc (.cells #[.int .i64 0, .int .i64 0, .int .i64 0] 39)) #[.int .i64 0, .int .i64 0, .int .i64 0] 39
    rw [show ((w.alloc (.cells #[.slice a u.n cap] 30)).alloc (.cells #[.int .i64 0, .int .i64 0, .int .i64 0] 39)).heap.size = w.heap.size + 1 + 1 by simp] at h
    exact h
  simp only [sfW] at hw3
  rw [← hw3]
  clear hw3
  go_loopw [9] (fun i wr => ∃ (k : Nat) (x : FT), k ≤ u.n ∧ i = .int .i64 k ∧ Hid (Least (fun y => ∃ g, g < k ∧ NoteF u g y) x) ∧ Hid (OwnB wr (w.heap.size + 1 + 1) (ftC x)) ∧ Hid (Below (w.heap.size + 1 + 1) (sfW w u a cap) wr)) (fun i _ => u.n - (intOf i).toNat)
  case atStart => exact ⟨0, ft0, Nat.zero_le _, rfl, Least.zero (fun y ⟨g, hg, _⟩ => by omega), HO3, HB3⟩
  case round =>
    clear HO3 HB3
    obtain ⟨k, x, hk, rfl, HL, HO, HB⟩ := hrel
    have u0 := sf_u HB.out
    have f0 := HO.out.1.cell 0 rfl
    have f1 := HO.out.1.cell 1 rfl
    have f2 := HO.out.1.cell 2 rfl
    have z := HO.out.2
    have hlt := HO.out.1.1
    have hl0 := HO.out.1.1
    have HTr : Hid (FnsAt L wr u.n u.fn a fas) := HT.out.below (sf_below HB.out)
    by_cases hkn : k < u.n
    · have hh := H5.out.toU3.head k hkn
      have HOKd : Hid (∀ (S T : Nat), CX.ok ⟨S, T, L, wr.drew, u, k, a, cap, fas⟩) := fun S T => ⟨H5.out, HS.out, hkn, HTr.out, HCF.out k hkn⟩
      go_upto_region 5 with fail
      go_region_with (first | (go_at_call 62; refine (newScopes_calls L u k a cap fas _ hkn hh.1.2.1 (by first | exact HTr.out | exact HTr.out)).mono ?_; rintro e w5 ⟨S, T, rfl, hs5⟩; have HB5 : Hid (Below (w.heap.size + 1 + 1) (sfW w u a cap) w5) := HB.out.trans ((show Below wr.heap.size wr w5 from (Below.refl _ _).drew.trans hs5.b).mono (by omega)); have HO5 : Hid (OwnB w5 (w.heap.size + 1 + 1) (ftC x)) := HO.out.call (show Below wr.heap.size wr w5 from (Below.refl _ _).drew.trans hs5.b); have hf5 := fun h1 h2 h3 => faults_calls _ h1 h2 h3 _ hs5; have HF5 : Hid (Calls Tryz.prog 63 #[.pointer (some ⟨S, 0, none⟩)] w5 fun e w' => FaultsPost ⟨S, T, L, wr.drew, u, k, a, cap, fas⟩ e w') := hf5 (HOKd.out S T) hh.1.2.1 hh.1.2.2.2; clear hs5 hf5; clear f0 f1 f2 z u0 hlt; have f0 := HO5.out.1.cell 0 rfl; have f1 := HO5.out.1.cell 1 rfl; have f2 := HO5.out.1.cell 2 rfl; have z := HO5.out.2; have hlt := HO5.out.1.1; have u0 := sf_u HB5.out) | (go_at_call 63; refine HF5.out.mono ?_; rintro e w6 ⟨x6, rfl, hl6, hb6⟩; have HL6 : Hid (Least (NoteF u k) x6) := hl6; have HB6 : Hid (Below (w.heap.size + 1 + 1) (sfW w u a cap) w6) := HB.out.trans ((show Below wr.heap.size wr w6 from (Below.refl _ _).drew.trans hb6).mono (by omega)); have HO6 : Hid (OwnB w6 (w.heap.size + 1 + 1) (ftC x)) := HO.out.call (show Below wr.heap.size wr w6 from (Below.refl _ _).drew.trans hb6); clear hl6 hb6; clear f0 f1 f2 z u0 hlt; have f0 := HO6.out.1.cell 0 rfl; have f1 := HO6.out.1.cell 1 rfl; have f2 := HO6.out.1.cell 2 rfl; have z := HO6.out.2; have hlt := HO6.out.1.1; have u0 := sf_u HB6.out) | (go_at_call 61; refine (firstOf_calls x x6 _).mono ?_; rintro e w7 ⟨rfl, hb7⟩; have HB7 : Hid (Below (w.heap.size + 1 + 1) (sfW w u a cap) w7) := HB6.out.trans (hb7.mono (by omega)); have HO7 : Hid (OwnB w7 (w.heap.size + 1 + 1) (ftC x)) := HO6.out.call hb7; clear hb7; clear f0 f1 f2 z u0 hlt; have f0 := HO7.out.1.cell 0 rfl; have f1 := HO7.out.1.cell 1 rfl; have f2 := HO7.out.1.cell 2 rfl; have z := HO7.out.2; have hlt := HO7.out.1.1; have u0 := sf_u HB7.out))
      all_goals go_wp2_with fail
      all_goals go_roundw
      all_goals first
        | exact ⟨k + 1, fstOf x x6, by omega, by go_num, (HL.out.first HL6.out).congr (note_upto u k), HO7.out.ft _, frS (frS (frS HB7.out (Nat.le_refl _) _) (Nat.le_refl _) _) (Nat.le_refl _) _⟩
        | (simp [intOf]; omega)
    · obtain rfl : k = u.n := by omega
      go_upto_region 7 with fail
      go_region_with (first | (go_at_call 64; refine (makerFault_calls L u a cap fas _ HS.out H5.out.toU3 (by first | exact HTr.out | exact HTr.out)).mono ?_; rintro e w6 ⟨x6, rfl, hl6, hb6⟩; have HL6 : Hid (Least (NoteM u) x6) := hl6; have HB6 : Hid (Below (w.heap.size + 1 + 1) (sfW w u a cap) w6) := HB.out.trans ((show Below wr.heap.size wr w6 from (Below.refl _ _).drew.trans hb6).mono (by omega)); have HO6 : Hid (OwnB w6 (w.heap.size + 1 + 1) (ftC x)) := HO.out.call (show Below wr.heap.size wr w6 from (Below.refl _ _).drew.trans hb6); clear hl6 hb6; clear f0 f1 f2 z u0 hlt; have f0 := HO6.out.1.cell 0 rfl; have f1 := HO6.out.1.cell 1 rfl; have f2 := HO6.out.1.cell 2 rfl; have z := HO6.out.2; have hlt := HO6.out.1.1; have u0 := sf_u HB6.out) | (go_at_call 61; refine (firstOf_calls x x6 _).mono ?_; rintro e w7 ⟨rfl, hb7⟩; have HB7 : Hid (Below (w.heap.size + 1 + 1) (sfW w u a cap) w7) := HB6.out.trans (hb7.mono (by omega)); have HO7 : Hid (OwnB w7 (w.heap.size + 1 + 1) (ftC x)) := HO6.out.call hb7; clear hb7; clear f0 f1 f2 z u0 hlt; have f0 := HO7.out.1.cell 0 rfl; have f1 := HO7.out.1.cell 1 rfl; have f2 := HO7.out.1.cell 2 rfl; have z := HO7.out.2; have hlt := HO7.out.1.1; have u0 := sf_u HB7.out; have s0 := World.rowIs.cell (sf_row HB7.out) (i := 0) (by omega); have s1 := World.rowIs.cell (sf_row HB7.out) (i := 1) (by omega); have s2 := World.rowIs.cell (sf_row HB7.out) (i := 2) (by omega); have sz := World.rowIs.frozen (sf_row HB7.out)))
      all_goals go_wp2_with fail
      all_goals refine bodyPost_ret (v := ftV (fstOf x x6)) (by simp [results, Tryz.results34, go_sem, s0, s1, s2]) rfl ?_
      all_goals exact FtPost.of ((HL.out.first HL6.out).congr fun y => notes_bad u y) (sf_below_set HB7.out _ _ _)
end Go.Proofs.YtcpjnddkibbddaaGreat

/-! The program's CheckUnit, whole. -/
namespace Go.Proofs.YtcpjnddkibbddaaGreat
open Go.RowKit

theorem scopeSays : ScopeSays := fun L u a cap fas w hs h5 _ hc hT => scopeFault_calls L u a cap fas w hs h5 hc hT
theorem implCheck_calls (L : Nat) (u : UD) (a : Option Addr) (cap : Nat) (fas : Nat → FA) (w : World) (hs : u.sm) (hc : ∀ i, i < u.n → CapF (u.fn i) (fas i)) (hT : FnsAt L w u.n u.fn a fas) :
    Calls Tryz.prog 18 #[unV u a cap] w fun e w' => FtPost (BadU u) w e w' := checkUnit_of depSays scopeSays L u a cap fas w hs hc hT
end Go.Proofs.YtcpjnddkibbddaaGreat
