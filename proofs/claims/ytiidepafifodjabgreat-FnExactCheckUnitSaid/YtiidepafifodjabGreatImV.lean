import Derived.Test.YtiidepafifodjabGreatImN
import Derived.Test.YtiidepafifodjabGreatFitQ
import Derived.Test.YtiidepafifodjabGreatFiB
/-! The program's check of a unit: how deep it nests, given what depthsOf answers. -/
namespace Go.Proofs.YtiidepafifodjabGreat
open Go.RowKit
attribute [local go_sem] run_store_float
attribute [local go_sem ↓] Go.wp_at_zero Go.wp_at_succ

def NestBig (u : UD) (f n : Nat) : Prop := 100 < depP (parP (u.fn f).nd (u.fn f).nn) (u.fn f).nn ((u.fn f).nn - 1) n
theorem bad5_yes {u : UD} {f n : Nat} (hf : f < u.n) (hn : n < (u.fn f).nn) (h3 : ∀ f', f' < f → ∀ n', n' < (u.fn f').nn → ¬ NestBig u f' n') (h4 : ∀ n', n' < n → ¬ NestBig u f n') (h5 : NestBig u f n) : Least (Bad5 u) ⟨5, f, n⟩ := At2.least (by decide) h3 h4 hf hn h5
theorem bad5_no {u : UD} (h2 : ∀ f', f' < u.n → ∀ n', n' < (u.fn f').nn → ¬ NestBig u f' n') : Least (Bad5 u) ft0 := Least.zero (At2.none h2)
/-- what depthsOf is to answer (not shown here) -/
def DepSays : Prop := ∀ (L : Nat) (d : FD) (x : FA) (w : World), d.nn ≤ 3000 → KidsIn d.nd d.nn → (∀ i, i < d.nn → (d.nd i).kn ≤ 200) → FnAt L w d x →
  Calls Tryz.prog 90 #[fnV d x] w fun e w' => (∃ B, e = .returned (.slice (some ⟨B, 0, none⟩) d.nn d.nn) ∧ w.heap.size ≤ B ∧ CRow w' B d.nn (nodesD d.nd d.nn d.nn)) ∧ Below w.heap.size w w'

set_option maxRecDepth 100000 in
set_option maxHeartbeats 4000000 in
theorem nestFault_of (hD : DepSays) (L : Nat) (u : UD) (a : Option Addr) (cap : Nat) (fas : Nat → FA) (w : World) (h5 : U5 u) (hT : FnsAt L w u.n u.fn a fas) :
    Calls Tryz.prog 40 #[unV u a cap] w fun e w' => FtPost (Bad5 u) w e w' := by
  have HD : Hid DepSays := hD
  have HT : Hid (FnsAt L w u.n u.fn a fas) := hT
  have H5 : Hid (U5 u) := h5
  have hun := h5.size.2.1
  obtain ⟨b, off, e0, _, hb, _⟩ := cells7 hT.1 (show 0 < u.n from h5.size.1)
  subst e0
  clear hT h5 hD
  go_enter Tryz.func40, Tryz.ntmps40
  go_wp2_with fail
  go_loopw [10] (fun i wr => ∃ (k : Nat), k ≤ u.n ∧ i = .int .i64 k ∧ Hid (∀ f', f' < k → ∀ n', n' < (u.fn f').nn → ¬ NestBig u f' n') ∧ Hid (Below (fxW w u (some ⟨b, off, none⟩) cap).heap.size (fxW w u (some ⟨b, off, none⟩) cap) wr)) (fun i _ => u.n - (intOf i).toNat)
  case atStart => exact ⟨0, Nat.zero_le _, rfl, fun f' hf' => by omega, Below.refl _ _⟩
  case round =>
    obtain ⟨k, hk, rfl, HF, HB⟩ := hrel
    by_cases hkn : k < u.n
    · have HTr : Hid (FnsAt L wr u.n u.fn (some ⟨b, off, none⟩) fas) := HT.out.below (fx_below HB.out)
      obtain ⟨b', off', e0, _, hbz, d0, d1, d2, d3, d4, d5, d6⟩ := cells7 HTr.out.1 hkn
      obtain ⟨rfl, rfl⟩ : b = b' ∧ off = off' := by simpa using e0
      clear e0
      have hnn := H5.out.toU3.nn hkn
      have HK2 : Hid (∀ i, i < (u.fn k).nn → ((u.fn k).nd i).kn ≤ 200) := fun i hi => (H5.out.toU3.facts hkn hi).kn
      rename World => wa
      go_wp2_with (go_at_call 90; refine (HD.out L (u.fn k) (fas k) _ hnn.1 (H5.out.toU3.kids hkn) HK2.out ((HTr.out.2 k hkn).alloc _)).mono ?_; rintro e w8 ⟨⟨B, rfl, hBz, hR⟩, hb8⟩; have HR8 : Hid (CRow w8 B (u.fn k).nn (nodesD (u.fn k).nd (u.fn k).nn (u.fn k).nn)) := hR; clear hR)
      clear d0 d1 d2 d3 d4 d5 d6
      have HB8 : Hid (Below (fxW w u (some ⟨b, off, none⟩) cap).heap.size (fxW w u (some ⟨b, off, none⟩) cap) w8) := below_call HB.out (below_call (below_alloc _ _) hb8)
      clear HB hb8 HTr hBz
      go_loopw [18] (fun i wr => ∃ (m : Nat), m ≤ (u.fn k).nn ∧ i = .int .i64 m ∧ Hid (∀ n', n' < m → ¬ NestBig u k n') ∧ wr = w8) (fun i _ => (u.fn k).nn - (intOf i).toNat)
      case atStart => exact ⟨0, Nat.zero_le _, rfl, fun f' hf' => by omega, rfl⟩
      case round =>
        obtain ⟨m, hm, rfl, HN, rfl⟩ := hrel
        by_cases hmn : m < (u.fn k).nn
        · have r0 := World.rowIs.cell HR8.out (i := m) hmn
          have hBw := World.rowIs.lt HR8.out
          have hds := dep_same (H5.out.tree k hkn) hmn
          have s0 := (fx_row HB8.out).cell (i := 0) (by omega)
          have s1 := (fx_row HB8.out).cell (i := 1) (by omega)
          have s2 := (fx_row HB8.out).cell (i := 2) (by omega)
          have sz := (fx_row HB8.out).frozen
          by_cases hp : 100 < nodesD (u.fn k).nd (u.fn k).nn (u.fn k).nn m
          · have HL : Hid (Least (Bad5 u) ⟨5, k, m⟩) := bad5_yes hkn hmn HF.out HN.out (by unfold NestBig; rw [← hds]; exact hp)
            clear hds
            go_wp2_with fail
            refine bodyPost_ret (v := ftV ⟨5, k, m⟩) (by simp [results, Tryz.results40, go_sem, s0, s1, s2]) rfl ?_
            exact FtPost.of HL.out (fx_out (fx_below HB8.out) _ _ _)
          · have HG : Hid (¬ NestBig u k m) := by
              show ¬ (100 < _)
              rw [← hds]
              exact hp
            clear hds
            go_wp2_with fail
            go_roundw
            case rel => exact ⟨m + 1, by omega, by go_num, fun j hj => by
              by_cases e : j = m
              · subst e; exact HG.out
              · exact HN.out j (by omega), by first | rfl | trivial⟩
            case measure => simp [intOf]; omega
        · obtain rfl : m = (u.fn k).nn := by omega
          go_wp2_with fail
          go_roundw
          case rel => exact ⟨k + 1, by omega, by go_num, fun j hj => by
            by_cases e : j = k
            · subst e; exact HN.out
            · exact HF.out j (by omega), HB8⟩
          case measure => simp [intOf]; omega
    · obtain rfl : k = u.n := by omega
      have HL : Hid (Least (Bad5 u) ⟨0, 0, 0⟩) := bad5_no HF.out
      have s0 := (fx_row HB.out).cell (i := 0) (by omega)
      have s1 := (fx_row HB.out).cell (i := 1) (by omega)
      have s2 := (fx_row HB.out).cell (i := 2) (by omega)
      have sz := (fx_row HB.out).frozen
      go_wp2_with fail
      refine bodyPost_ret (v := ftV ⟨0, 0, 0⟩) (by simp [results, Tryz.results40, go_sem, s0, s1, s2]) rfl ?_
      exact FtPost.of HL.out (fx_out (fx_below HB.out) _ _ _)
end Go.Proofs.YtiidepafifodjabGreat

/-! The program's check of a unit: its size and its fns. -/
namespace Go.Proofs.YtiidepafifodjabGreat
open Go.RowKit
attribute [local go_sem] run_store_float
attribute [local go_sem ↓] Go.wp_at_zero Go.wp_at_succ

theorem bad1_yes {u : UD} (h : ¬ SizeOk u) : Least (Bad1 u) ⟨1, 0, 0⟩ := At2.least (by decide) (fun f' hf' => by omega) (fun n' hn' => by omega) (by decide) (by decide) h
theorem bad1_no {u : UD} (h : SizeOk u) : Least (Bad1 u) ft0 := Least.zero (At2.none fun _ _ _ _ k => k h)
theorem bad2_yes {u : UD} {f : Nat} (hf : f < u.n) (h2 : ∀ f', f' < f → HeadOk u f') (h3 : ¬ HeadOk u f) : Least (Bad2 u) ⟨2, f, 0⟩ := At2.least (by decide) (fun f' hf' _ _ h => h (h2 f' hf')) (fun n' hn' => by omega) hf (by show 0 < 1; decide) h3
theorem bad2_no {u : UD} (h : ∀ f, f < u.n → HeadOk u f) : Least (Bad2 u) ft0 := Least.zero (At2.none fun f hf _ _ k => k (h f hf))
theorem btB_true {i l m : Int} (h1 : l ≤ i) (h2 : i ≤ m) : btB i l m = true := by unfold btB; simp [h1, h2]
theorem btB_false {i l m : Int} (h : ¬ (l ≤ i ∧ i ≤ m)) : btB i l m = false := by unfold btB; simp; omega

set_option maxRecDepth 100000 in
set_option maxHeartbeats 4000000 in
theorem sizeFault_calls (L : Nat) (u : UD) (a : Option Addr) (cap : Nat) (fas : Nat → FA) (w : World) (hs : u.sm) (hT : FnsAt L w u.n u.fn a fas) :
    Calls Tryz.prog 36 #[unV u a cap] w fun e w' => FtPost (Bad1 u) w e w' := by
  have HT : Hid (FnsAt L w u.n u.fn a fas) := hT
  have HS : Hid u.sm := hs
  have hun := hs.n
  clear hT hs
  go_enter Tryz.func36, Tryz.ntmps36
  go_wp2_with fail
  go_loopw [3, 9] (fun s i wr => ∃ (k : Nat), k ≤ u.n ∧ i = .int .i64 k ∧ s = .int .i64 (tot u.fn k) ∧ Hid (Below (fxW w u a cap).heap.size (fxW w u a cap) wr)) (fun _ i _ => u.n - (intOf i).toNat)
  case atStart => exact ⟨0, Nat.zero_le _, rfl, rfl, Below.refl _ _⟩
  case round =>
    obtain ⟨k, hk, rfl, rfl, HB⟩ := hrel
    have ht := tot_bd HS.out k hk
    by_cases hkn : k < u.n
    · obtain ⟨b, off, e0, _, hb, d0, d1, d2, d3, d4, d5, d6⟩ := cells7 (HT.out.below (fx_below HB.out)).1 hkn
      have hnn := (HS.out.fn k hkn).nn
      subst e0
      go_wp2_with fail
      go_roundw
      case rel => exact ⟨k + 1, by omega, by go_num, by show _ = Value.int .i64 ((tot u.fn k + (u.fn k).nn : Nat) : Int); go_num, below_a' HB.out _⟩
      case measure => simp [intOf]; omega
    · obtain rfl : k = u.n := by omega
      have f0 : wr.cell? ⟨w.heap.size, 0, none⟩ = some (.slice a u.n cap) := (fx_u HB.out).cell 0 rfl
      have s0 := (fx_row HB.out).cell (i := 0) (by omega)
      have s1 := (fx_row HB.out).cell (i := 1) (by omega)
      have s2 := (fx_row HB.out).cell (i := 2) (by omega)
      have sz := (fx_row HB.out).frozen
      by_cases hz : SizeOk u
      · have HL : Hid (Least (Bad1 u) ⟨0, 0, 0⟩) := bad1_no hz
        have hbt : btB (u.n : Int) 1 300 = true := btB_true (by have := hz.1; omega) (by have := hz.2.1; omega)
        have z3 : ¬ (3000 : Int) < tot u.fn u.n := by have := hz.2.2; omega
        clear hz
        go_wp2_with (go_at_call 85; refine (between_calls _ _ _ _).mono ?_; rw [hbt]; rintro e w1 ⟨rfl, rfl⟩)
        refine bodyPost_ret (v := ftV ⟨0, 0, 0⟩) (by simp [results, Tryz.results36, go_sem, s0, s1, s2]) rfl ?_
        exact FtPost.of HL.out (fx_out (fx_below HB.out) _ _ _)
      · have HL : Hid (Least (Bad1 u) ⟨1, 0, 0⟩) := bad1_yes hz
        by_cases c1 : (1 : Int) ≤ u.n ∧ (u.n : Int) ≤ 300
        · have hbt : btB (u.n : Int) 1 300 = true := btB_true c1.1 c1.2
          have c3 : (3000 : Int) < tot u.fn u.n := by unfold SizeOk at hz; omega
          clear hz c1
          go_wp2_with (go_at_call 85; refine (between_calls _ _ _ _).mono ?_; rw [hbt]; rintro e w1 ⟨rfl, rfl⟩)
          refine bodyPost_ret (v := ftV ⟨1, 0, 0⟩) (by simp [results, Tryz.results36, go_sem, s0, s1, s2]) rfl ?_
          exact FtPost.of HL.out (fx_out (fx_below HB.out) _ _ _)
        · have hbt : btB (u.n : Int) 1 300 = false := btB_false c1
          clear hz c1
          go_wp2_with (go_at_call 85; refine (between_calls _ _ _ _).mono ?_; rw [hbt]; rintro e w1 ⟨rfl, rfl⟩)
          refine bodyPost_ret (v := ftV ⟨1, 0, 0⟩) (by simp [results, Tryz.results36, go_sem, s0, s1, s2]) rfl ?_
          exact FtPost.of HL.out (fx_out (fx_below HB.out) _ _ _)

/-- a fn's head but for what is asked of the first -/
def HeadB (d : FD) : Prop := (d.nn ≠ 0 ∧ d.vn ≤ 200 ∧ d.un ≤ 200) ∧ (∀ i, i < d.vn → 1 ≤ (d.v i).size ∧ (d.v i).size ≤ 40) ∧ (0 ≤ d.params ∧ d.params ≤ d.vn) ∧ (0 ≤ d.line ∧ d.line ≤ 100000) ∧ d.name.size ≤ 40
theorem head_iff {u : UD} {f : Nat} : HeadOk u f ↔ HeadB (u.fn f) ∧ (f = 0 → (u.fn f).params = 0 ∧ (u.fn f).un = 0) := by
  unfold HeadOk HeadB
  constructor
  · rintro ⟨⟨a, b, c, d, e⟩, ⟨f, g, h, i⟩, j⟩
    exact ⟨⟨⟨a, b, c⟩, j, ⟨d, e⟩, ⟨f, g⟩, h⟩, i⟩
  · rintro ⟨⟨⟨a, b, c⟩, j, ⟨d, e⟩, ⟨f, g⟩, h⟩, i⟩
    exact ⟨⟨a, b, c, d, e⟩, ⟨f, g, h, i⟩, j⟩

set_option maxRecDepth 100000 in
set_option maxHeartbeats 4000000 in
theorem fnFits_calls (L : Nat) (d : FD) (x : FA) (w : World) (hs : d.sm) (hT : FnAt L w d x) :
    Calls Tryz.prog 86 #[fnV d x] w fun e w' => e = .returned (.bool (dB (HeadB d))) ∧ Below w.heap.size w w' := by
  have HT : Hid (FnAt L w d x) := hT
  have HS : Hid d.sm := hs
  have hvn := hs.vn
  have hun := hs.un
  have hnn := hs.nn
  have hnm := hs.name
  clear hT hs
  by_cases c1 : d.nn = 0
  · have he : dB (HeadB d) = false := dB_false fun h => h.1.1 c1
    have q1 : ((d.nn : Int) == 0) = true := by simp; omega
    rw [he]
    clear he c1
    go_enter Tryz.func86, Tryz.ntmps86
    go_wp2_with fail
    go_ret
    exact ⟨rfl, below_alloc _ _⟩
  have q1 : ((d.nn : Int) == 0) = false := by simp; omega
  have C1 : Hid (d.nn ≠ 0) := c1
  clear c1
  by_cases c2 : 200 < d.vn
  · have he : dB (HeadB d) = false := dB_false fun h => by have := h.1.2.1; omega
    rw [he]
    clear he
    go_enter Tryz.func86, Tryz.ntmps86
    go_wp2_with fail
    go_ret
    exact ⟨rfl, below_alloc _ _⟩
  by_cases c3 : 200 < d.un
  · have he : dB (HeadB d) = false := dB_false fun h => by have := h.1.2.2; omega
    rw [he]
    clear he
    go_enter Tryz.func86, Tryz.ntmps86
    go_wp2_with fail
    go_ret
    exact ⟨rfl, below_alloc _ _⟩
  have HW : Hid (Has (w.alloc (.cells (fnC d x) 68)) w.heap.size (fnC d x)) := Has.new _ _ _
  go_enter Tryz.func86, Tryz.ntmps86
  go_wp2_with fail
  go_loopw [24] (fun i wr => ∃ (k : Nat), k ≤ d.vn ∧ i = .int .i64 k ∧ Hid (∀ j, j < k → 1 ≤ (d.v j).size ∧ (d.v j).size ≤ 40) ∧ Hid (Below (w.alloc (.cells (fnC d x) 68)).heap.size (w.alloc (.cells (fnC d x) 68)) wr)) (fun i _ => d.vn - (intOf i).toNat)
  case atStart => exact ⟨0, Nat.zero_le _, rfl, fun j hj => by omega, Below.refl _ _⟩
  case round =>
    obtain ⟨k, hk, rfl, HK, HB⟩ := hrel
    have HBw : Hid (Below w.heap.size w wr) := below_call (below_alloc _ _) HB.out
    by_cases hkn : k < d.vn
    · obtain ⟨b2, o2, e2, _, hb2, g0⟩ := cells1 (HT.out.below HBw.out).1 hkn
      rw [e2]
      clear e2
      have hsz := HS.out.v k hkn
      by_cases hg : 1 ≤ (d.v k).size ∧ (d.v k).size ≤ 40
      · have hbt : btB ((d.v k).size : Int) 1 40 = true := btB_true (by omega) (by omega)
        have HG : Hid (1 ≤ (d.v k).size ∧ (d.v k).size ≤ 40) := hg
        clear hg
        go_wp2_with (go_at_call 85; refine (between_calls _ _ _ _).mono ?_; rw [hbt]; rintro e w1 ⟨rfl, rfl⟩)
        go_roundw
        case rel => exact ⟨k + 1, by omega, by go_num, fun j hj => by
          by_cases e : j = k
          · subst e; exact HG.out
          · exact HK.out j (by omega), HB⟩
        case measure => simp [intOf]; omega
      · have hbt : btB ((d.v k).size : Int) 1 40 = false := btB_false (by omega)
        have HE : Hid (dB (HeadB d) = false) := dB_false fun h => hg (h.2.1 k hkn)
        clear hg
        go_wp2_with (go_at_call 85; refine (between_calls _ _ _ _).mono ?_; rw [hbt]; rintro e w1 ⟨rfl, rfl⟩)
        go_ret
        exact ⟨ret_bool HE.out.symm, HBw.out⟩
    · have HA : Hid (∀ i, i < d.vn → 1 ≤ (d.v i).size ∧ (d.v i).size ≤ 40) := fun i hi => HK.out i (by omega)
      have x0 : wr.cell? ⟨w.heap.size, 0, none⟩ = some (.string d.name) := (HW.out.call HB.out).cell 0 rfl
      have x1 : wr.cell? ⟨w.heap.size, 1, none⟩ = some (.int .i64 d.line) := (HW.out.call HB.out).cell 1 rfl
      have x2 : wr.cell? ⟨w.heap.size, 2, none⟩ = some (.int .i64 d.params) := (HW.out.call HB.out).cell 2 rfl
      have x4 : wr.cell? ⟨w.heap.size, 4, none⟩ = some (.slice x.va d.vn x.vc) := (HW.out.call HB.out).cell 4 rfl
      cases h1 : btB d.params 0 d.vn
      · have HE : Hid (dB (HeadB d) = false) := dB_false fun h => by
          rw [btB_true h.2.2.1.1 h.2.2.1.2] at h1; cases h1
        go_wp2_with (go_at_call 85; refine (between_calls _ _ _ _).mono ?_; rw [h1]; rintro e w1 ⟨rfl, rfl⟩)
        go_ret
        exact ⟨ret_bool HE.out.symm, HBw.out⟩
      · have H1 : Hid (0 ≤ d.params ∧ d.params ≤ d.vn) := by show _ ∧ _; unfold btB at h1; simpa using h1
        cases h2 : btB d.line 0 100000
        · have HE : Hid (dB (HeadB d) = false) := dB_false fun h => by
            rw [btB_true h.2.2.2.1.1 h.2.2.2.1.2] at h2; cases h2
          go_wp2_with (go_at_call 85; refine (between_calls _ _ _ _).mono ?_; first | (rw [h1]; rintro e w1 ⟨rfl, rfl⟩) | (rw [h2]; rintro e w1 ⟨rfl, rfl⟩))
          go_ret
          exact ⟨ret_bool HE.out.symm, HBw.out⟩
        · have H2 : Hid (0 ≤ d.line ∧ d.line ≤ 100000) := by show _ ∧ _; unfold btB at h2; simpa using h2
          by_cases c8 : d.name.size ≤ 40
          · have HE : Hid (dB (HeadB d) = true) := dB_true ⟨⟨C1.out, by omega, by omega⟩, HA.out, H1.out, H2.out, c8⟩
            go_wp2_with (go_at_call 85; refine (between_calls _ _ _ _).mono ?_; first | (rw [h1]; rintro e w1 ⟨rfl, rfl⟩) | (rw [h2]; rintro e w1 ⟨rfl, rfl⟩))
            go_ret
            exact ⟨ret_bool (by rw [HE.out]; simp; omega), HBw.out⟩
          · have HE : Hid (dB (HeadB d) = false) := dB_false fun h => c8 h.2.2.2.2
            go_wp2_with (go_at_call 85; refine (between_calls _ _ _ _).mono ?_; first | (rw [h1]; rintro e w1 ⟨rfl, rfl⟩) | (rw [h2]; rintro e w1 ⟨rfl, rfl⟩))
            go_ret
            exact ⟨ret_bool (by rw [HE.out]; simp; omega), HBw.out⟩
end Go.Proofs.YtiidepafifodjabGreat

/-! The program's check of a unit: fns. -/
namespace Go.Proofs.YtiidepafifodjabGreat
open Go.RowKit
attribute [local go_sem] run_store_float
attribute [local go_sem ↓] Go.wp_at_zero Go.wp_at_succ

set_option maxRecDepth 100000 in
set_option maxHeartbeats 4000000 in
theorem fnFault_calls (L : Nat) (u : UD) (a : Option Addr) (cap : Nat) (fas : Nat → FA) (w : World) (hs : u.sm) (hT : FnsAt L w u.n u.fn a fas) :
    Calls Tryz.prog 37 #[unV u a cap] w fun e w' => FtPost (Bad2 u) w e w' := by
  have HT : Hid (FnsAt L w u.n u.fn a fas) := hT
  have HS : Hid u.sm := hs
  have hun := hs.n
  clear hT hs
  go_enter Tryz.func37, Tryz.ntmps37
  go_wp2_with fail
  go_loopw [8] (fun i wr => ∃ (k : Nat), k ≤ u.n ∧ i = .int .i64 k ∧ Hid (∀ f', f' < k → HeadOk u f') ∧ Hid (Below (fxW w u a cap).heap.size (fxW w u a cap) wr)) (fun i _ => u.n - (intOf i).toNat)
  case atStart => exact ⟨0, Nat.zero_le _, rfl, fun f' hf' => by omega, Below.refl _ _⟩
  case round =>
    obtain ⟨k, hk, rfl, HH, HB⟩ := hrel
    by_cases hkn : k < u.n
    · have HTr : Hid (FnsAt L wr u.n u.fn a fas) := HT.out.below (fx_below HB.out)
      obtain ⟨b, off, e0, _, hb, d0, d1, d2, d3, d4, d5, d6⟩ := cells7 HTr.out.1 hkn
      subst e0
      have hun2 := (HS.out.fn k hkn).un
      by_cases hk0 : k = 0
      · subst hk0
        simp only [Nat.zero_mul, Nat.add_zero] at d0 d1 d2 d3 d4 d5 d6
        have HA : Hid (∀ w2, Below (wr.alloc (.cells (fnC (u.fn 0) (fas 0)) 68)).heap.size (wr.alloc (.cells (fnC (u.fn 0) (fas 0)) 68)) w2 → Below (fxW w u (some ⟨b, off, none⟩) cap).heap.size (fxW w u (some ⟨b, off, none⟩) cap) w2 ∧ Has w2 wr.heap.size (fnC (u.fn 0) (fas 0))) := fun w2 h => ⟨below_call (below_a' HB.out _) h, Has.made h⟩
        by_cases hh : HeadB (u.fn 0)
        · have hdb : dB (HeadB (u.fn 0)) = true := dB_true hh
          by_cases hp : (u.fn 0).params = 0
          · have qp : ((u.fn 0).params != 0) = false := by rw [hp]; rfl
            by_cases hu : (u.fn 0).un = 0
            · have qu : (((u.fn 0).un : Int) != 0) = false := by simp; omega
              have HG : Hid (HeadOk u 0) := head_iff.2 ⟨hh, fun _ => ⟨hp, hu⟩⟩
              clear hh hp hu
              go_wp2_with (go_at_call 86; refine (fnFits_calls L (u.fn 0) (fas 0) _ (HS.out.fn 0 hkn) ((HTr.out.2 0 hkn).alloc _)).mono ?_; rw [hdb]; rintro e w2 ⟨rfl, hb2⟩; have HB2 : Hid (Below (fxW w u (some ⟨b, off, none⟩) cap).heap.size (fxW w u (some ⟨b, off, none⟩) cap) w2) := (HA.out _ hb2).1; have x2 : w2.cell? ⟨wr.heap.size, 2, none⟩ = some (.int .i64 (u.fn 0).params) := (HA.out _ hb2).2.cell 2 rfl; have x5 : w2.cell? ⟨wr.heap.size, 5, none⟩ = some (.slice (fas 0).ua (u.fn 0).un (fas 0).uc) := (HA.out _ hb2).2.cell 5 rfl; have s0 := (fx_row HB2.out).cell (i := 0) (by omega); have s1 := (fx_row HB2.out).cell (i := 1) (by omega); have s2 := (fx_row HB2.out).cell (i := 2) (by omega); have sz := (fx_row HB2.out).frozen; clear hb2)
              go_roundw
              case rel => exact ⟨0 + 1, by omega, by go_num, fun j hj => by
                by_cases e : j = 0
                · subst e; exact HG.out
                · exact HH.out j (by omega), HB2⟩
              case measure => simp [intOf]; omega
            · have qu : (((u.fn 0).un : Int) != 0) = true := by simp; omega
              have HL : Hid (Least (Bad2 u) ⟨2, 0, 0⟩) := bad2_yes hkn HH.out fun h => hu ((head_iff.1 h).2 rfl).2
              clear hh hp hu
              go_wp2_with (go_at_call 86; refine (fnFits_calls L (u.fn 0) (fas 0) _ (HS.out.fn 0 hkn) ((HTr.out.2 0 hkn).alloc _)).mono ?_; rw [hdb]; rintro e w2 ⟨rfl, hb2⟩; have HB2 : Hid (Below (fxW w u (some ⟨b, off, none⟩) cap).heap.size (fxW w u (some ⟨b, off, none⟩) cap) w2) := (HA.out _ hb2).1; have x2 : w2.cell? ⟨wr.heap.size, 2, none⟩ = some (.int .i64 (u.fn 0).params) := (HA.out _ hb2).2.cell 2 rfl; have x5 : w2.cell? ⟨wr.heap.size, 5, none⟩ = some (.slice (fas 0).ua (u.fn 0).un (fas 0).uc) := (HA.out _ hb2).2.cell 5 rfl; have s0 := (fx_row HB2.out).cell (i := 0) (by omega); have s1 := (fx_row HB2.out).cell (i := 1) (by omega); have s2 := (fx_row HB2.out).cell (i := 2) (by omega); have sz := (fx_row HB2.out).frozen; clear hb2)
              refine bodyPost_ret (v := ftV ⟨2, 0, 0⟩) (by simp [results, Tryz.results37, go_sem, s0, s1, s2]) rfl ?_
              exact FtPost.of HL.out (fx_out (fx_below HB2.out) _ _ _)
          · have qp : ((u.fn 0).params != 0) = true := by simpa using hp
            have HL : Hid (Least (Bad2 u) ⟨2, 0, 0⟩) := bad2_yes hkn HH.out fun h => hp ((head_iff.1 h).2 rfl).1
            clear hh hp
            go_wp2_with (go_at_call 86; refine (fnFits_calls L (u.fn 0) (fas 0) _ (HS.out.fn 0 hkn) ((HTr.out.2 0 hkn).alloc _)).mono ?_; rw [hdb]; rintro e w2 ⟨rfl, hb2⟩; have HB2 : Hid (Below (fxW w u (some ⟨b, off, none⟩) cap).heap.size (fxW w u (some ⟨b, off, none⟩) cap) w2) := (HA.out _ hb2).1; have x2 : w2.cell? ⟨wr.heap.size, 2, none⟩ = some (.int .i64 (u.fn 0).params) := (HA.out _ hb2).2.cell 2 rfl; have x5 : w2.cell? ⟨wr.heap.size, 5, none⟩ = some (.slice (fas 0).ua (u.fn 0).un (fas 0).uc) := (HA.out _ hb2).2.cell 5 rfl; have s0 := (fx_row HB2.out).cell (i := 0) (by omega); have s1 := (fx_row HB2.out).cell (i := 1) (by omega); have s2 := (fx_row HB2.out).cell (i := 2) (by omega); have sz := (fx_row HB2.out).frozen; clear hb2)
            refine bodyPost_ret (v := ftV ⟨2, 0, 0⟩) (by simp [results, Tryz.results37, go_sem, s0, s1, s2]) rfl ?_
            exact FtPost.of HL.out (fx_out (fx_below HB2.out) _ _ _)
        · have hdb : dB (HeadB (u.fn 0)) = false := dB_false hh
          have HL : Hid (Least (Bad2 u) ⟨2, 0, 0⟩) := bad2_yes hkn HH.out fun h => hh (head_iff.1 h).1
          clear hh
          go_wp2_with (go_at_call 86; refine (fnFits_calls L (u.fn 0) (fas 0) _ (HS.out.fn 0 hkn) ((HTr.out.2 0 hkn).alloc _)).mono ?_; rw [hdb]; rintro e w2 ⟨rfl, hb2⟩; have HB2 : Hid (Below (fxW w u (some ⟨b, off, none⟩) cap).heap.size (fxW w u (some ⟨b, off, none⟩) cap) w2) := (HA.out _ hb2).1; have x2 : w2.cell? ⟨wr.heap.size, 2, none⟩ = some (.int .i64 (u.fn 0).params) := (HA.out _ hb2).2.cell 2 rfl; have x5 : w2.cell? ⟨wr.heap.size, 5, none⟩ = some (.slice (fas 0).ua (u.fn 0).un (fas 0).uc) := (HA.out _ hb2).2.cell 5 rfl; have s0 := (fx_row HB2.out).cell (i := 0) (by omega); have s1 := (fx_row HB2.out).cell (i := 1) (by omega); have s2 := (fx_row HB2.out).cell (i := 2) (by omega); have sz := (fx_row HB2.out).frozen; clear hb2)
          refine bodyPost_ret (v := ftV ⟨2, 0, 0⟩) (by simp [results, Tryz.results37, go_sem, s0, s1, s2]) rfl ?_
          exact FtPost.of HL.out (fx_out (fx_below HB2.out) _ _ _)
      · have qk : ((k : Int) == 0) = false := by simp; omega
        have HK0 : Hid (k ≠ 0) := hk0
        clear hk0
        have HA : Hid (∀ w2, Below (wr.alloc (.cells (fnC (u.fn k) (fas k)) 68)).heap.size (wr.alloc (.cells (fnC (u.fn k) (fas k)) 68)) w2 → Below (fxW w u (some ⟨b, off, none⟩) cap).heap.size (fxW w u (some ⟨b, off, none⟩) cap) w2 ∧ Has w2 wr.heap.size (fnC (u.fn k) (fas k))) := fun w2 h => ⟨below_call (below_a' HB.out _) h, Has.made h⟩
        by_cases hh : HeadB (u.fn k)
        · have hdb : dB (HeadB (u.fn k)) = true := dB_true hh
          have HG : Hid (HeadOk u k) := head_iff.2 ⟨hh, fun h => absurd h HK0.out⟩
          clear hh
          go_wp2_with (go_at_call 86; refine (fnFits_calls L (u.fn k) (fas k) _ (HS.out.fn k hkn) ((HTr.out.2 k hkn).alloc _)).mono ?_; rw [hdb]; rintro e w2 ⟨rfl, hb2⟩; have HB2 : Hid (Below (fxW w u (some ⟨b, off, none⟩) cap).heap.size (fxW w u (some ⟨b, off, none⟩) cap) w2) := (HA.out _ hb2).1; have x2 : w2.cell? ⟨wr.heap.size, 2, none⟩ = some (.int .i64 (u.fn k).params) := (HA.out _ hb2).2.cell 2 rfl; have x5 : w2.cell? ⟨wr.heap.size, 5, none⟩ = some (.slice (fas k).ua (u.fn k).un (fas k).uc) := (HA.out _ hb2).2.cell 5 rfl; have s0 := (fx_row HB2.out).cell (i := 0) (by omega); have s1 := (fx_row HB2.out).cell (i := 1) (by omega); have s2 := (fx_row HB2.out).cell (i := 2) (by omega); have sz := (fx_row HB2.out).frozen; clear hb2)
          go_roundw
          case rel => exact ⟨k + 1, by omega, by go_num, fun j hj => by
            by_cases e : j = k
            · subst e; exact HG.out
            · exact HH.out j (by omega), HB2⟩
          case measure => simp [intOf]; omega
        · have hdb : dB (HeadB (u.fn k)) = false := dB_false hh
          have HL : Hid (Least (Bad2 u) ⟨2, k, 0⟩) := bad2_yes hkn HH.out fun h => hh (head_iff.1 h).1
          clear hh
          go_wp2_with (go_at_call 86; refine (fnFits_calls L (u.fn k) (fas k) _ (HS.out.fn k hkn) ((HTr.out.2 k hkn).alloc _)).mono ?_; rw [hdb]; rintro e w2 ⟨rfl, hb2⟩; have HB2 : Hid (Below (fxW w u (some ⟨b, off, none⟩) cap).heap.size (fxW w u (some ⟨b, off, none⟩) cap) w2) := (HA.out _ hb2).1; have x2 : w2.cell? ⟨wr.heap.size, 2, none⟩ = some (.int .i64 (u.fn k).params) := (HA.out _ hb2).2.cell 2 rfl; have x5 : w2.cell? ⟨wr.heap.size, 5, none⟩ = some (.slice (fas k).ua (u.fn k).un (fas k).uc) := (HA.out _ hb2).2.cell 5 rfl; have s0 := (fx_row HB2.out).cell (i := 0) (by omega); have s1 := (fx_row HB2.out).cell (i := 1) (by omega); have s2 := (fx_row HB2.out).cell (i := 2) (by omega); have sz := (fx_row HB2.out).frozen; clear hb2)
          refine bodyPost_ret (v := ftV ⟨2, k, 0⟩) (by simp [results, Tryz.results37, go_sem, s0, s1, s2]) rfl ?_
          exact FtPost.of HL.out (fx_out (fx_below HB2.out) _ _ _)
    · obtain rfl : k = u.n := by omega
      have HL : Hid (Least (Bad2 u) ⟨0, 0, 0⟩) := bad2_no HH.out
      have s0 := (fx_row HB.out).cell (i := 0) (by omega)
      have s1 := (fx_row HB.out).cell (i := 1) (by omega)
      have s2 := (fx_row HB.out).cell (i := 2) (by omega)
      have sz := (fx_row HB.out).frozen
      go_wp2_with fail
      refine bodyPost_ret (v := ftV ⟨0, 0, 0⟩) (by simp [results, Tryz.results37, go_sem, s0, s1, s2]) rfl ?_
      exact FtPost.of HL.out (fx_out (fx_below HB.out) _ _ _)
end Go.Proofs.YtiidepafifodjabGreat
