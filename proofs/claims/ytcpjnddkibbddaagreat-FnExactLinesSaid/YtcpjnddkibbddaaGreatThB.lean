import Derived.Test.YtcpjnddkibbddaaGreatSpW
import Derived.Test.YtcpjnddkibbddaaGreatSpR
/-! The specification's check of a unit: codes 6 to 9. -/
namespace Go.Proofs.YtcpjnddkibbddaaGreat
open Go.RowKit
attribute [local go_sem] run_store_float
attribute [local go_sem ↓] Go.wp_at_zero Go.wp_at_succ

theorem cell_at {B : Nat} {w wx : World} {q : Addr} {v : Value} (hb : Below B w wx) (hq : q.block < B) (h : w.cell? q = some v) : wx.cell? q = some v := by rw [hb.cell hq]; exact h
theorem Has.keep {B : Nat} {w wx : World} {X : Nat} {A : Array Value} (h : Has w X A) (hb : Below B w wx) (hX : X < B) : Has wx X A := ⟨Nat.lt_of_lt_of_le h.1 hb.size, fun o => (hb.cell (p := ⟨X, o, none⟩) hX).trans (h.2 o)⟩

/-- the same place, its nodes' block said -/
abbrev faS (x : FA) (b o : Nat) : FA := ⟨x.va, x.vc, x.ua, x.uc, some ⟨b, o, none⟩, x.nc, x.nas⟩
theorem faS_eq {x : FA} {b o : Nat} (e : x.na = some ⟨b, o, none⟩) : faS x b o = x := by cases x; simp only at e; subst e; rfl

set_option maxRecDepth 100000 in
set_option maxHeartbeats 16000000 in
theorem l3third_calls (L : Nat) (u : UD) (a : Option Addr) (cap : Nat) (fas : Nat → FA) (w : World) (hs : u.sm) (h5 : U5 u) (hT : FnsAt L w u.n u.fn a fas) :
    Calls Tryz.prog 27 #[unV u a cap] w fun e w' => FtPost (BadS u) w e w' := by
  have HT : Hid (FnsAt L w u.n u.fn a fas) := hT
  have HS : Hid u.sm := hs
  have H5 : Hid (U5 u) := h5
  have hun := h5.size.2.1
  have hun1 := h5.size.1
  obtain ⟨b, off, e0, _, hb, _⟩ := cells7 hT.1 (show 0 < u.n from h5.size.1)
  subst e0
  clear hT hs h5
  go_enter Tryz.func27, Tryz.ntmps27
  go_wp2_with fail
  go_loopw [24] (fun i wr => ∃ (k : Nat), k ≤ u.n ∧ i = .int .i64 k ∧ Hid (∀ f', f' < k → ∀ n', n' < (u.fn f').nn → RefsOk u f' n') ∧ Hid (Below (fxW w u (some ⟨b, off, none⟩) cap).heap.size (fxW w u (some ⟨b, off, none⟩) cap) wr)) (fun i _ => u.n - (intOf i).toNat)
  case atStart => exact ⟨0, Nat.zero_le _, rfl, fun f' hf' => by omega, Below.refl _ _⟩
  case round =>
    obtain ⟨k, hk, rfl, H6, HB⟩ := hrel
    by_cases hkn : k < u.n
    · have HTr : Hid (FnsAt L wr u.n u.fn (some ⟨b, off, none⟩) fas) := HT.out.below (fx_below HB.out)
      obtain ⟨b', off', e0, _, hbz, d0, d1, d2, d3, d4, d5, d6⟩ := cells7 HTr.out.1 hkn
      obtain ⟨rfl, rfl⟩ : b = b' ∧ off = off' := by simpa using e0
      clear e0
      have hnn := H5.out.nn hkn
      have hh := (H5.out.head k hkn).1
      have hvn := hh.2.1
      have hp0 := hh.2.2.2.1
      have hp1 := hh.2.2.2.2
      clear hh
      rename World => wa
      have hmk := fun v => run_make_row' (P := Tryz.prog) 81 4 (.bool false) 1 Tryz.underlying81 infoBool rfl .i64 .i64 (u.fn k).vn (by omega) (by omega) v
      go_wp2_with (go_at_call 48; refine (grow2_calls L (u.fn k) (fas k) _ hnn.1 hnn.2 (H5.out.kids hkn) (HS.out.fn k hkn) ((HTr.out.2 k hkn).alloc _)).mono ?_; rintro e w8 ⟨P, D, rfl, hP, hb8⟩; have HX8 : Hid (Has w8 wa.heap.size (fnC (u.fn k) (fas k))) := Has.made hb8; have y2 : w8.cell? ⟨wa.heap.size, 2, none⟩ = some (.int .i64 (u.fn k).params) := HX8.out.cell 2 rfl; have y4 : w8.cell? ⟨wa.heap.size, 4, none⟩ = some (.slice (fas k).va (u.fn k).vn (fas k).vc) := HX8.out.cell 4 rfl; have y6 : w8.cell? ⟨wa.heap.size, 6, none⟩ = some (.slice (fas k).na (u.fn k).nn (fas k).nc) := HX8.out.cell 6 rfl; have hx8 : wa.heap.size < w8.heap.size := HX8.out.lt)
      clear hmk y2 y4 y6 d0 d1 d2 d3 d4 d5 d6
      obtain ⟨pN, hpN⟩ : ∃ pN : Nat, (u.fn k).params = pN := ⟨(u.fn k).params.toNat, by omega⟩
      have HPN : Hid ((u.fn k).params = pN) := hpN
      have hpv : pN ≤ (u.fn k).vn := by omega
      clear hpN hp0 hp1
      have HW8 : Hid (Below (fxW w u (some ⟨b, off, none⟩) cap).heap.size (fxW w u (some ⟨b, off, none⟩) cap) w8) := below_call HB.out (below_call (below_alloc _ _) hb8)
      have HP8 : Hid (TS 0 w8 (u.fn k) (fas k) P) := ⟨(HT.out.below (fx_below HW8.out)).2 k hkn |>.less (Nat.zero_le _), RowN.less hP (Nat.zero_le _)⟩
      clear hP hb8 HTr HB
      obtain ⟨w1, hw1⟩ : ∃ w1, w1 = (w8.alloc (.cells (treeC P D (u.fn k).nn) 79)).alloc (.cells (madeCells #[.bool false] (u.fn k).vn) 4) := ⟨_, rfl⟩
      have HB81 : Hid (Below w8.heap.size w8 w1) := by show Below _ _ _; rw [hw1]; exact below_alloc2 _ _ _
      have HX1 : Hid (Has w1 wa.heap.size (fnC (u.fn k) (fas k))) := HX8.out.call HB81.out
      have HT1 : Hid (Has w1 w8.heap.size (treeC P D (u.fn k).nn)) := by show Has _ _ _; rw [hw1]; exact (Has.new _ _ _).alloc _
      have HR1 : Hid (w1.rowIs (w8.heap.size + 1) 4 (u.fn k).vn (fun i => .bool (decide (i < 0)))) := by
        show World.rowIs _ _ _ _ _
        rw [hw1]
        exact (rowMade _ _ _ (by simp)).congr fun i _ => by simp
      have HB1 : Hid (Below (fxW w u (some ⟨b, off, none⟩) cap).heap.size (fxW w u (some ⟨b, off, none⟩) cap) w1) := below_call HW8.out HB81.out
      have hfz : (fxW w u (some ⟨b, off, none⟩) cap).heap.size ≤ w8.heap.size := HW8.out.size
      have hfz2 : w.heap.size + 1 < w8.heap.size := by simp at hfz; omega
      have hz1 : w8.heap.size + 1 < w1.heap.size := HR1.out.lt
      rw [← hw1]
      clear hw1 HX8
      go_loopw [7] (fun i wr => ∃ (v : Nat), v ≤ pN ∧ i = .int .i64 v ∧ Hid (Below (w8.heap.size + 1) w1 wr) ∧ Hid (wr.rowIs (w8.heap.size + 1) 4 (u.fn k).vn (fun i => .bool (decide (i < v))))) (fun i _ => pN - (intOf i).toNat)
      case atStart => exact ⟨0, Nat.zero_le _, rfl, Below.refl _ _, HR1⟩
      case round =>
        clear HR1
        obtain ⟨v, hv, rfl, HW, HR⟩ := hrel
        have x2 : wr.cell? ⟨wa.heap.size, 2, none⟩ = some (.int .i64 (pN : Int)) := by
          rw [← HPN.out]
          exact (HX1.out.keep HW.out (by omega)).cell 2 rfl
        have x6 : wr.cell? ⟨wa.heap.size, 6, none⟩ = some (.slice (fas k).na (u.fn k).nn (fas k).nc) := (HX1.out.keep HW.out (by omega)).cell 6 rfl
        by_cases hvp : v < pN
        · have r0 := HR.out.cell (i := v) (by omega)
          have rz := HR.out.frozen
          have HN : Hid ((wr.setCell ⟨w8.heap.size + 1, v, none⟩ (.bool true)).rowIs (w8.heap.size + 1) 4 (u.fn k).vn (fun i => .bool (decide (i < v + 1)))) := (HR.out.set v (.bool true)).congr fun i _ => by
            by_cases e : i = v
            · subst e; simp
            · rw [if_neg e]
              by_cases h : i < v
              · rw [decide_eq_true h, decide_eq_true (by omega)]
              · rw [decide_eq_false h, decide_eq_false (by omega)]
          go_wp2_with fail
          go_roundw
          case rel => exact ⟨v + 1, by omega, by go_num, frS HW.out (Nat.le_refl _) _, HN⟩
          case measure => simp [intOf]; omega
        · obtain rfl : v = pN := by omega
          have HS0 : Hid (SeenRow wr (w8.heap.size + 1) (u.fn k) 0 0) := HR.out.congr fun i _ => by
            by_cases h : i < v
            · rw [decide_eq_true h, dB_true ((seen_first HPN.out i).1 h)]
            · rw [decide_eq_false h, dB_false fun h' => h ((seen_first HPN.out i).2 h')]
          go_wp2_with fail
          clear x2 x6 HR
          have HW0 : Hid (Below (w8.heap.size + 1) w1 wr) := HW
          clear HW
          go_loopw [48] (fun i wr => ∃ (m : Nat), m ≤ (u.fn k).nn ∧ i = .int .i64 m ∧ Hid (∀ n', n' < m → RefsOk u k n') ∧ Hid (Below (w8.heap.size + 1) w1 wr) ∧ Hid (SeenRow wr (w8.heap.size + 1) (u.fn k) m 0)) (fun i _ => (u.fn k).nn - (intOf i).toNat)
          case atStart => exact ⟨0, Nat.zero_le _, rfl, fun f' hf' => by omega, HW0, HS0⟩
          case round =>
            clear HW0 HS0
            obtain ⟨m, hm, rfl, HN, HW, HSR⟩ := hrel
            have HBr : Hid (Below (fxW w u (some ⟨b, off, none⟩) cap).heap.size (fxW w u (some ⟨b, off, none⟩) cap) wr) := HB1.out.trans (HW.out.mono (by omega))
            by_cases hmn : m < (u.fn k).nn
            · have f0 : wr.cell? ⟨w.heap.size, 0, none⟩ = some (.slice (some ⟨b, off, none⟩) u.n cap) := (fx_u HBr.out).cell 0 rfl
              have x0 : wr.cell? ⟨wa.heap.size, 0, none⟩ = some (.string (u.fn k).name) := (HX1.out.keep HW.out (by omega)).cell 0 rfl
              have x1 : wr.cell? ⟨wa.heap.size, 1, none⟩ = some (.int .i64 (u.fn k).line) := (HX1.out.keep HW.out (by omega)).cell 1 rfl
              have x2 : wr.cell? ⟨wa.heap.size, 2, none⟩ = some (.int .i64 (u.fn k).params) := (HX1.out.keep HW.out (by omega)).cell 2 rfl
              have x3 : wr.cell? ⟨wa.heap.size, 3, none⟩ = some (.bool (u.fn k).rest) := (HX1.out.keep HW.out (by omega)).cell 3 rfl
              have x4 : wr.cell? ⟨wa.heap.size, 4, none⟩ = some (.slice (fas k).va (u.fn k).vn (fas k).vc) := (HX1.out.keep HW.out (by omega)).cell 4 rfl
              have x5 : wr.cell? ⟨wa.heap.size, 5, none⟩ = some (.slice (fas k).ua (u.fn k).un (fas k).uc) := (HX1.out.keep HW.out (by omega)).cell 5 rfl
              have x6 : wr.cell? ⟨wa.heap.size, 6, none⟩ = some (.slice (fas k).na (u.fn k).nn (fas k).nc) := (HX1.out.keep HW.out (by omega)).cell 6 rfl
              have t0 : wr.cell? ⟨w8.heap.size, 0, none⟩ = some (.slice (some ⟨P, 0, none⟩) (u.fn k).nn (u.fn k).nn) := (HT1.out.keep HW.out (by omega)).cell 0 rfl
              have t1 : wr.cell? ⟨w8.heap.size, 1, none⟩ = some (.slice (some ⟨D, 0, none⟩) (u.fn k).nn (u.fn k).nn) := (HT1.out.keep HW.out (by omega)).cell 1 rfl
              have HBw8 : Hid (Below w8.heap.size w8 wr) := HB81.out.trans (HW.out.mono (by omega))
              by_cases hro : RefsOk u k m
              · have hdb : dB (RefsOk u k m) = true := dB_true hro
                have HRO : Hid (RefsOk u k m) := hro
                clear hro
                go_wp2_with (go_at_call 49; refine (l3refs_calls 0 u _ cap k m (fas k) P D (w8.heap.size + 1) w8 _ hmn HP8.out (by omega) HBw8.out (fdok_of H5.out HS.out hkn) hun HSR.out).mono ?_; rintro e w9 ⟨b9, rfl, hb9, hr9, hbel9⟩; obtain rfl : b9 = true := hb9.trans hdb; replace hr9 := hr9 rfl; have HR9 : Hid (SeenRow w9 (w8.heap.size + 1) (u.fn k) (m + 1) 0) := hr9; have HB9 : Hid (Below (w8.heap.size + 1) w1 w9) := HW.out.trans hbel9; clear hr9 hbel9 hb9)
                go_roundw
                case rel => exact ⟨m + 1, by omega, by go_num, fun j hj => by
                  by_cases e : j = m
                  · subst e; exact HRO.out
                  · exact HN.out j (by omega), HB9, HR9⟩
                case measure => simp [intOf]; omega
              · have hdb : dB (RefsOk u k m) = false := dB_false hro
                have HL : Hid (Least (BadS u) ⟨6, k, m⟩) := bs_six hkn hmn H6.out HN.out hro
                clear hro
                go_wp2_with (first | (go_at_call 49; refine (l3refs_calls 0 u _ cap k m (fas k) P D (w8.heap.size + 1) w8 _ hmn HP8.out (by omega) HBw8.out (fdok_of H5.out HS.out hkn) hun HSR.out).mono ?_; rintro e w9 ⟨b9, rfl, hb9, hr9, hbel9⟩; obtain rfl : b9 = false := hb9.trans hdb; have HB9 : Hid (Below (fxW w u (some ⟨b, off, none⟩) cap).heap.size (fxW w u (some ⟨b, off, none⟩) cap) w9) := HBr.out.trans (hbel9.mono (by omega)); clear hr9 hbel9 hb9) | (go_at_call 45; refine (l3fault_calls _ _ _ _).mono ?_; rintro e wf ⟨rfl, hbf⟩; have HBf : Hid (Below (fxW w u (some ⟨b, off, none⟩) cap).heap.size (fxW w u (some ⟨b, off, none⟩) cap) wf) := below_call HB9.out hbf; have s0 := (fx_row HBf.out).cell (i := 0) (by omega); have s1 := (fx_row HBf.out).cell (i := 1) (by omega); have s2 := (fx_row HBf.out).cell (i := 2) (by omega); have sz := (fx_row HBf.out).frozen))
                refine bodyPost_ret (v := ftV ⟨6, k, m⟩) (by simp [results, Tryz.results27, go_sem, s0, s1, s2]) rfl ?_
                exact FtPost.of HL.out (fx_out (fx_below HBf.out) _ _ _)
            · obtain rfl : m = (u.fn k).nn := by omega
              go_wp2_with fail
              go_roundw
              case rel => exact ⟨k + 1, by omega, by go_num, fun j hj => by
                by_cases e : j = k
                · subst e; exact HN.out
                · exact H6.out j (by omega), HBr⟩
              case measure => simp [intOf]; omega
    · obtain rfl : k = u.n := by omega
      have f0 : wr.cell? ⟨w.heap.size, 0, none⟩ = some (.slice (some ⟨b, off, none⟩) u.n cap) := (fx_u HB.out).cell 0 rfl
      go_wp2_with fail
      clear f0 hk hkn
      have HB0 : Hid (Below (fxW w u (some ⟨b, off, none⟩) cap).heap.size (fxW w u (some ⟨b, off, none⟩) cap) wr) := HB
      clear HB
      go_loopw [66] (fun i wr => ∃ (k : Nat), k ≤ u.n ∧ i = .int .i64 k ∧ Hid (∀ f', f' < k → ∀ n', n' < (u.fn f').nn → ¬ JumpBad (u.fn f') n') ∧ Hid (Below (fxW w u (some ⟨b, off, none⟩) cap).heap.size (fxW w u (some ⟨b, off, none⟩) cap) wr)) (fun i _ => u.n - (intOf i).toNat)
      case atStart => exact ⟨0, Nat.zero_le _, rfl, fun f' hf' => by omega, HB0⟩
      case round =>
        clear HB0
        obtain ⟨k, hk, rfl, H7, HB⟩ := hrel
        by_cases hkn : k < u.n
        · have HTr : Hid (FnsAt L wr u.n u.fn (some ⟨b, off, none⟩) fas) := HT.out.below (fx_below HB.out)
          obtain ⟨b', off', e0, _, hbz, d0, d1, d2, d3, d4, d5, d6⟩ := cells7 HTr.out.1 hkn
          obtain ⟨rfl, rfl⟩ : b = b' ∧ off = off' := by simpa using e0
          clear e0
          have hnn := H5.out.nn hkn
          rename World => wa
          go_wp2_with (go_at_call 48; refine (grow2_calls L (u.fn k) (fas k) _ hnn.1 hnn.2 (H5.out.kids hkn) (HS.out.fn k hkn) ((HTr.out.2 k hkn).alloc _)).mono ?_; rintro e w8 ⟨P, D, rfl, hP, hb8⟩; have HX8 : Hid (Has w8 wa.heap.size (fnC (u.fn k) (fas k))) := Has.made hb8; have y2 : w8.cell? ⟨wa.heap.size, 2, none⟩ = some (.int .i64 (u.fn k).params) := HX8.out.cell 2 rfl; have y4 : w8.cell? ⟨wa.heap.size, 4, none⟩ = some (.slice (fas k).va (u.fn k).vn (fas k).vc) := HX8.out.cell 4 rfl; have y6 : w8.cell? ⟨wa.heap.size, 6, none⟩ = some (.slice (fas k).na (u.fn k).nn (fas k).nc) := HX8.out.cell 6 rfl; have hx8 : wa.heap.size < w8.heap.size := HX8.out.lt)
          clear y2 y4 y6 d0 d1 d2 d3 d4 d5 d6
          have HB1 : Hid (Below (fxW w u (some ⟨b, off, none⟩) cap).heap.size (fxW w u (some ⟨b, off, none⟩) cap) (w8.alloc (.cells (treeC P D (u.fn k).nn) 79))) := below_a' (below_call HB.out (below_call (below_alloc _ _) hb8)) _
          have HX1 : Hid (Has (w8.alloc (.cells (treeC P D (u.fn k).nn) 79)) wa.heap.size (fnC (u.fn k) (fas k))) := HX8.out.alloc _
          have HT1 : Hid (Has (w8.alloc (.cells (treeC P D (u.fn k).nn) 79)) w8.heap.size (treeC P D (u.fn k).nn)) := Has.new _ _ _
          have HP1 : Hid (IntsAt 0 (w8.alloc (.cells (treeC P D (u.fn k).nn) 79)) (some ⟨P, 0, none⟩) (u.fn k).nn (parP (u.fn k).nd (u.fn k).nn)) := RowN.less (RowN.alloc hP _) (Nat.zero_le _)
          clear HB hb8 hP HX8 HTr
          obtain ⟨w1, hw1⟩ : ∃ w1, w1 = w8.alloc (.cells (treeC P D (u.fn k).nn) 79) := ⟨_, rfl⟩
          rw [← hw1] at HB1 HX1 HT1 HP1
          rw [← hw1]
          clear hw1
          go_loopw [77] (fun i wr => ∃ (m : Nat), m ≤ (u.fn k).nn ∧ i = .int .i64 m ∧ Hid (∀ n', n' < m → ¬ JumpBad (u.fn k) n') ∧ Hid (Below w1.heap.size w1 wr)) (fun i _ => (u.fn k).nn - (intOf i).toNat)
          case atStart => exact ⟨0, Nat.zero_le _, rfl, fun f' hf' => by omega, Below.refl _ _⟩
          case round =>
            obtain ⟨m, hm, rfl, HN, HW⟩ := hrel
            have HBr : Hid (Below (fxW w u (some ⟨b, off, none⟩) cap).heap.size (fxW w u (some ⟨b, off, none⟩) cap) wr) := below_call HB1.out HW.out
            by_cases hmn : m < (u.fn k).nn
            · have HTr : Hid (FnsAt L wr u.n u.fn (some ⟨b, off, none⟩) fas) := HT.out.below (fx_below HBr.out)
              have HTS : Hid (TS 0 wr (u.fn k) (fas k) P) := ⟨(HTr.out.2 k hkn).less (Nat.zero_le _), RowN.below HP1.out HW.out⟩
              have x0 : wr.cell? ⟨wa.heap.size, 0, none⟩ = some (.string (u.fn k).name) := (HX1.out.call HW.out).cell 0 rfl
              have x1 : wr.cell? ⟨wa.heap.size, 1, none⟩ = some (.int .i64 (u.fn k).line) := (HX1.out.call HW.out).cell 1 rfl
              have x2 : wr.cell? ⟨wa.heap.size, 2, none⟩ = some (.int .i64 (u.fn k).params) := (HX1.out.call HW.out).cell 2 rfl
              have x3 : wr.cell? ⟨wa.heap.size, 3, none⟩ = some (.bool (u.fn k).rest) := (HX1.out.call HW.out).cell 3 rfl
              have x4 : wr.cell? ⟨wa.heap.size, 4, none⟩ = some (.slice (fas k).va (u.fn k).vn (fas k).vc) := (HX1.out.call HW.out).cell 4 rfl
              have x5 : wr.cell? ⟨wa.heap.size, 5, none⟩ = some (.slice (fas k).ua (u.fn k).un (fas k).uc) := (HX1.out.call HW.out).cell 5 rfl
              have x6 : wr.cell? ⟨wa.heap.size, 6, none⟩ = some (.slice (fas k).na (u.fn k).nn (fas k).nc) := (HX1.out.call HW.out).cell 6 rfl
              have t0 : wr.cell? ⟨w8.heap.size, 0, none⟩ = some (.slice (some ⟨P, 0, none⟩) (u.fn k).nn (u.fn k).nn) := (HT1.out.call HW.out).cell 0 rfl
              have t1 : wr.cell? ⟨w8.heap.size, 1, none⟩ = some (.slice (some ⟨D, 0, none⟩) (u.fn k).nn (u.fn k).nn) := (HT1.out.call HW.out).cell 1 rfl
              obtain ⟨b2, o2, e2, _, hb2, g0, _, _, _, _, _, _, _⟩ := cells8 (HTr.out.2 k hkn).2.2.1 hmn
              have HTX : Hid (TS 0 wr (u.fn k) (faS (fas k) b2 o2) P) := by show TS _ _ _ _ _; rw [faS_eq e2]; exact HTS.out
              rw [e2] at x6
              clear e2
              by_cases hj : ((u.fn k).nd m).k = 9 ∨ ((u.fn k).nd m).k = 10
              · by_cases hin : InL (u.fn k).nd (u.fn k).nn m
                · have hdb : dB (InL (u.fn k).nd (u.fn k).nn m) = true := dB_true hin
                  have HG : Hid (¬ JumpBad (u.fn k) m) := fun h => h.2 hin
                  clear hin
                  rcases hj with h9 | h9
                  · have q9 : (((u.fn k).nd m).k == 9) = true := by rw [h9]; rfl
                    clear h9
                    go_wp2_with (go_at_call 50; refine (l3inloop_calls 0 (u.fn k) (faS (fas k) b2 o2) P D m _ hmn HTX.out (fdok_of H5.out HS.out hkn)).mono ?_; rw [hdb]; rintro e w9 ⟨rfl, hb9⟩; have HB9 : Hid (Below (fxW w u (some ⟨b, off, none⟩) cap).heap.size (fxW w u (some ⟨b, off, none⟩) cap) w9) := below_call HBr.out hb9)
                    go_roundw
                    case rel => exact ⟨m + 1, by omega, by go_num, fun j hj => by
                      by_cases e : j = m
                      · subst e; exact HG.out
                      · exact HN.out j (by omega), below_call HW.out hb9⟩
                    case measure => simp [intOf]; omega
                  · have q9 : (((u.fn k).nd m).k == 9) = false := by rw [h9]; rfl
                    have q10 : (((u.fn k).nd m).k == 10) = true := by rw [h9]; rfl
                    clear h9
                    go_wp2_with (go_at_call 50; refine (l3inloop_calls 0 (u.fn k) (faS (fas k) b2 o2) P D m _ hmn HTX.out (fdok_of H5.out HS.out hkn)).mono ?_; rw [hdb]; rintro e w9 ⟨rfl, hb9⟩; have HB9 : Hid (Below (fxW w u (some ⟨b, off, none⟩) cap).heap.size (fxW w u (some ⟨b, off, none⟩) cap) w9) := below_call HBr.out hb9)
                    go_roundw
                    case rel => exact ⟨m + 1, by omega, by go_num, fun j hj => by
                      by_cases e : j = m
                      · subst e; exact HG.out
                      · exact HN.out j (by omega), below_call HW.out hb9⟩
                    case measure => simp [intOf]; omega
                · have hdb : dB (InL (u.fn k).nd (u.fn k).nn m) = false := dB_false hin
                  have HL : Hid (Least (BadS u) ⟨7, k, m⟩) := bs_seven hkn hmn H6.out H7.out HN.out ⟨hj, hin⟩
                  clear hin
                  rcases hj with h9 | h9
                  · have q9 : (((u.fn k).nd m).k == 9) = true := by rw [h9]; rfl
                    clear h9
                    go_wp2_with (first | (go_at_call 50; refine (l3inloop_calls 0 (u.fn k) (faS (fas k) b2 o2) P D m _ hmn HTX.out (fdok_of H5.out HS.out hkn)).mono ?_; rw [hdb]; rintro e w9 ⟨rfl, hb9⟩; have HB9 : Hid (Below (fxW w u (some ⟨b, off, none⟩) cap).heap.size (fxW w u (some ⟨b, off, none⟩) cap) w9) := below_call HBr.out hb9) | (go_at_call 45; refine (l3fault_calls _ _ _ _).mono ?_; rintro e wf ⟨rfl, hbf⟩; have HBf : Hid (Below (fxW w u (some ⟨b, off, none⟩) cap).heap.size (fxW w u (some ⟨b, off, none⟩) cap) wf) := below_call HB9.out hbf; have s0 := (fx_row HBf.out).cell (i := 0) (by omega); have s1 := (fx_row HBf.out).cell (i := 1) (by omega); have s2 := (fx_row HBf.out).cell (i := 2) (by omega); have sz := (fx_row HBf.out).frozen))
                    refine bodyPost_ret (v := ftV ⟨7, k, m⟩) (by simp [results, Tryz.results27, go_sem, s0, s1, s2]) rfl ?_
                    exact FtPost.of HL.out (fx_out (fx_below HBf.out) _ _ _)
                  · have q9 : (((u.fn k).nd m).k == 9) = false := by rw [h9]; rfl
                    have q10 : (((u.fn k).nd m).k == 10) = true := by rw [h9]; rfl
                    clear h9
                    go_wp2_with (first | (go_at_call 50; refine (l3inloop_calls 0 (u.fn k) (faS (fas k) b2 o2) P D m _ hmn HTX.out (fdok_of H5.out HS.out hkn)).mono ?_; rw [hdb]; rintro e w9 ⟨rfl, hb9⟩; have HB9 : Hid (Below (fxW w u (some ⟨b, off, none⟩) cap).heap.size (fxW w u (some ⟨b, off, none⟩) cap) w9) := below_call HBr.out hb9) | (go_at_call 45; refine (l3fault_calls _ _ _ _).mono ?_; rintro e wf ⟨rfl, hbf⟩; have HBf : Hid (Below (fxW w u (some ⟨b, off, none⟩) cap).heap.size (fxW w u (some ⟨b, off, none⟩) cap) wf) := below_call HB9.out hbf; have s0 := (fx_row HBf.out).cell (i := 0) (by omega); have s1 := (fx_row HBf.out).cell (i := 1) (by omega); have s2 := (fx_row HBf.out).cell (i := 2) (by omega); have sz := (fx_row HBf.out).frozen))
                    refine bodyPost_ret (v := ftV ⟨7, k, m⟩) (by simp [results, Tryz.results27, go_sem, s0, s1, s2]) rfl ?_
                    exact FtPost.of HL.out (fx_out (fx_below HBf.out) _ _ _)
              · have q9 : (((u.fn k).nd m).k == 9) = false := by simp; omega
                have q10 : (((u.fn k).nd m).k == 10) = false := by simp; omega
                have HG : Hid (¬ JumpBad (u.fn k) m) := fun h => hj h.1
                clear hj
                go_wp2_with fail
                go_roundw
                case rel => exact ⟨m + 1, by omega, by go_num, fun j hj => by
                  by_cases e : j = m
                  · subst e; exact HG.out
                  · exact HN.out j (by omega), HW⟩
                case measure => simp [intOf]; omega
            · obtain rfl : m = (u.fn k).nn := by omega
              go_wp2_with fail
              go_roundw
              case rel => exact ⟨k + 1, by omega, by go_num, fun j hj => by
                by_cases e : j = k
                · subst e; exact HN.out
                · exact H7.out j (by omega), HBr⟩
              case measure => simp [intOf]; omega
        · obtain rfl : k = u.n := by omega
          have f0 : wr.cell? ⟨w.heap.size, 0, none⟩ = some (.slice (some ⟨b, off, none⟩) u.n cap) := (fx_u HB.out).cell 0 rfl
          have hfu : w.heap.size < wr.heap.size := (fx_u HB.out).lt
          have hmk := fun v => run_make_row' (P := Tryz.prog) 81 4 (.bool false) 1 Tryz.underlying81 infoBool rfl .i64 .i64 u.n (by omega) (by omega) v
          go_wp2_with fail
          clear f0 hk hkn hmk
          rename World => wm
          obtain ⟨w3, hw3⟩ : ∃ w3, w3 = wm.alloc (.cells (madeCells #[.bool false] u.n) 4) := ⟨_, rfl⟩
          have HBm : Hid (Below (fxW w u (some ⟨b, off, none⟩) cap).heap.size (fxW w u (some ⟨b, off, none⟩) cap) w3) := by show Below _ _ _; rw [hw3]; exact below_a' HB.out _
          have HR3 : Hid (MadeRow w3 wm.heap.size u 0 0) := by
            show World.rowIs _ _ _ _ _
            rw [hw3]
            exact (rowMade _ _ _ rfl).congr fun i _ => by rw [dB_false made_zero]
          have hfm : (fxW w u (some ⟨b, off, none⟩) cap).heap.size ≤ wm.heap.size := HB.out.size
          have hfm2 : w.heap.size + 1 < wm.heap.size := by simp at hfm; omega
          have hm3 : wm.heap.size < w3.heap.size := World.rowIs.lt HR3.out
          rw [← hw3]
          clear hw3 HB
          go_loopw [111] (fun i wr => ∃ (k : Nat), k ≤ u.n ∧ i = .int .i64 k ∧ Hid (∀ f', f' < k → ∀ n', n' < (u.fn f').nn → ¬ EightBad u f' n') ∧ Hid (Below wm.heap.size w3 wr) ∧ Hid (MadeRow wr wm.heap.size u k 0)) (fun i _ => u.n - (intOf i).toNat)
          case atStart => exact ⟨0, Nat.zero_le _, rfl, fun f' hf' => by omega, Below.refl _ _, HR3⟩
          case round =>
            clear HR3
            obtain ⟨k, hk, rfl, H8, HW, HM⟩ := hrel
            have HB : Hid (Below (fxW w u (some ⟨b, off, none⟩) cap).heap.size (fxW w u (some ⟨b, off, none⟩) cap) wr) := HBm.out.trans (HW.out.mono hfm)
            by_cases hkn : k < u.n
            · have HTr : Hid (FnsAt L wr u.n u.fn (some ⟨b, off, none⟩) fas) := HT.out.below (fx_below HB.out)
              obtain ⟨b', off', e0, _, hbz, d0, d1, d2, d3, d4, d5, d6⟩ := cells7 HTr.out.1 hkn
              obtain ⟨rfl, rfl⟩ : b = b' ∧ off = off' := by simpa using e0
              clear e0
              have hnn := H5.out.nn hkn
              have hMw : wm.heap.size < wr.heap.size := Nat.lt_of_lt_of_le hm3 HW.out.size
              rename World => wa
              go_wp2_with (go_at_call 48; refine (grow2_calls L (u.fn k) (fas k) _ hnn.1 hnn.2 (H5.out.kids hkn) (HS.out.fn k hkn) ((HTr.out.2 k hkn).alloc _)).mono ?_; rintro e w8 ⟨P, D, rfl, hP, hb8⟩; have HX8 : Hid (Has w8 wa.heap.size (fnC (u.fn k) (fas k))) := Has.made hb8; have y2 : w8.cell? ⟨wa.heap.size, 2, none⟩ = some (.int .i64 (u.fn k).params) := HX8.out.cell 2 rfl; have y4 : w8.cell? ⟨wa.heap.size, 4, none⟩ = some (.slice (fas k).va (u.fn k).vn (fas k).vc) := HX8.out.cell 4 rfl; have y6 : w8.cell? ⟨wa.heap.size, 6, none⟩ = some (.slice (fas k).na (u.fn k).nn (fas k).nc) := HX8.out.cell 6 rfl; have hx8 : wa.heap.size < w8.heap.size := HX8.out.lt)
              clear y2 y4 y6 d0 d1 d2 d3 d4 d5 d6
              have HBa : Hid (Below wa.heap.size wa (w8.alloc (.cells (treeC P D (u.fn k).nn) 79))) := below_a' (below_call (below_alloc _ _) hb8) _
              have HW1 : Hid (Below wm.heap.size w3 (w8.alloc (.cells (treeC P D (u.fn k).nn) 79))) := HW.out.trans (HBa.out.mono (by omega))
              have HX1 : Hid (Has (w8.alloc (.cells (treeC P D (u.fn k).nn) 79)) wa.heap.size (fnC (u.fn k) (fas k))) := HX8.out.alloc _
              have HT1 : Hid (Has (w8.alloc (.cells (treeC P D (u.fn k).nn) 79)) w8.heap.size (treeC P D (u.fn k).nn)) := Has.new _ _ _
              have HP1 : Hid (IntsAt (wm.heap.size + 1) (w8.alloc (.cells (treeC P D (u.fn k).nn) 79)) (some ⟨P, 0, none⟩) (u.fn k).nn (parP (u.fn k).nd (u.fn k).nn)) := RowN.less (RowN.alloc hP _) (by simp; omega)
              have HM1 : Hid (MadeRow (w8.alloc (.cells (treeC P D (u.fn k).nn) 79)) wm.heap.size u k 0) := HM.out.below HBa.out
              clear HB hb8 hP HX8 HTr HW HM HBa
              obtain ⟨w1, hw1⟩ : ∃ w1, w1 = w8.alloc (.cells (treeC P D (u.fn k).nn) 79) := ⟨_, rfl⟩
              rw [← hw1] at HW1 HX1 HT1 HP1 HM1
              rw [← hw1]
              clear hw1
              go_loopw [122] (fun i wr => ∃ (m : Nat), m ≤ (u.fn k).nn ∧ i = .int .i64 m ∧ Hid (∀ n', n' < m → ¬ EightBad u k n') ∧ Hid (Below wm.heap.size w3 wr) ∧ Hid (Has wr wa.heap.size (fnC (u.fn k) (fas k))) ∧ Hid (Has wr w8.heap.size (treeC P D (u.fn k).nn)) ∧ Hid (IntsAt (wm.heap.size + 1) wr (some ⟨P, 0, none⟩) (u.fn k).nn (parP (u.fn k).nd (u.fn k).nn)) ∧ Hid (MadeRow wr wm.heap.size u k m)) (fun i _ => (u.fn k).nn - (intOf i).toNat)
              case atStart => exact ⟨0, Nat.zero_le _, rfl, fun f' hf' => by omega, HW1, HX1, HT1, HP1, HM1⟩
              case round =>
                clear HW1 HX1 HT1 HP1 HM1
                obtain ⟨m, hm, rfl, HN, HW, HX, HTt, HP, HM⟩ := hrel
                have HB : Hid (Below (fxW w u (some ⟨b, off, none⟩) cap).heap.size (fxW w u (some ⟨b, off, none⟩) cap) wr) := HBm.out.trans (HW.out.mono hfm)
                by_cases hmn : m < (u.fn k).nn
                · have HTr : Hid (FnsAt L wr u.n u.fn (some ⟨b, off, none⟩) fas) := HT.out.below (fx_below HB.out)
                  have x3 : wr.cell? ⟨wa.heap.size, 3, none⟩ = some (.bool (u.fn k).rest) := HX.out.cell 3 rfl
                  have x6 : wr.cell? ⟨wa.heap.size, 6, none⟩ = some (.slice (fas k).na (u.fn k).nn (fas k).nc) := HX.out.cell 6 rfl
                  have t0 : wr.cell? ⟨w8.heap.size, 0, none⟩ = some (.slice (some ⟨P, 0, none⟩) (u.fn k).nn (u.fn k).nn) := HTt.out.cell 0 rfl
                  have t1 : wr.cell? ⟨w8.heap.size, 1, none⟩ = some (.slice (some ⟨D, 0, none⟩) (u.fn k).nn (u.fn k).nn) := HTt.out.cell 1 rfl
                  have f0 : wr.cell? ⟨w.heap.size, 0, none⟩ = some (.slice (some ⟨b, off, none⟩) u.n cap) := (fx_u HB.out).cell 0 rfl
                  obtain ⟨b2, o2, e2, _, hb2, g0, _, _, _, _, _, g6, _⟩ := cells8 (HTr.out.2 k hkn).2.2.1 hmn
                  rw [e2] at x6
                  clear e2
                  by_cases h37 : ((u.fn k).nd m).k = 37
                  · have q37 : (((u.fn k).nd m).k == 37) = true := by rw [h37]; rfl
                    have q36 : (((u.fn k).nd m).k != 36) = true := by rw [h37]; rfl
                    cases hre : (u.fn k).rest
                    · have HL : Hid (Least (BadS u) ⟨8, k, m⟩) := bs_eight hkn hmn H6.out H7.out H8.out HN.out (.inl (.inl ⟨h37, hre⟩))
                      rw [hre] at x3
                      clear h37 hre
                      go_wp2_with (go_at_call 45; refine (l3fault_calls _ _ _ _).mono ?_; rintro e wf ⟨rfl, hbf⟩; have HBf : Hid (Below (fxW w u (some ⟨b, off, none⟩) cap).heap.size (fxW w u (some ⟨b, off, none⟩) cap) wf) := below_call HB.out hbf; have s0 := (fx_row HBf.out).cell (i := 0) (by omega); have s1 := (fx_row HBf.out).cell (i := 1) (by omega); have s2 := (fx_row HBf.out).cell (i := 2) (by omega); have sz := (fx_row HBf.out).frozen)
                      refine bodyPost_ret (v := ftV ⟨8, k, m⟩) (by simp [results, Tryz.results27, go_sem, s0, s1, s2]) rfl ?_
                      exact FtPost.of HL.out (fx_out (fx_below HBf.out) _ _ _)
                    · have HG : Hid (¬ EightBad u k m) := by
                        show ¬ EightBad u k m
                        rintro ((⟨_, h⟩ | ⟨h, _⟩) | ⟨h, _⟩)
                        · rw [hre] at h; cases h
                        · omega
                        · omega
                      have HM2 : Hid (MadeRow wr wm.heap.size u k (m + 1)) := HM.out.skip hkn hmn (by omega)
                      rw [hre] at x3
                      clear h37 hre
                      go_wp2_with fail
                      go_roundw
                      case rel => exact ⟨m + 1, by omega, by go_num, fun j hj => by
                        by_cases e : j = m
                        · subst e; exact HG.out
                        · exact HN.out j (by omega), HW, HX, HTt, HP, HM2⟩
                      case measure => simp [intOf]; omega
                  have q37 : (((u.fn k).nd m).k == 37) = false := by simpa using h37
                  by_cases h36 : ((u.fn k).nd m).k = 36
                  · have q36 : (((u.fn k).nd m).k != 36) = false := by rw [h36]; rfl
                    have hin := (H6.out k hkn m hmn).2.1 h36
                    have hrn := (H5.out.facts hkn hmn).one (.inr (.inr (.inl h36)))
                    obtain ⟨g, hg⟩ : ∃ g : Nat, ((u.fn k).nd m).r 0 = g := ⟨(((u.fn k).nd m).r 0).toNat, by have := hin.1; omega⟩
                    have hgn : g < u.n := by have := hin.2; omega
                    obtain ⟨b3, o3, e3, _, hb3, r0⟩ := cells1 ((HTr.out.2 k hkn).2.2.2 m hmn).1 (show 0 < ((u.fn k).nd m).rn by omega)
                    rw [e3, hrn] at g6
                    rw [Nat.add_zero, hg] at r0
                    have HK : Hid (((u.fn k).nd m).k = 36 ∧ ((u.fn k).nd m).r 0 = g ∧ InR (((u.fn k).nd m).r 0) u.n) := ⟨h36, hg, hin⟩
                    clear h37 h36 hin hrn hg e3
                    have hmr := World.rowIs.lt HM.out
                    by_cases c1 : g ≤ k
                    · have HL : Hid (Least (BadS u) ⟨8, k, m⟩) := bs_eight hkn hmn H6.out H7.out H8.out HN.out (.inl (.inr ⟨HK.out.1, HK.out.2.2, .inl (by rw [HK.out.2.1]; omega)⟩))
                      go_wp2_with (go_at_call 45; refine (l3fault_calls _ _ _ _).mono ?_; rintro e wf ⟨rfl, hbf⟩; have HBf : Hid (Below (fxW w u (some ⟨b, off, none⟩) cap).heap.size (fxW w u (some ⟨b, off, none⟩) cap) wf) := below_call HB.out hbf; have s0 := (fx_row HBf.out).cell (i := 0) (by omega); have s1 := (fx_row HBf.out).cell (i := 1) (by omega); have s2 := (fx_row HBf.out).cell (i := 2) (by omega); have sz := (fx_row HBf.out).frozen)
                      refine bodyPost_ret (v := ftV ⟨8, k, m⟩) (by simp [results, Tryz.results27, go_sem, s0, s1, s2]) rfl ?_
                      exact FtPost.of HL.out (fx_out (fx_below HBf.out) _ _ _)
                    have m0 := World.rowIs.cell HM.out (i := g) hgn
                    have mz := World.rowIs.frozen HM.out
                    by_cases c2 : MadeBefore u k m g
                    · have HL : Hid (Least (BadS u) ⟨8, k, m⟩) := bs_eight hkn hmn H6.out H7.out H8.out HN.out (.inr ⟨HK.out.1, HK.out.2.2, by rw [HK.out.2.1]; exact c2⟩)
                      rw [dB_true c2] at m0
                      clear c2
                      go_wp2_with (go_at_call 45; refine (l3fault_calls _ _ _ _).mono ?_; rintro e wf ⟨rfl, hbf⟩; have HBf : Hid (Below (fxW w u (some ⟨b, off, none⟩) cap).heap.size (fxW w u (some ⟨b, off, none⟩) cap) wf) := below_call HB.out hbf; have s0 := (fx_row HBf.out).cell (i := 0) (by omega); have s1 := (fx_row HBf.out).cell (i := 1) (by omega); have s2 := (fx_row HBf.out).cell (i := 2) (by omega); have sz := (fx_row HBf.out).frozen)
                      refine bodyPost_ret (v := ftV ⟨8, k, m⟩) (by simp [results, Tryz.results27, go_sem, s0, s1, s2]) rfl ?_
                      exact FtPost.of HL.out (fx_out (fx_below HBf.out) _ _ _)
                    rw [dB_false c2] at m0
                    have C2 : Hid (¬ MadeBefore u k m g) := c2
                    clear c2
                    by_cases c3 : UpsOk u k m g
                    · have hdb : dB (UpsOk u k m g) = true := dB_true c3
                      have HG : Hid (¬ EightBad u k m) := by
                        show ¬ EightBad u k m
                        rintro ((⟨h, _⟩ | ⟨_, _, h⟩) | ⟨_, _, h⟩)
                        · have := HK.out.1; omega
                        · rw [HK.out.2.1] at h
                          rcases h with h | h
                          · omega
                          · exact h c3
                        · rw [HK.out.2.1] at h
                          exact C2.out h
                      clear c3
                      go_wp2_with (go_at_call 51; refine (l3ups_calls 0 u _ cap fas k m g P D _ hkn hgn hmn HS.out (HTr.out.less (Nat.zero_le _)) (RowN.less HP.out (Nat.zero_le _)) (fdok_of H5.out HS.out hkn)).mono ?_; rw [hdb]; rintro e w9 ⟨rfl, hb9⟩; have HB9 : Hid (Below (fxW w u (some ⟨b, off, none⟩) cap).heap.size (fxW w u (some ⟨b, off, none⟩) cap) w9) := below_call HB.out hb9; have HM9 : Hid (MadeRow w9 wm.heap.size u k m) := HM.out.below hb9; have n0 := World.rowIs.cell HM9.out (i := g) hgn; have nz := World.rowIs.frozen HM9.out; rw [dB_false C2.out] at n0)
                      have HM2 : Hid (MadeRow (w9.setCell ⟨wm.heap.size, g, none⟩ (.bool true)) wm.heap.size u k (m + 1)) := MadeRow.set hkn hmn HM9.out HK.out.1 HK.out.2.1
                      have HX2 : Hid (Has (w9.setCell ⟨wm.heap.size, g, none⟩ (.bool true)) wa.heap.size (fnC (u.fn k) (fas k))) := (HX.out.call hb9).far (show wm.heap.size ≠ wa.heap.size by omega) _
                      have HT2 : Hid (Has (w9.setCell ⟨wm.heap.size, g, none⟩ (.bool true)) w8.heap.size (treeC P D (u.fn k).nn)) := (HTt.out.call hb9).far (show wm.heap.size ≠ w8.heap.size by omega) _
                      have HP2 : Hid (IntsAt (wm.heap.size + 1) (w9.setCell ⟨wm.heap.size, g, none⟩ (.bool true)) (some ⟨P, 0, none⟩) (u.fn k).nn (parP (u.fn k).nd (u.fn k).nn)) := RowN.set (RowN.below HP.out hb9) (p := ⟨wm.heap.size, g, none⟩) (show wm.heap.size < wm.heap.size + 1 by omega) _
                      have HW2 : Hid (Below wm.heap.size w3 (w9.setCell ⟨wm.heap.size, g, none⟩ (.bool true))) := frS (HW.out.trans (hb9.mono (by omega))) (Nat.le_refl _) _
                      go_roundw
                      case rel => exact ⟨m + 1, by omega, by go_num, fun j hj => by
                        by_cases e : j = m
                        · subst e; exact HG.out
                        · exact HN.out j (by omega), HW2, HX2, HT2, HP2, HM2⟩
                      case measure => simp [intOf]; omega
                    · have hdb : dB (UpsOk u k m g) = false := dB_false c3
                      have HL : Hid (Least (BadS u) ⟨8, k, m⟩) := bs_eight hkn hmn H6.out H7.out H8.out HN.out (.inl (.inr ⟨HK.out.1, HK.out.2.2, .inr (by rw [HK.out.2.1]; exact c3)⟩))
                      clear c3
                      go_wp2_with (first | (go_at_call 51; refine (l3ups_calls 0 u _ cap fas k m g P D _ hkn hgn hmn HS.out (HTr.out.less (Nat.zero_le _)) (RowN.less HP.out (Nat.zero_le _)) (fdok_of H5.out HS.out hkn)).mono ?_; rw [hdb]; rintro e w9 ⟨rfl, hb9⟩; have HB9 : Hid (Below (fxW w u (some ⟨b, off, none⟩) cap).heap.size (fxW w u (some ⟨b, off, none⟩) cap) w9) := below_call HB.out hb9; have HM9 : Hid (MadeRow w9 wm.heap.size u k m) := HM.out.below hb9; have n0 := World.rowIs.cell HM9.out (i := g) hgn; have nz := World.rowIs.frozen HM9.out; rw [dB_false C2.out] at n0) | (go_at_call 45; refine (l3fault_calls _ _ _ _).mono ?_; rintro e wf ⟨rfl, hbf⟩; have HBf : Hid (Below (fxW w u (some ⟨b, off, none⟩) cap).heap.size (fxW w u (some ⟨b, off, none⟩) cap) wf) := below_call HB9.out hbf; have s0 := (fx_row HBf.out).cell (i := 0) (by omega); have s1 := (fx_row HBf.out).cell (i := 1) (by omega); have s2 := (fx_row HBf.out).cell (i := 2) (by omega); have sz := (fx_row HBf.out).frozen))
                      refine bodyPost_ret (v := ftV ⟨8, k, m⟩) (by simp [results, Tryz.results27, go_sem, s0, s1, s2]) rfl ?_
                      exact FtPost.of HL.out (fx_out (fx_below HBf.out) _ _ _)
                  · have q36 : (((u.fn k).nd m).k != 36) = true := by simpa using h36
                    have HG : Hid (¬ EightBad u k m) := by
                      show ¬ EightBad u k m
                      rintro ((⟨h, _⟩ | ⟨h, _⟩) | ⟨h, _⟩)
                      · exact h37 h
                      · exact h36 h
                      · exact h36 h
                    have HM2 : Hid (MadeRow wr wm.heap.size u k (m + 1)) := HM.out.skip hkn hmn h36
                    clear h37 h36
                    go_wp2_with fail
                    go_roundw
                    case rel => exact ⟨m + 1, by omega, by go_num, fun j hj => by
                      by_cases e : j = m
                      · subst e; exact HG.out
                      · exact HN.out j (by omega), HW, HX, HTt, HP, HM2⟩
                    case measure => simp [intOf]; omega
                · obtain rfl : m = (u.fn k).nn := by omega
                  have HM2 : Hid (MadeRow wr wm.heap.size u (k + 1) 0) := HM.out.congr fun v => made_next.symm
                  go_wp2_with fail
                  go_roundw
                  case rel => exact ⟨k + 1, by omega, by go_num, fun j hj => by
                    by_cases e : j = k
                    · subst e; exact HN.out
                    · exact H8.out j (by omega), HW, HM2⟩
                  case measure => simp [intOf]; omega
            · obtain rfl : k = u.n := by omega
              go_wp2_with fail
              have HW0 : Hid (Below wm.heap.size w3 wr) := HW
              have HM0 : Hid (MadeRow wr wm.heap.size u u.n 0) := HM
              clear HW HM HB hk hkn
              go_loopw [20] (fun i wr => ∃ (g : Nat), 1 ≤ g ∧ g ≤ u.n ∧ i = .int .i64 g ∧ Hid (∀ f', 1 ≤ f' → f' < g → ∃ p x, MakesAt u p x f') ∧ Hid (Below wm.heap.size w3 wr) ∧ Hid (MadeRow wr wm.heap.size u u.n 0)) (fun i _ => u.n - (intOf i).toNat)
              case atStart => exact ⟨1, Nat.le_refl _, by omega, rfl, fun f' h1 h2 => by omega, HW0, HM0⟩
              case round =>
                clear HW0 HM0
                obtain ⟨g, hg1, hg, rfl, H9, HW, HM⟩ := hrel
                have HB : Hid (Below (fxW w u (some ⟨b, off, none⟩) cap).heap.size (fxW w u (some ⟨b, off, none⟩) cap) wr) := HBm.out.trans (HW.out.mono hfm)
                have f0 : wr.cell? ⟨w.heap.size, 0, none⟩ = some (.slice (some ⟨b, off, none⟩) u.n cap) := (fx_u HB.out).cell 0 rfl
                by_cases hgn : g < u.n
                · have m0 := World.rowIs.cell HM.out (i := g) hgn
                  by_cases c : ∃ p x, MakesAt u p x g
                  · rw [dB_true (made_all.2 c)] at m0
                    have HC : Hid (∃ p x, MakesAt u p x g) := c
                    clear c
                    go_wp2_with fail
                    go_roundw
                    case rel => exact ⟨g + 1, by omega, by omega, by go_num, fun j h1 h2 => by
                      by_cases e : j = g
                      · subst e; exact HC.out
                      · exact H9.out j h1 (by omega), HW, HM⟩
                    case measure => simp [intOf]; omega
                  · have HL : Hid (Least (BadS u) ⟨9, g, 0⟩) := bs_nine hgn hg1 H6.out H7.out H8.out H9.out c
                    rw [dB_false fun h => c (made_all.1 h)] at m0
                    clear c
                    go_wp2_with (go_at_call 45; refine (l3fault_calls _ _ _ _).mono ?_; rintro e wf ⟨rfl, hbf⟩; have HBf : Hid (Below (fxW w u (some ⟨b, off, none⟩) cap).heap.size (fxW w u (some ⟨b, off, none⟩) cap) wf) := below_call HB.out hbf; have s0 := (fx_row HBf.out).cell (i := 0) (by omega); have s1 := (fx_row HBf.out).cell (i := 1) (by omega); have s2 := (fx_row HBf.out).cell (i := 2) (by omega); have sz := (fx_row HBf.out).frozen)
                    refine bodyPost_ret (v := ftV ⟨9, g, 0⟩) (by simp [results, Tryz.results27, go_sem, s0, s1, s2]) rfl ?_
                    exact FtPost.of HL.out (fx_out (fx_below HBf.out) _ _ _)
                · obtain rfl : g = u.n := by omega
                  have HL : Hid (Least (BadS u) ⟨0, 0, 0⟩) := bs_none H6.out H7.out H8.out H9.out
                  have s0 := (fx_row HB.out).cell (i := 0) (by omega)
                  have s1 := (fx_row HB.out).cell (i := 1) (by omega)
                  have s2 := (fx_row HB.out).cell (i := 2) (by omega)
                  have sz := (fx_row HB.out).frozen
                  go_wp2_with fail
                  refine bodyPost_ret (v := ftV ⟨0, 0, 0⟩) (by simp [results, Tryz.results27, go_sem, s0, s1, s2]) rfl ?_
                  exact FtPost.of HL.out (fx_out (fx_below HB.out) _ _ _)
end Go.Proofs.YtcpjnddkibbddaaGreat
