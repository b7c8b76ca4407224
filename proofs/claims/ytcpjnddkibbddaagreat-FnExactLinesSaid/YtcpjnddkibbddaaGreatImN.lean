import Derived.Test.YtcpjnddkibbddaaGreatImO
import Derived.Test.YtcpjnddkibbddaaGreatHdA
/-! The program's check of a unit: how often each is a kid. -/
namespace Go.Proofs.YtcpjnddkibbddaaGreat
open Go.RowKit
attribute [local go_sem] run_store_float
attribute [local go_sem ↓] Go.wp_at_zero Go.wp_at_succ

theorem nodesC_rng {nd : Nat → ND} {n : Nat} (h : ∀ i, i < n → (nd i).kn ≤ 200) : ∀ i, i ≤ n → ∀ x, 0 ≤ nodesC nd i x ∧ nodesC nd i x ≤ (i : Int) * 200
  | 0, _ => fun x => by unfold nodesC; omega
  | i + 1, hi => fun x => by
    have := kidsC_rng nd i (nodesC_rng h i (by omega)) (nd i).kn x
    have h2 := h i (by omega)
    show 0 ≤ kidsC nd i (nodesC nd i) (nd i).kn x ∧ kidsC nd i (nodesC nd i) (nd i).kn x ≤ _
    omega

/-- the row of counts -/
def CRow (w : World) (B n : Nat) (c : Nat → Int) : Prop := w.rowIs B 3 n (fun i => .int .i64 (c i))

set_option maxRecDepth 100000 in
set_option maxHeartbeats 4000000 in
theorem parentsOf_calls (L : Nat) (d : FD) (x : FA) (w : World) (hn : d.nn ≤ 3000) (hK : KidsIn d.nd d.nn) (hk2 : ∀ i, i < d.nn → (d.nd i).kn ≤ 200) (hT : FnAt L w d x) :
    Calls Tryz.prog 59 #[fnV d x] w fun e w' => (∃ B, e = .returned (.slice (some ⟨B, 0, none⟩) d.nn d.nn) ∧ w.heap.size ≤ B ∧ CRow w' B d.nn (nodesC d.nd d.nn)) ∧ Below w.heap.size w w' := by
  have HT : Hid (FnAt L w d x) := hT
  have HK : Hid (KidsIn d.nd d.nn) := hK
  have HK2 : Hid (∀ i, i < d.nn → (d.nd i).kn ≤ 200) := hk2
  clear hT hK hk2
  have hmk := fun v => run_make_row' (P := Tryz.prog) 26 3 (.int .i64 0) 8 Tryz.underlying26 infoInt rfl .i64 .i64 d.nn (by omega) (by omega) v
  go_enter Tryz.func59, Tryz.ntmps59
  go_wp2_with fail
  clear hmk
  obtain ⟨w1, hw1⟩ : ∃ w1, w1 = (w.alloc (.cells (fnC d x) 45)).alloc (.cells (madeCells #[.int .i64 0] d.nn) 3) := ⟨_, rfl⟩
  have HB1 : Hid (Below w.heap.size w w1) := by show Below _ _ _; rw [hw1]; exact below_alloc2 _ _ _
  have HR1 : Hid (CRow w1 (w.heap.size + 1) d.nn (nodesC d.nd 0)) := by
    show World.rowIs _ _ _ _ _
    rw [hw1]
    exact rowMade _ _ _ (by simp)
  have hz1 : w.heap.size + 1 < w1.heap.size := World.rowIs.lt HR1.out
  rw [← hw1]
  clear hw1
  go_loopw [15] (fun i wr => ∃ (k : Nat), k ≤ d.nn ∧ i = .int .i64 k ∧ Hid (Below (w.heap.size + 1) w1 wr) ∧ Hid (CRow wr (w.heap.size + 1) d.nn (nodesC d.nd k))) (fun i _ => d.nn - (intOf i).toNat)
  case atStart => exact ⟨0, Nat.zero_le _, rfl, Below.refl _ _, HR1⟩
  case round =>
    clear HR1
    obtain ⟨k, hk, rfl, HW, HR⟩ := hrel
    have HBw : Hid (Below w.heap.size w wr) := HB1.out.trans (HW.out.mono (by omega))
    by_cases hkn : k < d.nn
    · obtain ⟨b, off, e0, _, hb, d0, d1, d2, d3, d4, d5, d6, d7⟩ := cells8 (HT.out.below HBw.out).2.2.1 hkn
      rw [e0]
      clear e0
      have hkk := HK2.out k hkn
      go_wp2_with fail
      clear d0 d1 d2 d3 d4 d5 d6 d7
      rename World => wa
      have HW0 : Hid (Below (w.heap.size + 1) w1 (wa.alloc (.cells (nodeC (d.nd k) (x.nas k)) 48))) := HW.out.alloc (Nat.le_of_lt (Nat.lt_of_lt_of_le hz1 HW.out.size)) _
      have HR0 : Hid (CRow (wa.alloc (.cells (nodeC (d.nd k) (x.nas k)) 48)) (w.heap.size + 1) d.nn (kidsC d.nd k (nodesC d.nd k) 0)) := World.rowIs.alloc HR.out _
      clear HW HR
      go_loopw [22] (fun i wr => ∃ (j : Nat), j ≤ (d.nd k).kn ∧ i = .int .i64 j ∧ Hid (Below (w.heap.size + 1) w1 wr) ∧ Hid (CRow wr (w.heap.size + 1) d.nn (kidsC d.nd k (nodesC d.nd k) j))) (fun i _ => (d.nd k).kn - (intOf i).toNat)
      case atStart => exact ⟨0, Nat.zero_le _, rfl, HW0, HR0⟩
      case round =>
        clear HW0 HR0
        obtain ⟨j, hj, rfl, HW, HR⟩ := hrel
        have HBw2 : Hid (Below w.heap.size w wr) := HB1.out.trans (HW.out.mono (by omega))
        by_cases hjn : j < (d.nd k).kn
        · obtain ⟨b2, o2, e2, _, hb2, g0⟩ := cells1 ((HT.out.below HBw2.out).2.2.2 k hkn).2 hjn
          rw [e2]
          clear e2
          have hc := HK.out k hkn j hjn
          obtain ⟨y, hy⟩ : ∃ y : Nat, (d.nd k).c j = y := ⟨((d.nd k).c j).toNat, by omega⟩
          rw [hy] at g0 hc
          have hyn : y < d.nn := by omega
          have r0 := World.rowIs.cell HR.out (i := y) hyn
          have rz := World.rowIs.frozen HR.out
          have hrg := kidsC_rng d.nd k (nodesC_rng HK2.out k hk) j y
          have HN : Hid (CRow (wr.setCell ⟨w.heap.size + 1, y, none⟩ (.int .i64 (kidsC d.nd k (nodesC d.nd k) j y + 1))) (w.heap.size + 1) d.nn (kidsC d.nd k (nodesC d.nd k) (j + 1))) := (World.rowIs.set HR.out y _).congr fun i _ => by
            show _ = Value.int .i64 (stepC (kidsC d.nd k (nodesC d.nd k) j) ((d.nd k).c j).toNat i)
            unfold stepC
            rw [hy, Int.toNat_natCast]
            split <;> rfl
          have HW2 : Hid (Below (w.heap.size + 1) w1 (wr.setCell ⟨w.heap.size + 1, y, none⟩ (.int .i64 (kidsC d.nd k (nodesC d.nd k) j y + 1)))) := frS HW.out (Nat.le_refl _) _
          clear hy
          go_wp2_with fail
          go_roundw
          case rel => exact ⟨j + 1, by omega, by go_num, HW2, HN⟩
          case measure => simp [intOf]; omega
        · obtain rfl : j = (d.nd k).kn := by omega
          go_wp2_with fail
          go_roundw
          case rel => exact ⟨k + 1, by omega, by go_num, HW, HR⟩
          case measure => simp [intOf]; omega
    · obtain rfl : k = d.nn := by omega
      go_wp2_with fail
      go_ret
      exact ⟨⟨_, rfl, by omega, HR.out⟩, HBw.out⟩

theorem bad4_yes {u : UD} {f n : Nat} (hf : f < u.n) (hn : n < (u.fn f).nn) (h3 : ∀ f', f' < f → ∀ n', n' < (u.fn f').nn → ¬ TreeBad u f' n') (h4 : ∀ n', n' < n → ¬ TreeBad u f n') (h5 : TreeBad u f n) : Least (Bad4 u) ⟨4, f, n⟩ := At2.least (by decide) h3 h4 hf hn h5
theorem bad4_no {u : UD} (h2 : ∀ f', f' < u.n → ∀ n', n' < (u.fn f').nn → ¬ TreeBad u f' n') : Least (Bad4 u) ft0 := Least.zero (At2.none h2)
end Go.Proofs.YtcpjnddkibbddaaGreat

/-! The program's check of a unit: trees. -/
namespace Go.Proofs.YtcpjnddkibbddaaGreat
open Go.RowKit
attribute [local go_sem] run_store_float
attribute [local go_sem ↓] Go.wp_at_zero Go.wp_at_succ

set_option maxRecDepth 100000 in
set_option maxHeartbeats 4000000 in
theorem treeFault_calls (L : Nat) (u : UD) (a : Option Addr) (cap : Nat) (fas : Nat → FA) (w : World) (hs : u.sm) (h3 : U3 u) (hT : FnsAt L w u.n u.fn a fas) :
    Calls Tryz.prog 32 #[unV u a cap] w fun e w' => FtPost (Bad4 u) w e w' := by
  have HT : Hid (FnsAt L w u.n u.fn a fas) := hT
  have HS : Hid u.sm := hs
  have H3 : Hid (U3 u) := h3
  have hun := h3.size.2.1
  obtain ⟨b, off, e0, _, hb, _⟩ := cells7 hT.1 (show 0 < u.n from h3.size.1)
  subst e0
  clear hT hs h3
  go_enter Tryz.func32, Tryz.ntmps32
  go_wp2_with fail
  go_loopw [12] (fun i wr => ∃ (k : Nat), k ≤ u.n ∧ i = .int .i64 k ∧ Hid (∀ f', f' < k → ∀ n', n' < (u.fn f').nn → ¬ TreeBad u f' n') ∧ Hid (Below (fxW w u (some ⟨b, off, none⟩) cap).heap.size (fxW w u (some ⟨b, off, none⟩) cap) wr)) (fun i _ => u.n - (intOf i).toNat)
  case atStart => exact ⟨0, Nat.zero_le _, rfl, fun f' hf' => by omega, Below.refl _ _⟩
  case round =>
    obtain ⟨k, hk, rfl, HF, HB⟩ := hrel
    by_cases hkn : k < u.n
    · have HTr : Hid (FnsAt L wr u.n u.fn (some ⟨b, off, none⟩) fas) := HT.out.below (fx_below HB.out)
      obtain ⟨b', off', e0, _, hbz, d0, d1, d2, d3, d4, d5, d6⟩ := cells7 HTr.out.1 hkn
      obtain ⟨rfl, rfl⟩ : b = b' ∧ off = off' := by simpa using e0
      clear e0
      have hnn := H3.out.nn hkn
      have HK2 : Hid (∀ i, i < (u.fn k).nn → ((u.fn k).nd i).kn ≤ 200) := fun i hi => (H3.out.facts hkn hi).kn
      rename World => wa
      go_wp2_with (go_at_call 59; refine (parentsOf_calls L (u.fn k) (fas k) _ hnn.1 (H3.out.kids hkn) HK2.out ((HTr.out.2 k hkn).alloc _)).mono ?_; rintro e w8 ⟨⟨B, rfl, hBz, hR⟩, hb8⟩; have HR8 : Hid (CRow w8 B (u.fn k).nn (nodesC (u.fn k).nd (u.fn k).nn)) := hR; have HX8 : Hid (Has w8 wa.heap.size (fnC (u.fn k) (fas k))) := Has.made hb8; have y6 : w8.cell? ⟨wa.heap.size, 6, none⟩ = some (.slice (fas k).na (u.fn k).nn (fas k).nc) := HX8.out.cell 6 rfl; clear hR)
      clear y6 d0 d1 d2 d3 d4 d5 d6
      have HB8 : Hid (Below (fxW w u (some ⟨b, off, none⟩) cap).heap.size (fxW w u (some ⟨b, off, none⟩) cap) w8) := below_call HB.out (below_call (below_alloc _ _) hb8)
      clear HB hb8 HTr HX8 hBz
      go_loopw [26] (fun i wr => ∃ (m : Nat), m ≤ (u.fn k).nn ∧ i = .int .i64 m ∧ Hid (∀ n', n' < m → ¬ TreeBad u k n') ∧ Hid (Below w8.heap.size w8 wr)) (fun i _ => (u.fn k).nn - (intOf i).toNat)
      case atStart => exact ⟨0, Nat.zero_le _, rfl, fun f' hf' => by omega, Below.refl _ _⟩
      case round =>
        obtain ⟨m, hm, rfl, HN, HW⟩ := hrel
        have HB : Hid (Below (fxW w u (some ⟨b, off, none⟩) cap).heap.size (fxW w u (some ⟨b, off, none⟩) cap) wr) := below_call HB8.out HW.out
        by_cases hmn : m < (u.fn k).nn
        · have HTr : Hid (FnsAt L wr u.n u.fn (some ⟨b, off, none⟩) fas) := HT.out.below (fx_below HB.out)
          have HRr : Hid (CRow wr B (u.fn k).nn (nodesC (u.fn k).nd (u.fn k).nn)) := World.rowIs.of_block HR8.out (HW.out.block _ (World.rowIs.lt HR8.out))
          have r0 := World.rowIs.cell HRr.out (i := m) hmn
          have hBw := World.rowIs.lt HRr.out
          have hrz : w.heap.size + 1 < wr.heap.size := (fx_row HB.out).lt
          obtain ⟨b2, o2, e2, _, hb2, g0, g1, g2, g3, g4, g5, g6, g7⟩ := cells8 (HTr.out.2 k hkn).2.2.1 hmn
          rw [e2]
          clear e2
          have HWn : Hid (Below w8.heap.size w8 (wr.alloc (.cells (nodeC ((u.fn k).nd m) (fas k |>.nas m)) 48))) := below_a' HW.out _
          have s0 := (fx_row HB.out).cell (i := 0) (by omega)
          have s1 := (fx_row HB.out).cell (i := 1) (by omega)
          have s2 := (fx_row HB.out).cell (i := 2) (by omega)
          have sz := (fx_row HB.out).frozen
          by_cases hl : m = (u.fn k).nn - 1
          · have qa : ¬ (m : Int) < ((u.fn k).nn : Int) - 1 := by omega
            have qb : ((m : Int) == ((u.fn k).nn : Int) - 1) = true := by simp; omega
            by_cases hk1 : ((u.fn k).nd m).k = 1
            · have HG : Hid (¬ TreeBad u k m) := by
                show ¬ TreeBad u k m
                rintro (⟨h, _⟩ | ⟨_, h⟩)
                · omega
                · exact h hk1
              have q1 : (((u.fn k).nd m).k != 1) = false := by rw [hk1]; rfl
              clear hk1 hl
              go_wp2_with fail
              go_roundw
              case rel => exact ⟨m + 1, by omega, by go_num, fun j hj => by
                by_cases e : j = m
                · subst e; exact HG.out
                · exact HN.out j (by omega), HWn⟩
              case measure => simp [intOf]; omega
            · have HL : Hid (Least (Bad4 u) ⟨4, k, m⟩) := bad4_yes hkn hmn HF.out HN.out (.inr ⟨hl, hk1⟩)
              have q1 : (((u.fn k).nd m).k != 1) = true := by simpa using hk1
              clear hk1 hl
              go_wp2_with fail
              refine bodyPost_ret (v := ftV ⟨4, k, m⟩) (by simp [results, Tryz.results32, go_sem, s0, s1, s2, hrz]) rfl ?_
              exact FtPost.of HL.out (below_a' (fx_out (fx_below HB.out) _ _ _) _)
          · have qa : (m : Int) < ((u.fn k).nn : Int) - 1 := by omega
            have qb : ((m : Int) == ((u.fn k).nn : Int) - 1) = false := by simp; omega
            have hco := count_one (H3.out.kids hkn) (x := m) (by omega)
            by_cases hp : nodesC (u.fn k).nd (u.fn k).nn m = 1
            · have HG : Hid (¬ TreeBad u k m) := by
                show ¬ TreeBad u k m
                rintro (⟨_, h⟩ | ⟨h, _⟩)
                · have := hco.1 hp; omega
                · exact hl h
              have q1 : (nodesC (u.fn k).nd (u.fn k).nn m != 1) = false := by rw [hp]; rfl
              clear hp hl hco
              go_wp2_with fail
              go_roundw
              case rel => exact ⟨m + 1, by omega, by go_num, fun j hj => by
                by_cases e : j = m
                · subst e; exact HG.out
                · exact HN.out j (by omega), HWn⟩
              case measure => simp [intOf]; omega
            · have HL : Hid (Least (Bad4 u) ⟨4, k, m⟩) := bad4_yes hkn hmn HF.out HN.out (.inl ⟨by omega, by
                have : ¬ 0 ≤ parP (u.fn k).nd (u.fn k).nn m := fun h => hp (hco.2 h)
                omega⟩)
              have q1 : (nodesC (u.fn k).nd (u.fn k).nn m != 1) = true := by simpa using hp
              clear hp hl hco
              go_wp2_with fail
              refine bodyPost_ret (v := ftV ⟨4, k, m⟩) (by simp [results, Tryz.results32, go_sem, s0, s1, s2, hrz]) rfl ?_
              exact FtPost.of HL.out (below_a' (fx_out (fx_below HB.out) _ _ _) _)
        · obtain rfl : m = (u.fn k).nn := by omega
          go_wp2_with fail
          go_roundw
          case rel => exact ⟨k + 1, by omega, by go_num, fun j hj => by
            by_cases e : j = k
            · subst e; exact HN.out
            · exact HF.out j (by omega), HB⟩
          case measure => simp [intOf]; omega
    · obtain rfl : k = u.n := by omega
      have HL : Hid (Least (Bad4 u) ⟨0, 0, 0⟩) := bad4_no HF.out
      have s0 := (fx_row HB.out).cell (i := 0) (by omega)
      have s1 := (fx_row HB.out).cell (i := 1) (by omega)
      have s2 := (fx_row HB.out).cell (i := 2) (by omega)
      have sz := (fx_row HB.out).frozen
      go_wp2_with fail
      refine bodyPost_ret (v := ftV ⟨0, 0, 0⟩) (by simp [results, Tryz.results32, go_sem, s0, s1, s2]) rfl ?_
      exact FtPost.of HL.out (fx_out (fx_below HB.out) _ _ _)
end Go.Proofs.YtcpjnddkibbddaaGreat

/-! Units copied by the laws: nodes, fns, units. -/
namespace Go.Proofs.YtcpjnddkibbddaaGreat
open Go.RowKit
attribute [local go_sem] run_store_float

theorem set8 {K L : Nat} {w : World} {a : Option Addr} {n : Nat} {q : Nat → Array Value} (h : RowN K L w a n q) {b : Nat} (hp : b < L) (v0 v1 v2 v3 v4 v5 v6 v7 : Value) : RowN K L ((((((((w.setCell ⟨b, 0, none⟩ v0).setCell ⟨b, 1, none⟩ v1).setCell ⟨b, 2, none⟩ v2).setCell ⟨b, 3, none⟩ v3).setCell ⟨b, 4, none⟩ v4).setCell ⟨b, 5, none⟩ v5).setCell ⟨b, 6, none⟩ v6).setCell ⟨b, 7, none⟩ v7) a n q :=
  ((((((((h.set (p := ⟨b, 0, none⟩) hp v0).set (p := ⟨b, 1, none⟩) hp v1).set (p := ⟨b, 2, none⟩) hp v2).set (p := ⟨b, 3, none⟩) hp v3).set (p := ⟨b, 4, none⟩) hp v4).set (p := ⟨b, 5, none⟩) hp v5).set (p := ⟨b, 6, none⟩) hp v6).set (p := ⟨b, 7, none⟩) hp v7)

set_option maxRecDepth 100000 in
set_option maxHeartbeats 4000000 in
theorem toNode_calls (L : Nat) (d : ND) (x : NA) (w : World) (hs : d.sm) (hT : NodeAt L w d x) :
    Calls Tryz.prog 85 #[nodeV d x] w fun e w' => (∃ x', e = .returned (nodeV d x') ∧ NodeAt w.heap.size w' d x' ∧ d.kn ≤ x'.kc) ∧ Below w.heap.size w w' := by
  have HT : Hid (NodeAt L w d x) := hT
  have HS : Hid d.sm := hs
  clear hT hs
  go_enter Tryz.func85, Tryz.ntmps85
  go_wp2_with fail
  refine (toIntS_calls L _ _ _ d.r _ HS.out.rn (((HT.out.alloc _).alloc _).alloc _).1).mono ?_
  rintro e w2 ⟨⟨B1, rfl, hB1, hI1⟩, hb2⟩
  have HI1 : Hid (IntsAt B1 w2 (some ⟨B1, 0, none⟩) d.rn d.r) := hI1
  have HB : Hid (Below w.heap.size w w2) := below_call (below_alloc3 _ _ _ _) hb2
  obtain ⟨hc2, hf2⟩ := bcell hb2
  have hz2 := hb2.size
  (try simp at hz2 hB1)
  have ha2 : w.heap.size < w2.heap.size := by omega
  have hb2' : w.heap.size + 1 < w2.heap.size := by omega
  have hc2' : w.heap.size + 1 + 1 < w2.heap.size := by omega
  clear hI1 hb2
  have HB2 : Hid (Below w.heap.size w (w2.setCell ⟨w.heap.size + 1 + 1, 6, none⟩ (.slice (some ⟨B1, 0, none⟩) d.rn d.rn))) := frS HB.out (by omega) _
  go_wp2_with fail
  refine (toIntS_calls L _ _ _ d.c _ HS.out.kn (HT.out.below HB2.out).2).mono ?_
  rintro e w3 ⟨⟨B2, rfl, hB2, hI2⟩, hb3⟩
  have HI2 : Hid (IntsAt B2 w3 (some ⟨B2, 0, none⟩) d.kn d.c) := hI2
  replace HI1 : Hid (IntsAt B1 w3 (some ⟨B1, 0, none⟩) d.rn d.r) := RowN.below (RowN.set HI1.out (p := ⟨w.heap.size + 1 + 1, 6, none⟩) (by show w.heap.size + 1 + 1 < B1; omega) _) hb3
  replace HB : Hid (Below w.heap.size w w3) := below_call HB2.out hb3
  obtain ⟨hc3, hf3⟩ := bcell hb3
  have hz3 := hb3.size
  (try simp at hz3 hB2)
  have ha3 : w.heap.size < w3.heap.size := by omega
  have hb3' : w.heap.size + 1 < w3.heap.size := by omega
  have hc3' : w.heap.size + 1 + 1 < w3.heap.size := by omega
  clear hb3 hI2 HB2
  go_wp2_with fail
  have p1 : w.heap.size ≤ w.heap.size + 1 := Nat.le_add_right _ _
  have p2 : w.heap.size ≤ w.heap.size + 1 + 1 := Nat.le_add_right _ 2
  refine bodyPost_ret (v := nodeV d ⟨some ⟨B1, 0, none⟩, d.rn, some ⟨B2, 0, none⟩, d.kn⟩) (by simp [results, Tryz.results85, go_sem, hc3, hc2, hb2']) rfl ⟨⟨_, rfl, ⟨?_, ?_⟩, Nat.le_refl _⟩, ?_⟩
  · exact RowN.less (set8 (RowN.set HI1.out (p := ⟨w.heap.size + 1 + 1, 7, none⟩) (by show w.heap.size + 1 + 1 < B1; omega) _) (by omega) _ _ _ _ _ _ _ _) (by omega)
  · exact RowN.less (set8 (RowN.set HI2.out (p := ⟨w.heap.size + 1 + 1, 7, none⟩) (by show w.heap.size + 1 + 1 < B2; omega) _) (by omega) _ _ _ _ _ _ _ _) (by omega)
  · exact frS (frS (frS (frS (frS (frS (frS (frS (frS HB.out p2 _) p1 _) p1 _) p1 _) p1 _) p1 _) p1 _) p1 _) p1 _
end Go.Proofs.YtcpjnddkibbddaaGreat

/-! Units copied by the laws: lists of nodes; fns. -/
namespace Go.Proofs.YtcpjnddkibbddaaGreat
open Go.RowKit
attribute [local go_sem] run_store_float

theorem infoNode : (Tryz.prog.info? 48).map (fun i => (i.zero, i.size, i.bytes)) = some (some (.agg #[.int .i64 0, .int .i64 0, .int .i64 0, .int .i64 0, .float .f64 0, .string ⟨#[]⟩, .slice none 0 0, .slice none 0 0]), 8, 104) := by kernel_rfl
theorem make_nodes (n : Nat) (hn : n ≤ 1048576) (w : World) : ∃ c : Array Value, c.size = n * 8 ∧ (Instr.makeSlice 43 (.int .i64 (n : Int)) (.int .i64 (n : Int))).run Tryz.prog w = .ok (.slice (some ⟨w.heap.size, 0, none⟩) n n) (w.alloc (.cells c 48)) := by
  obtain ⟨i, hi, hzz⟩ := Option.map_eq_some_iff.1 infoNode
  simp only [Prod.mk.injEq] at hzz
  obtain ⟨hz, hs, hb⟩ := hzz
  have hr := run_make (P := Tryz.prog) (w := w) 43 48 i _ Tryz.underlying43 hi hz .i64 .i64 n n (by omega) (Int.le_refl _) (by rw [hb]; omega) (by omega)
  simp only [Int.toNat_natCast, hs] at hr
  exact ⟨_, size_madeCells _ _, hr⟩
theorem infoFn : (Tryz.prog.info? 45).map (fun i => (i.zero, i.size, i.bytes)) = some (some (.agg #[.string ⟨#[]⟩, .int .i64 0, .int .i64 0, .bool false, .slice none 0 0, .slice none 0 0, .slice none 0 0]), 7, 112) := by kernel_rfl
theorem make_fns (n : Nat) (hn : n ≤ 1048576) (w : World) : ∃ c : Array Value, c.size = n * 7 ∧ (Instr.makeSlice 28 (.int .i64 (n : Int)) (.int .i64 (n : Int))).run Tryz.prog w = .ok (.slice (some ⟨w.heap.size, 0, none⟩) n n) (w.alloc (.cells c 45)) := by
  obtain ⟨i, hi, hzz⟩ := Option.map_eq_some_iff.1 infoFn
  simp only [Prod.mk.injEq] at hzz
  obtain ⟨hz, hs, hb⟩ := hzz
  have hr := run_make (P := Tryz.prog) (w := w) 28 45 i _ Tryz.underlying28 hi hz .i64 .i64 n n (by omega) (Int.le_refl _) (by rw [hb]; omega) (by omega)
  simp only [Int.toNat_natCast, hs] at hr
  exact ⟨_, size_madeCells _ _, hr⟩

theorem NodeAt.sets8 {L : Nat} {w : World} {d : ND} {x : NA} (h : NodeAt L w d x) {b : Nat} (hp : b < L) (k : Nat) (v0 v1 v2 v3 v4 v5 v6 v7 : Value) : NodeAt L ((((((((w.setCell ⟨b, k * 8, none⟩ v0).setCell ⟨b, k * 8 + 1, none⟩ v1).setCell ⟨b, k * 8 + 2, none⟩ v2).setCell ⟨b, k * 8 + 3, none⟩ v3).setCell ⟨b, k * 8 + 4, none⟩ v4).setCell ⟨b, k * 8 + 5, none⟩ v5).setCell ⟨b, k * 8 + 6, none⟩ v6).setCell ⟨b, k * 8 + 7, none⟩ v7) d x :=
  ((((((((h.set (p := ⟨b, k * 8, none⟩) hp v0).set (p := ⟨b, k * 8 + 1, none⟩) hp v1).set (p := ⟨b, k * 8 + 2, none⟩) hp v2).set (p := ⟨b, k * 8 + 3, none⟩) hp v3).set (p := ⟨b, k * 8 + 4, none⟩) hp v4).set (p := ⟨b, k * 8 + 5, none⟩) hp v5).set (p := ⟨b, k * 8 + 6, none⟩) hp v6).set (p := ⟨b, k * 8 + 7, none⟩) hp v7)

/-- the first k nodes are copied -/
structure NodesIn (w : World) (B k : Nat) (q : Nat → ND) (y : Nat → NA) (n : Nat) (f : Nat → Value) : Prop where
  row : w.rowIs B 48 (n * 8) f
  cells : ∀ m, m < k * 8 → f m = flK 8 (fun i => nodeC (q i) (y i)) m
  nodes : ∀ i, i < k → NodeAt (B + 1) w (q i) (y i)
  caps : ∀ i, i < k → (q i).kn ≤ (y i).kc

theorem NodesIn.put {w : World} {B k n : Nat} {q : Nat → ND} {y : Nat → NA} {f : Nat → Value} (h : NodesIn w B k q y n f) (x : NA) (hx : NodeAt (B + 1) w (q k) x) (hc : (q k).kn ≤ x.kc) :
    ∃ y' f', NodesIn ((((((((w.setCell ⟨B, k * 8, none⟩ (.int .i64 (q k).k)).setCell ⟨B, k * 8 + 1, none⟩ (.int .i64 (q k).l)).setCell ⟨B, k * 8 + 2, none⟩ (.int .i64 (q k).o)).setCell ⟨B, k * 8 + 3, none⟩ (.int .i64 (q k).n)).setCell ⟨B, k * 8 + 4, none⟩ (.float .f64 (q k).f)).setCell ⟨B, k * 8 + 5, none⟩ (.string (q k).s)).setCell ⟨B, k * 8 + 6, none⟩ (.slice x.ra (q k).rn x.rc)).setCell ⟨B, k * 8 + 7, none⟩ (.slice x.ka (q k).kn x.kc)) B (k + 1) q y' n f' := by
  obtain ⟨f', hR, hf⟩ := put8 h.row k _ h.cells (.int .i64 (q k).k) (.int .i64 (q k).l) (.int .i64 (q k).o) (.int .i64 (q k).n) (.float .f64 (q k).f) (.string (q k).s) (.slice x.ra (q k).rn x.rc) (.slice x.ka (q k).kn x.kc) (fun i => nodeC (q i) (if i = k then x else y i)) (fun i hi => by rw [if_neg (by omega)]) (by rw [if_pos rfl])
  refine ⟨fun i => if i = k then x else y i, f', ⟨hR, hf, fun i hi => ?_, fun i hi => by
    by_cases e : i = k
    · subst e; rw [if_pos rfl]; exact hc
    · rw [if_neg e]; exact h.caps i (by omega)⟩⟩
  by_cases e : i = k
  · subst e
    rw [if_pos rfl]
    exact hx.sets8 (by omega) _ _ _ _ _ _ _ _ _
  · rw [if_neg e]
    exact (h.nodes i (by omega)).sets8 (by omega) _ _ _ _ _ _ _ _ _
theorem NodesIn.call {w w' : World} {B k n : Nat} {q : Nat → ND} {y : Nat → NA} {f : Nat → Value} (h : NodesIn w B k q y n f) (hb : Below w.heap.size w w') : NodesIn w' B k q y n f :=
  ⟨h.row.of_block (hb.block _ h.row.lt), h.cells, fun i hi => (h.nodes i hi).below hb, h.caps⟩

set_option maxRecDepth 100000 in
set_option maxHeartbeats 4000000 in
theorem toNodeS_calls (L : Nat) (a : Option Addr) (n cap : Nat) (q : Nat → ND) (x : Nat → NA) (w : World) (hn : n ≤ 1048576) (hq : ∀ i, i < n → (q i).sm) (hT : NodesAt L w n q a x) :
    Calls Tryz.prog 54 #[.slice a n cap] w fun e w' => (∃ B y, e = .returned (.slice (some ⟨B, 0, none⟩) n n) ∧ w.heap.size ≤ B ∧ NodesAt B w' n q (some ⟨B, 0, none⟩) y ∧ ∀ i, i < n → (q i).kn ≤ (y i).kc) ∧ Below w.heap.size w w' := by
  have hQ : Hid (∀ i, i < n → (q i).sm) := hq
  have HT : Hid (NodesAt L w n q a x) := hT
  clear hT hq
  obtain ⟨c, hcs, hmk⟩ := make_nodes n hn w
  have hR0 := rowOfC w c 48
  rw [hcs] at hR0
  have hB0 := below_alloc w (.cells c 48)
  go_enter Tryz.func54, Tryz.ntmps54
  go_wp2_with fail
  clear hmk
  go_loopw [4] (fun i wr => ∃ (k : Nat) (y : Nat → NA) (f : Nat → Value), k ≤ n ∧ i = .int .i64 k ∧ NodesIn wr w.heap.size k q y n f ∧ Below w.heap.size w wr) (fun i _ => n - (intOf i).toNat)
  case atStart => exact ⟨0, fun _ => default, _, Nat.zero_le _, rfl, ⟨hR0, fun m hm => by omega, fun i hi => by omega, fun i hi => by omega⟩, hB0⟩
  case round =>
    clear hR0 hB0 hcs
    obtain ⟨k, y, f, hk, rfl, hI, hB⟩ := hrel
    have HI : Hid (NodesIn wr w.heap.size k q y n f) := hI
    clear hI
    by_cases hkn : k < n
    · obtain ⟨b, off, rfl, _, hb, d0, d1, d2, d3, d4, d5, d6, d7⟩ := cells8 (HT.out.1.below hB) hkn
      go_wp2_with fail
      refine (toNode_calls L (q k) (x k) wr (hQ.out k hkn) ((HT.out.2 k hkn).below hB)).mono ?_
      rintro e w2 ⟨⟨x', rfl, hx', hxc⟩, hb2⟩
      have HXC : Hid ((q k).kn ≤ x'.kc) := hxc
      clear hxc
      have hlt := HI.out.row.lt
      replace HI := HI.out.call hb2
      have hX : Hid (NodeAt (w.heap.size + 1) w2 (q k) x') := hx'.less (by have h1 := hb2.size; have h2 := hB.size; omega)
      replace hB := below_call hB hb2
      clear d0 d1 d2 d3 d4 d5 d6 d7 hb2 hx'
      have g0 := HI.row.cell (i := k * 8) (by omega)
      have g1 := HI.row.cell (i := k * 8 + 1) (by omega)
      have g2 := HI.row.cell (i := k * 8 + 2) (by omega)
      have g3 := HI.row.cell (i := k * 8 + 3) (by omega)
      have g4 := HI.row.cell (i := k * 8 + 4) (by omega)
      have g5 := HI.row.cell (i := k * 8 + 5) (by omega)
      have g6 := HI.row.cell (i := k * 8 + 6) (by omega)
      have g7 := HI.row.cell (i := k * 8 + 7) (by omega)
      have z := HI.row.frozen
      obtain ⟨y', f', hI2⟩ := HI.put x' hX.out HXC.out
      have HI2 : Hid _ := hI2
      clear HI hI2
      go_wp2_with fail
      go_roundw
      case rel => exact ⟨k + 1, y', f', by omega, by go_num, HI2.out, fr8 k _ _ _ _ _ _ _ _ hB⟩
      case measure => simp [intOf]; omega
    · go_wp2_with fail
      have : k = n := by omega
      subst this
      go_ret
      exact ⟨⟨_, y, rfl, Nat.le_refl _, ⟨rowK (fun _ _ => rfl) (HI.out.row.congr HI.out.cells), fun i hi => (HI.out.nodes i hi).less (by omega)⟩, HI.out.caps⟩, hB⟩
end Go.Proofs.YtcpjnddkibbddaaGreat
