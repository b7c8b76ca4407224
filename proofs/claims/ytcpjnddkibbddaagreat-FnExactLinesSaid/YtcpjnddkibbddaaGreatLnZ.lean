import Derived.Test.YtcpjnddkibbddaaGreatUnH
import Derived.Test.YtcpjnddkibbddaaGreatMkA
/-! Units copied by the laws, once more: the copies can be written into. -/
namespace Go.Proofs.YtcpjnddkibbddaaGreat
open Go.RowKit
attribute [local go_sem] run_store_float

def NodeZ (w : World) (x : NA) : Prop := ∃ b1 b2, x.ra = some ⟨b1, 0, none⟩ ∧ x.ka = some ⟨b2, 0, none⟩ ∧ Zf w b1 ∧ Zf w b2
theorem NodeZ.set {w : World} {x : NA} (h : NodeZ w x) (p : Addr) (v : Value) : NodeZ (w.setCell p v) x := by
  obtain ⟨b1, b2, e1, e2, h1, h2⟩ := h
  exact ⟨b1, b2, e1, e2, h1.set p v, h2.set p v⟩
theorem NodeZ.below {w w' : World} {x : NA} (h : NodeZ w x) (hb : Below w.heap.size w w') : NodeZ w' x := by
  obtain ⟨b1, b2, e1, e2, h1, h2⟩ := h
  exact ⟨b1, b2, e1, e2, h1.below hb, h2.below hb⟩
def FnZ (w : World) (d : FD) (x : FA) : Prop := ∃ b1 b2 b3, x.va = some ⟨b1, 0, none⟩ ∧ x.ua = some ⟨b2, 0, none⟩ ∧ x.na = some ⟨b3, 0, none⟩ ∧ Zf w b1 ∧ Zf w b2 ∧ Zf w b3 ∧ ∀ i, i < d.nn → NodeZ w (x.nas i)
theorem FnZ.set {w : World} {d : FD} {x : FA} (h : FnZ w d x) (p : Addr) (v : Value) : FnZ (w.setCell p v) d x := by
  obtain ⟨b1, b2, b3, e1, e2, e3, h1, h2, h3, h4⟩ := h
  exact ⟨b1, b2, b3, e1, e2, e3, h1.set p v, h2.set p v, h3.set p v, fun i hi => (h4 i hi).set p v⟩
theorem FnZ.below {w w' : World} {d : FD} {x : FA} (h : FnZ w d x) (hb : Below w.heap.size w w') : FnZ w' d x := by
  obtain ⟨b1, b2, b3, e1, e2, e3, h1, h2, h3, h4⟩ := h
  exact ⟨b1, b2, b3, e1, e2, e3, h1.below hb, h2.below hb, h3.below hb, fun i hi => (h4 i hi).below hb⟩

set_option maxRecDepth 100000 in
set_option maxHeartbeats 4000000 in
theorem toIntS_callsZ (L : Nat) (a : Option Addr) (n cap : Nat) (r : Nat → Int) (w : World) (hn : n ≤ 1048576) (hT : IntsAt L w a n r) :
    Calls Tryz.prog 144 #[.slice a n cap] w fun e w' => (∃ B, e = .returned (.slice (some ⟨B, 0, none⟩) n n) ∧ w.heap.size ≤ B ∧ Zf w' B ∧ (IntsAt B w' (some ⟨B, 0, none⟩) n r)) ∧ Below w.heap.size w w' := by
  have HT : Hid (RowN 1 L w a n fun i => #[.int .i64 (r i)]) := hT
  clear hT
  obtain ⟨c, hcs, hmk⟩ := make_ints n hn w
  have hR0 := rowOfC w c 3
  rw [hcs] at hR0
  have hB0 := below_alloc w (.cells c 3)
  go_enter Tryz.func144, Tryz.ntmps144
  go_wp2_with fail
  clear hmk
  go_loopw [4] (fun i wr => ∃ (k : Nat) (f : Nat → Value), k ≤ n ∧ i = .int .i64 k ∧ wr.rowIs w.heap.size 3 (n * 1) f ∧ (∀ m, m < k * 1 → f m = flK 1 (fun i => #[.int .i64 (r i)]) m) ∧ Below w.heap.size w wr) (fun i _ => n - (intOf i).toNat)
  case atStart => exact ⟨0, _, Nat.zero_le _, rfl, hR0, fun m hm => by omega, hB0⟩
  case round =>
    clear hR0 hB0 hcs
    obtain ⟨k, f, hk, rfl, hR, hf, hB⟩ := hrel
    by_cases hkn : k < n
    · obtain ⟨b, off, rfl, _, hb, d0⟩ := cells1 (HT.out.below hB) hkn
      have g0 := hR.cell (i := k) (by omega)
      have z := hR.frozen
      obtain ⟨f', hR3, hf'⟩ := put1 hR k _ hf (.int .i64 (r k)) _ (fun _ _ => rfl) rfl
      have HR : Hid _ := hR3
      have HF : Hid _ := hf'
      clear hR hR3 hf hf'
      go_wp2_with fail
      go_roundw
      case rel => exact ⟨k + 1, f', by omega, by go_num, HR.out, HF.out, fr1 k _ hB⟩
      case measure => simp [intOf]; omega
    · go_wp2_with fail
      have : k = n := by omega
      subst this
      go_ret
      exact ⟨⟨_, rfl, Nat.le_refl _, Zf.of hR, rowK (fun _ _ => rfl) (hR.congr hf)⟩, hB⟩

set_option maxRecDepth 100000 in
set_option maxHeartbeats 4000000 in
theorem toUpS_callsZ (L : Nat) (a : Option Addr) (n cap : Nat) (q : Nat → UPD) (w : World) (hn : n ≤ 1048576) (hT : RowN 2 L w a n fun i => upC (q i)) :
    Calls Tryz.prog 53 #[.slice a n cap] w fun e w' => (∃ B, e = .returned (.slice (some ⟨B, 0, none⟩) n n) ∧ w.heap.size ≤ B ∧ Zf w' B ∧ (RowN 2 B w' (some ⟨B, 0, none⟩) n fun i => upC (q i))) ∧ Below w.heap.size w w' := by
  have HT : Hid (RowN 2 L w a n fun i => upC (q i)) := hT
  clear hT
  obtain ⟨c, hcs, hmk⟩ := make_ups n hn w
  have hR0 := rowOfC w c 114
  rw [hcs] at hR0
  have hB0 := below_alloc w (.cells c 114)
  go_enter Tryz.func53, Tryz.ntmps53
  go_wp2_with fail
  clear hmk
  go_loopw [4] (fun i wr => ∃ (k : Nat) (f : Nat → Value), k ≤ n ∧ i = .int .i64 k ∧ wr.rowIs w.heap.size 114 (n * 2) f ∧ (∀ m, m < k * 2 → f m = flK 2 (fun i => upC (q i)) m) ∧ Below w.heap.size w wr) (fun i _ => n - (intOf i).toNat)
  case atStart => exact ⟨0, _, Nat.zero_le _, rfl, hR0, fun m hm => by omega, hB0⟩
  case round =>
    clear hR0 hB0 hcs
    obtain ⟨k, f, hk, rfl, hR, hf, hB⟩ := hrel
    by_cases hkn : k < n
    · obtain ⟨b, off, rfl, _, hb, d0, d1⟩ := cells2 (HT.out.below hB) hkn
      go_wp2_with fail
      refine (toUp_calls (q k) wr).mono ?_
      rintro e w2 ⟨rfl, hb2⟩
      have hR2 := hR.of_block (hb2.block _ hR.lt)
      replace hB := below_call hB hb2
      clear d0 d1 hb2 hR
      have g0 := hR2.cell (i := k * 2) (by omega)
      have g1 := hR2.cell (i := k * 2 + 1) (by omega)
      have z := hR2.frozen
      obtain ⟨f', hR3, hf'⟩ := put2 hR2 k _ hf (.bool (q k).loc) (.int .i64 (q k).ix) _ (fun _ _ => rfl) rfl
      have HR : Hid _ := hR3
      have HF : Hid _ := hf'
      clear hR2 hR3 hf hf'
      go_wp2_with fail
      go_roundw
      case rel => exact ⟨k + 1, f', by omega, by go_num, HR.out, HF.out, fr2 k _ _ hB⟩
      case measure => simp [intOf]; omega
    · go_wp2_with fail
      have : k = n := by omega
      subst this
      go_ret
      exact ⟨⟨_, rfl, Nat.le_refl _, Zf.of hR, rowK (fun _ _ => rfl) (hR.congr hf)⟩, hB⟩

set_option maxRecDepth 100000 in
set_option maxHeartbeats 4000000 in
theorem toNode_callsZ (L : Nat) (d : ND) (x : NA) (w : World) (hs : d.sm) (hT : NodeAt L w d x) :
    Calls Tryz.prog 85 #[nodeV d x] w fun e w' => (∃ x', e = .returned (nodeV d x') ∧ NodeAt w.heap.size w' d x' ∧ d.kn ≤ x'.kc ∧ NodeZ w' x') ∧ Below w.heap.size w w' := by
  have HT : Hid (NodeAt L w d x) := hT
  have HS : Hid d.sm := hs
  clear hT hs
  go_enter Tryz.func85, Tryz.ntmps85
  go_wp2_with fail
  refine (toIntS_callsZ L _ _ _ d.r _ HS.out.rn (((HT.out.alloc _).alloc _).alloc _).1).mono ?_
  rintro e w2 ⟨⟨B1, rfl, hB1, hz1, hI1⟩, hb2⟩
  have HZ1 : Hid (Zf w2 B1) := hz1
  clear hz1
  have HI1 : Hid (IntsAt B1 w2 (some ⟨B1, 0, none⟩) d.rn d.r) := hI1
  have HB : Hid (Below w.heap.size w w2) := below_call (below_alloc3 _ _ _ _) hb2
  obtain ⟨hc2, hf2⟩ := bcell hb2
  have hz2 := hb2.size
  (try simp at hz2 hB1)
  have ha2 : w.heap.size < w2.heap.size := by omega
  have hb2' : w.heap.size + 1 < w2.heap.size := by omega
  have hc2' : w.heap.size + 1 + 1 < w2.heap.size := by omega
  clear hI1 hb2
  have HB2 : Hid (Below w.heap.size w (w2.setCell ⟨w.heap.size + 1 + 1, 6, none⟩ (.slice (some ⟨B1, 0, none⟩) d.rn d.rn))) := frS HB.out (by omega) _
  go_wp2_with fail
  refine (toIntS_callsZ L _ _ _ d.c _ HS.out.kn (HT.out.below HB2.out).2).mono ?_
  rintro e w3 ⟨⟨B2, rfl, hB2, hz2', hI2⟩, hb3⟩
  have HZ2 : Hid (Zf w3 B2) := hz2'
  clear hz2'
  replace HZ1 : Hid (Zf w3 B1) := (HZ1.out.set _ _).below hb3
  have HI2 : Hid (IntsAt B2 w3 (some ⟨B2, 0, none⟩) d.kn d.c) := hI2
  replace HI1 : Hid (IntsAt B1 w3 (some ⟨B1, 0, none⟩) d.rn d.r) := RowN.below (RowN.set HI1.out (p := ⟨w.heap.size + 1 + 1, 6, none⟩) (by show w.heap.size + 1 + 1 < B1; omega) _) hb3
  replace HB : Hid (Below w.heap.size w w3) := below_call HB2.out hb3
  obtain ⟨hc3, hf3⟩ := bcell hb3
  have hz3 := hb3.size
  (try simp at hz3 hB2)
  have ha3 : w.heap.size < w3.heap.size := by omega
  have hb3' : w.heap.size + 1 < w3.heap.size := by omega
  have hc3' : w.heap.size + 1 + 1 < w3.heap.size := by omega
  clear hb3 hI2 HB2
  go_wp2_with fail
  have p1 : w.heap.size ≤ w.heap.size + 1 := Nat.le_add_right _ _
  have p2 : w.heap.size ≤ w.heap.size + 1 + 1 := Nat.le_add_right _ 2
  refine bodyPost_ret (v := nodeV d ⟨some ⟨B1, 0, none⟩, d.rn, some ⟨B2, 0, none⟩, d.kn⟩) (by simp [results, Tryz.results85, go_sem, hc3, hc2, hb2']) rfl ⟨⟨_, rfl, ⟨?_, ?_⟩, Nat.le_refl _, ⟨B1, B2, rfl, rfl, (((((((((HZ1.out.set _ _).set _ _).set _ _).set _ _).set _ _).set _ _).set _ _).set _ _).set _ _), (((((((((HZ2.out.set _ _).set _ _).set _ _).set _ _).set _ _).set _ _).set _ _).set _ _).set _ _)⟩⟩, ?_⟩
  · exact RowN.less (set8 (RowN.set HI1.out (p := ⟨w.heap.size + 1 + 1, 7, none⟩) (by show w.heap.size + 1 + 1 < B1; omega) _) (by omega) _ _ _ _ _ _ _ _) (by omega)
  · exact RowN.less (set8 (RowN.set HI2.out (p := ⟨w.heap.size + 1 + 1, 7, none⟩) (by show w.heap.size + 1 + 1 < B2; omega) _) (by omega) _ _ _ _ _ _ _ _) (by omega)
  · exact frS (frS (frS (frS (frS (frS (frS (frS (frS HB.out p2 _) p1 _) p1 _) p1 _) p1 _) p1 _) p1 _) p1 _) p1 _

theorem NodeZ.sets8 {w : World} {x : NA} (h : NodeZ w x) (b k : Nat) (v0 v1 v2 v3 v4 v5 v6 v7 : Value) : NodeZ ((((((((w.setCell ⟨b, k * 8, none⟩ v0).setCell ⟨b, k * 8 + 1, none⟩ v1).setCell ⟨b, k * 8 + 2, none⟩ v2).setCell ⟨b, k * 8 + 3, none⟩ v3).setCell ⟨b, k * 8 + 4, none⟩ v4).setCell ⟨b, k * 8 + 5, none⟩ v5).setCell ⟨b, k * 8 + 6, none⟩ v6).setCell ⟨b, k * 8 + 7, none⟩ v7) x :=
  (((((((h.set _ _).set _ _).set _ _).set _ _).set _ _).set _ _).set _ _).set _ _
theorem FnZ.sets7 {w : World} {d : FD} {x : FA} (h : FnZ w d x) (b k : Nat) (v0 v1 v2 v3 v4 v5 v6 : Value) : FnZ (((((((w.setCell ⟨b, k * 7, none⟩ v0).setCell ⟨b, k * 7 + 1, none⟩ v1).setCell ⟨b, k * 7 + 2, none⟩ v2).setCell ⟨b, k * 7 + 3, none⟩ v3).setCell ⟨b, k * 7 + 4, none⟩ v4).setCell ⟨b, k * 7 + 5, none⟩ v5).setCell ⟨b, k * 7 + 6, none⟩ v6) d x :=
  ((((((h.set _ _).set _ _).set _ _).set _ _).set _ _).set _ _).set _ _
theorem NodesIn.putZ {w : World} {B k n : Nat} {q : Nat → ND} {y : Nat → NA} {f : Nat → Value} (h : NodesIn w B k q y n f) (x : NA) (hx : NodeAt (B + 1) w (q k) x) (hc : (q k).kn ≤ x.kc) :
    ∃ y' f', NodesIn ((((((((w.setCell ⟨B, k * 8, none⟩ (.int .i64 (q k).k)).setCell ⟨B, k * 8 + 1, none⟩ (.int .i64 (q k).l)).setCell ⟨B, k * 8 + 2, none⟩ (.int .i64 (q k).o)).setCell ⟨B, k * 8 + 3, none⟩ (.int .i64 (q k).n)).setCell ⟨B, k * 8 + 4, none⟩ (.float .f64 (q k).f)).setCell ⟨B, k * 8 + 5, none⟩ (.string (q k).s)).setCell ⟨B, k * 8 + 6, none⟩ (.slice x.ra (q k).rn x.rc)).setCell ⟨B, k * 8 + 7, none⟩ (.slice x.ka (q k).kn x.kc)) B (k + 1) q y' n f' ∧ (∀ i, i < k → y' i = y i) ∧ y' k = x := by
  obtain ⟨f', hR, hf⟩ := put8 h.row k _ h.cells (.int .i64 (q k).k) (.int .i64 (q k).l) (.int .i64 (q k).o) (.int .i64 (q k).n) (.float .f64 (q k).f) (.string (q k).s) (.slice x.ra (q k).rn x.rc) (.slice x.ka (q k).kn x.kc) (fun i => nodeC (q i) (if i = k then x else y i)) (fun i hi => by rw [if_neg (by omega)]) (by rw [if_pos rfl])
  refine ⟨fun i => if i = k then x else y i, f', ⟨hR, hf, fun i hi => ?_, fun i hi => by
    by_cases e : i = k
    · subst e; rw [if_pos rfl]; exact hc
    · rw [if_neg e]; exact h.caps i (by omega)⟩, fun i hi => by show (if i = k then x else y i) = y i; rw [if_neg (by omega)], by show (if k = k then x else y k) = x; rw [if_pos rfl]⟩
  by_cases e : i = k
  · subst e
    rw [if_pos rfl]
    exact hx.sets8 (by omega) _ _ _ _ _ _ _ _ _
  · rw [if_neg e]
    exact (h.nodes i (by omega)).sets8 (by omega) _ _ _ _ _ _ _ _ _
theorem NodesIn.more {w w' : World} {k : Nat} {y y' : Nat → NA} (h : ∀ i, i < k → NodeZ w (y i)) {x : NA} (hx : NodeZ w x) (e : ∀ i, i < k → y' i = y i) (e2 : y' k = x) (hw : ∀ z, NodeZ w z → NodeZ w' z) : ∀ i, i < k + 1 → NodeZ w' (y' i) := fun i hi => by
  by_cases c : i = k
  · subst c; rw [e2]; exact hw _ hx
  · rw [e i (by omega)]; exact hw _ (h i (by omega))

set_option maxRecDepth 100000 in
set_option maxHeartbeats 4000000 in
theorem toNodeS_callsZ (L : Nat) (a : Option Addr) (n cap : Nat) (q : Nat → ND) (x : Nat → NA) (w : World) (hn : n ≤ 1048576) (hq : ∀ i, i < n → (q i).sm) (hT : NodesAt L w n q a x) :
    Calls Tryz.prog 54 #[.slice a n cap] w fun e w' => (∃ B y, e = .returned (.slice (some ⟨B, 0, none⟩) n n) ∧ w.heap.size ≤ B ∧ NodesAt B w' n q (some ⟨B, 0, none⟩) y ∧ (∀ i, i < n → (q i).kn ≤ (y i).kc) ∧ Zf w' B ∧ ∀ i, i < n → NodeZ w' (y i)) ∧ Below w.heap.size w w' := by
  have hQ : Hid (∀ i, i < n → (q i).sm) := hq
  have HT : Hid (NodesAt L w n q a x) := hT
  clear hT hq
  obtain ⟨c, hcs, hmk⟩ := make_nodes n hn w
  have hR0 := rowOfC w c 48
  rw [hcs] at hR0
  have hB0 := below_alloc w (.cells c 48)
  go_enter Tryz.func54, Tryz.ntmps54
  go_wp2_with fail
  clear hmk
  go_loopw [4] (fun i wr => ∃ (k : Nat) (y : Nat → NA) (f : Nat → Value), k ≤ n ∧ i = .int .i64 k ∧ NodesIn wr w.heap.size k q y n f ∧ Hid (∀ i, i < k → NodeZ wr (y i)) ∧ Below w.heap.size w wr) (fun i _ => n - (intOf i).toNat)
  case atStart => exact ⟨0, fun _ => default, _, Nat.zero_le _, rfl, ⟨hR0, fun m hm => by omega, fun i hi => by omega, fun i hi => by omega⟩, (fun i hi => by omega), hB0⟩
  case round =>
    clear hR0 hB0 hcs
    obtain ⟨k, y, f, hk, rfl, hI, HZ, hB⟩ := hrel
    have HI : Hid (NodesIn wr w.heap.size k q y n f) := hI
    clear hI
    by_cases hkn : k < n
    · obtain ⟨b, off, rfl, _, hb, d0, d1, d2, d3, d4, d5, d6, d7⟩ := cells8 (HT.out.1.below hB) hkn
      go_wp2_with fail
      refine (toNode_callsZ L (q k) (x k) wr (hQ.out k hkn) ((HT.out.2 k hkn).below hB)).mono ?_
      rintro e w2 ⟨⟨x', rfl, hx', hxc, hxz⟩, hb2⟩
      have HXZ : Hid (NodeZ w2 x') := hxz
      replace HZ : Hid (∀ i, i < k → NodeZ w2 (y i)) := fun i hi => (HZ.out i hi).below hb2
      clear hxz
      have HXC : Hid ((q k).kn ≤ x'.kc) := hxc
      clear hxc
      have hlt := HI.out.row.lt
      replace HI := HI.out.call hb2
      have hX : Hid (NodeAt (w.heap.size + 1) w2 (q k) x') := hx'.less (by have h1 := hb2.size; have h2 := hB.size; omega)
      replace hB := below_call hB hb2
      clear d0 d1 d2 d3 d4 d5 d6 d7 hb2 hx'
      have g0 := HI.row.cell (i := k * 8) (by omega)
      have g1 := HI.row.cell (i := k * 8 + 1) (by omega)
      have g2 := HI.row.cell (i := k * 8 + 2) (by omega)
      have g3 := HI.row.cell (i := k * 8 + 3) (by omega)
      have g4 := HI.row.cell (i := k * 8 + 4) (by omega)
      have g5 := HI.row.cell (i := k * 8 + 5) (by omega)
      have g6 := HI.row.cell (i := k * 8 + 6) (by omega)
      have g7 := HI.row.cell (i := k * 8 + 7) (by omega)
      have z := HI.row.frozen
      obtain ⟨y', f', hI2, hy1, hy2⟩ := HI.putZ x' hX.out HXC.out
      have HZ2 : Hid _ := NodesIn.more HZ.out HXZ.out hy1 hy2 (fun z hz => hz.sets8 w.heap.size k (.int .i64 (q k).k) (.int .i64 (q k).l) (.int .i64 (q k).o) (.int .i64 (q k).n) (.float .f64 (q k).f) (.string (q k).s) (.slice x'.ra (q k).rn x'.rc) (.slice x'.ka (q k).kn x'.kc))
      clear hy1 hy2 HZ HXZ
      have HI2 : Hid _ := hI2
      clear HI hI2
      go_wp2_with fail
      go_roundw
      case rel => exact ⟨k + 1, y', f', by omega, by go_num, HI2.out, HZ2, fr8 k _ _ _ _ _ _ _ _ hB⟩
      case measure => simp [intOf]; omega
    · go_wp2_with fail
      have : k = n := by omega
      subst this
      go_ret
      exact ⟨⟨_, y, rfl, Nat.le_refl _, ⟨rowK (fun _ _ => rfl) (HI.out.row.congr HI.out.cells), fun i hi => (HI.out.nodes i hi).less (by omega)⟩, HI.out.caps, Zf.of HI.out.row, HZ.out⟩, hB⟩

end Go.Proofs.YtcpjnddkibbddaaGreat
