import Derived.Test.YtjempigpjcnmhaaGreatUnH
import Derived.Test.YtjempigpjcnmhaaGreatLnA
import Derived.Laws.BytesString
import Derived.Laws.IdiomStrings
/-! Units copied by the laws, once more: the copies can be written into. -/
namespace Go.Proofs.YtjempigpjcnmhaaGreat
open Go.RowKit
attribute [local go_sem] run_store_float

/-- a block that can be written into -/
def Zf (w : World) (B : Nat) : Prop := B < w.heap.size ∧ ∀ j, w.frozen? ⟨B, j, none⟩ = false
theorem Zf.of {w : World} {b : Nat} {t : TypeId} {n : Nat} {f : Nat → Value} (h : w.rowIs b t n f) : Zf w b := ⟨h.lt, h.frozen⟩
theorem Zf.set {w : World} {B : Nat} (h : Zf w B) (p : Addr) (v : Value) : Zf (w.setCell p v) B := ⟨by simpa using h.1, fun j => by rw [World.frozen?_setCell]; exact h.2 j⟩
theorem Zf.below {w w' : World} {B : Nat} (h : Zf w B) (hb : Below w.heap.size w w') : Zf w' B := ⟨Nat.lt_of_lt_of_le h.1 hb.size, fun j => by
  have e := hb.block B h.1
  have := h.2 j
  unfold World.frozen? at this ⊢
  rw [e]
  exact this⟩
def NodeZ (w : World) (x : NA) : Prop := ∃ b1 b2, x.ra = some ⟨b1, 0, none⟩ ∧ x.ka = some ⟨b2, 0, none⟩ ∧ Zf w b1 ∧ Zf w b2
theorem NodeZ.set {w : World} {x : NA} (h : NodeZ w x) (p : Addr) (v : Value) : NodeZ (w.setCell p v) x := by
  obtain ⟨b1, b2, e1, e2, h1, h2⟩ := h
  exact ⟨b1, b2, e1, e2, h1.set p v, h2.set p v⟩
theorem NodeZ.below {w w' : World} {x : NA} (h : NodeZ w x) (hb : Below w.heap.size w w') : NodeZ w' x := by
  obtain ⟨b1, b2, e1, e2, h1, h2⟩ := h
  exact ⟨b1, b2, e1, e2, h1.below hb, h2.below hb⟩
def FnZ (w : World) (d : FD) (x : FA) : Prop := ∃ b1 b2 b3, x.va = some ⟨b1, 0, none⟩ ∧ x.ua = some ⟨b2, 0, none⟩ ∧ x.na = some ⟨b3, 0, none⟩ ∧ Zf w b1 ∧ Zf w b2 ∧ Zf w b3 ∧ ∀ i, i < d.nn → NodeZ w (x.nas i)
theorem FnZ.set {w : World} {d : FD} {x : FA} (h : FnZ w d x) (p : Addr) (v : Value) : FnZ (w.setCell p v) d x := by
  obtain ⟨b1, b2, b3, e1, e2, e3, h1, h2, h3, h4⟩ := h
  exact ⟨b1, b2, b3, e1, e2, e3, h1.set p v, h2.set p v, h3.set p v, fun i hi => (h4 i hi).set p v⟩
theorem FnZ.below {w w' : World} {d : FD} {x : FA} (h : FnZ w d x) (hb : Below w.heap.size w w') : FnZ w' d x := by
  obtain ⟨b1, b2, b3, e1, e2, e3, h1, h2, h3, h4⟩ := h
  exact ⟨b1, b2, b3, e1, e2, e3, h1.below hb, h2.below hb, h3.below hb, fun i hi => (h4 i hi).below hb⟩

set_option maxRecDepth 100000 in
set_option maxHeartbeats 4000000 in
theorem toIntS_callsZ (L : Nat) (a : Option Addr) (n cap : Nat) (r : Nat → Int) (w : World) (hn : n ≤ 1048576) (hT : IntsAt L w a n r) :
    Calls Tryz.prog 158 #[.slice a n cap] w fun e w' => (∃ B, e = .returned (.slice (some ⟨B, 0, none⟩) n n) ∧ w.heap.size ≤ B ∧ Zf w' B ∧ (IntsAt B w' (some ⟨B, 0, none⟩) n r)) ∧ Below w.heap.size w w' := by
  have HT : Hid (RowN 1 L w a n fun i => #[.int .i64 (r i)]) := hT
  clear hT
  obtain ⟨c, hcs, hmk⟩ := make_ints n hn w
  have hR0 := rowOfC w c 3
  rw [hcs] at hR0
  have hB0 := below_alloc w (.cells c 3)
  go_enter Tryz.func158, Tryz.ntmps158
  go_wp2_with fail
  clear hmk
  go_loopw [4] (fun i wr => ∃ (k : Nat) (f : Nat → Value), k ≤ n ∧ i = .int .i64 k ∧ wr.rowIs w.heap.size 3 (n * 1) f ∧ (∀ m, m < k * 1 → f m = flK 1 (fun i => #[.int .i64 (r i)]) m) ∧ Below w.heap.size w wr) (fun i _ => n - (intOf i).toNat)
  case atStart => exact ⟨0, _, Nat.zero_le _, rfl, hR0, fun m hm => by omega, hB0⟩
  case round =>
    clear hR0 hB0 hcs
    obtain ⟨k, f, hk, rfl, hR, hf, hB⟩ := hrel
    by_cases hkn : k < n
    · obtain ⟨b, off, rfl, _, hb, d0⟩ := cells1 (HT.out.below hB) hkn
      have g0 := hR.cell (i := k) (by omega)
      have z := hR.frozen
      obtain ⟨f', hR3, hf'⟩ := put1 hR k _ hf (.int .i64 (r k)) _ (fun _ _ => rfl) rfl
      have HR : Hid _ := hR3
      have HF : Hid _ := hf'
      clear hR hR3 hf hf'
      go_wp2_with fail
      go_roundw
      case rel => exact ⟨k + 1, f', by omega, by go_num, HR.out, HF.out, fr1 k _ hB⟩
      case measure => simp [intOf]; omega
    · go_wp2_with fail
      have : k = n := by omega
      subst this
      go_ret
      exact ⟨⟨_, rfl, Nat.le_refl _, Zf.of hR, rowK (fun _ _ => rfl) (hR.congr hf)⟩, hB⟩

set_option maxRecDepth 100000 in
set_option maxHeartbeats 4000000 in
theorem toStringS_callsZ (L : Nat) (a : Option Addr) (n cap : Nat) (q : Nat → ByteArray) (w : World) (hn : n ≤ 1048576) (hT : RowN 1 L w a n fun i => #[.string (q i)]) :
    Calls Tryz.prog 68 #[.slice a n cap] w fun e w' => (∃ B, e = .returned (.slice (some ⟨B, 0, none⟩) n n) ∧ w.heap.size ≤ B ∧ Zf w' B ∧ (RowN 1 B w' (some ⟨B, 0, none⟩) n fun i => #[.string (q i)])) ∧ Below w.heap.size w w' := by
  have HT : Hid (RowN 1 L w a n fun i => #[.string (q i)]) := hT
  clear hT
  obtain ⟨c, hcs, hmk⟩ := make_strings n hn w
  have hR0 := rowOfC w c 9
  rw [hcs] at hR0
  have hB0 := below_alloc w (.cells c 9)
  go_enter Tryz.func68, Tryz.ntmps68
  go_wp2_with fail
  clear hmk
  go_loopw [4] (fun i wr => ∃ (k : Nat) (f : Nat → Value), k ≤ n ∧ i = .int .i64 k ∧ wr.rowIs w.heap.size 9 (n * 1) f ∧ (∀ m, m < k * 1 → f m = flK 1 (fun i => #[.string (q i)]) m) ∧ Below w.heap.size w wr) (fun i _ => n - (intOf i).toNat)
  case atStart => exact ⟨0, _, Nat.zero_le _, rfl, hR0, fun m hm => by omega, hB0⟩
  case round =>
    clear hR0 hB0 hcs
    obtain ⟨k, f, hk, rfl, hR, hf, hB⟩ := hrel
    by_cases hkn : k < n
    · obtain ⟨b, off, rfl, _, hb, d0⟩ := cells1 (HT.out.below hB) hkn
      have g0 := hR.cell (i := k) (by omega)
      have z := hR.frozen
      obtain ⟨f', hR3, hf'⟩ := put1 hR k _ hf (.string (q k)) _ (fun _ _ => rfl) rfl
      have HR : Hid _ := hR3
      have HF : Hid _ := hf'
      clear hR hR3 hf hf'
      go_wp2_with fail
      go_roundw
      case rel => exact ⟨k + 1, f', by omega, by go_num, HR.out, HF.out, fr1 k _ hB⟩
      case measure => simp [intOf]; omega
    · go_wp2_with fail
      have : k = n := by omega
      subst this
      go_ret
      exact ⟨⟨_, rfl, Nat.le_refl _, Zf.of hR, rowK (fun _ _ => rfl) (hR.congr hf)⟩, hB⟩

set_option maxRecDepth 100000 in
set_option maxHeartbeats 4000000 in
theorem toUpS_callsZ (L : Nat) (a : Option Addr) (n cap : Nat) (q : Nat → UPD) (w : World) (hn : n ≤ 1048576) (hT : RowN 2 L w a n fun i => upC (q i)) :
    Calls Tryz.prog 69 #[.slice a n cap] w fun e w' => (∃ B, e = .returned (.slice (some ⟨B, 0, none⟩) n n) ∧ w.heap.size ≤ B ∧ Zf w' B ∧ (RowN 2 B w' (some ⟨B, 0, none⟩) n fun i => upC (q i))) ∧ Below w.heap.size w w' := by
  have HT : Hid (RowN 2 L w a n fun i => upC (q i)) := hT
  clear hT
  obtain ⟨c, hcs, hmk⟩ := make_ups n hn w
  have hR0 := rowOfC w c 98
  rw [hcs] at hR0
  have hB0 := below_alloc w (.cells c 98)
  go_enter Tryz.func69, Tryz.ntmps69
  go_wp2_with fail
  clear hmk
  go_loopw [4] (fun i wr => ∃ (k : Nat) (f : Nat → Value), k ≤ n ∧ i = .int .i64 k ∧ wr.rowIs w.heap.size 98 (n * 2) f ∧ (∀ m, m < k * 2 → f m = flK 2 (fun i => upC (q i)) m) ∧ Below w.heap.size w wr) (fun i _ => n - (intOf i).toNat)
  case atStart => exact ⟨0, _, Nat.zero_le _, rfl, hR0, fun m hm => by omega, hB0⟩
  case round =>
    clear hR0 hB0 hcs
    obtain ⟨k, f, hk, rfl, hR, hf, hB⟩ := hrel
    by_cases hkn : k < n
    · obtain ⟨b, off, rfl, _, hb, d0, d1⟩ := cells2 (HT.out.below hB) hkn
      go_wp2_with fail
      refine (toUp_calls (q k) wr).mono ?_
      rintro e w2 ⟨rfl, hb2⟩
      have hR2 := hR.of_block (hb2.block _ hR.lt)
      replace hB := below_call hB hb2
      clear d0 d1 hb2 hR
      have g0 := hR2.cell (i := k * 2) (by omega)
      have g1 := hR2.cell (i := k * 2 + 1) (by omega)
      have z := hR2.frozen
      obtain ⟨f', hR3, hf'⟩ := put2 hR2 k _ hf (.bool (q k).loc) (.int .i64 (q k).ix) _ (fun _ _ => rfl) rfl
      have HR : Hid _ := hR3
      have HF : Hid _ := hf'
      clear hR2 hR3 hf hf'
      go_wp2_with fail
      go_roundw
      case rel => exact ⟨k + 1, f', by omega, by go_num, HR.out, HF.out, fr2 k _ _ hB⟩
      case measure => simp [intOf]; omega
    · go_wp2_with fail
      have : k = n := by omega
      subst this
      go_ret
      exact ⟨⟨_, rfl, Nat.le_refl _, Zf.of hR, rowK (fun _ _ => rfl) (hR.congr hf)⟩, hB⟩

set_option maxRecDepth 100000 in
set_option maxHeartbeats 4000000 in
theorem toNode_callsZ (L : Nat) (d : ND) (x : NA) (w : World) (hs : d.sm) (hT : NodeAt L w d x) :
    Calls Tryz.prog 136 #[nodeV d x] w fun e w' => (∃ x', e = .returned (nodeV d x') ∧ NodeAt w.heap.size w' d x' ∧ d.kn ≤ x'.kc ∧ NodeZ w' x') ∧ Below w.heap.size w w' := by
  have HT : Hid (NodeAt L w d x) := hT
  have HS : Hid d.sm := hs
  clear hT hs
  go_enter Tryz.func136, Tryz.ntmps136
  go_wp2_with fail
  refine (toIntS_callsZ L _ _ _ d.r _ HS.out.rn (((HT.out.alloc _).alloc _).alloc _).1).mono ?_
  rintro e w2 ⟨⟨B1, rfl, hB1, hz1, hI1⟩, hb2⟩
  have HZ1 : Hid (Zf w2 B1) := hz1
  clear hz1
  have HI1 : Hid (IntsAt B1 w2 (some ⟨B1, 0, none⟩) d.rn d.r) := hI1
  have HB : Hid (Below w.heap.size w w2) := below_call (below_alloc3 _ _ _ _) hb2
  obtain ⟨hc2, hf2⟩ := bcell hb2
  have hz2 := hb2.size
  (try simp at hz2 hB1)
  have ha2 : w.heap.size < w2.heap.size := by omega
  have hb2' : w.heap.size + 1 < w2.heap.size := by omega
  have hc2' : w.heap.size + 1 + 1 < w2.heap.size := by omega
  clear hI1 hb2
  have HB2 : Hid (Below w.heap.size w (w2.setCell ⟨w.heap.size + 1 + 1, 6, none⟩ (.slice (some ⟨B1, 0, none⟩) d.rn d.rn))) := frS HB.out (by omega) _
  go_wp2_with fail
  refine (toIntS_callsZ L _ _ _ d.c _ HS.out.kn (HT.out.below HB2.out).2).mono ?_
  rintro e w3 ⟨⟨B2, rfl, hB2, hz2', hI2⟩, hb3⟩
  have HZ2 : Hid (Zf w3 B2) := hz2'
  clear hz2'
  replace HZ1 : Hid (Zf w3 B1) := (HZ1.out.set _ _).below hb3
  have HI2 : Hid (IntsAt B2 w3 (some ⟨B2, 0, none⟩) d.kn d.c) := hI2
  replace HI1 : Hid (IntsAt B1 w3 (some ⟨B1, 0, none⟩) d.rn d.r) := RowN.below (RowN.set HI1.out (p := ⟨w.heap.size + 1 + 1, 6, none⟩) (by show w.heap.size + 1 + 1 < B1; omega) _) hb3
  replace HB : Hid (Below w.heap.size w w3) := below_call HB2.out hb3
  obtain ⟨hc3, hf3⟩ := bcell hb3
  have hz3 := hb3.size
  (try simp at hz3 hB2)
  have ha3 : w.heap.size < w3.heap.size := by omega
  have hb3' : w.heap.size + 1 < w3.heap.size := by omega
  have hc3' : w.heap.size + 1 + 1 < w3.heap.size := by omega
  clear hb3 hI2 HB2
  go_wp2_with fail
  have p1 : w.heap.size ≤ w.heap.size + 1 := Nat.le_add_right _ _
  have p2 : w.heap.size ≤ w.heap.size + 1 + 1 := Nat.le_add_right _ 2
  refine bodyPost_ret (v := nodeV d ⟨some ⟨B1, 0, none⟩, d.rn, some ⟨B2, 0, none⟩, d.kn⟩) (by simp [results, Tryz.results136, go_sem, hc3, hc2, hb2']) rfl ⟨⟨_, rfl, ⟨?_, ?_⟩, Nat.le_refl _, ⟨B1, B2, rfl, rfl, (((((((((HZ1.out.set _ _).set _ _).set _ _).set _ _).set _ _).set _ _).set _ _).set _ _).set _ _), (((((((((HZ2.out.set _ _).set _ _).set _ _).set _ _).set _ _).set _ _).set _ _).set _ _).set _ _)⟩⟩, ?_⟩
  · exact RowN.less (set8 (RowN.set HI1.out (p := ⟨w.heap.size + 1 + 1, 7, none⟩) (by show w.heap.size + 1 + 1 < B1; omega) _) (by omega) _ _ _ _ _ _ _ _) (by omega)
  · exact RowN.less (set8 (RowN.set HI2.out (p := ⟨w.heap.size + 1 + 1, 7, none⟩) (by show w.heap.size + 1 + 1 < B2; omega) _) (by omega) _ _ _ _ _ _ _ _) (by omega)
  · exact frS (frS (frS (frS (frS (frS (frS (frS (frS HB.out p2 _) p1 _) p1 _) p1 _) p1 _) p1 _) p1 _) p1 _) p1 _

theorem NodeZ.sets8 {w : World} {x : NA} (h : NodeZ w x) (b k : Nat) (v0 v1 v2 v3 v4 v5 v6 v7 : Value) : NodeZ ((((((((w.setCell ⟨b, k * 8, none⟩ v0).setCell ⟨b, k * 8 + 1, none⟩ v1).setCell ⟨b, k * 8 + 2, none⟩ v2).setCell ⟨b, k * 8 + 3, none⟩ v3).setCell ⟨b, k * 8 + 4, none⟩ v4).setCell ⟨b, k * 8 + 5, none⟩ v5).setCell ⟨b, k * 8 + 6, none⟩ v6).setCell ⟨b, k * 8 + 7, none⟩ v7) x :=
  (((((((h.set _ _).set _ _).set _ _).set _ _).set _ _).set _ _).set _ _).set _ _
theorem FnZ.sets7 {w : World} {d : FD} {x : FA} (h : FnZ w d x) (b k : Nat) (v0 v1 v2 v3 v4 v5 v6 : Value) : FnZ (((((((w.setCell ⟨b, k * 7, none⟩ v0).setCell ⟨b, k * 7 + 1, none⟩ v1).setCell ⟨b, k * 7 + 2, none⟩ v2).setCell ⟨b, k * 7 + 3, none⟩ v3).setCell ⟨b, k * 7 + 4, none⟩ v4).setCell ⟨b, k * 7 + 5, none⟩ v5).setCell ⟨b, k * 7 + 6, none⟩ v6) d x :=
  ((((((h.set _ _).set _ _).set _ _).set _ _).set _ _).set _ _).set _ _
theorem NodesIn.putZ {w : World} {B k n : Nat} {q : Nat → ND} {y : Nat → NA} {f : Nat → Value} (h : NodesIn w B k q y n f) (x : NA) (hx : NodeAt (B + 1) w (q k) x) (hc : (q k).kn ≤ x.kc) :
    ∃ y' f', NodesIn ((((((((w.setCell ⟨B, k * 8, none⟩ (.int .i64 (q k).k)).setCell ⟨B, k * 8 + 1, none⟩ (.int .i64 (q k).l)).setCell ⟨B, k * 8 + 2, none⟩ (.int .i64 (q k).o)).setCell ⟨B, k * 8 + 3, none⟩ (.int .i64 (q k).n)).setCell ⟨B, k * 8 + 4, none⟩ (.float .f64 (q k).f)).setCell ⟨B, k * 8 + 5, none⟩ (.string (q k).s)).setCell ⟨B, k * 8 + 6, none⟩ (.slice x.ra (q k).rn x.rc)).setCell ⟨B, k * 8 + 7, none⟩ (.slice x.ka (q k).kn x.kc)) B (k + 1) q y' n f' ∧ (∀ i, i < k → y' i = y i) ∧ y' k = x := by
  obtain ⟨f', hR, hf⟩ := put8 h.row k _ h.cells (.int .i64 (q k).k) (.int .i64 (q k).l) (.int .i64 (q k).o) (.int .i64 (q k).n) (.float .f64 (q k).f) (.string (q k).s) (.slice x.ra (q k).rn x.rc) (.slice x.ka (q k).kn x.kc) (fun i => nodeC (q i) (if i = k then x else y i)) (fun i hi => by rw [if_neg (by omega)]) (by rw [if_pos rfl])
  refine ⟨fun i => if i = k then x else y i, f', ⟨hR, hf, fun i hi => ?_, fun i hi => by
    by_cases e : i = k
    · subst e; rw [if_pos rfl]; exact hc
    · rw [if_neg e]; exact h.caps i (by omega)⟩, fun i hi => by show (if i = k then x else y i) = y i; rw [if_neg (by omega)], by show (if k = k then x else y k) = x; rw [if_pos rfl]⟩
  by_cases e : i = k
  · subst e
    rw [if_pos rfl]
    exact hx.sets8 (by omega) _ _ _ _ _ _ _ _ _
  · rw [if_neg e]
    exact (h.nodes i (by omega)).sets8 (by omega) _ _ _ _ _ _ _ _ _
theorem NodesIn.more {w w' : World} {k : Nat} {y y' : Nat → NA} (h : ∀ i, i < k → NodeZ w (y i)) {x : NA} (hx : NodeZ w x) (e : ∀ i, i < k → y' i = y i) (e2 : y' k = x) (hw : ∀ z, NodeZ w z → NodeZ w' z) : ∀ i, i < k + 1 → NodeZ w' (y' i) := fun i hi => by
  by_cases c : i = k
  · subst c; rw [e2]; exact hw _ hx
  · rw [e i (by omega)]; exact hw _ (h i (by omega))

set_option maxRecDepth 100000 in
set_option maxHeartbeats 4000000 in
theorem toNodeS_callsZ (L : Nat) (a : Option Addr) (n cap : Nat) (q : Nat → ND) (x : Nat → NA) (w : World) (hn : n ≤ 1048576) (hq : ∀ i, i < n → (q i).sm) (hT : NodesAt L w n q a x) :
    Calls Tryz.prog 70 #[.slice a n cap] w fun e w' => (∃ B y, e = .returned (.slice (some ⟨B, 0, none⟩) n n) ∧ w.heap.size ≤ B ∧ NodesAt B w' n q (some ⟨B, 0, none⟩) y ∧ (∀ i, i < n → (q i).kn ≤ (y i).kc) ∧ Zf w' B ∧ ∀ i, i < n → NodeZ w' (y i)) ∧ Below w.heap.size w w' := by
  have hQ : Hid (∀ i, i < n → (q i).sm) := hq
  have HT : Hid (NodesAt L w n q a x) := hT
  clear hT hq
  obtain ⟨c, hcs, hmk⟩ := make_nodes n hn w
  have hR0 := rowOfC w c 52
  rw [hcs] at hR0
  have hB0 := below_alloc w (.cells c 52)
  go_enter Tryz.func70, Tryz.ntmps70
  go_wp2_with fail
  clear hmk
  go_loopw [4] (fun i wr => ∃ (k : Nat) (y : Nat → NA) (f : Nat → Value), k ≤ n ∧ i = .int .i64 k ∧ NodesIn wr w.heap.size k q y n f ∧ Hid (∀ i, i < k → NodeZ wr (y i)) ∧ Below w.heap.size w wr) (fun i _ => n - (intOf i).toNat)
  case atStart => exact ⟨0, fun _ => default, _, Nat.zero_le _, rfl, ⟨hR0, fun m hm => by omega, fun i hi => by omega, fun i hi => by omega⟩, (fun i hi => by omega), hB0⟩
  case round =>
    clear hR0 hB0 hcs
    obtain ⟨k, y, f, hk, rfl, hI, HZ, hB⟩ := hrel
    have HI : Hid (NodesIn wr w.heap.size k q y n f) := hI
    clear hI
    by_cases hkn : k < n
    · obtain ⟨b, off, rfl, _, hb, d0, d1, d2, d3, d4, d5, d6, d7⟩ := cells8 (HT.out.1.below hB) hkn
      go_wp2_with fail
      refine (toNode_callsZ L (q k) (x k) wr (hQ.out k hkn) ((HT.out.2 k hkn).below hB)).mono ?_
      rintro e w2 ⟨⟨x', rfl, hx', hxc, hxz⟩, hb2⟩
      have HXZ : Hid (NodeZ w2 x') := hxz
      replace HZ : Hid (∀ i, i < k → NodeZ w2 (y i)) := fun i hi => (HZ.out i hi).below hb2
      clear hxz
      have HXC : Hid ((q k).kn ≤ x'.kc) := hxc
      clear hxc
      have hlt := HI.out.row.lt
      replace HI := HI.out.call hb2
      have hX : Hid (NodeAt (w.heap.size + 1) w2 (q k) x') := hx'.less (by have h1 := hb2.size; have h2 := hB.size; omega)
      replace hB := below_call hB hb2
      clear d0 d1 d2 d3 d4 d5 d6 d7 hb2 hx'
      have g0 := HI.row.cell (i := k * 8) (by omega)
      have g1 := HI.row.cell (i := k * 8 + 1) (by omega)
      have g2 := HI.row.cell (i := k * 8 + 2) (by omega)
      have g3 := HI.row.cell (i := k * 8 + 3) (by omega)
      have g4 := HI.row.cell (i := k * 8 + 4) (by omega)
      have g5 := HI.row.cell (i := k * 8 + 5) (by omega)
      have g6 := HI.row.cell (i := k * 8 + 6) (by omega)
      have g7 := HI.row.cell (i := k * 8 + 7) (by omega)
      have z := HI.row.frozen
      obtain ⟨y', f', hI2, hy1, hy2⟩ := HI.putZ x' hX.out HXC.out
      have HZ2 : Hid _ := NodesIn.more HZ.out HXZ.out hy1 hy2 (fun z hz => hz.sets8 w.heap.size k (.int .i64 (q k).k) (.int .i64 (q k).l) (.int .i64 (q k).o) (.int .i64 (q k).n) (.float .f64 (q k).f) (.string (q k).s) (.slice x'.ra (q k).rn x'.rc) (.slice x'.ka (q k).kn x'.kc))
      clear hy1 hy2 HZ HXZ
      have HI2 : Hid _ := hI2
      clear HI hI2
      go_wp2_with fail
      go_roundw
      case rel => exact ⟨k + 1, y', f', by omega, by go_num, HI2.out, HZ2, fr8 k _ _ _ _ _ _ _ _ hB⟩
      case measure => simp [intOf]; omega
    · go_wp2_with fail
      have : k = n := by omega
      subst this
      go_ret
      exact ⟨⟨_, y, rfl, Nat.le_refl _, ⟨rowK (fun _ _ => rfl) (HI.out.row.congr HI.out.cells), fun i hi => (HI.out.nodes i hi).less (by omega)⟩, HI.out.caps, Zf.of HI.out.row, HZ.out⟩, hB⟩

end Go.Proofs.YtjempigpjcnmhaaGreat

/-! Units copied by the laws, once more: fns, the unit. -/
namespace Go.Proofs.YtjempigpjcnmhaaGreat
open Go.RowKit
attribute [local go_sem] run_store_float

set_option maxRecDepth 100000 in
set_option maxHeartbeats 4000000 in
theorem toFn_callsZ (L : Nat) (d : FD) (x : FA) (w : World) (hs : d.sm) (hT : FnAt L w d x) :
    Calls Tryz.prog 43 #[fnV d x] w fun e w' => (∃ x', e = .returned (fnV d x') ∧ FnAt w.heap.size w' d x' ∧ CapF d x' ∧ FnZ w' d x') ∧ Below w.heap.size w w' := by
  have HT : Hid (FnAt L w d x) := hT
  have HS : Hid d.sm := hs
  clear hT hs
  have p1 : w.heap.size ≤ w.heap.size + 1 := Nat.le_add_right _ _
  have p2 : w.heap.size ≤ w.heap.size + 1 + 1 := Nat.le_add_right _ 2
  go_enter Tryz.func43, Tryz.ntmps43
  go_wp2_with fail
  refine (toStringS_callsZ L _ _ _ d.v _ HS.out.vn (((HT.out.alloc _).alloc _).alloc _).1).mono ?_
  rintro e w2 ⟨⟨B1, rfl, hB1, hq1, hI1⟩, hb2⟩
  have HZ1 : Hid (Zf w2 B1) := hq1
  clear hq1
  have HI1 : Hid (RowN 1 B1 w2 (some ⟨B1, 0, none⟩) d.vn fun i => #[.string (d.v i)]) := hI1
  have HB : Hid (Below w.heap.size w w2) := below_call (below_alloc3 _ _ _ _) hb2
  obtain ⟨hc2, hf2⟩ := bcell hb2
  have hz2 := hb2.size
  (try simp at hz2 hB1)
  have ha2 : w.heap.size < w2.heap.size := by omega
  have hb2' : w.heap.size + 1 < w2.heap.size := by omega
  have hc2' : w.heap.size + 1 + 1 < w2.heap.size := by omega
  clear hI1 hb2
  have HB2 : Hid (Below w.heap.size w (w2.setCell ⟨w.heap.size + 1 + 1, 4, none⟩ (.slice (some ⟨B1, 0, none⟩) d.vn d.vn))) := frS HB.out p2 _
  go_wp2_with fail
  refine (toUpS_callsZ L _ _ _ d.u _ HS.out.un (HT.out.below HB2.out).2.1).mono ?_
  rintro e w3 ⟨⟨B2, rfl, hB2, hq2, hI2⟩, hb3⟩
  have HZ2 : Hid (Zf w3 B2) := hq2
  clear hq2
  replace HZ1 : Hid (Zf w3 B1) := (HZ1.out.set _ _).below hb3
  have HI2 : Hid (RowN 2 B2 w3 (some ⟨B2, 0, none⟩) d.un fun i => upC (d.u i)) := hI2
  replace HI1 : Hid (RowN 1 B1 w3 (some ⟨B1, 0, none⟩) d.vn fun i => #[.string (d.v i)]) := RowN.below (RowN.set HI1.out (p := ⟨w.heap.size + 1 + 1, 4, none⟩) (by show w.heap.size + 1 + 1 < B1; omega) _) hb3
  replace HB : Hid (Below w.heap.size w w3) := below_call HB2.out hb3
  obtain ⟨hc3, hf3⟩ := bcell hb3
  have hz3 := hb3.size
  (try simp at hz3 hB2)
  have ha3 : w.heap.size < w3.heap.size := by omega
  have hb3' : w.heap.size + 1 < w3.heap.size := by omega
  have hc3' : w.heap.size + 1 + 1 < w3.heap.size := by omega
  clear hb3 hI2 HB2
  have HB3 : Hid (Below w.heap.size w (w3.setCell ⟨w.heap.size + 1 + 1, 5, none⟩ (.slice (some ⟨B2, 0, none⟩) d.un d.un))) := frS HB.out p2 _
  go_wp2_with fail
  refine (toNodeS_callsZ L _ _ _ d.nd x.nas _ HS.out.nn HS.out.nd (HT.out.below HB3.out).2.2).mono ?_
  rintro e w4 ⟨⟨B3, y, rfl, hB3, hI3, hC3, hq3, hq4⟩, hb4⟩
  have HZ3 : Hid (FnZ w4 d ⟨some ⟨B1, 0, none⟩, d.vn, some ⟨B2, 0, none⟩, d.un, some ⟨B3, 0, none⟩, d.nn, y⟩) := ⟨B1, B2, B3, rfl, rfl, rfl, (HZ1.out.set _ _).below hb4, (HZ2.out.set _ _).below hb4, hq3, hq4⟩
  clear hq3 hq4 HZ1 HZ2
  have HC3 : Hid (∀ i, i < d.nn → (d.nd i).kn ≤ (y i).kc) := hC3
  clear hC3
  have HI3 : Hid (NodesAt B3 w4 d.nn d.nd (some ⟨B3, 0, none⟩) y) := hI3
  replace HI1 : Hid (RowN 1 B1 w4 (some ⟨B1, 0, none⟩) d.vn fun i => #[.string (d.v i)]) := RowN.below (RowN.set HI1.out (p := ⟨w.heap.size + 1 + 1, 5, none⟩) (by show w.heap.size + 1 + 1 < B1; omega) _) hb4
  replace HI2 : Hid (RowN 2 B2 w4 (some ⟨B2, 0, none⟩) d.un fun i => upC (d.u i)) := RowN.below (RowN.set HI2.out (p := ⟨w.heap.size + 1 + 1, 5, none⟩) (by show w.heap.size + 1 + 1 < B2; omega) _) hb4
  replace HB : Hid (Below w.heap.size w w4) := below_call HB3.out hb4
  obtain ⟨hc4, hf4⟩ := bcell hb4
  have hz4 := hb4.size
  (try simp at hz4 hB3)
  have ha4 : w.heap.size < w4.heap.size := by omega
  have hb4' : w.heap.size + 1 < w4.heap.size := by omega
  have hc4' : w.heap.size + 1 + 1 < w4.heap.size := by omega
  clear hb4 hI3 HB3
  go_wp2_with fail
  refine bodyPost_ret (v := fnV d ⟨some ⟨B1, 0, none⟩, d.vn, some ⟨B2, 0, none⟩, d.un, some ⟨B3, 0, none⟩, d.nn, y⟩) (by simp [results, Tryz.results43, go_sem, hc4, hc3, hc2, hb2', hb3']) rfl ⟨⟨_, rfl, ?_, ⟨Nat.le_refl _, HC3.out⟩, ((((((((HZ3.out.set _ _).set _ _).set _ _).set _ _).set _ _).set _ _).set _ _).set _ _)⟩, ?_⟩
  · have h0 : FnAt (w.heap.size + 1 + 1 + 1) w4 d ⟨some ⟨B1, 0, none⟩, d.vn, some ⟨B2, 0, none⟩, d.un, some ⟨B3, 0, none⟩, d.nn, y⟩ := ⟨HI1.out.less (by omega), HI2.out.less (by omega), HI3.out.less (by omega)⟩
    exact ((h0.set (p := ⟨w.heap.size + 1 + 1, 6, none⟩) (by show w.heap.size + 1 + 1 < _; omega) _).sets7 (by omega) _ _ _ _ _ _ _).less (by omega)
  · exact below7 (frS HB.out p2 _) p1 _ _ _ _ _ _ _

theorem FnsIn.putZ {w : World} {B k n : Nat} {q : Nat → FD} {y : Nat → FA} {f : Nat → Value} (h : FnsIn w B k q y n f) (x : FA) (hx : FnAt (B + 1) w (q k) x) (hc : CapF (q k) x) :
    ∃ y' f', FnsIn (((((((w.setCell ⟨B, k * 7, none⟩ (.string (q k).name)).setCell ⟨B, k * 7 + 1, none⟩ (.int .i64 (q k).line)).setCell ⟨B, k * 7 + 2, none⟩ (.int .i64 (q k).params)).setCell ⟨B, k * 7 + 3, none⟩ (.bool (q k).rest)).setCell ⟨B, k * 7 + 4, none⟩ (.slice x.va (q k).vn x.vc)).setCell ⟨B, k * 7 + 5, none⟩ (.slice x.ua (q k).un x.uc)).setCell ⟨B, k * 7 + 6, none⟩ (.slice x.na (q k).nn x.nc)) B (k + 1) q y' n f' ∧ (∀ i, i < k → y' i = y i) ∧ y' k = x := by
  obtain ⟨f', hR, hf⟩ := put7 h.row k _ h.cells (.string (q k).name) (.int .i64 (q k).line) (.int .i64 (q k).params) (.bool (q k).rest) (.slice x.va (q k).vn x.vc) (.slice x.ua (q k).un x.uc) (.slice x.na (q k).nn x.nc) (fun i => fnC (q i) (if i = k then x else y i)) (fun i hi => by rw [if_neg (by omega)]) (by rw [if_pos rfl])
  refine ⟨fun i => if i = k then x else y i, f', ⟨hR, hf, fun i hi => ?_, fun i hi => by
    by_cases e : i = k
    · subst e; rw [if_pos rfl]; exact hc
    · rw [if_neg e]; exact h.caps i (by omega)⟩, fun i hi => by show (if i = k then x else y i) = y i; rw [if_neg (by omega)], by show (if k = k then x else y k) = x; rw [if_pos rfl]⟩
  by_cases e : i = k
  · subst e
    rw [if_pos rfl]
    exact hx.setsK (by omega) _ _ _ _ _ _ _ _
  · rw [if_neg e]
    exact (h.fns i (by omega)).setsK (by omega) _ _ _ _ _ _ _ _
theorem FnsIn.more {w w' : World} {k : Nat} {q : Nat → FD} {y y' : Nat → FA} (h : ∀ i, i < k → FnZ w (q i) (y i)) {x : FA} (hx : FnZ w (q k) x) (e : ∀ i, i < k → y' i = y i) (e2 : y' k = x) (hw : ∀ d z, FnZ w d z → FnZ w' d z) : ∀ i, i < k + 1 → FnZ w' (q i) (y' i) := fun i hi => by
  by_cases c : i = k
  · subst c; rw [e2]; exact hw _ _ hx
  · rw [e i (by omega)]; exact hw _ _ (h i (by omega))

set_option maxRecDepth 100000 in
set_option maxHeartbeats 4000000 in
theorem toFnS_callsZ (L : Nat) (a : Option Addr) (n cap : Nat) (q : Nat → FD) (x : Nat → FA) (w : World) (hn : n ≤ 1048576) (hq : ∀ i, i < n → (q i).sm) (hT : FnsAt L w n q a x) :
    Calls Tryz.prog 21 #[.slice a n cap] w fun e w' => (∃ B y, e = .returned (.slice (some ⟨B, 0, none⟩) n n) ∧ w.heap.size ≤ B ∧ FnsAt B w' n q (some ⟨B, 0, none⟩) y ∧ (∀ i, i < n → CapF (q i) (y i)) ∧ Zf w' B ∧ ∀ i, i < n → FnZ w' (q i) (y i)) ∧ Below w.heap.size w w' := by
  have hQ : Hid (∀ i, i < n → (q i).sm) := hq
  have HT : Hid (FnsAt L w n q a x) := hT
  clear hT hq
  obtain ⟨c, hcs, hmk⟩ := make_fns n hn w
  have hR0 := rowOfC w c 49
  rw [hcs] at hR0
  have hB0 := below_alloc w (.cells c 49)
  go_enter Tryz.func21, Tryz.ntmps21
  go_wp2_with fail
  clear hmk
  go_loopw [4] (fun i wr => ∃ (k : Nat) (y : Nat → FA) (f : Nat → Value), k ≤ n ∧ i = .int .i64 k ∧ FnsIn wr w.heap.size k q y n f ∧ Hid (∀ i, i < k → FnZ wr (q i) (y i)) ∧ Below w.heap.size w wr) (fun i _ => n - (intOf i).toNat)
  case atStart => exact ⟨0, fun _ => default, _, Nat.zero_le _, rfl, ⟨hR0, fun m hm => by omega, fun i hi => by omega, fun i hi => by omega⟩, (fun i hi => by omega), hB0⟩
  case round =>
    clear hR0 hB0 hcs
    obtain ⟨k, y, f, hk, rfl, hI, HZ, hB⟩ := hrel
    have HI : Hid (FnsIn wr w.heap.size k q y n f) := hI
    clear hI
    by_cases hkn : k < n
    · obtain ⟨b, off, rfl, _, hb, d0, d1, d2, d3, d4, d5, d6⟩ := cells7 (HT.out.1.below hB) hkn
      go_wp2_with fail
      refine (toFn_callsZ L (q k) (x k) wr (hQ.out k hkn) ((HT.out.2 k hkn).below hB)).mono ?_
      rintro e w2 ⟨⟨x', rfl, hx', hxc, hxz⟩, hb2⟩
      have HXZ : Hid (FnZ w2 (q k) x') := hxz
      replace HZ : Hid (∀ i, i < k → FnZ w2 (q i) (y i)) := fun i hi => (HZ.out i hi).below hb2
      clear hxz
      have HXC : Hid (CapF (q k) x') := hxc
      clear hxc
      have hlt := HI.out.row.lt
      replace HI := HI.out.call hb2
      have hX : Hid (FnAt (w.heap.size + 1) w2 (q k) x') := hx'.less (by have h1 := hb2.size; have h2 := hB.size; omega)
      replace hB := below_call hB hb2
      clear d0 d1 d2 d3 d4 d5 d6 hb2 hx'
      have g0 := HI.row.cell (i := k * 7) (by omega)
      have g1 := HI.row.cell (i := k * 7 + 1) (by omega)
      have g2 := HI.row.cell (i := k * 7 + 2) (by omega)
      have g3 := HI.row.cell (i := k * 7 + 3) (by omega)
      have g4 := HI.row.cell (i := k * 7 + 4) (by omega)
      have g5 := HI.row.cell (i := k * 7 + 5) (by omega)
      have g6 := HI.row.cell (i := k * 7 + 6) (by omega)
      have z := HI.row.frozen
      obtain ⟨y', f', hI2, hy1, hy2⟩ := HI.putZ x' hX.out HXC.out
      have HZ2 : Hid _ := FnsIn.more HZ.out HXZ.out hy1 hy2 (fun d z hz => hz.sets7 w.heap.size k (.string (q k).name) (.int .i64 (q k).line) (.int .i64 (q k).params) (.bool (q k).rest) (.slice x'.va (q k).vn x'.vc) (.slice x'.ua (q k).un x'.uc) (.slice x'.na (q k).nn x'.nc))
      clear hy1 hy2 HZ HXZ
      have HI2 : Hid _ := hI2
      clear HI hI2
      go_wp2_with fail
      go_roundw
      case rel => exact ⟨k + 1, y', f', by omega, by go_num, HI2.out, HZ2, fr7 k _ _ _ _ _ _ _ hB⟩
      case measure => simp [intOf]; omega
    · go_wp2_with fail
      have : k = n := by omega
      subst this
      go_ret
      exact ⟨⟨_, y, rfl, Nat.le_refl _, ⟨rowK (fun _ _ => rfl) (HI.out.row.congr HI.out.cells), fun i hi => (HI.out.fns i hi).less (by omega)⟩, HI.out.caps, Zf.of HI.out.row, HZ.out⟩, hB⟩

set_option maxRecDepth 100000 in
set_option maxHeartbeats 4000000 in
theorem toUnit_callsZ (L : Nat) (d : UD) (a : Option Addr) (cap : Nat) (x : Nat → FA) (w : World) (hs : d.sm) (hT : FnsAt L w d.n d.fn a x) :
    Calls Tryz.prog 7 #[unV d a cap] w fun e w' => (∃ B y, e = .returned (unV d (some ⟨B, 0, none⟩) d.n) ∧ w.heap.size ≤ B ∧ FnsAt B w' d.n d.fn (some ⟨B, 0, none⟩) y ∧ (∀ i, i < d.n → CapF (d.fn i) (y i)) ∧ Zf w' B ∧ ∀ i, i < d.n → FnZ w' (d.fn i) (y i)) ∧ Below w.heap.size w w' := by
  have HT : Hid (FnsAt L w d.n d.fn a x) := hT
  have HS : Hid d.sm := hs
  clear hT hs
  go_enter Tryz.func7, Tryz.ntmps7
  go_wp2_with fail
  refine (toFnS_callsZ L _ _ _ d.fn x _ HS.out.n HS.out.fn (((HT.out.alloc _).alloc _).alloc _)).mono ?_
  rintro e w2 ⟨⟨B1, y, rfl, hB1, hI1, hC1, hq1, hq2⟩, hb2⟩
  have HZ1 : Hid (Zf w2 B1) := hq1
  have HZ2 : Hid (∀ i, i < d.n → FnZ w2 (d.fn i) (y i)) := hq2
  clear hq1 hq2
  have HC1 : Hid (∀ i, i < d.n → CapF (d.fn i) (y i)) := hC1
  clear hC1
  have HI1 : Hid (FnsAt B1 w2 d.n d.fn (some ⟨B1, 0, none⟩) y) := hI1
  have HB : Hid (Below w.heap.size w w2) := below_call (below_alloc3 _ _ _ _) hb2
  obtain ⟨hc2, hf2⟩ := bcell hb2
  have hz2 := hb2.size
  (try simp at hz2 hB1)
  have ha2 : w.heap.size < w2.heap.size := by omega
  have hb2' : w.heap.size + 1 < w2.heap.size := by omega
  have hc2' : w.heap.size + 1 + 1 < w2.heap.size := by omega
  clear hI1 hb2
  go_wp2_with fail
  refine bodyPost_ret (v := unV d (some ⟨B1, 0, none⟩) d.n) (by simp [results, Tryz.results7, go_sem, hc2]) rfl ⟨⟨B1, y, rfl, by omega, ?_, HC1.out, (HZ1.out.set _ _).set _ _, fun i hi => ((HZ2.out i hi).set _ _).set _ _⟩, ?_⟩
  · exact (HI1.out.set (p := ⟨w.heap.size + 1 + 1, 0, none⟩) (by show w.heap.size + 1 + 1 < _; omega) _).set (p := ⟨w.heap.size + 1, 0, none⟩) (by show w.heap.size + 1 < _; omega) _
  · exact frS (frS HB.out (Nat.le_add_right _ 2) _) (Nat.le_add_right _ 1) _

end Go.Proofs.YtjempigpjcnmhaaGreat

/-! Units marked by the laws: what stays. -/
namespace Go.Proofs.YtjempigpjcnmhaaGreat
open Go.RowKit
attribute [local go_sem] run_store_float
attribute [local go_sem ↓] Go.wp_at_zero Go.wp_at_succ

def dgU (j : Nat) : ByteArray := ByteArray.empty.push (UInt8.ofNat (48 + (j : Int) % 10).toNat)
theorem conv_digitU (j : Nat) (wr : World) : (convert 132 9 (.slice (some ⟨wr.heap.size, 0, none⟩) 1 1)).run Tryz.prog (wr.alloc (.cells #[.int .u8 (48 + (j : Int) % 10)] 5)) = .ok (.string (dgU j)) (wr.alloc (.cells #[.int .u8 (48 + (j : Int) % 10)] 5)) := by
  rw [run_convert_bytes_string _ 132 9 5 _ 1 1 Tryz.underlying132 Tryz.underlying5 Tryz.underlying9]
  have hl := run_loadCells_list (P := Tryz.prog) (wr.alloc (.cells #[.int .u8 (48 + (j : Int) % 10)] 5)) ⟨wr.heap.size, 0, none⟩ [Value.int .u8 (48 + (j : Int) % 10)] (fun i v hi => by
    have h0 : i = 0 := by
      have := (List.getElem?_eq_some_iff.1 hi).1
      simpa using this
    subst h0
    have e : v = .int .u8 (48 + (j : Int) % 10) := by cases hi; rfl
    rw [e]
    exact World.cell?_alloc_new wr _ _ 0)
  exact run_bytesToString _ ⟨wr.heap.size, 0, none⟩ 1 1 [48 + (j : Int) % 10] hl

theorem dg_step {j s : Nat} (hj : 0 < j) (h : j * 10 ^ s < 10 ^ 19) : s < 19 ∧ (j / 10) * 10 ^ (1 + s) < 10 ^ 19 := by
  refine ⟨?_, ?_⟩
  · have h1 : 1 * 10 ^ s ≤ j * 10 ^ s := Nat.mul_le_mul_right _ hj
    rw [Nat.one_mul] at h1
    exact (Nat.pow_lt_pow_iff_right (by decide)).1 (Nat.lt_of_le_of_lt h1 h)
  · have h1 : (j / 10) * 10 ^ (1 + s) = (j / 10 * 10) * 10 ^ s := by rw [Nat.pow_add, Nat.pow_one, Nat.mul_assoc]
    rw [h1]
    exact Nat.lt_of_le_of_lt (Nat.mul_le_mul_right _ (Nat.div_mul_le_self j 10)) h
set_option maxRecDepth 100000 in
set_option maxHeartbeats 4000000 in
theorem markText_any (z : Int) (w : World) (hk : 0 < z) (hk2 : z < 9223372036854775808) :
    Calls Tryz.prog 57 #[.int .i64 z] w fun e w' => (∃ s, e = .returned (.string s)) ∧ Below w.heap.size w w' := by
  obtain ⟨k, rfl⟩ : ∃ n : Nat, z = n := ⟨z.toNat, by omega⟩
  have hk' : 0 < k := by omega
  have HK : Hid (k * 10 ^ 0 < 10 ^ 19) := by
    show k * 10 ^ 0 < 10 ^ 19
    rw [Nat.pow_zero, Nat.mul_one]
    exact Nat.lt_trans (by omega : k < 9223372036854775808) (by decide)
  have HKJ : Hid (k ≤ 9223372036854775807) := by show k ≤ 9223372036854775807; omega
  clear hk hk2
  go_enter Tryz.func57, Tryz.ntmps57
  go_wp2_with fail
  have hk0 : decide (k = 0) = false := by simp; omega
  rw [hk0]
  clear hk0
  go_loopw [0, 3] (fun i o wr => ∃ (j : Nat) (s : ByteArray), Hid (j ≤ 9223372036854775807) ∧ i = .int .i64 j ∧ o = .string s ∧ Hid (j * 10 ^ s.size < 10 ^ 19) ∧ s.size ≤ 19 ∧ Below w.heap.size w wr) (fun i _ _ => (intOf i).toNat)
  case atStart => exact ⟨k, ⟨#[]⟩, HKJ, rfl, rfl, HK, (by show 0 ≤ 19; omega), Below.refl _ _⟩
  case round =>
    obtain ⟨j, s, HJ, rfl, rfl, HM, hs, hB⟩ := hrel
    by_cases hj : j = 0
    · subst hj
      have hq : (⟨#[109]⟩ ++ s : ByteArray).size ≤ maxLen := by
        simp [ByteArray.size_append, maxLen] at hs ⊢
        have : (⟨#[109]⟩ : ByteArray).size = 1 := rfl
        omega
      go_wp2_with fail
      go_ret
      exact ⟨⟨_, rfl⟩, hB⟩
    · have hj0 : 0 < j := by omega
      have hcv := conv_digitU j wr
      have hd : (dgU j).size = 1 := rfl
      have hq : (dgU j).size + s.size ≤ 9223372036854775807 := by
        simp only [hd]
        omega
      obtain ⟨h1, h2⟩ := dg_step hj0 HM.out
      have Hm : Hid ((j / 10) * 10 ^ (dgU j ++ s).size < 10 ^ 19) := by
        show (j / 10) * 10 ^ (dgU j ++ s).size < 10 ^ 19
        rw [ByteArray.size_append, hd]; exact h2
      have Hs : Hid ((dgU j ++ s).size ≤ 19) := by
        show (dgU j ++ s).size ≤ 19
        rw [ByteArray.size_append, hd]; omega
      clear HM hd h2
      have hjl : (j : Int) ≤ 9223372036854775807 := by have := HJ.out; omega
      generalize dgU j = d at hcv hq Hm Hs
      go_wp2_with fail
      go_roundw
      case rel => exact ⟨j / 10, d ++ s, (by have := HJ.out; show j / 10 ≤ _; omega), by rfl, rfl, Hm, Hs.out, below_a hB _⟩
      case measure => simp [intOf]; omega

/-- no slice -/
def ns : Value → Bool
  | .slice _ _ _ => false
  | _ => true
/-- writes into blocks L to H, none over a slice -/
structure Mk (L H : Nat) (w w' : World) : Prop where
  b : Below L w w'
  hi : ∀ k, H ≤ k → k < w.heap.size → w'.heap[k]? = w.heap[k]?
  fz : ∀ k j, k < w.heap.size → w'.frozen? ⟨k, j, none⟩ = w.frozen? ⟨k, j, none⟩
  cl : ∀ k j v, k < w.heap.size → w.cell? ⟨k, j, none⟩ = some v → ∃ v', w'.cell? ⟨k, j, none⟩ = some v' ∧ ns v' = ns v ∧ (ns v = false → v' = v)
theorem Mk.refl (L H : Nat) (w : World) : Mk L H w w := ⟨Below.refl _ _, fun _ _ _ => rfl, fun _ _ _ => rfl, fun _ _ v _ h => ⟨v, h, rfl, fun _ => rfl⟩⟩
theorem Mk.trans {L H : Nat} {a b c : World} (h : Mk L H a b) (k : Mk L H b c) : Mk L H a c :=
  ⟨h.b.trans k.b, fun x h1 h2 => (k.hi x h1 (Nat.lt_of_lt_of_le h2 h.b.size)).trans (h.hi x h1 h2), fun x j h2 => (k.fz x j (Nat.lt_of_lt_of_le h2 h.b.size)).trans (h.fz x j h2), fun x j v h2 hc => by
    obtain ⟨v1, e1, n1, s1⟩ := h.cl x j v h2 hc
    obtain ⟨v2, e2, n2, s2⟩ := k.cl x j v1 (Nat.lt_of_lt_of_le h2 h.b.size) e1
    exact ⟨v2, e2, n2.trans n1, fun hn => (s2 (n1.trans hn)).trans (s1 hn)⟩⟩
theorem Mk.below {L H : Nat} {a w w' : World} (h : Mk L H a w) (hb : Below w.heap.size w w') (hL : L ≤ w.heap.size) : Mk L H a w' :=
  h.trans ⟨hb.mono hL, fun k _ h2 => hb.block k h2, fun k j h2 => hb.frozen (p := ⟨k, j, none⟩) h2, fun k j v h2 hc => ⟨v, (hb.cell (p := ⟨k, j, none⟩) h2).trans hc, rfl, fun _ => rfl⟩⟩
theorem Mk.put {L H : Nat} {a w : World} (h : Mk L H a w) {k j : Nat} (hL : L ≤ k) (hH : k < H) (hc : ∃ u, w.cell? ⟨k, j, none⟩ = some u ∧ ns u = true) {v : Value} (hv : ns v = true) : Mk L H a (w.setCell ⟨k, j, none⟩ v) := by
  obtain ⟨u, hu, hn⟩ := hc
  refine h.trans ⟨(Below.refl _ _).setCell (p := ⟨k, j, none⟩) hL v, fun x h1 _ => Below.heap_setCell _ _ _ _ (by show x ≠ k; omega), fun x i _ => World.frozen?_setCell _ _ _ _, fun x i v' hx hc => ?_⟩
  by_cases e : (⟨x, i, none⟩ : Addr) = ⟨k, j, none⟩
  · cases e
    rw [hu] at hc
    cases hc
    refine ⟨v, World.cell?_setCell_same _ _ _ hu, hv.trans hn.symm, fun hf => ?_⟩
    rw [hn] at hf
    exact Bool.noConfusion hf
  · exact ⟨v', (World.cell?_setCell_other _ _ _ _ (fun h => e h.symm)).trans hc, rfl, fun _ => rfl⟩
/-- a block of leaves that can be written into -/
def LfR (K L H : Nat) (w : World) (b n : Nat) : Prop := 0 < n → L ≤ b ∧ b < H ∧ H ≤ w.heap.size ∧ (∀ j, w.frozen? ⟨b, j, none⟩ = false) ∧ ∀ j, j < n * K → ∃ v, w.cell? ⟨b, j, none⟩ = some v ∧ ns v = true
theorem LfR.mk {K L H : Nat} {w w' : World} {b n : Nat} (h : LfR K L H w b n) (hm : Mk L H w w') : LfR K L H w' b n := fun hn => by
  obtain ⟨h1, h2, h3, h4, h5⟩ := h hn
  refine ⟨h1, h2, Nat.le_trans h3 hm.b.size, fun j => (hm.fz b j (by omega)).trans (h4 j), fun j hj => ?_⟩
  obtain ⟨v, e, hv⟩ := h5 j hj
  obtain ⟨v', e', hv', _⟩ := hm.cl b j v (by omega) e
  exact ⟨v', e', hv'.trans hv⟩
set_option maxRecDepth 100000 in
set_option maxHeartbeats 4000000 in
theorem markIntS_calls (L H b n cap : Nat) (k : Int) (w : World) (hn : n ≤ 1048576) (hk : 0 < k) (hk2 : k < 9000000000000000000) (hR : LfR 1 L H w b n) :
    Calls Tryz.prog 15 #[.slice (some ⟨b, 0, none⟩) n cap, .int .i64 k] w fun e w' => e = .returned (.int .i64 (k + (n : Int) * 1)) ∧ Mk L H w w' := by
  have HR : Hid (LfR 1 L H w b n) := hR
  clear hR
  go_enter Tryz.func15, Tryz.ntmps15
  go_wp2_with fail
  go_loopw [1, 5] (fun kv i wr => ∃ m : Nat, m ≤ n ∧ kv = .int .i64 (k + (m : Int) * 1) ∧ i = .int .i64 m ∧ Hid (Mk L H w wr)) (fun _ i _ => n - (intOf i).toNat)
  case atStart => exact ⟨0, Nat.zero_le _, by simp, rfl, Mk.refl _ _ _⟩
  case round =>
    obtain ⟨m, hm, rfl, rfl, HM⟩ := hrel
    by_cases hmn : m < n
    · obtain ⟨h1, h2, h3, z, h5⟩ := (HR.out.mk HM.out) (by omega)
      obtain ⟨v0, g0, q0⟩ := h5 m (by omega)
      have HM2 : Hid (∀ v, ns v = true → Mk L H w (wr.setCell ⟨b, m, none⟩ v)) := fun v hv => HM.out.put h1 h2 ⟨v0, g0, q0⟩ hv
      clear h5
      go_wp2_with fail
      go_roundw
      case rel => exact ⟨m + 1, by omega, by go_num, by go_num, HM2.out _ rfl⟩
      case measure => simp [intOf]; omega
    · obtain rfl : m = n := by omega
      go_wp2_with fail
      go_ret
      exact ⟨rfl, HM.out⟩

set_option maxRecDepth 100000 in
set_option maxHeartbeats 4000000 in
theorem markStringS_calls (L H b n cap : Nat) (k : Int) (w : World) (hn : n ≤ 1048576) (hk : 0 < k) (hk2 : k < 9000000000000000000) (hR : LfR 1 L H w b n) :
    Calls Tryz.prog 58 #[.slice (some ⟨b, 0, none⟩) n cap, .int .i64 k] w fun e w' => e = .returned (.int .i64 (k + (n : Int) * 1)) ∧ Mk L H w w' := by
  have HR : Hid (LfR 1 L H w b n) := hR
  clear hR
  go_enter Tryz.func58, Tryz.ntmps58
  go_wp2_with fail
  go_loopw [1, 5] (fun kv i wr => ∃ m : Nat, m ≤ n ∧ kv = .int .i64 (k + (m : Int) * 1) ∧ i = .int .i64 m ∧ Hid (Mk L H w wr)) (fun _ i _ => n - (intOf i).toNat)
  case atStart => exact ⟨0, Nat.zero_le _, by simp, rfl, Mk.refl _ _ _⟩
  case round =>
    obtain ⟨m, hm, rfl, rfl, HM⟩ := hrel
    by_cases hmn : m < n
    · obtain ⟨h1, h2, h3, z, h5⟩ := (HR.out.mk HM.out) (by omega)
      obtain ⟨v0, g0, q0⟩ := h5 m (by omega)
      clear h5 z g0 q0
      go_wp2_with (go_at_call 57; refine (markText_any _ _ (by omega) (by omega)).mono ?_; rintro e w2 ⟨⟨s, rfl⟩, hb2⟩; have HM2 : Hid (Mk L H w w2) := HM.out.below hb2 (by omega); obtain ⟨_, _, _, z, h5⟩ := (HR.out.mk HM2.out) (by omega); obtain ⟨v0, g0, q0⟩ := h5 m (by omega); have HM3 : Hid (∀ v, ns v = true → Mk L H w (w2.setCell ⟨b, m, none⟩ v)) := (fun v hv => HM2.out.put h1 h2 ⟨v0, g0, q0⟩ hv); clear h5 hb2)
      go_roundw
      case rel => exact ⟨m + 1, by omega, by go_num, by go_num, HM3.out _ rfl⟩
      case measure => simp [intOf]; omega
    · obtain rfl : m = n := by omega
      go_wp2_with fail
      go_ret
      exact ⟨rfl, HM.out⟩

set_option maxRecDepth 100000 in
set_option maxHeartbeats 4000000 in
theorem markUpS_calls (L H b n cap : Nat) (k : Int) (w : World) (hn : n ≤ 1048576) (hk : 0 < k) (hk2 : k < 9000000000000000000) (hR : LfR 2 L H w b n) :
    Calls Tryz.prog 59 #[.slice (some ⟨b, 0, none⟩) n cap, .int .i64 k] w fun e w' => e = .returned (.int .i64 (k + (n : Int) * 2)) ∧ Mk L H w w' := by
  have HR : Hid (LfR 2 L H w b n) := hR
  clear hR
  go_enter Tryz.func59, Tryz.ntmps59
  go_wp2_with fail
  go_loopw [1, 5] (fun kv i wr => ∃ m : Nat, m ≤ n ∧ kv = .int .i64 (k + (m : Int) * 2) ∧ i = .int .i64 m ∧ Hid (Mk L H w wr)) (fun _ i _ => n - (intOf i).toNat)
  case atStart => exact ⟨0, Nat.zero_le _, by simp, rfl, Mk.refl _ _ _⟩
  case round =>
    obtain ⟨m, hm, rfl, rfl, HM⟩ := hrel
    by_cases hmn : m < n
    · obtain ⟨h1, h2, h3, z, h5⟩ := (HR.out.mk HM.out) (by omega)
      obtain ⟨v0, g0, q0⟩ := h5 (m * 2) (by omega)
      obtain ⟨v1, g1, q1⟩ := h5 (m * 2 + 1) (by omega)
      have HM2 : Hid (∀ v v', ns v = true → ns v' = true → Mk L H w ((wr.setCell ⟨b, m * 2, none⟩ v).setCell ⟨b, m * 2 + 1, none⟩ v')) := fun v v' hv hv' => by
        have k1 := HM.out.put h1 h2 ⟨v0, g0, q0⟩ hv
        exact k1.put h1 h2 (((HR.out.mk k1) (by omega)).2.2.2.2 (m * 2 + 1) (by omega)) hv'
      clear h5
      go_wp2_with fail
      go_roundw
      case rel => exact ⟨m + 1, by omega, by go_num, by go_num, HM2.out _ _ rfl rfl⟩
      case measure => simp [intOf]; omega
    · obtain rfl : m = n := by omega
      go_wp2_with fail
      go_ret
      exact ⟨rfl, HM.out⟩

end Go.Proofs.YtjempigpjcnmhaaGreat

/-! Units marked by the laws: nodes, fns, the unit. -/
namespace Go.Proofs.YtjempigpjcnmhaaGreat
open Go.RowKit
attribute [local go_sem] run_store_float
attribute [local go_sem ↓] Go.wp_at_zero Go.wp_at_succ

theorem Mk.slice {L H : Nat} {w w' : World} (h : Mk L H w w') {k j : Nat} (hk : k < w.heap.size) {a : Option Addr} {n c : Nat} (hc : w.cell? ⟨k, j, none⟩ = some (.slice a n c)) : w'.cell? ⟨k, j, none⟩ = some (.slice a n c) := by
  obtain ⟨v', e, _, hs⟩ := h.cl k j _ hk hc
  rw [e, hs rfl]
theorem Mk.leaf {L H : Nat} {w w' : World} (h : Mk L H w w') {k j : Nat} (hk : k < w.heap.size) (hc : ∃ v, w.cell? ⟨k, j, none⟩ = some v ∧ ns v = true) : ∃ v, w'.cell? ⟨k, j, none⟩ = some v ∧ ns v = true := by
  obtain ⟨v, e, hv⟩ := hc
  obtain ⟨v', e', hv', _⟩ := h.cl k j _ hk e
  exact ⟨v', e', hv'.trans hv⟩
/-- a block that can be written into -/
def Blk (L H : Nat) (w : World) (b : Nat) : Prop := L ≤ b ∧ b < H ∧ H ≤ w.heap.size ∧ ∀ j, w.frozen? ⟨b, j, none⟩ = false
theorem Blk.mk {L H : Nat} {w w' : World} {b : Nat} (h : Blk L H w b) (hm : Mk L H w w') : Blk L H w' b := ⟨h.1, h.2.1, Nat.le_trans h.2.2.1 hm.b.size, fun j => (hm.fz b j (by have := h.2.1; have := h.2.2.1; omega)).trans (h.2.2.2 j)⟩
/-- node i of a row -/
structure NdR (L H : Nat) (w : World) (b i : Nat) (d : ND) : Prop where
  blk : Blk L H w b
  lf : ∀ j, j < 6 → ∃ v, w.cell? ⟨b, i * 8 + j, none⟩ = some v ∧ ns v = true
  rf : ∃ b1 c1, w.cell? ⟨b, i * 8 + 6, none⟩ = some (.slice (some ⟨b1, 0, none⟩) d.rn c1) ∧ LfR 1 L H w b1 d.rn
  kd : ∃ b1 c1, w.cell? ⟨b, i * 8 + 7, none⟩ = some (.slice (some ⟨b1, 0, none⟩) d.kn c1) ∧ LfR 1 L H w b1 d.kn
theorem NdR.mv {L H : Nat} {w w' : World} {b i : Nat} {d : ND} (h : NdR L H w b i d) (hm : Mk L H w w') : NdR L H w' b i d := by
  have hb : b < w.heap.size := by have := h.blk.2.1; have := h.blk.2.2.1; omega
  obtain ⟨b1, c1, e1, l1⟩ := h.rf
  obtain ⟨b2, c2, e2, l2⟩ := h.kd
  exact ⟨h.blk.mk hm, fun j hj => hm.leaf hb (h.lf j hj), ⟨b1, c1, hm.slice hb e1, l1.mk hm⟩, ⟨b2, c2, hm.slice hb e2, l2.mk hm⟩⟩
/-- fn i of a row -/
structure FnR (L H : Nat) (w : World) (b i : Nat) (d : FD) : Prop where
  blk : Blk L H w b
  lf : ∀ j, j < 4 → ∃ v, w.cell? ⟨b, i * 7 + j, none⟩ = some v ∧ ns v = true
  vs : ∃ b1 c1, w.cell? ⟨b, i * 7 + 4, none⟩ = some (.slice (some ⟨b1, 0, none⟩) d.vn c1) ∧ LfR 1 L H w b1 d.vn
  us : ∃ b1 c1, w.cell? ⟨b, i * 7 + 5, none⟩ = some (.slice (some ⟨b1, 0, none⟩) d.un c1) ∧ LfR 2 L H w b1 d.un
  nd : ∃ b1 c1, w.cell? ⟨b, i * 7 + 6, none⟩ = some (.slice (some ⟨b1, 0, none⟩) d.nn c1) ∧ ∀ m, m < d.nn → NdR L H w b1 m (d.nd m)
theorem FnR.mv {L H : Nat} {w w' : World} {b i : Nat} {d : FD} (h : FnR L H w b i d) (hm : Mk L H w w') : FnR L H w' b i d := by
  have hb : b < w.heap.size := by have := h.blk.2.1; have := h.blk.2.2.1; omega
  obtain ⟨b1, c1, e1, l1⟩ := h.vs
  obtain ⟨b2, c2, e2, l2⟩ := h.us
  obtain ⟨b3, c3, e3, l3⟩ := h.nd
  exact ⟨h.blk.mk hm, fun j hj => hm.leaf hb (h.lf j hj), ⟨b1, c1, hm.slice hb e1, l1.mk hm⟩, ⟨b2, c2, hm.slice hb e2, l2.mk hm⟩, ⟨b3, c3, hm.slice hb e3, fun m hq => (l3 m hq).mv hm⟩⟩
theorem NdR.put {L H : Nat} {a w : World} {b i : Nat} {d : ND} (h : NdR L H w b i d) (hm : Mk L H a w) (j : Nat) (hj : j < 6) {v : Value} (hv : ns v = true) : Mk L H a (w.setCell ⟨b, i * 8 + j, none⟩ v) := hm.put h.blk.1 h.blk.2.1 (h.lf j hj) hv
theorem FnR.put {L H : Nat} {a w : World} {b i : Nat} {d : FD} (h : FnR L H w b i d) (hm : Mk L H a w) (j : Nat) (hj : j < 4) {v : Value} (hv : ns v = true) : Mk L H a (w.setCell ⟨b, i * 7 + j, none⟩ v) := hm.put h.blk.1 h.blk.2.1 (h.lf j hj) hv
theorem NdR.set5 {L H : Nat} {a w : World} {b i : Nat} {d : ND} (h : NdR L H w b i d) (hm : Mk L H a w) {v0 v1 v2 v3 v4 : Value} (q0 : ns v0 = true) (q1 : ns v1 = true) (q2 : ns v2 = true) (q3 : ns v3 = true) (q4 : ns v4 = true) :
    Mk L H a (((((w.setCell ⟨b, i * 8, none⟩ v0).setCell ⟨b, i * 8 + 1, none⟩ v1).setCell ⟨b, i * 8 + 2, none⟩ v2).setCell ⟨b, i * 8 + 3, none⟩ v3).setCell ⟨b, i * 8 + 4, none⟩ v4) := by
  have m0 := h.put (Mk.refl L H w) 0 (by omega) q0
  have m1 := (h.mv m0).put m0 1 (by omega) q1
  have m2 := (h.mv m1).put m1 2 (by omega) q2
  have m3 := (h.mv m2).put m2 3 (by omega) q3
  have m4 := (h.mv m3).put m3 4 (by omega) q4
  exact hm.trans m4
theorem FnR.set3 {L H : Nat} {a w : World} {b i : Nat} {d : FD} (h : FnR L H w b i d) (hm : Mk L H a w) {v0 v1 v2 v3 : Value} (q0 : ns v0 = true) (q1 : ns v1 = true) (q2 : ns v2 = true) (q3 : ns v3 = true) :
    Mk L H a ((((w.setCell ⟨b, i * 7, none⟩ v0).setCell ⟨b, i * 7 + 1, none⟩ v1).setCell ⟨b, i * 7 + 2, none⟩ v2).setCell ⟨b, i * 7 + 3, none⟩ v3) := by
  have m0 := h.put (Mk.refl L H w) 0 (by omega) q0
  have m1 := (h.mv m0).put m0 1 (by omega) q1
  have m2 := (h.mv m1).put m1 2 (by omega) q2
  have m3 := (h.mv m2).put m2 3 (by omega) q3
  exact hm.trans m3

set_option maxRecDepth 100000 in
set_option maxHeartbeats 4000000 in
theorem markNodeS_calls (L H b n cap : Nat) (k : Int) (q : Nat → ND) (w : World) (hn : n ≤ 1048576) (hk : 0 < k) (hk2 : k < 5000000000000000000) (hq : ∀ i, i < n → (q i).sm) (hR : ∀ i, i < n → NdR L H w b i (q i)) :
    Calls Tryz.prog 60 #[.slice (some ⟨b, 0, none⟩) n cap, .int .i64 k] w fun e w' => (∃ k', e = .returned (.int .i64 k') ∧ 0 < k' ∧ k' ≤ k + (n : Int) * 2097158) ∧ Mk L H w w' := by
  have HR : Hid (∀ i, i < n → NdR L H w b i (q i)) := hR
  have HQ : Hid (∀ i, i < n → (q i).sm) := hq
  clear hR hq
  go_enter Tryz.func60, Tryz.ntmps60
  go_wp2_with fail
  go_loopw [1, 5] (fun kv i wr => ∃ (m : Nat) (z : Int), m ≤ n ∧ 0 < z ∧ z ≤ k + (m : Int) * 2097158 ∧ kv = .int .i64 z ∧ i = .int .i64 m ∧ Hid (Mk L H w wr)) (fun _ i _ => n - (intOf i).toNat)
  case atStart => exact ⟨0, k, Nat.zero_le _, hk, by omega, rfl, rfl, Mk.refl _ _ _⟩
  case round =>
    obtain ⟨m, z, hm, hz0, hz1, rfl, rfl, HM⟩ := hrel
    by_cases hmn : m < n
    · have HN : Hid (NdR L H wr b m (q m)) := (HR.out m hmn).mv HM.out
      have hrn := (HQ.out m hmn).rn
      have hkn := (HQ.out m hmn).kn
      have hfr := HN.out.blk.2.2.2
      obtain ⟨v0, g0, _⟩ := HN.out.lf 0 (by omega)
      obtain ⟨v1, g1, _⟩ := HN.out.lf 1 (by omega)
      obtain ⟨v2, g2, _⟩ := HN.out.lf 2 (by omega)
      obtain ⟨v3, g3, _⟩ := HN.out.lf 3 (by omega)
      obtain ⟨v4, g4, _⟩ := HN.out.lf 4 (by omega)
      rw [Nat.add_zero] at g0
      go_wp2_with (first | (go_at_call 57; refine (markText_any _ _ (by omega) (by omega)).mono ?_; rintro e w2 ⟨⟨s, rfl⟩, hb2⟩; have HM2 : Hid (Mk L H wr w2) := (HN.out.set5 (Mk.refl _ _ _) rfl rfl rfl rfl rfl).below hb2 (by have := HN.out.blk.1; have := HN.out.blk.2.1; have := HN.out.blk.2.2.1; simp; omega); have HN2 : Hid (NdR L H w2 b m (q m)) := HN.out.mv HM2.out; clear g0 g1 g2 g3 g4 hfr hb2; have hfr := HN2.out.blk.2.2.2; obtain ⟨v5, g5, _⟩ := HN2.out.lf 5 (by omega); obtain ⟨b1, c1, g6, l6⟩ := HN2.out.rf; have HM3 : Hid (Mk L H wr (w2.setCell ⟨b, m * 8 + 5, none⟩ (.string s))) := HN2.out.put HM2.out 5 (by omega) rfl; have HL6 : Hid (LfR 1 L H (w2.setCell ⟨b, m * 8 + 5, none⟩ (.string s)) b1 (q m).rn) := l6.mk (HN2.out.put (Mk.refl _ _ _) 5 (by omega) rfl); clear l6) | (go_at_call 15; refine (markIntS_calls L H b1 _ _ _ _ hrn (by omega) (by omega) HL6.out).mono ?_; rintro e w4 ⟨rfl, hm4⟩; have HM4 : Hid (Mk L H wr w4) := HM3.out.trans hm4; have HN4 : Hid (NdR L H w4 b m (q m)) := HN.out.mv HM4.out; clear g5 g6 HL6 hm4; obtain ⟨b2, c2, g7, l7⟩ := HN4.out.kd; have HL7 : Hid (LfR 1 L H w4 b2 (q m).kn) := l7; clear l7) | (go_at_call 15; refine (markIntS_calls L H b2 _ _ _ _ hkn (by omega) (by omega) HL7.out).mono ?_; rintro e w5 ⟨rfl, hm5⟩; have HM5 : Hid (Mk L H wr w5) := HM4.out.trans hm5; clear g7 HL7 hm5))
      go_roundw
      case rel => exact ⟨m + 1, _, by omega, by omega, by omega, rfl, by go_num, HM.out.trans HM5.out⟩
      case measure => simp [intOf]; omega
    · obtain rfl : m = n := by omega
      go_wp2_with fail
      go_ret
      exact ⟨⟨_, rfl, hz0, hz1⟩, HM.out⟩

end Go.Proofs.YtjempigpjcnmhaaGreat

/-! Units marked by the laws: fns, the unit. -/
namespace Go.Proofs.YtjempigpjcnmhaaGreat
open Go.RowKit
attribute [local go_sem] run_store_float
attribute [local go_sem ↓] Go.wp_at_zero Go.wp_at_succ

set_option maxRecDepth 100000 in
set_option maxHeartbeats 4000000 in
theorem markFnS_calls (L H b n cap : Nat) (k : Int) (q : Nat → FD) (w : World) (hn : n ≤ 1048576) (hk : 0 < k) (hk2 : k < 1000) (hq : ∀ i, i < n → (q i).sm) (hR : ∀ i, i < n → FnR L H w b i (q i)) :
    Calls Tryz.prog 34 #[.slice (some ⟨b, 0, none⟩) n cap, .int .i64 k] w fun e w' => (∃ k', e = .returned (.int .i64 k') ∧ 0 < k') ∧ Mk L H w w' := by
  have HR : Hid (∀ i, i < n → FnR L H w b i (q i)) := hR
  have HQ : Hid (∀ i, i < n → (q i).sm) := hq
  clear hR hq
  go_enter Tryz.func34, Tryz.ntmps34
  go_wp2_with fail
  go_loopw [1, 5] (fun kv i wr => ∃ (m : Nat) (z : Int), m ≤ n ∧ 0 < z ∧ z ≤ k + (m : Int) * 2199032692740 ∧ kv = .int .i64 z ∧ i = .int .i64 m ∧ Hid (Mk L H w wr)) (fun _ i _ => n - (intOf i).toNat)
  case atStart => exact ⟨0, k, Nat.zero_le _, hk, by omega, rfl, rfl, Mk.refl _ _ _⟩
  case round =>
    obtain ⟨m, z, hm, hz0, hz1, rfl, rfl, HM⟩ := hrel
    by_cases hmn : m < n
    · have HN : Hid (FnR L H wr b m (q m)) := (HR.out m hmn).mv HM.out
      have hvn := (HQ.out m hmn).vn
      have hun := (HQ.out m hmn).un
      have hnn := (HQ.out m hmn).nn
      have HND : Hid (∀ i, i < (q m).nn → ((q m).nd i).sm) := (HQ.out m hmn).nd
      have hLs : L ≤ wr.heap.size := by have := HN.out.blk.1; have := HN.out.blk.2.1; have := HN.out.blk.2.2.1; omega
      go_wp2_with (first
        | (go_at_call 57; refine (markText_any _ _ (by omega) (by omega)).mono ?_; rintro e w2 ⟨⟨s, rfl⟩, hb2⟩; have HM2 : Hid (Mk L H wr w2) := (Mk.refl _ _ _).below hb2 hLs; have HN2 : Hid (FnR L H w2 b m (q m)) := HN.out.mv HM2.out; clear hb2; have hfr := HN2.out.blk.2.2.2; obtain ⟨v0, g0, _⟩ := HN2.out.lf 0 (by omega); obtain ⟨v1, g1, _⟩ := HN2.out.lf 1 (by omega); obtain ⟨v2, g2, _⟩ := HN2.out.lf 2 (by omega); obtain ⟨v3, g3, _⟩ := HN2.out.lf 3 (by omega); rw [Nat.add_zero] at g0; obtain ⟨b1, c1, g4, l4⟩ := HN2.out.vs; have HL4 : Hid (LfR 1 L H w2 b1 (q m).vn) := l4; clear l4)
        | (go_at_call 58; refine (markStringS_calls L H b1 _ _ _ _ hvn (by omega) (by omega) (HL4.out.mk (HN2.out.set3 (Mk.refl _ _ _) rfl rfl rfl rfl))).mono ?_; rintro e w4 ⟨rfl, hm4⟩; have HM4 : Hid (Mk L H wr w4) := (HN2.out.set3 HM2.out rfl rfl rfl rfl).trans hm4; have HN4 : Hid (FnR L H w4 b m (q m)) := HN.out.mv HM4.out; clear g0 g1 g2 g3 g4 hfr hm4 HL4; obtain ⟨b2, c2, g5, l5⟩ := HN4.out.us; have HL5 : Hid (LfR 2 L H w4 b2 (q m).un) := l5; clear l5)
        | (go_at_call 59; refine (markUpS_calls L H b2 _ _ _ _ hun (by omega) (by omega) HL5.out).mono ?_; rintro e w5 ⟨rfl, hm5⟩; have HM5 : Hid (Mk L H wr w5) := HM4.out.trans hm5; have HN5 : Hid (FnR L H w5 b m (q m)) := HN.out.mv HM5.out; clear g5 HL5 hm5; obtain ⟨b3, c3, g6, l6⟩ := HN5.out.nd; have HL6 : Hid (∀ i, i < (q m).nn → NdR L H w5 b3 i ((q m).nd i)) := l6; clear l6)
        | (go_at_call 60; refine (markNodeS_calls L H b3 _ _ _ (q m).nd _ hnn (by omega) (by omega) HND.out HL6.out).mono ?_; rintro e w6 ⟨⟨z6, rfl, h60, h61⟩, hm6⟩; have HM6 : Hid (Mk L H wr w6) := HM5.out.trans hm6; clear g6 HL6 hm6))
      go_roundw
      case rel => exact ⟨m + 1, z6, by omega, h60, by omega, rfl, by go_num, HM.out.trans HM6.out⟩
      case measure => simp [intOf]; omega
    · obtain rfl : m = n := by omega
      go_wp2_with fail
      go_ret
      exact ⟨⟨_, rfl, hz0⟩, HM.out⟩

set_option maxRecDepth 100000 in
set_option maxHeartbeats 4000000 in
theorem markUnit_calls (L H b cap : Nat) (k : Int) (u : UD) (w : World) (hs : u.sm) (hk : 0 < k) (hk2 : k < 1000) (hL : L ≤ w.heap.size) (hR : ∀ i, i < u.n → FnR L H w b i (u.fn i)) :
    Calls Tryz.prog 14 #[unV u (some ⟨b, 0, none⟩) cap, .int .i64 k] w fun e w' => (∃ k', e = .returned (.int .i64 k') ∧ 0 < k') ∧ Mk L H w w' := by
  have HR : Hid (∀ i, i < u.n → FnR L H w b i (u.fn i)) := hR
  have HS : Hid u.sm := hs
  have HL : Hid (L ≤ w.heap.size) := hL
  clear hR hs hL
  go_enter Tryz.func14, Tryz.ntmps14
  go_wp2_with fail
  refine (markFnS_calls L H b _ _ _ u.fn _ HS.out.n hk hk2 HS.out.fn (fun i hi => (HR.out i hi).mv ((Mk.refl _ _ _).below (below_alloc _ _) HL.out))).mono ?_
  rintro e w2 ⟨⟨k', rfl, h0⟩, hm2⟩
  have HM : Hid (Mk L H w w2) := ((Mk.refl _ _ _).below (below_alloc _ _) HL.out).trans hm2
  clear hm2
  go_wp2_with fail
  go_ret
  exact ⟨⟨k', rfl, h0⟩, HM.out⟩
theorem flat_get {K : Nat} {L : Nat} {w : World} {b n : Nat} {q : Nat → Array Value} (h : RowN K L w (some ⟨b, 0, none⟩) n q) {i : Nat} (hi : i < n) : L ≤ b ∧ b < w.heap.size ∧ ∀ j, j < K → w.cell? ⟨b, i * K + j, none⟩ = (q i)[j]? := by
  obtain ⟨b', off, e, h1, h2, h3⟩ := h (by omega)
  cases e
  exact ⟨h1, h2, fun j hj => by rw [← h3 i hi j hj, Nat.zero_add]⟩
/-- a leaf row of the copies -/
theorem LfR.of {K L : Nat} {w : World} {b n : Nat} {q : Nat → Array Value} (hK : 0 < K) (h : RowN K L w (some ⟨b, 0, none⟩) n q) (hz : Zf w b) (hq : ∀ i, i < n → ∀ j, j < K → ∃ v, (q i)[j]? = some v ∧ ns v = true) : LfR K L w.heap.size w b n := fun hn => by
  obtain ⟨h1, h2, _⟩ := flat_get h hn
  refine ⟨h1, h2, Nat.le_refl _, hz.2, fun j hj => ?_⟩
  have hi : j / K < n := (Nat.div_lt_iff_lt_mul hK).2 hj
  have hm := Nat.mod_lt j hK
  obtain ⟨v, e, hv⟩ := hq (j / K) hi (j % K) hm
  have := (flat_get h hi).2.2 (j % K) hm
  rw [Nat.div_add_mod' j K] at this
  exact ⟨v, this.trans e, hv⟩
theorem NdR.of {L : Nat} {w : World} {b n : Nat} {nd : Nat → ND} {nas : Nat → NA} (h : NodesAt L w n nd (some ⟨b, 0, none⟩) nas) (hz : Zf w b) (hy : ∀ i, i < n → NodeZ w (nas i)) : ∀ i, i < n → NdR L w.heap.size w b i (nd i) := fun i hi => by
  obtain ⟨h1, h2, h3⟩ := flat_get h.1 hi
  obtain ⟨b1, b2, e1, e2, z1, z2⟩ := hy i hi
  have r1 := (h.2 i hi).1
  have r2 := (h.2 i hi).2
  rw [e1] at r1
  rw [e2] at r2
  have c6 := h3 6 (by omega)
  have c7 := h3 7 (by omega)
  have f6 : (nodeC (nd i) (nas i))[6]? = some (.slice (nas i).ra (nd i).rn (nas i).rc) := rfl
  have f7 : (nodeC (nd i) (nas i))[7]? = some (.slice (nas i).ka (nd i).kn (nas i).kc) := rfl
  rw [f6, e1] at c6
  rw [f7, e2] at c7
  refine ⟨⟨h1, h2, Nat.le_refl _, hz.2⟩, fun j hj => ?_, ⟨b1, _, c6, LfR.of (by omega) r1 z1 (fun i _ j hj => ?_)⟩, ⟨b2, _, c7, LfR.of (by omega) r2 z2 (fun i _ j hj => ?_)⟩⟩
  · rw [h3 j (by omega)]
    match j, hj with
    | 0, _ => exact ⟨_, rfl, rfl⟩
    | 1, _ => exact ⟨_, rfl, rfl⟩
    | 2, _ => exact ⟨_, rfl, rfl⟩
    | 3, _ => exact ⟨_, rfl, rfl⟩
    | 4, _ => exact ⟨_, rfl, rfl⟩
    | 5, _ => exact ⟨_, rfl, rfl⟩
  · obtain rfl : j = 0 := by omega
    exact ⟨_, rfl, rfl⟩
  · obtain rfl : j = 0 := by omega
    exact ⟨_, rfl, rfl⟩
theorem FnR.of {L : Nat} {w : World} {b n : Nat} {fn : Nat → FD} {fas : Nat → FA} (h : FnsAt L w n fn (some ⟨b, 0, none⟩) fas) (hz : Zf w b) (hy : ∀ i, i < n → FnZ w (fn i) (fas i)) : ∀ i, i < n → FnR L w.heap.size w b i (fn i) := fun i hi => by
  obtain ⟨h1, h2, h3⟩ := flat_get h.1 hi
  obtain ⟨b1, b2, b3, e1, e2, e3, z1, z2, z3, z4⟩ := hy i hi
  have r1 := (h.2 i hi).1
  have r2 := (h.2 i hi).2.1
  have r3 := (h.2 i hi).2.2
  rw [e1] at r1
  rw [e2] at r2
  rw [e3] at r3
  have c4 := h3 4 (by omega)
  have c5 := h3 5 (by omega)
  have c6 := h3 6 (by omega)
  have f4 : (fnC (fn i) (fas i))[4]? = some (.slice (fas i).va (fn i).vn (fas i).vc) := rfl
  have f5 : (fnC (fn i) (fas i))[5]? = some (.slice (fas i).ua (fn i).un (fas i).uc) := rfl
  have f6 : (fnC (fn i) (fas i))[6]? = some (.slice (fas i).na (fn i).nn (fas i).nc) := rfl
  rw [f4, e1] at c4
  rw [f5, e2] at c5
  rw [f6, e3] at c6
  refine ⟨⟨h1, h2, Nat.le_refl _, hz.2⟩, fun j hj => ?_, ⟨b1, _, c4, LfR.of (by omega) r1 z1 (fun i _ j hj => ?_)⟩, ⟨b2, _, c5, LfR.of (by omega) r2 z2 (fun i _ j hj => ?_)⟩, ⟨b3, _, c6, NdR.of r3 z3 z4⟩⟩
  · rw [h3 j (by omega)]
    match j, hj with
    | 0, _ => exact ⟨_, rfl, rfl⟩
    | 1, _ => exact ⟨_, rfl, rfl⟩
    | 2, _ => exact ⟨_, rfl, rfl⟩
    | 3, _ => exact ⟨_, rfl, rfl⟩
  · obtain rfl : j = 0 := by omega
    exact ⟨_, rfl, rfl⟩
  · match j, hj with
    | 0, _ => exact ⟨_, rfl, rfl⟩
    | 1, _ => exact ⟨_, rfl, rfl⟩
end Go.Proofs.YtjempigpjcnmhaaGreat

/-! Lines: the answer marked, and the marks held. -/
namespace Go.Proofs.YtjempigpjcnmhaaGreat
open Go.RowKit
attribute [local go_sem] run_store_float
attribute [local go_sem ↓] Go.wp_at_zero Go.wp_at_succ

/-- the marks from k on -/
def mkd (k : Int) (n : Nat) : List Int := (List.range n).map fun (i : Nat) => k + (i : Int)
theorem mkd_len (k : Int) (n : Nat) : (mkd k n).length = n := by simp [mkd]
theorem mkd_is {k : Int} {n : Nat} {ys : List Int} (hl : ys.length = n) (h : ∀ j, j < n → ys[j]? = some (k + (j : Int))) : ys = mkd k n := by
  apply List.ext_getElem?
  intro j
  by_cases hj : j < n
  · rw [h j hj]
    simp [mkd, hj]
  · rw [List.getElem?_eq_none (by omega), List.getElem?_eq_none (by rw [mkd_len]; omega)]
theorem grownBy_tr {a b c : World} {r : Option Nat} (h : a.grownBy b r) (k : b.grownBy c r) : a.grownBy c r :=
  ⟨k.os.trans h.os, k.tape.trans h.tape, k.output.trans h.output, Nat.le_trans h.size k.size, fun x hx hn => (k.block x (Nat.lt_of_lt_of_le hx h.size) hn).trans (h.block x hx hn)⟩
theorem grownBy_set (w : World) (g j : Nat) (v : Value) : w.grownBy (w.setCell ⟨g, j, none⟩ v) (some g) :=
  ⟨rfl, rfl, rfl, by simp, fun x _ hn => Below.heap_setCell _ _ _ _ (fun e => hn (by rw [e]))⟩
theorem sv_set (xs : List Int) (j : Nat) (v : Int) : sv (xs.set j v) = (sv xs).set j (.int .i64 v) := by simp [sv, List.map_set]

set_option maxRecDepth 100000 in
set_option maxHeartbeats 4000000 in
theorem markIntS_own (N : Nat) (a : Option Addr) (n cap : Nat) (xs : List Int) (k : Int) (w : World) (hx : xs.length = n) (hn : n ≤ 3000) (hk : 0 < k) (hk2 : k < 1000) (ho : w.ownsRow N 3 1 (.slice a n cap) n (sv xs)) :
    Calls Tryz.prog 15 #[.slice a n cap, .int .i64 k] w fun e w' => e = .returned (.int .i64 (k + (n : Int))) ∧ w'.ownsRow N 3 1 (.slice a n cap) n (sv (mkd k n)) ∧ w.grownBy w' (bkOf a) := by
  have HO : Hid (w.ownsRow N 3 1 (.slice a n cap) n (sv xs)) := ho
  clear ho
  go_enter Tryz.func15, Tryz.ntmps15
  go_wp2_with fail
  go_loopw [1, 5] (fun kv i wr => ∃ (m : Nat) (ys : List Int), m ≤ n ∧ kv = .int .i64 (k + (m : Int)) ∧ i = .int .i64 m ∧ Hid (ys.length = n ∧ (∀ j, j < m → ys[j]? = some (k + (j : Int))) ∧ wr.ownsRow N 3 1 (.slice a n cap) n (sv ys) ∧ w.grownBy wr (bkOf a))) (fun _ i _ => n - (intOf i).toNat)
  case atStart => exact ⟨0, xs, Nat.zero_le _, by simp, rfl, ⟨hx, fun j hj => by omega, HO.out, World.grownBy.refl _ _⟩⟩
  case round =>
    obtain ⟨m, ys, hm, rfl, rfl, HI⟩ := hrel
    by_cases hmn : m < n
    · obtain ⟨hl, hv, how, hg⟩ := HI.out
      have hf := how.2
      rcases hf with ⟨_, h00⟩ | ⟨g, cap', cur, e2, _⟩
      · omega
      cases e2
      have g0 : wr.cell? ⟨g, m, none⟩ = some (.int .i64 (ys.getD m 0)) := by
        rw [how.cellAt m (by omega)]
        simp [sv, List.getD, List.getElem?_eq_getElem (show m < ys.length by omega)]
      have z := how.frozenAt
      have HI2 : Hid ((ys.set m (k + (m : Int))).length = n ∧ (∀ j, j < m + 1 → (ys.set m (k + (m : Int)))[j]? = some (k + (j : Int))) ∧ (wr.setCell ⟨g, m, none⟩ (.int .i64 (k + (m : Int)))).ownsRow N 3 1 (.slice (some ⟨g, 0, none⟩) n cap) n (sv (ys.set m (k + (m : Int)))) ∧ w.grownBy (wr.setCell ⟨g, m, none⟩ (.int .i64 (k + (m : Int)))) (bkOf (some ⟨g, 0, none⟩))) := by
        refine ⟨by simpa using hl, fun j hj => ?_, ?_, grownBy_tr hg (grownBy_set _ _ _ _)⟩
        · by_cases c : j = m
          · subst c
            rw [List.getElem?_set_self (by omega)]
          · rw [List.getElem?_set_ne (fun h => c h.symm)]
            exact hv j (by omega)
        · rw [sv_set]
          exact (how.stored m _).1
      clear hl hv how hg HI
      go_wp2_with fail
      go_roundw
      case rel => exact ⟨m + 1, _, by omega, by go_num, by go_num, HI2⟩
      case measure => simp [intOf]; omega
    · obtain rfl : m = n := by omega
      go_wp2_with fail
      go_ret
      exact ⟨rfl, by rw [← mkd_is HI.out.1 HI.out.2.1]; exact HI.out.2.2.1, HI.out.2.2.2⟩

set_option maxRecDepth 100000 in
set_option maxHeartbeats 4000000 in
theorem heldIntS_calls (L : Nat) (a : Option Addr) (n cap : Nat) (k : Int) (w : World) (hn : n ≤ 3000) (hk : 0 < k) (hk2 : k < 1000) (hT : IntsAt L w a n (fun i => k + (i : Int))) :
    Calls Tryz.prog 16 #[.slice a n cap, .int .i64 k] w fun e w' => e = .returned (.int .i64 (k + (n : Int))) ∧ w' = w := by
  have HT : Hid (RowN 1 L w a n fun i => #[.int .i64 (k + (i : Int))]) := hT
  clear hT
  go_enter Tryz.func16, Tryz.ntmps16
  go_wp2_with fail
  go_loopw [1, 5] (fun kv i wr => ∃ m : Nat, m ≤ n ∧ kv = .int .i64 (k + (m : Int)) ∧ i = .int .i64 m ∧ wr = w) (fun _ i _ => n - (intOf i).toNat)
  case atStart => exact ⟨0, Nat.zero_le _, by simp, rfl, rfl⟩
  case round =>
    obtain ⟨m, hm, rfl, rfl, rfl⟩ := hrel
    by_cases hmn : m < n
    · obtain ⟨b, off, rfl, _, hb, d0⟩ := cells1 HT.out hmn
      go_wp2_with fail
      go_roundw
      case rel => exact ⟨m + 1, by omega, by go_num, by go_num, by first | rfl | trivial⟩
      case measure => simp [intOf]; omega
    · obtain rfl : m = n := by omega
      go_wp2_with fail
      go_ret
      exact ⟨rfl, rfl⟩
theorem IntsAt.mkd {N : Nat} {w : World} {a : Option Addr} {k : Int} {n cap : Nat} (h : w.ownsRow N 3 1 (.slice a n cap) n (sv (mkd k n))) : IntsAt N w a n (fun i => k + (i : Int)) := by
  have h1 : LiAt N w a (Go.Proofs.YtjempigpjcnmhaaGreat.mkd k n) := LiAt.own (cap := cap) (by rw [mkd_len]; exact h)
  intro hn
  obtain ⟨b, off, e, h2, h3, h4⟩ := h1 (by rw [mkd_len]; exact hn)
  refine ⟨b, off, e, h2, h3, fun i hi j hj => ?_⟩
  rw [h4 i (by rw [mkd_len]; exact hi) j hj]
  simp [Go.Proofs.YtjempigpjcnmhaaGreat.mkd, List.getD, hi]
end Go.Proofs.YtjempigpjcnmhaaGreat
