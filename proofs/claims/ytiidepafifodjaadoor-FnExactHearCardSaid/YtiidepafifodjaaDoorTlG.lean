import Derived.Test.YtiidepafifodjaaDoorTlF
/-! The program's Tell. -/
namespace Go.Proofs.YtiidepafifodjaaDoor
open Go.RowKit
attribute [local go_sem] run_store_float
attribute [local go_sem ↓] Go.wp_at_zero Go.wp_at_succ

def q4 (a b c d : Int) (i : Nat) : Int := if i = 0 then a else if i = 1 then b else if i = 2 then c else d
theorem numsL_four (a b c d : Int) : numsL (q4 a b c d) 4 = ((numL a ++ numL b) ++ numL c) ++ numL d := by simp [numsL, q4]
theorem q4_row (a b c d : Int) : ∀ i, i < 4 → (#[Value.int .i64 a, .int .i64 b, .int .i64 c, .int .i64 d] : Array Value)[i]? = some (.int .i64 (q4 a b c d i)) := fun i hi => by
  rcases (show i = 0 ∨ i = 1 ∨ i = 2 ∨ i = 3 by omega) with rfl | rfl | rfl | rfl <;> simp [q4]
theorem q4_all {a b c d : Int} (ha : I64r a) (hb : I64r b) (hc : I64r c) (hd : I64r d) (i : Nat) : I64r (q4 a b c d i) := by
  unfold q4
  split
  · assumption
  · split
    · assumption
    · split <;> assumption
def v2 (a b : ByteArray) (i : Nat) : ByteArray := if i = 0 then a else b
theorem txtsL_two (a b : ByteArray) : txtsL (v2 a b) 2 = txtL a ++ txtL b := by simp [txtsL, v2]
theorem txtsL_one (v : Nat → ByteArray) : txtsL v 1 = txtL (v 0) := by simp [txtsL]

set_option maxRecDepth 100000 in
set_option maxHeartbeats 8000000 in
theorem implTell_calls (L0 : Nat) (d : RpD) (x : RpX) (w : World) (hd : d.wf) (hs : d.sm) (hT : RpAt L0 w d x) (hP : ∀ u, Below w.heap.size w u → TabP u) :
    Calls Tryd.prog 8 #[rpV d x] w fun e w' => (∃ a' cap' L', e = .returned (.slice a' (List.length L') cap') ∧ L' = toldL d ∧ OwB w.heap.size w' a' cap' L') ∧ Below w.heap.size w w' := by
  have HTa : Hid (RpAt L0 w d x) := hT
  have HW : Hid d.wf := hd
  have HSm : Hid d.sm := hs
  have HP : Hid (∀ u, Below w.heap.size w u → TabP u) := hP
  have i1 := hd.code
  have i2 := hd.ti
  have i3 := hd.ma
  have hn := hs.n
  have hm := hs.m
  have hse := hs.er
  have hst := hs.tr
  have i4 : I64r (d.n : Int) := by unfold I64r; omega
  have i5 : I64r (d.m : Int) := by unfold I64r; omega
  clear hT hd hs hP
  go_enter Tryd.func8, Tryd.ntmps8
  go_upto_region 2 with fail
  obtain ⟨w2, hw2⟩ : ∃ w2, (w.alloc (.cells (rpC d x) 31)).alloc (.cells #[.slice none 0 0] 46) = w2 := ⟨_, rfl⟩
  obtain ⟨B, hB⟩ : ∃ B, w.heap.size = B := ⟨_, rfl⟩
  have HB2 : Hid (Below w.heap.size w w2) := by rw [← hw2]; exact below_alloc2 _ _ _
  have hz2 : w2.heap.size = B + 2 := by rw [← hw2, ← hB]; simp
  have HHB : Hid (Has w2 B (rpC d x)) := by rw [← hw2, ← hB]; exact (Has.new _ _ _).alloc _
  have HT0 : Hid (TL (B + 2) (B + 1) w2 none 0 []) := by
    refine ⟨?_, World.ownsRow_nil _ _ _ _, by omega, by omega, by simp⟩
    rw [← hw2, ← hB]
    have h := (MapKept.heap_alloc (w.alloc (.cells (rpC d x) 31)) (.cells #[.slice none 0 0] 46)).1
    simpa using h
  have HS : Hid (TS (B + 2) (B + 1) w2 none [] w2 none 0 []) := TS.start HT0.out rfl
  have HBw : Hid (w.heap.size = B) := hB
  have HP2 : Hid (∀ u, Below B w2 u → TabP u) := fun u hu => HP.out u (HB2.out.trans (hu.mono (by have := HBw.out; omega)))
  rw [hw2, hB]
  clear hw2 hB HP
  have HKB : Hid (∀ (l : List UInt8) (u : World) (a1 : Option Addr) (cap1 : Nat) (L1 : List UInt8), TS (B + 2) (B + 1) w2 none l u a1 cap1 L1 → Has u B (rpC d x) ∧ Below w.heap.size w u) := fun l u a1 cap1 L1 h => ⟨h.g.has HHB.out (fun e => by
    rcases e with e | e
    · omega
    · exact e), HB2.out.trans ((h.to (B0 := B) HT0.out (by omega)).mono (by have := HBw.out; omega))⟩
  have HNum : Hid (∀ (l : List UInt8) (u u' : World) (a1 : Option Addr) (cap1 : Nat) (L1 : List UInt8), TS (B + 2) (B + 1) w2 none l u a1 cap1 L1 → Below u.heap.size u u' → ∀ z, Below B u' z → TabP z) := fun l u u' a1 cap1 L1 h hb z hz => HP2.out z (((h.below hb).to (B0 := B) HT0.out (by omega)).trans hz)
  have c0 : w2.cell? ⟨B, 0, none⟩ = some (.int .i64 d.code) := HHB.out.cell 0 rfl
  have c1 : w2.cell? ⟨B, 1, none⟩ = some (.slice x.ra d.n x.rc) := HHB.out.cell 1 rfl
  have c2 : w2.cell? ⟨B, 2, none⟩ = some (.slice x.va d.m x.vc) := HHB.out.cell 2 rfl
  have c3 : w2.cell? ⟨B, 3, none⟩ = some (.string d.er) := HHB.out.cell 3 rfl
  have c4 : w2.cell? ⟨B, 4, none⟩ = some (.string d.tr) := HHB.out.cell 4 rfl
  have c5 : w2.cell? ⟨B, 5, none⟩ = some (.int .i64 d.ti) := HHB.out.cell 5 rfl
  have c6 : w2.cell? ⟨B, 6, none⟩ = some (.int .i64 d.ma) := HHB.out.cell 6 rfl
  have HSa : Hid (TS (B + 2) (B + 1) w2 none [] (w2.alloc (.cells #[.int .i64 d.code, .int .i64 d.ti, .int .i64 d.ma, .int .i64 (d.n : Int)] 3)) none 0 []) := HS.out.below (below_alloc _ _)
  have HRa : Hid (RowN 1 0 (w2.alloc (.cells #[.int .i64 d.code, .int .i64 d.ti, .int .i64 d.ma, .int .i64 (d.n : Int)] 3)) (some ⟨B + 2, 0, none⟩) 4 fun i => #[.int .i64 (q4 d.code d.ti d.ma d.n i)]) := by
    rw [← hz2]
    exact row_new w2 _ _ (fun i => .int .i64 (q4 d.code d.ti d.ma d.n i)) 4 (q4_row _ _ _ _)
  have HXa : Hid (∀ b : Addr, some (⟨B + 2, 0, none⟩ : Addr) = some b → ¬ tlB (B + 1) none b.block) := by
    rw [← hz2]
    exact tlB_new HS.out.t
  have HPa : Hid (∀ u, Below B (w2.alloc (.cells #[.int .i64 d.code, .int .i64 d.ti, .int .i64 d.ma, .int .i64 (d.n : Int)] 3)) u → TabP u) := HNum.out _ _ _ _ _ _ HS.out (below_alloc _ _)
  have HIa : Hid (∀ i, i < 4 → I64r (q4 d.code d.ti d.ma d.n i)) := fun i _ => q4_all i1 i2 i3 i4 i
  go_wp2_with (go_at_call 23; refine (numbers_calls (B + 2) (B + 1) B none 0 [] [] _ 4 _ (q4 d.code d.ti d.ma d.n) _ (by omega) HSa.out.t rfl (by omega) HPa.out HIa.out HRa.out HXa.out).mono ?_; rintro e w3 ⟨rfl, a3, cap3, L3, hs3⟩; replace HS : Hid (TS (B + 2) (B + 1) w2 none ([] ++ numsL (q4 d.code d.ti d.ma d.n) 4) w3 a3 cap3 L3) := HSa.out.then hs3; clear hs3 HSa HRa HXa HPa HIa hz2; clear c0 c1 c2 c3 c4 c5 c6; have c0 : w3.cell? ⟨B, 0, none⟩ = some (.int .i64 d.code) := (HKB.out _ _ _ _ _ HS.out).1.cell 0 rfl; have c1 : w3.cell? ⟨B, 1, none⟩ = some (.slice x.ra d.n x.rc) := (HKB.out _ _ _ _ _ HS.out).1.cell 1 rfl; have c2 : w3.cell? ⟨B, 2, none⟩ = some (.slice x.va d.m x.vc) := (HKB.out _ _ _ _ _ HS.out).1.cell 2 rfl; have c3 : w3.cell? ⟨B, 3, none⟩ = some (.string d.er) := (HKB.out _ _ _ _ _ HS.out).1.cell 3 rfl; have c4 : w3.cell? ⟨B, 4, none⟩ = some (.string d.tr) := (HKB.out _ _ _ _ _ HS.out).1.cell 4 rfl; have c5 : w3.cell? ⟨B, 5, none⟩ = some (.int .i64 d.ti) := (HKB.out _ _ _ _ _ HS.out).1.cell 5 rfl; have c6 : w3.cell? ⟨B, 6, none⟩ = some (.int .i64 d.ma) := (HKB.out _ _ _ _ _ HS.out).1.cell 6 rfl; skip)
  clear c0 c1 c2 c3 c4 c5 c6
  replace HS : Hid (TS (B + 2) (B + 1) w2 none ((((numL d.code ++ numL d.ti) ++ numL d.ma) ++ numL d.n) ++ recsL d.rc 0) w3 a3 cap3 L3) := by
    have h := HS.out
    rw [numsL_four] at h
    show TS _ _ _ _ _ _ _ _ _
    simpa [recsL] using h
  go_loopw [20] (fun i wr => ∃ (k : Nat) (a1 : Option Addr) (cap1 : Nat) (L1 : List UInt8), k ≤ d.n ∧ i = .int .i64 k ∧ Hid (TS (B + 2) (B + 1) w2 none ((((numL d.code ++ numL d.ti) ++ numL d.ma) ++ numL d.n) ++ recsL d.rc k) wr a1 cap1 L1)) (fun i _ => d.n - (intOf i).toNat)
  case atStart => exact ⟨0, a3, cap3, L3, Nat.zero_le _, rfl, HS⟩
  case round =>
    clear HS
    obtain ⟨k, a1, cap1, L1, hk, rfl, HS⟩ := hrel
    by_cases hkn : k < d.n
    · obtain ⟨b, off, hra, _, hb, d0, d1, d2, d3, d4⟩ := cellsR (RowN.below HTa.out.1 (HKB.out _ _ _ _ _ HS.out).2) hkn
      rw [hra]
      have j1 := (HW.out.rc k hkn).k
      have j2 := (HW.out.rc k hkn).t
      have j3 := (HW.out.rc k hkn).f
      have j4 := (HW.out.rc k hkn).l
      have hsk := HSm.out.rc k hkn
      go_upto_region 6 with fail
      obtain ⟨wb, hwb⟩ : ∃ wb, wb = wr.alloc (.cells (rcC (d.rc k)) 49) := ⟨_, rfl⟩
      obtain ⟨R, hR⟩ : ∃ R, wr.heap.size = R := ⟨_, rfl⟩
      have HHR : Hid (Has wb R (rcC (d.rc k))) := by rw [hwb, ← hR]; exact Has.new _ _ _
      have HRn : Hid (¬ tlB (B + 1) a1 R) := by rw [← hR]; exact tlB_new HS.out.t _ rfl
      replace HS : Hid (TS (B + 2) (B + 1) w2 none ((((numL d.code ++ numL d.ti) ++ numL d.ma) ++ numL d.n) ++ recsL d.rc k) wb a1 cap1 L1) := by rw [hwb]; exact HS.out.below (below_alloc _ _)
      have hRb := HHR.out.lt
      rw [← hwb, hR]
      clear hwb hR d0 d1 d2 d3 d4
      have HE : Hid ((((((numL d.code ++ numL d.ti) ++ numL d.ma) ++ numL d.n) ++ recsL d.rc k) ++ numsL (q4 (d.rc k).k (d.rc k).t (d.rc k).f (d.rc k).l) 4) ++ txtsL (fun _ => (d.rc k).s) 1 = (((numL d.code ++ numL d.ti) ++ numL d.ma) ++ numL d.n) ++ recsL d.rc (k + 1)) := by show _ = _; rw [numsL_four, txtsL_one]; simp [recsL, recL, List.append_assoc]
      generalize (((numL d.code ++ numL d.ti) ++ numL d.ma) ++ numL d.n) ++ recsL d.rc k = l at *
      have r0 : wb.cell? ⟨R, 0, none⟩ = some (.int .i64 (d.rc k).k) := HHR.out.cell 0 rfl
      have r1 : wb.cell? ⟨R, 1, none⟩ = some (.int .i64 (d.rc k).t) := HHR.out.cell 1 rfl
      have r2 : wb.cell? ⟨R, 2, none⟩ = some (.int .i64 (d.rc k).f) := HHR.out.cell 2 rfl
      have r3 : wb.cell? ⟨R, 3, none⟩ = some (.int .i64 (d.rc k).l) := HHR.out.cell 3 rfl
      have r4 : wb.cell? ⟨R, 4, none⟩ = some (.string (d.rc k).s) := HHR.out.cell 4 rfl
      have HSa : Hid (TS (B + 2) (B + 1) w2 none l (wb.alloc (.cells #[.int .i64 (d.rc k).k, .int .i64 (d.rc k).t, .int .i64 (d.rc k).f, .int .i64 (d.rc k).l] 3)) a1 cap1 L1) := HS.out.below (below_alloc _ _)
      have HRa : Hid (RowN 1 0 (wb.alloc (.cells #[.int .i64 (d.rc k).k, .int .i64 (d.rc k).t, .int .i64 (d.rc k).f, .int .i64 (d.rc k).l] 3)) (some ⟨wb.heap.size, 0, none⟩) 4 fun i => #[.int .i64 (q4 (d.rc k).k (d.rc k).t (d.rc k).f (d.rc k).l i)]) := row_new wb _ _ (fun i => .int .i64 (q4 (d.rc k).k (d.rc k).t (d.rc k).f (d.rc k).l i)) 4 (q4_row _ _ _ _)
      have HXa : Hid (∀ b : Addr, some (⟨wb.heap.size, 0, none⟩ : Addr) = some b → ¬ tlB (B + 1) a1 b.block) := tlB_new HS.out.t
      have HPa : Hid (∀ u, Below B (wb.alloc (.cells #[.int .i64 (d.rc k).k, .int .i64 (d.rc k).t, .int .i64 (d.rc k).f, .int .i64 (d.rc k).l] 3)) u → TabP u) := HNum.out _ _ _ _ _ _ HS.out (below_alloc _ _)
      have HIa : Hid (∀ i, i < 4 → I64r (q4 (d.rc k).k (d.rc k).t (d.rc k).f (d.rc k).l i)) := fun i _ => q4_all j1 j2 j3 j4 i
      go_wp2_with (first | (go_at_call 23; refine (numbers_calls (B + 2) (B + 1) B a1 cap1 L1 l _ 4 _ (q4 (d.rc k).k (d.rc k).t (d.rc k).f (d.rc k).l) _ (by omega) HSa.out.t HSa.out.e (by omega) HPa.out HIa.out HRa.out HXa.out).mono ?_; rintro e w3 ⟨rfl, a3, cap3, L3, hs3⟩; have HHR3 : Hid (Has w3 R (rcC (d.rc k))) := hs3.g.has (HHR.out.alloc _) HRn.out; have HS3 : Hid (TS (B + 2) (B + 1) w2 none (l ++ numsL (q4 (d.rc k).k (d.rc k).t (d.rc k).f (d.rc k).l) 4) w3 a3 cap3 L3) := HSa.out.then hs3; clear hs3 HSa HRa HXa HPa HIa HHR HRn HS; clear r0 r1 r2 r3 r4; have r4 : w3.cell? ⟨R, 4, none⟩ = some (.string (d.rc k).s) := HHR3.out.cell 4 rfl; have HSb : Hid (TS (B + 2) (B + 1) w2 none (l ++ numsL (q4 (d.rc k).k (d.rc k).t (d.rc k).f (d.rc k).l) 4) (w3.alloc (.cells #[.string (d.rc k).s] 9)) a3 cap3 L3) := HS3.out.below (below_alloc _ _); have HRb : Hid (RowN 1 0 (w3.alloc (.cells #[.string (d.rc k).s] 9)) (some ⟨w3.heap.size, 0, none⟩) 1 fun i => #[.string ((fun _ => (d.rc k).s) i)]) := row_new w3 _ _ (fun _ => .string (d.rc k).s) 1 (fun i hi => by rw [show i = 0 by omega]; rfl); have HXb : Hid (0 < 1 → ∀ b : Addr, some (⟨w3.heap.size, 0, none⟩ : Addr) = some b → ¬ tlB (B + 1) a3 b.block) := fun _ => tlB_new HS3.out.t; have HPb : Hid (∀ u, Below B (w3.alloc (.cells #[.string (d.rc k).s] 9)) u → TabP u) := HNum.out _ _ _ _ _ _ HS3.out (below_alloc _ _); have HIb : Hid (∀ i, i < 1 → ((fun _ => (d.rc k).s) i : ByteArray).size ≤ 1048576) := fun _ _ => hsk) | (go_at_call 24; refine (texts_calls (B + 2) (B + 1) B a3 cap3 L3 (l ++ numsL (q4 (d.rc k).k (d.rc k).t (d.rc k).f (d.rc k).l) 4) _ 1 _ (fun _ => (d.rc k).s) _ (by omega) HSb.out.t HSb.out.e (by omega) HPb.out HIb.out HRb.out HXb.out).mono ?_; rintro e w4 ⟨rfl, a4, cap4, L4, hs4⟩; have HS4 : Hid (TS (B + 2) (B + 1) w2 none ((((numL d.code ++ numL d.ti) ++ numL d.ma) ++ numL d.n) ++ recsL d.rc (k + 1)) w4 a4 cap4 L4) := (by rw [← HE.out]; exact HSb.out.then hs4); clear hs4 HSb HRb HXb HPb HIb r4))
      go_roundw
      case rel => exact ⟨k + 1, a4, cap4, L4, by omega, by go_num, HS4⟩
      case measure => simp [intOf]; omega
    · obtain rfl : k = d.n := by omega
      have HTl : Hid ((((((((numL d.code ++ numL d.ti) ++ numL d.ma) ++ numL d.n) ++ recsL d.rc d.n) ++ numsL (fun _ => (d.m : Int)) 1) ++ txtsL d.v d.m) ++ txtsL (v2 d.er d.tr) 2) = tellL d) := by show _ = _; rw [numsL_one, txtsL_two]; simp [tellL, List.append_assoc]
      have HVx : Hid (0 < d.m → ∀ (u : World) (a1 : Option Addr) (cap1 : Nat) (L1 l : List UInt8), TS (B + 2) (B + 1) w2 none l u a1 cap1 L1 → ∀ b : Addr, x.va = some b → ¬ tlB (B + 1) a1 b.block) := fun hm u a1 cap1 L1 l h b hb k => by
        obtain ⟨b', off, e, _, hlt, _⟩ := HTa.out.2 hm
        rw [hb] at e
        cases e
        have := HBw.out
        dsimp at k
        rcases k with k | k
        · omega
        · have := (bkB_lt h.t.own k).1; omega
      generalize (((numL d.code ++ numL d.ti) ++ numL d.ma) ++ numL d.n) ++ recsL d.rc d.n = l at *
      have c0 : wr.cell? ⟨B, 0, none⟩ = some (.int .i64 d.code) := (HKB.out _ _ _ _ _ HS.out).1.cell 0 rfl
      have c1 : wr.cell? ⟨B, 1, none⟩ = some (.slice x.ra d.n x.rc) := (HKB.out _ _ _ _ _ HS.out).1.cell 1 rfl
      have c2 : wr.cell? ⟨B, 2, none⟩ = some (.slice x.va d.m x.vc) := (HKB.out _ _ _ _ _ HS.out).1.cell 2 rfl
      have c3 : wr.cell? ⟨B, 3, none⟩ = some (.string d.er) := (HKB.out _ _ _ _ _ HS.out).1.cell 3 rfl
      have c4 : wr.cell? ⟨B, 4, none⟩ = some (.string d.tr) := (HKB.out _ _ _ _ _ HS.out).1.cell 4 rfl
      have c5 : wr.cell? ⟨B, 5, none⟩ = some (.int .i64 d.ti) := (HKB.out _ _ _ _ _ HS.out).1.cell 5 rfl
      have c6 : wr.cell? ⟨B, 6, none⟩ = some (.int .i64 d.ma) := (HKB.out _ _ _ _ _ HS.out).1.cell 6 rfl
      have HSa : Hid (TS (B + 2) (B + 1) w2 none l (wr.alloc (.cells #[.int .i64 (d.m : Int)] 3)) a1 cap1 L1) := HS.out.below (below_alloc _ _)
      have HRa : Hid (RowN 1 0 (wr.alloc (.cells #[.int .i64 (d.m : Int)] 3)) (some ⟨wr.heap.size, 0, none⟩) 1 fun i => #[.int .i64 ((fun _ => (d.m : Int)) i)]) := row_new wr _ _ (fun _ => .int .i64 (d.m : Int)) 1 (fun i hi => by rw [show i = 0 by omega]; rfl)
      have HXa : Hid (∀ b : Addr, some (⟨wr.heap.size, 0, none⟩ : Addr) = some b → ¬ tlB (B + 1) a1 b.block) := tlB_new HS.out.t
      have HPa : Hid (∀ u, Below B (wr.alloc (.cells #[.int .i64 (d.m : Int)] 3)) u → TabP u) := HNum.out _ _ _ _ _ _ HS.out (below_alloc _ _)
      clear HS
      go_wp2_with fail
      refine (numbers_calls (B + 2) (B + 1) B a1 cap1 L1 l _ 1 _ (fun _ => (d.m : Int)) _ (by omega) HSa.out.t HSa.out.e (by omega) HPa.out (fun _ _ => i5) HRa.out HXa.out).mono ?_
      rintro e w4 ⟨rfl, a4, cap4, L4, hs4⟩
      have HS4 : Hid (TS (B + 2) (B + 1) w2 none (l ++ numsL (fun _ => (d.m : Int)) 1) w4 a4 cap4 L4) := HSa.out.then hs4
      clear hs4 HSa HRa HXa HPa c0 c1 c2 c3 c4 c5 c6
      have c0 : w4.cell? ⟨B, 0, none⟩ = some (.int .i64 d.code) := (HKB.out _ _ _ _ _ HS4.out).1.cell 0 rfl
      have c1 : w4.cell? ⟨B, 1, none⟩ = some (.slice x.ra d.n x.rc) := (HKB.out _ _ _ _ _ HS4.out).1.cell 1 rfl
      have c2 : w4.cell? ⟨B, 2, none⟩ = some (.slice x.va d.m x.vc) := (HKB.out _ _ _ _ _ HS4.out).1.cell 2 rfl
      have c3 : w4.cell? ⟨B, 3, none⟩ = some (.string d.er) := (HKB.out _ _ _ _ _ HS4.out).1.cell 3 rfl
      have c4 : w4.cell? ⟨B, 4, none⟩ = some (.string d.tr) := (HKB.out _ _ _ _ _ HS4.out).1.cell 4 rfl
      have c5 : w4.cell? ⟨B, 5, none⟩ = some (.int .i64 d.ti) := (HKB.out _ _ _ _ _ HS4.out).1.cell 5 rfl
      have c6 : w4.cell? ⟨B, 6, none⟩ = some (.int .i64 d.ma) := (HKB.out _ _ _ _ _ HS4.out).1.cell 6 rfl
      have HPb : Hid (∀ u, Below B w4 u → TabP u) := HNum.out _ _ _ _ _ _ HS4.out (Below.refl _ _)
      go_wp2_with fail
      refine (texts_calls (B + 2) (B + 1) B a4 cap4 L4 (l ++ numsL (fun _ => (d.m : Int)) 1) _ d.m _ d.v _ hm HS4.out.t HS4.out.e (by omega) HPb.out HSm.out.v (RowN.less (RowN.below HTa.out.2 (HKB.out _ _ _ _ _ HS4.out).2) (Nat.zero_le _)) (fun h => HVx.out h _ _ _ _ _ HS4.out)).mono ?_
      rintro e w5 ⟨rfl, a5, cap5, L5, hs5⟩
      have HS5 : Hid (TS (B + 2) (B + 1) w2 none ((l ++ numsL (fun _ => (d.m : Int)) 1) ++ txtsL d.v d.m) w5 a5 cap5 L5) := HS4.out.then hs5
      clear hs5 HS4 HPb HVx c0 c1 c2 c3 c4 c5 c6
      have c0 : w5.cell? ⟨B, 0, none⟩ = some (.int .i64 d.code) := (HKB.out _ _ _ _ _ HS5.out).1.cell 0 rfl
      have c1 : w5.cell? ⟨B, 1, none⟩ = some (.slice x.ra d.n x.rc) := (HKB.out _ _ _ _ _ HS5.out).1.cell 1 rfl
      have c2 : w5.cell? ⟨B, 2, none⟩ = some (.slice x.va d.m x.vc) := (HKB.out _ _ _ _ _ HS5.out).1.cell 2 rfl
      have c3 : w5.cell? ⟨B, 3, none⟩ = some (.string d.er) := (HKB.out _ _ _ _ _ HS5.out).1.cell 3 rfl
      have c4 : w5.cell? ⟨B, 4, none⟩ = some (.string d.tr) := (HKB.out _ _ _ _ _ HS5.out).1.cell 4 rfl
      have c5 : w5.cell? ⟨B, 5, none⟩ = some (.int .i64 d.ti) := (HKB.out _ _ _ _ _ HS5.out).1.cell 5 rfl
      have c6 : w5.cell? ⟨B, 6, none⟩ = some (.int .i64 d.ma) := (HKB.out _ _ _ _ _ HS5.out).1.cell 6 rfl
      have HSc : Hid (TS (B + 2) (B + 1) w2 none ((l ++ numsL (fun _ => (d.m : Int)) 1) ++ txtsL d.v d.m) (w5.alloc (.cells #[.string d.er, .string d.tr] 9)) a5 cap5 L5) := HS5.out.below (below_alloc _ _)
      have HRc : Hid (RowN 1 0 (w5.alloc (.cells #[.string d.er, .string d.tr] 9)) (some ⟨w5.heap.size, 0, none⟩) 2 fun i => #[.string (v2 d.er d.tr i)]) := row_new w5 _ _ (fun i => .string (v2 d.er d.tr i)) 2 (fun i hi => by rcases (show i = 0 ∨ i = 1 by omega) with rfl | rfl <;> simp [v2])
      have HXc : Hid (0 < 2 → ∀ b : Addr, some (⟨w5.heap.size, 0, none⟩ : Addr) = some b → ¬ tlB (B + 1) a5 b.block) := fun _ => tlB_new HS5.out.t
      have HPc : Hid (∀ u, Below B (w5.alloc (.cells #[.string d.er, .string d.tr] 9)) u → TabP u) := HNum.out _ _ _ _ _ _ HS5.out (below_alloc _ _)
      have HIc : Hid (∀ i, i < 2 → (v2 d.er d.tr i).size ≤ 1048576) := fun i _ => by unfold v2; split <;> assumption
      clear HS5
      go_wp2_with fail
      refine (texts_calls (B + 2) (B + 1) B a5 cap5 L5 ((l ++ numsL (fun _ => (d.m : Int)) 1) ++ txtsL d.v d.m) _ 2 _ (v2 d.er d.tr) _ (by omega) HSc.out.t HSc.out.e (by omega) HPc.out HIc.out HRc.out HXc.out).mono ?_
      rintro e w6 ⟨rfl, a6, cap6, L6, hs6⟩
      have HS6 : Hid (TS (B + 2) (B + 1) w2 none (tellL d) w6 a6 cap6 L6) := by
        have h := HSc.out.then hs6
        rw [HTl.out] at h
        exact h
      clear hs6 HSc HRc HXc HPc HIc c0 c1 c2 c3 c4 c5 c6
      have t0 := HS6.out.t.cell
      have hl6 := HS6.out.t.len
      have HBe : Hid (Below w.heap.size w w6) := (HKB.out _ _ _ _ _ HS6.out).2
      have HOe : Hid (OwB w.heap.size w6 a6 cap6 L6) := ownsK_base' HS6.out.t.own (by have := HBw.out; omega)
      have HEe : Hid (L6 = tkM (tellL d)) := HS6.out.e
      clear HS6
      by_cases c : 1000000 < L6.length
      · have HE2 : Hid ([] = toldL d) := by show _ = _; unfold toldL; rw [if_pos (tkM_big (by rw [← HEe.out]; exact c))]
        have c' : (1000000 : Int) < (L6.length : Int) := by omega
        go_wp2_with fail
        go_ret
        exact ⟨⟨none, 0, [], rfl, HE2.out, World.ownsRow_nil _ _ _ _⟩, HBe.out⟩
      · have HE2 : Hid (L6 = toldL d) := by
          have hc : (tkM (tellL d)).length ≤ 1000000 := by rw [← HEe.out]; omega
          have h := tkM_small hc
          show _ = _
          unfold toldL
          rw [if_neg (by rw [h] at hc; omega), HEe.out, h]
        have c' : ¬ (1000000 : Int) < (L6.length : Int) := by omega
        go_wp2_with fail
        go_ret
        exact ⟨⟨a6, cap6, L6, rfl, HE2.out, HOe.out⟩, HBe.out⟩
end Go.Proofs.YtiidepafifodjaaDoor
