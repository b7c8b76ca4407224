import Derived.Test.YtiidepafifodjaaDoorHrT
/-! FnExactHear: the walk. -/
namespace Go.Proofs.YtiidepafifodjaaDoor
open Go.RowKit
attribute [local go_sem] run_store_float
attribute [local go_sem ↓] Go.wp_at_zero Go.wp_at_succ

/-- the bytes l in block B -/
def BR (u : World) (B : Nat) (l : List UInt8) : Prop := u.rowIs B 5 (l.length * 1) (flK 1 fun i => #[.int .u8 ((l.getD i 0).toNat : Int)])
theorem BR.row {u : World} {B : Nat} {l : List UInt8} (h : BR u B l) : ByAt B u (some ⟨B, 0, none⟩) l := rowK (fun _ _ => rfl) h
theorem BR.rs {u : World} {B : Nat} {l : List UInt8} (h : BR u B l) : RsAt u (some ⟨B, 0, none⟩) l.length l := RsAt.cells (fun i hi => by
  obtain ⟨b, o, e, _, _, hc⟩ := h.row (by omega)
  cases e
  have := hc i hi 0 (by omega)
  rw [show 0 + i * 1 + 0 = 0 + i by omega] at this
  exact this) (Nat.le_refl _)
theorem tb_calls (a : Option Addr) (cap : Nat) (l : List UInt8) (u : World) (hl : l.length ≤ 1048576) (hy : ByAt 0 u a l) :
    Calls Tryd.prog 15 #[.slice a l.length cap] u fun e u' => (e = .returned (.slice (some ⟨u.heap.size, 0, none⟩) l.length l.length) ∧ BR u' u.heap.size l) ∧ Below u.heap.size u u' := toByteS_calls 0 a l.length cap _ u hl hy
/-- the two reports, in their boxes -/
structure LH (w : World) (p : RpL) (x2 x4 : RpX) (S3 S5 : Nat) (u : World) : Prop where
  b : Below w.heap.size w u
  s3 : Has u S3 (rpC p.d x2)
  s5 : Has u S5 (rpC p.d x4)
  r2 : RpAt 0 u p.d x2
  l2 : ∀ b, x2.ra = some b ∨ x2.va = some b → b.block < S3
theorem LH.call {w : World} {p : RpL} {x2 x4 : RpX} {S3 S5 : Nat} {u u' : World} (h : LH w p x2 x4 S3 S5 u) (hb : Below u.heap.size u u') : LH w p x2 x4 S3 S5 u' := ⟨below_call h.b hb, h.s3.call hb, h.s5.call hb, h.r2.below hb, h.l2⟩
theorem LH.gx {w : World} {p : RpL} {x2 x4 : RpX} {S3 S5 : Nat} {u u' : World} {S : Nat → Prop} (h : LH w p x2 x4 S3 S5 u) (hg : Gx S u u') (hw : w.heap.size ≤ u.heap.size) (h1 : ∀ j, S j → S3 < j) (h2 : ∀ j, S j → ¬ j = S5) (h3 : w.heap.size ≤ S3) : LH w p x2 x4 S3 S5 u' :=
  ⟨h.b.trans (hg.to hw (fun j e => by have := h1 j e; omega)), hg.has h.s3 (fun e => by have := h1 _ e; omega), hg.has h.s5 (fun e => h2 _ e rfl), ⟨hg.row h.r2.1 (fun b e k => by have := h1 _ k; have := h.l2 b (.inl e); omega), hg.row h.r2.2 (fun b e k => by have := h1 _ k; have := h.l2 b (.inr e); omega)⟩, h.l2⟩
theorem RpO.lt {N : Nat} {w : World} {p : RpL} {x : RpX} (h : RpO N w p x) : ∀ b, x.ra = some b ∨ x.va = some b → b.block < w.heap.size := fun b e => by
  rcases e with e | e
  · exact (h.r.lt b.block ((bkB_own _ _ _ _).2 (by rw [e]; rfl))).2
  · exact (h.v.lt b.block ((bkB_own _ _ _ _).2 (by rw [e]; rfl))).2
theorem RpO.call {N : Nat} {w w' : World} {p : RpL} {x : RpX} (h : RpO N w p x) (hb : Below w.heap.size w w') : RpO N w' p x := ⟨ownsK_below h.r hb, ownsK_below h.v hb, h.d⟩

set_option maxRecDepth 100000 in
set_option maxHeartbeats 8000000 in
theorem hear_walk (a : Option Addr) (cap : Nat) (l : List UInt8) (w : World) (hy : ByAt 0 w a l) (hE : ∀ u, Below w.heap.size w u → ErrP u) (hP : ∀ u, Below w.heap.size w u → TabP u) :
    Calls Tryd.prog 4 #[.slice a l.length cap] w fun e w' => e = .returned (.bool true) ∧ Below w.heap.size w w' := by
  have HY : Hid (ByAt 0 w a l) := hy
  have HE : Hid (∀ u, Below w.heap.size w u → ErrP u) := hE
  have HP : Hid (∀ u, Below w.heap.size w u → TabP u) := hP
  clear hy hE hP
  go_enter Tryd.func4, Tryd.ntmps4
  by_cases hlong : (1048576 : Int) < (l.length : Int)
  · go_wp2_with fail
    go_ret
    exact ⟨rfl, Below.refl _ _⟩
  have hl : l.length ≤ 1048576 := by omega
  have q0 : decide ((1048576 : Int) < (l.length : Int)) = false := by simpa using hlong
  go_wp2_with fail
  refine (tb_calls a cap l w hl HY.out).mono ?_
  rintro e w1 ⟨⟨rfl, hr1⟩, hb1⟩
  have HB1 : Hid (Below w.heap.size w w1) := hb1
  have HR1 : Hid (BR w1 w.heap.size l) := hr1
  clear hr1 hb1
  go_wp2_with fail
  refine (specHear_calls (some ⟨w.heap.size, 0, none⟩) l.length l w1 hl (Nat.le_refl _) (RowN.less HR1.out.row (Nat.zero_le _)) (fun b e => by cases e; exact HR1.out.lt) HR1.out.rs).mono ?_
  rintro e w2 ⟨p, x2, rfl, hh2, hk2, ho2, hb2⟩
  have HH : Hid (HearIs l p) := hh2
  have HK : Hid p.ok := hk2
  have HO2 : Hid (RpO w1.heap.size w2 p x2) := ho2
  have HB2 : Hid (Below w.heap.size w w2) := below_call HB1.out hb2
  clear hh2 hk2 ho2 hb2
  go_wp2_with fail
  have HB2a : Hid (Below w.heap.size w (w2.alloc (.cells (rpC p.d x2) 31))) := below_call HB2.out (below_alloc _ _)
  have HS3 : Hid (Has (w2.alloc (.cells (rpC p.d x2) 31)) w2.heap.size (rpC p.d x2)) := Has.new _ _ _
  refine (tb_calls a cap l _ hl (RowN.below HY.out HB2a.out)).mono ?_
  rintro e w3 ⟨⟨rfl, hr3⟩, hb3⟩
  have HW3 : Hid (w2.heap.size < (w2.alloc (.cells (rpC p.d x2) 31)).heap.size ∧ (w2.alloc (.cells (rpC p.d x2) 31)).heap.size < w3.heap.size) := ⟨by simp, hr3.lt⟩
  have HB3 : Hid (Below w.heap.size w w3) := below_call HB2a.out hb3
  have HS3' : Hid (Has w3 w2.heap.size (rpC p.d x2)) := HS3.out.call hb3
  have HO2' : Hid (RpAt 0 w3 p.d x2) := ((HO2.out.at_.less (Nat.zero_le _)).alloc _).below hb3
  have HL2 : Hid (∀ b, x2.ra = some b ∨ x2.va = some b → b.block < w2.heap.size) := HO2.out.lt
  have HWs : Hid (w.heap.size ≤ w2.heap.size) := HB2.out.size
  have HR3 : Hid (BR w3 (w2.alloc (.cells (rpC p.d x2) 31)).heap.size l) := hr3
  clear hr3 hb3 HS3 HO2 HR1 HB1 HB2 HB2a
  generalize (w2.alloc (.cells (rpC p.d x2) 31)).heap.size = B3 at *
  generalize w2.heap.size = S3 at *
  clear w1 w2
  go_wp2_with fail
  refine (implHear_calls (some ⟨B3, 0, none⟩) l.length l w3 hl (fun u hu => HE.out u (below_call HB3.out hu)) (fun u hu => HP.out u (below_call HB3.out hu)) HR3.out.rs).mono ?_
  rintro e w4 ⟨p4, x4, rfl, hh4, _, ho4, hb4⟩
  obtain rfl : p4 = p := hh4.uniq HH.out
  have HO4 : Hid (RpO w3.heap.size (w4.alloc (.cells (rpC p4.d x4) 31)) p4 x4) := ho4.call (below_alloc _ _)
  have HR4 : Hid (BR (w4.alloc (.cells (rpC p4.d x4) 31)) B3 l) := (HR3.out.of_block (hb4.block _ HR3.out.lt)).of_block ((below_alloc _ _).block _ (Nat.lt_of_lt_of_le HR3.out.lt hb4.size))
  have HL : Hid (LH w p4 x2 x4 S3 w4.heap.size (w4.alloc (.cells (rpC p4.d x4) 31))) := ⟨below_call (below_call HB3.out hb4) (below_alloc _ _), (HS3'.out.call hb4).call (below_alloc _ _), Has.new _ _ _, (HO2'.out.below hb4).alloc _, HL2.out⟩
  have HX4 : Hid (∀ j, (bkB x4.ra j ∨ bkB x4.va j) → w3.heap.size ≤ j ∧ j < w4.heap.size) := fun j h => by
    rcases h with h | h
    · exact ho4.r.lt j ((bkB_own _ _ _ _).2 h)
    · exact ho4.v.lt j ((bkB_own _ _ _ _).2 h)
  have HW4 : Hid (w3.heap.size ≤ w4.heap.size) := hb4.size
  clear hh4 ho4 hb4 HR3 HS3' HO2' HL2 HB3
  go_upto_region 6 with fail
  generalize w4.alloc (.cells (rpC p4.d x4) 31) = w5 at *
  generalize w4.heap.size = S5 at *
  have c0 : w5.cell? ⟨S3, 0, none⟩ = some (.int .i64 p4.d.code) := HL.out.s3.cell 0 rfl
  have c1 : w5.cell? ⟨S3, 1, none⟩ = some (.slice x2.ra p4.d.n x2.rc) := HL.out.s3.cell 1 rfl
  have c2 : w5.cell? ⟨S3, 2, none⟩ = some (.slice x2.va p4.d.m x2.vc) := HL.out.s3.cell 2 rfl
  have c3 : w5.cell? ⟨S3, 3, none⟩ = some (.string p4.d.er) := HL.out.s3.cell 3 rfl
  have c4 : w5.cell? ⟨S3, 4, none⟩ = some (.string p4.d.tr) := HL.out.s3.cell 4 rfl
  have c5 : w5.cell? ⟨S3, 5, none⟩ = some (.int .i64 p4.d.ti) := HL.out.s3.cell 5 rfl
  have c6 : w5.cell? ⟨S3, 6, none⟩ = some (.int .i64 p4.d.ma) := HL.out.s3.cell 6 rfl
  have r0 : w5.cell? ⟨S5, 0, none⟩ = some (.int .i64 p4.d.code) := HL.out.s5.cell 0 rfl
  have r1 : w5.cell? ⟨S5, 1, none⟩ = some (.slice x4.ra p4.d.n x4.rc) := HL.out.s5.cell 1 rfl
  have r2 : w5.cell? ⟨S5, 2, none⟩ = some (.slice x4.va p4.d.m x4.vc) := HL.out.s5.cell 2 rfl
  have r3 : w5.cell? ⟨S5, 3, none⟩ = some (.string p4.d.er) := HL.out.s5.cell 3 rfl
  have r4 : w5.cell? ⟨S5, 4, none⟩ = some (.string p4.d.tr) := HL.out.s5.cell 4 rfl
  have r5 : w5.cell? ⟨S5, 5, none⟩ = some (.int .i64 p4.d.ti) := HL.out.s5.cell 5 rfl
  have r6 : w5.cell? ⟨S5, 6, none⟩ = some (.int .i64 p4.d.ma) := HL.out.s5.cell 6 rfl
  go_wp2_with fail
  refine (eqReport_calls _ _ p4.d x4 x2 _ HK.out.sm (HO4.out.at_) HL.out.r2).mono ?_
  rintro e w6 ⟨rfl, hb6⟩
  replace HL : Hid (LH w p4 x2 x4 S3 S5 w6) := HL.out.call hb6
  replace HO4 : Hid (RpO w3.heap.size w6 p4 x4) := HO4.out.call hb6
  replace HR4 : Hid (BR w6 B3 l) := HR4.out.of_block (hb6.block _ HR4.out.lt)
  clear hb6 c0 c1 c2 c3 c4 c5 c6 r0 r1 r2 r3 r4 r5 r6
  go_wp2_with fail
  refine (tb_calls a cap l _ hl (RowN.below HY.out HL.out.b)).mono ?_
  rintro e w7 ⟨⟨rfl, hr7⟩, hb7⟩
  have HR7 : Hid (BR w7 w6.heap.size l) := hr7
  replace HL : Hid (LH w p4 x2 x4 S3 S5 w7) := HL.out.call hb7
  replace HO4 : Hid (RpO w3.heap.size w7 p4 x4) := HO4.out.call hb7
  replace HR4 : Hid (BR w7 B3 l) := HR4.out.of_block (hb7.block _ HR4.out.lt)
  clear hb7 hr7
  go_wp2_with fail
  refine (eqByteS_calls _ _ _ _ l.length _ _ _ _ (by omega) HR4.out.row HR7.out.row).mono ?_
  rintro e w8 ⟨rfl, hb8⟩
  replace HL : Hid (LH w p4 x2 x4 S3 S5 w8) := HL.out.call hb8
  replace HO4 : Hid (RpO w3.heap.size w8 p4 x4) := HO4.out.call hb8
  replace HR4 : Hid (BR w8 B3 l) := HR4.out.of_block (hb8.block _ HR4.out.lt)
  clear hb8 HR7
  go_wp2_with fail
  refine (markByteS_own B3 l.length l.length (l.length * 1) _ 1 _ (by omega) (by omega) (by omega) (by omega) HR4.out).mono ?_
  rintro e w9 ⟨rfl, _, hg9⟩
  replace HL : Hid (LH w p4 x2 x4 S3 S5 w9) := HL.out.gx (Gx.grown hg9) (HL.out.b.size) (fun j e => by have := Option.some.inj e; have := HW3.out.1; omega) (fun j e => by have := Option.some.inj e; have := HW3.out.2; have := HW4.out; omega) HWs.out
  replace HO4 : Hid (RpO w3.heap.size w9 p4 x4) := ⟨ownsK_block HO4.out.r (fun j e => hg9.block j (HO4.out.r.lt j e).2 (fun h => by have := (HO4.out.r.lt j e).1; have := Option.some.inj h; have := HW3.out.2; omega)), ownsK_block HO4.out.v (fun j e => hg9.block j (HO4.out.v.lt j e).2 (fun h => by have := (HO4.out.v.lt j e).1; have := Option.some.inj h; have := HW3.out.2; omega)), HO4.out.d⟩
  clear hg9 HR4
  have q3 : decide ((1 : Int) + (l.length : Int) < 0) = false := by simp; omega
  have c0 : w9.cell? ⟨S3, 0, none⟩ = some (.int .i64 p4.d.code) := HL.out.s3.cell 0 rfl
  have c1 : w9.cell? ⟨S3, 1, none⟩ = some (.slice x2.ra p4.d.n x2.rc) := HL.out.s3.cell 1 rfl
  have c2 : w9.cell? ⟨S3, 2, none⟩ = some (.slice x2.va p4.d.m x2.vc) := HL.out.s3.cell 2 rfl
  have c3 : w9.cell? ⟨S3, 3, none⟩ = some (.string p4.d.er) := HL.out.s3.cell 3 rfl
  have c4 : w9.cell? ⟨S3, 4, none⟩ = some (.string p4.d.tr) := HL.out.s3.cell 4 rfl
  have c5 : w9.cell? ⟨S3, 5, none⟩ = some (.int .i64 p4.d.ti) := HL.out.s3.cell 5 rfl
  have c6 : w9.cell? ⟨S3, 6, none⟩ = some (.int .i64 p4.d.ma) := HL.out.s3.cell 6 rfl
  have r0 : w9.cell? ⟨S5, 0, none⟩ = some (.int .i64 p4.d.code) := HL.out.s5.cell 0 rfl
  have r1 : w9.cell? ⟨S5, 1, none⟩ = some (.slice x4.ra p4.d.n x4.rc) := HL.out.s5.cell 1 rfl
  have r2 : w9.cell? ⟨S5, 2, none⟩ = some (.slice x4.va p4.d.m x4.vc) := HL.out.s5.cell 2 rfl
  have r3 : w9.cell? ⟨S5, 3, none⟩ = some (.string p4.d.er) := HL.out.s5.cell 3 rfl
  have r4 : w9.cell? ⟨S5, 4, none⟩ = some (.string p4.d.tr) := HL.out.s5.cell 4 rfl
  have r5 : w9.cell? ⟨S5, 5, none⟩ = some (.int .i64 p4.d.ti) := HL.out.s5.cell 5 rfl
  have r6 : w9.cell? ⟨S5, 6, none⟩ = some (.int .i64 p4.d.ma) := HL.out.s5.cell 6 rfl
  go_wp2_with fail
  refine (eqReport_calls _ _ p4.d x4 x2 _ HK.out.sm (HO4.out.at_) HL.out.r2).mono ?_
  rintro e w10 ⟨rfl, hb10⟩
  replace HL : Hid (LH w p4 x2 x4 S3 S5 w10) := HL.out.call hb10
  replace HO4 : Hid (RpO w3.heap.size w10 p4 x4) := HO4.out.call hb10
  clear hb10 c0 c1 c2 c3 c4 c5 c6 r0 r1 r2 r3 r4 r5 r6
  have r0 : w10.cell? ⟨S5, 0, none⟩ = some (.int .i64 p4.d.code) := HL.out.s5.cell 0 rfl
  have r1 : w10.cell? ⟨S5, 1, none⟩ = some (.slice x4.ra p4.d.n x4.rc) := HL.out.s5.cell 1 rfl
  have r2 : w10.cell? ⟨S5, 2, none⟩ = some (.slice x4.va p4.d.m x4.vc) := HL.out.s5.cell 2 rfl
  have r3 : w10.cell? ⟨S5, 3, none⟩ = some (.string p4.d.er) := HL.out.s5.cell 3 rfl
  have r4 : w10.cell? ⟨S5, 4, none⟩ = some (.string p4.d.tr) := HL.out.s5.cell 4 rfl
  have r5 : w10.cell? ⟨S5, 5, none⟩ = some (.int .i64 p4.d.ti) := HL.out.s5.cell 5 rfl
  have r6 : w10.cell? ⟨S5, 6, none⟩ = some (.int .i64 p4.d.ma) := HL.out.s5.cell 6 rfl
  go_wp2_with fail
  refine (markRep_calls _ p4 x4 1 _ HK.out (by omega) (by omega) HO4.out).mono ?_
  rintro e w11 ⟨⟨rfl, hm11⟩, hg11⟩
  have HM : Hid (MkdP w11 p4 x4 1) := hm11
  replace HL : Hid (LH w p4 x2 x4 S3 S5 w11) := HL.out.gx hg11 (HL.out.b.size) (fun j e => by have := (HX4.out j e).1; have := HW3.out; omega) (fun j e => by have := (HX4.out j e).2; omega) HWs.out
  clear hm11 hg11 HO4 r0 r1 r2 r3 r4 r5 r6
  have r0 : w11.cell? ⟨S5, 0, none⟩ = some (.int .i64 p4.d.code) := HL.out.s5.cell 0 rfl
  have r1 : w11.cell? ⟨S5, 1, none⟩ = some (.slice x4.ra p4.d.n x4.rc) := HL.out.s5.cell 1 rfl
  have r2 : w11.cell? ⟨S5, 2, none⟩ = some (.slice x4.va p4.d.m x4.vc) := HL.out.s5.cell 2 rfl
  have r3 : w11.cell? ⟨S5, 3, none⟩ = some (.string p4.d.er) := HL.out.s5.cell 3 rfl
  have r4 : w11.cell? ⟨S5, 4, none⟩ = some (.string p4.d.tr) := HL.out.s5.cell 4 rfl
  have r5 : w11.cell? ⟨S5, 5, none⟩ = some (.int .i64 p4.d.ti) := HL.out.s5.cell 5 rfl
  have r6 : w11.cell? ⟨S5, 6, none⟩ = some (.int .i64 p4.d.ma) := HL.out.s5.cell 6 rfl
  go_wp2_with fail
  refine (heldRep_calls p4 x4 1 _ HK.out (by omega) (by omega) HM.out).mono ?_
  rintro e w12 ⟨rfl, hb12⟩
  replace HL : Hid (LH w p4 x2 x4 S3 S5 w12) := HL.out.call hb12
  replace HM : Hid (MkdP w12 p4 x4 1) := HM.out.below hb12
  clear hb12 r0 r1 r2 r3 r4 r5 r6
  have q4 : decide ((1 : Int) + (p4.xs.length : Int) * 5 + (p4.vs.length : Int) < 0) = false := by simp; omega
  go_wp2_with fail
  refine (tb_calls a cap l _ hl (RowN.below HY.out HL.out.b)).mono ?_
  rintro e w13 ⟨⟨rfl, hr13⟩, hb13⟩
  have HR13 : Hid (BR w13 w12.heap.size l) := hr13
  replace HL : Hid (LH w p4 x2 x4 S3 S5 w13) := HL.out.call hb13
  replace HM : Hid (MkdP w13 p4 x4 1) := HM.out.below hb13
  clear hr13 hb13
  go_wp2_with fail
  refine (implHear_calls (some ⟨w12.heap.size, 0, none⟩) l.length l w13 hl (fun u hu => HE.out u (below_call HL.out.b hu)) (fun u hu => HP.out u (below_call HL.out.b hu)) HR13.out.rs).mono ?_
  rintro e w14 ⟨p5, x5, rfl, hh5, _, ho5, hb5⟩
  obtain rfl : p5 = p4 := hh5.uniq HH.out
  have HO5 : Hid (RpO w13.heap.size (w14.alloc (.cells (rpC p5.d x5) 31)) p5 x5) := ho5.call (below_alloc _ _)
  replace HL : Hid (LH w p5 x2 x4 S3 S5 (w14.alloc (.cells (rpC p5.d x5) 31))) := (HL.out.call hb5).call (below_alloc _ _)
  replace HM : Hid (MkdP (w14.alloc (.cells (rpC p5.d x5) 31)) p5 x4 1) := (HM.out.below hb5).below (below_alloc _ _)
  have HS9 : Hid (Has (w14.alloc (.cells (rpC p5.d x5) 31)) w14.heap.size (rpC p5.d x5)) := Has.new _ _ _
  clear hh5 ho5 hb5 HR13
  go_upto_region 23 with fail
  generalize w14.alloc (.cells (rpC p5.d x5) 31) = w15 at *
  generalize w14.heap.size = S9 at *
  have c0 : w15.cell? ⟨S3, 0, none⟩ = some (.int .i64 p5.d.code) := HL.out.s3.cell 0 rfl
  have c1 : w15.cell? ⟨S3, 1, none⟩ = some (.slice x2.ra p5.d.n x2.rc) := HL.out.s3.cell 1 rfl
  have c2 : w15.cell? ⟨S3, 2, none⟩ = some (.slice x2.va p5.d.m x2.vc) := HL.out.s3.cell 2 rfl
  have c3 : w15.cell? ⟨S3, 3, none⟩ = some (.string p5.d.er) := HL.out.s3.cell 3 rfl
  have c4 : w15.cell? ⟨S3, 4, none⟩ = some (.string p5.d.tr) := HL.out.s3.cell 4 rfl
  have c5 : w15.cell? ⟨S3, 5, none⟩ = some (.int .i64 p5.d.ti) := HL.out.s3.cell 5 rfl
  have c6 : w15.cell? ⟨S3, 6, none⟩ = some (.int .i64 p5.d.ma) := HL.out.s3.cell 6 rfl
  have r0 : w15.cell? ⟨S9, 0, none⟩ = some (.int .i64 p5.d.code) := HS9.out.cell 0 rfl
  have r1 : w15.cell? ⟨S9, 1, none⟩ = some (.slice x5.ra p5.d.n x5.rc) := HS9.out.cell 1 rfl
  have r2 : w15.cell? ⟨S9, 2, none⟩ = some (.slice x5.va p5.d.m x5.vc) := HS9.out.cell 2 rfl
  have r3 : w15.cell? ⟨S9, 3, none⟩ = some (.string p5.d.er) := HS9.out.cell 3 rfl
  have r4 : w15.cell? ⟨S9, 4, none⟩ = some (.string p5.d.tr) := HS9.out.cell 4 rfl
  have r5 : w15.cell? ⟨S9, 5, none⟩ = some (.int .i64 p5.d.ti) := HS9.out.cell 5 rfl
  have r6 : w15.cell? ⟨S9, 6, none⟩ = some (.int .i64 p5.d.ma) := HS9.out.cell 6 rfl
  go_wp2_with fail
  refine (eqReport_calls _ _ p5.d x5 x2 _ HK.out.sm (HO5.out.at_) HL.out.r2).mono ?_
  rintro e w16 ⟨rfl, hb16⟩
  replace HL : Hid (LH w p5 x2 x4 S3 S5 w16) := HL.out.call hb16
  replace HM : Hid (MkdP w16 p5 x4 1) := HM.out.below hb16
  clear hb16 HO5 HS9 c0 c1 c2 c3 c4 c5 c6 r0 r1 r2 r3 r4 r5 r6
  have r0 : w16.cell? ⟨S5, 0, none⟩ = some (.int .i64 p5.d.code) := HL.out.s5.cell 0 rfl
  have r1 : w16.cell? ⟨S5, 1, none⟩ = some (.slice x4.ra p5.d.n x4.rc) := HL.out.s5.cell 1 rfl
  have r2 : w16.cell? ⟨S5, 2, none⟩ = some (.slice x4.va p5.d.m x4.vc) := HL.out.s5.cell 2 rfl
  have r3 : w16.cell? ⟨S5, 3, none⟩ = some (.string p5.d.er) := HL.out.s5.cell 3 rfl
  have r4 : w16.cell? ⟨S5, 4, none⟩ = some (.string p5.d.tr) := HL.out.s5.cell 4 rfl
  have r5 : w16.cell? ⟨S5, 5, none⟩ = some (.int .i64 p5.d.ti) := HL.out.s5.cell 5 rfl
  have r6 : w16.cell? ⟨S5, 6, none⟩ = some (.int .i64 p5.d.ma) := HL.out.s5.cell 6 rfl
  go_wp2_with fail
  refine (heldRep_calls p5 x4 1 _ HK.out (by omega) (by omega) HM.out).mono ?_
  rintro e w17 ⟨rfl, hb17⟩
  replace HL : Hid (LH w p5 x2 x4 S3 S5 w17) := HL.out.call hb17
  clear hb17 r0 r1 r2 r3 r4 r5 r6
  go_wp2_with fail
  go_ret
  exact ⟨rfl, HL.out.b⟩
end Go.Proofs.YtiidepafifodjaaDoor
