import Derived.Test.YtiidepafifodjabInC
/-! FnExactInputOk: the walk. -/
namespace Go.Proofs.Ytiidepafifodjab
open Go.RowKit
attribute [local go_sem] run_store_float
attribute [local go_sem ↓] Go.wp_at_zero Go.wp_at_succ

/-- a local that holds an input -/
structure IBox (w : World) (b : Nat) (d : ID) (x : IA) : Prop where
  lt : b < w.heap.size
  c0 : w.cell? ⟨b, 0, none⟩ = some (.slice x.aa d.an x.ac)
  c1 : w.cell? ⟨b, 1, none⟩ = some (.slice x.la d.ln x.lc)
  c2 : w.cell? ⟨b, 2, none⟩ = some (.int .i64 d.t)
  c3 : w.cell? ⟨b, 3, none⟩ = some (.int .i64 d.d)
  c4 : w.cell? ⟨b, 4, none⟩ = some (.int .i64 d.c)
theorem IBox.new (w : World) (d : ID) (x : IA) (T : TypeId) : IBox (w.alloc (.cells (inC d x) T)) w.heap.size d x := ⟨by simp, by simp, by simp, by simp, by simp, by simp⟩
theorem IBox.call {u w : World} {b : Nat} {d : ID} {x : IA} (h : IBox u b d x) (hb : Below u.heap.size u w) : IBox w b d x :=
  ⟨Nat.lt_of_lt_of_le h.lt hb.size, (hb.cell (p := ⟨b, 0, none⟩) h.lt).trans h.c0, (hb.cell (p := ⟨b, 1, none⟩) h.lt).trans h.c1, (hb.cell (p := ⟨b, 2, none⟩) h.lt).trans h.c2, (hb.cell (p := ⟨b, 3, none⟩) h.lt).trans h.c3, (hb.cell (p := ⟨b, 4, none⟩) h.lt).trans h.c4⟩
theorem IBox.drew {w : World} {b : Nat} {d : ID} {x : IA} (h : IBox w b d x) : IBox w.drew b d x := ⟨h.lt, h.c0, h.c1, h.c2, h.c3, h.c4⟩
theorem IBox.alloc {w : World} {b : Nat} {d : ID} {x : IA} (h : IBox w b d x) (o : Obj) : IBox (w.alloc o) b d x := h.call (below_alloc w o)

set_option maxRecDepth 100000 in
set_option maxHeartbeats 8000000 in
theorem inputOk_walk (d : ID) (x : IA) (w : World) (hd : d.wf) (hT : InAt 0 w d x) :
    Calls Try.prog 8 #[inV d x] w fun e w' => e = .returned (.bool true) ∧ Below w.heap.size w w' := by
  have HW : Hid d.wf := hd
  have HT : Hid (InAt 0 w d x) := hT
  clear hd hT
  go_enter Try.func8, Try.ntmps8
  go_wp2_with fail
  refine (szInput_calls 0 d x 1048576 _ (by omega) (by omega) HW.out (HT.out.alloc _)).mono ?_
  rintro e w1 ⟨⟨v, rfl, hv⟩, hb1⟩
  have hT1 : Hid (InAt 0 w1 d x) := (HT.out.alloc _).below hb1
  have hX : Hid (IBox w1 w.heap.size d x) := (IBox.new w d x _).call hb1
  have hB : Hid (Below w.heap.size w w1) := below_call (below_alloc _ _) hb1
  clear hb1 HT
  rcases hv with rfl | ⟨v0, v1, v2⟩
  · go_wp2_with fail
    go_ret
    exact ⟨rfl, hB.out⟩
  have HS : Hid d.sm := v2
  clear v2
  have c0 := hX.out.c0
  have c1 := hX.out.c1
  have c2 := hX.out.c2
  have c3 := hX.out.c3
  have c4 := hX.out.c4
  go_wp2_with fail
  clear c0 c1 c2 c3 c4 v0 v1
  refine (toInput_calls 0 d x _ HS.out hT1.out).mono ?_
  rintro e w2 ⟨⟨x2, rfl, hR2⟩, hb2⟩
  have hT2 : Hid (InAt w1.heap.size w2 d x2) := hR2
  replace hT1 : Hid (InAt 0 w2 d x) := hT1.out.below hb2
  replace hX : Hid (IBox w2 w.heap.size d x) := hX.out.call hb2
  replace hB : Hid (Below w.heap.size w w2) := below_call hB.out hb2
  clear hb2 hR2
  go_wp2_with fail
  refine (specInputOk_calls _ d x2 _ HS.out hT2.out).mono ?_
  rintro e w3 ⟨⟨sb, rfl, hsb⟩, hb3⟩
  have hSb : Hid (sb = true ↔ okI d) := hsb
  replace hT1 : Hid (InAt 0 w3 d x) := hT1.out.below hb3
  replace hX : Hid (IBox w3 w.heap.size d x) := hX.out.call hb3
  replace hB : Hid (Below w.heap.size w w3) := below_call hB.out hb3
  clear hb3 hT2 hsb
  have c0 := hX.out.c0
  have c1 := hX.out.c1
  have c2 := hX.out.c2
  have c3 := hX.out.c3
  have c4 := hX.out.c4
  go_wp2_with fail
  clear c0 c1 c2 c3 c4
  refine (toInput_calls 0 d x _ HS.out hT1.out).mono ?_
  rintro e w4 ⟨⟨x4, rfl, hR4⟩, hb4⟩
  have hT4 : Hid (InAt w3.heap.size (w4.alloc (.cells (inC d x4) 60)) d x4) := hR4.alloc _
  replace hT1 : Hid (InAt 0 (w4.alloc (.cells (inC d x4) 60)) d x) := (hT1.out.below hb4).alloc _
  replace hX : Hid (IBox (w4.alloc (.cells (inC d x4) 60)) w.heap.size d x) := (hX.out.call hb4).alloc _
  have hY : Hid (IBox (w4.alloc (.cells (inC d x4) 60)) w4.heap.size d x4) := IBox.new w4 d x4 _
  replace hB : Hid (Below w.heap.size w (w4.alloc (.cells (inC d x4) 60))) := below_a (below_call hB.out hb4) _
  clear hb4 hR4
  go_wp2_with fail
  refine (implInputOk_calls _ d x4 _ HS.out hT4.out).mono ?_
  rintro e w5 ⟨⟨ib, rfl, hib⟩, hb5⟩
  have heq : ib = sb := by
    have h1 := hib.trans hSb.out.symm
    cases ib <;> cases sb <;> simp_all
  subst heq
  replace hT4 : Hid (InAt w3.heap.size w5 d x4) := hT4.out.below hb5
  replace hT1 : Hid (InAt 0 w5 d x) := hT1.out.below hb5
  replace hX : Hid (IBox w5 w.heap.size d x) := hX.out.call hb5
  replace hY : Hid (IBox w5 w4.heap.size d x4) := hY.out.call hb5
  replace hB : Hid (Below w.heap.size w w5) := below_call hB.out hb5
  clear hb5 hib hSb
  have c0 := hX.out.c0
  have c1 := hX.out.c1
  have c2 := hX.out.c2
  have c3 := hX.out.c3
  have c4 := hX.out.c4
  have e0 := hY.out.c0
  have e1 := hY.out.c1
  have e2 := hY.out.c2
  have e3 := hY.out.c3
  have e4 := hY.out.c4
  go_wp2_with fail
  go_region_with (first | (go_at_call 30; refine (toInput_calls 0 d x _ HS.out (by first | exact hT1.out | exact hT1.out.drew)).mono ?_; rintro e w6 ⟨⟨x6, rfl, hR6⟩, hb6⟩; have hT6 : Hid (InAt w5.heap.size w6 d x6) := hR6; replace hT4 : Hid (InAt w3.heap.size w6 d x4) := (by first | exact hT4.out.below hb6 | exact hT4.out.drew.below hb6); replace hY : Hid (IBox w6 w4.heap.size d x4) := (by first | exact hY.out.call hb6 | exact hY.out.drew.call hb6); replace hB : Hid (Below w.heap.size w w6) := (by first | exact below_call hB.out hb6 | exact below_call hB.out.drew hb6); clear hb6 hR6 c0 c1 c2 c3 c4 e0 e1 e2 e3 e4; have e0 := hY.out.c0; have e1 := hY.out.c1; have e2 := hY.out.c2; have e3 := hY.out.c3; have e4 := hY.out.c4) | (go_at_call 32; refine (eqInput_calls _ _ d x4 x6 _ HS.out (by first | exact hT4.out | exact hT4.out.drew) (by first | exact hT6.out | exact hT6.out.drew)).mono ?_; rintro e w7 ⟨rfl, hb7⟩; replace hB : Hid (Below w.heap.size w w7) := (by first | exact below_call hB.out hb7 | exact below_call hB.out.drew hb7); clear hb7))
  all_goals go_wp2_with fail
  all_goals go_ret
  all_goals exact ⟨rfl, hB.out⟩
end Go.Proofs.Ytiidepafifodjab
