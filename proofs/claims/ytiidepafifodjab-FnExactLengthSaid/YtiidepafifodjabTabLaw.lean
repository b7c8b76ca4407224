import Derived.Test.YtiidepafifodjabTabJ
/-! FnExactTableOk: the walk. -/
namespace Go.Proofs.Ytiidepafifodjab
open Go.RowKit
attribute [local go_sem] run_store_float
attribute [local go_sem ↓] Go.wp_at_zero Go.wp_at_succ

/-- a local that holds a table -/
structure TBox (w : World) (b : Nat) (a : Option Addr) (n cap : Nat) (t : Int) : Prop where
  lt : b < w.heap.size
  c0 : w.cell? ⟨b, 0, none⟩ = some (.slice a n cap)
  c1 : w.cell? ⟨b, 1, none⟩ = some (.int .i64 t)
theorem TBox.new (w : World) (a : Option Addr) (n cap : Nat) (t : Int) (T : TypeId) : TBox (w.alloc (.cells #[.slice a n cap, .int .i64 t] T)) w.heap.size a n cap t := ⟨by simp, by simp, by simp⟩
theorem TBox.call {u w : World} {b : Nat} {a : Option Addr} {n cap : Nat} {t : Int} (h : TBox u b a n cap t) (hb : Below u.heap.size u w) : TBox w b a n cap t :=
  ⟨Nat.lt_of_lt_of_le h.lt hb.size, (hb.cell (p := ⟨b, 0, none⟩) h.lt).trans h.c0, (hb.cell (p := ⟨b, 1, none⟩) h.lt).trans h.c1⟩
theorem TBox.drew {w : World} {b : Nat} {a : Option Addr} {n cap : Nat} {t : Int} (h : TBox w b a n cap t) : TBox w.drew b a n cap t := ⟨h.lt, h.c0, h.c1⟩
theorem TBox.alloc {w : World} {b : Nat} {a : Option Addr} {n cap : Nat} {t : Int} (h : TBox w b a n cap t) (o : Obj) : TBox (w.alloc o) b a n cap t := h.call (below_alloc w o)

set_option maxRecDepth 100000 in
set_option maxHeartbeats 8000000 in
theorem tableOk_walk (a : Option Addr) (n cap : Nat) (t : Int) (q : Nat → PD) (w : World) (hn : n ≤ maxLen) (hq : ∀ i, i < n → (q i).wf) (hT : Tab w a n q) :
    Calls Try.prog 4 #[tOf a n cap t] w fun e w' => e = .returned (.bool true) ∧ Below w.heap.size w w' := by
  have hQ : Hid (∀ i, i < n → (q i).wf) := hq
  have HT : Hid (Tab w a n q) := hT
  have hN : Hid (n ≤ maxLen) := hn
  clear hq hT hn
  go_enter Try.func4, Try.ntmps4
  go_wp2_with fail
  refine (szTable_calls a n cap t q 1048576 _ (by omega) (by omega) hN.out hQ.out (HT.out.alloc _)).mono ?_
  rintro e w1 ⟨⟨v, rfl, hv⟩, hb1⟩
  have hT1 : Hid (Tab w1 a n q) := (HT.out.alloc _).below hb1
  have hX : Hid (TBox w1 w.heap.size a n cap t) := (TBox.new w a n cap t _).call hb1
  have hB : Hid (Below w.heap.size w w1) := below_call (below_alloc _ _) hb1
  clear hb1 HT
  rcases hv with rfl | ⟨v0, v1, v2⟩
  · go_wp2_with fail
    go_ret
    exact ⟨rfl, hB.out⟩
  have hn : n ≤ 1048576 := by omega
  have c0 := hX.out.c0
  have c1 := hX.out.c1
  go_wp2_with fail
  clear c0 c1 v0 v1 v2
  refine (toTable_calls a n cap t q _ hn hT1.out).mono ?_
  rintro e w2 ⟨⟨B2, rfl, _, hR2⟩, hb2⟩
  have hT2 : Hid (Tab w2 (some ⟨B2, 0, none⟩) n q) := row_tab hR2
  replace hT1 : Hid (Tab w2 a n q) := hT1.out.below hb2
  replace hX : Hid (TBox w2 w.heap.size a n cap t) := hX.out.call hb2
  replace hB : Hid (Below w.heap.size w w2) := below_call hB.out hb2
  clear hb2 hR2
  go_wp2_with fail
  refine (specTableOk_calls _ n n t q _ hn hQ.out hT2.out).mono ?_
  rintro e w3 ⟨⟨sb, rfl, hsb⟩, hb3⟩
  have hSb : Hid (sb = true ↔ TabOk n t q) := hsb
  replace hT1 : Hid (Tab w3 a n q) := hT1.out.below hb3
  replace hX : Hid (TBox w3 w.heap.size a n cap t) := hX.out.call hb3
  replace hB : Hid (Below w.heap.size w w3) := below_call hB.out hb3
  clear hb3 hT2 hsb
  have c0 := hX.out.c0
  have c1 := hX.out.c1
  go_wp2_with fail
  clear c0 c1
  refine (toTable_calls a n cap t q _ hn hT1.out).mono ?_
  rintro e w4 ⟨⟨B4, rfl, _, hR4⟩, hb4⟩
  have hT4 : Hid (Tab (w4.alloc (.cells #[.slice (some ⟨B4, 0, none⟩) n n, .int .i64 t] 40)) (some ⟨B4, 0, none⟩) n q) := (row_tab hR4).alloc _
  replace hT1 : Hid (Tab (w4.alloc (.cells #[.slice (some ⟨B4, 0, none⟩) n n, .int .i64 t] 40)) a n q) := (hT1.out.below hb4).alloc _
  replace hX : Hid (TBox (w4.alloc (.cells #[.slice (some ⟨B4, 0, none⟩) n n, .int .i64 t] 40)) w.heap.size a n cap t) := (hX.out.call hb4).alloc _
  have hY : Hid (TBox (w4.alloc (.cells #[.slice (some ⟨B4, 0, none⟩) n n, .int .i64 t] 40)) w4.heap.size (some ⟨B4, 0, none⟩) n n t) := TBox.new w4 _ n n t _
  replace hB : Hid (Below w.heap.size w (w4.alloc (.cells #[.slice (some ⟨B4, 0, none⟩) n n, .int .i64 t] 40))) := below_a (below_call hB.out hb4) _
  clear hb4 hR4
  go_wp2_with fail
  refine (implTableOk_calls _ n n t q _ hn hQ.out hT4.out).mono ?_
  rintro e w5 ⟨⟨ib, rfl, hib⟩, hb5⟩
  have heq : ib = sb := by
    have h1 := hib.trans hSb.out.symm
    cases ib <;> cases sb <;> simp_all
  subst heq
  replace hT4 : Hid (Tab w5 (some ⟨B4, 0, none⟩) n q) := hT4.out.below hb5
  replace hT1 : Hid (Tab w5 a n q) := hT1.out.below hb5
  replace hX : Hid (TBox w5 w.heap.size a n cap t) := hX.out.call hb5
  replace hY : Hid (TBox w5 w4.heap.size (some ⟨B4, 0, none⟩) n n t) := hY.out.call hb5
  replace hB : Hid (Below w.heap.size w w5) := below_call hB.out hb5
  clear hb5 hib hSb
  have c0 := hX.out.c0
  have c1 := hX.out.c1
  have e0 := hY.out.c0
  have e1 := hY.out.c1
  go_wp2_with fail
  go_region_with (first | (go_at_call 17; refine (toTable_calls a n cap t q _ hn (by first | exact hT1.out | exact hT1.out.drew)).mono ?_; rintro e w6 ⟨⟨B6, rfl, _, hR6⟩, hb6⟩; have hT6 : Hid (Tab w6 (some ⟨B6, 0, none⟩) n q) := row_tab hR6; replace hT4 : Hid (Tab w6 (some ⟨B4, 0, none⟩) n q) := (by first | exact hT4.out.below hb6 | exact hT4.out.drew.below hb6); replace hY : Hid (TBox w6 w4.heap.size (some ⟨B4, 0, none⟩) n n t) := (by first | exact hY.out.call hb6 | exact hY.out.drew.call hb6); replace hB : Hid (Below w.heap.size w w6) := (by first | exact below_call hB.out hb6 | exact below_call hB.out.drew hb6); clear hb6 hR6 c0 c1 e0 e1; have e0 := hY.out.c0; have e1 := hY.out.c1) | (go_at_call 19; refine (eqTable_calls _ _ n n n t q _ hn hQ.out (by first | exact hT4.out | exact hT4.out.drew) (by first | exact hT6.out | exact hT6.out.drew)).mono ?_; rintro e w7 ⟨rfl, hb7⟩; replace hB : Hid (Below w.heap.size w w7) := (by first | exact below_call hB.out hb7 | exact below_call hB.out.drew hb7); clear hb7))
  all_goals go_wp2_with fail
  all_goals go_ret
  all_goals exact ⟨rfl, hB.out⟩
end Go.Proofs.Ytiidepafifodjab
