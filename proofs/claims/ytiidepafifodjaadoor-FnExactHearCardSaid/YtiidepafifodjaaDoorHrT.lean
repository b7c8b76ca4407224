import Derived.Test.YtiidepafifodjaaDoorHrS
/-! A report of one's own, marked, and the marks held. -/
namespace Go.Proofs.YtiidepafifodjaaDoor
open Go.RowKit
attribute [local go_sem] run_store_float
attribute [local go_sem ↓] Go.wp_at_zero Go.wp_at_succ

theorem bkO_bkB {a : Option Addr} {j : Nat} (h : bkO a = some j) : bkB a j := by
  cases a with
  | none => cases h
  | some p => exact Option.some.inj h
theorem MkdR.keep {w w' : World} {a : Option Addr} {n : Nat} {k : Int} (h : MkdR w a n k) (hb : ∀ g, bkB a g → g < w.heap.size → w'.heap[g]? = w.heap[g]?) : MkdR w' a n k := fun hn => by
  obtain ⟨g, N, f, e, hR, r⟩ := h hn
  subst e
  exact ⟨g, N, f, rfl, hR.of_block (hb g rfl hR.lt), r⟩
theorem MkdT.keep {w w' : World} {a : Option Addr} {n : Nat} {k : Int} (h : MkdT w a n k) (hb : ∀ g, bkB a g → g < w.heap.size → w'.heap[g]? = w.heap[g]?) : MkdT w' a n k := fun hn => by
  obtain ⟨g, N, f, e, hR, r⟩ := h hn
  subst e
  exact ⟨g, N, f, rfl, hR.of_block (hb g rfl hR.lt), r⟩
/-- a report's marks -/
structure MkdP (w : World) (p : RpL) (x : RpX) (k : Int) : Prop where
  r : MkdR w x.ra p.xs.length k
  v : MkdT w x.va p.vs.length (k + (p.xs.length : Int) * 5)
theorem MkdP.below {w w' : World} {p : RpL} {x : RpX} {k : Int} (h : MkdP w p x k) (hb : Below w.heap.size w w') : MkdP w' p x k := ⟨h.r.keep (fun g _ hg => hb.block g hg), h.v.keep (fun g _ hg => hb.block g hg)⟩

set_option maxRecDepth 100000 in
set_option maxHeartbeats 4000000 in
theorem markRep_calls (N : Nat) (p : RpL) (x : RpX) (k : Int) (w : World) (hp : p.ok) (hk : 0 < k) (hk2 : k < 1000) (ho : RpO N w p x) :
    Calls Tryd.prog 11 #[rpV p.d x, .int .i64 k] w fun e w' => (e = .returned (.int .i64 (k + (p.xs.length : Int) * 5 + (p.vs.length : Int))) ∧ MkdP w' p x k) ∧ Gx (fun j => bkB x.ra j ∨ bkB x.va j) w w' := by
  have HO : Hid (RpO N w p x) := ho
  have hxn := hp.xn
  have hvn := hp.vn
  have HLr : Hid (∀ j, bkB x.ra j → j < w.heap.size) := fun j h => (ho.r.lt j ((bkB_own _ _ _ _).2 h)).2
  have HLv : Hid (∀ j, bkB x.va j → j < w.heap.size) := fun j h => (ho.v.lt j ((bkB_own _ _ _ _).2 h)).2
  clear ho hp
  go_enter Tryd.func11, Tryd.ntmps11
  go_wp2_with fail
  refine (markRecs_calls N x.ra x.rc p.xs k _ hxn hk hk2 (ownsK_below HO.out.r (below_alloc _ _))).mono ?_
  rintro e w1 ⟨rfl, hm1, hg1, _⟩
  have HM1 : Hid (MkdR w1 x.ra p.xs.length k) := hm1
  have HG1 : Hid (Gx (fun j => bkB x.ra j) w w1) := (Gx.below _ (below_alloc w (.cells (rpC p.d x) 31))).trans ((Gx.grown hg1).mono (fun j e => bkO_bkB e)) (fun _ _ h => h)
  have HHb : Hid (Has w1 w.heap.size (rpC p.d x)) := has_grownK (Has.new w (rpC p.d x) 31) hg1 (fun e => by have := HLr.out _ (bkO_bkB e.symm); omega)
  have HV1 : Hid (hvsO N w1 x.va x.vc p.vs) := ownsK_block HO.out.v (fun j e => HG1.out.block j (HO.out.v.lt j e).2 (fun h => by have := HO.out.d j j h ((bkB_own _ _ _ _).1 e); omega))
  have c2 : w1.cell? ⟨w.heap.size, 2, none⟩ = some (.slice x.va p.d.m x.vc) := HHb.out.cell 2 rfl
  clear hm1 hg1
  go_wp2_with fail
  refine (markTexts_calls N x.va x.vc p.vs (k + (p.xs.length : Int) * 5) _ hvn (by omega) (by omega) HV1.out).mono ?_
  rintro e w2 ⟨rfl, hm2, hg2, _⟩
  have HM2 : Hid (MkdT w2 x.va p.vs.length (k + (p.xs.length : Int) * 5)) := hm2
  have HG2 : Hid (Gx (fun j => bkB x.ra j ∨ bkB x.va j) w w2) := (HG1.out.mono (fun _ h => .inl h)).trans ((Gx.grown hg2).mono (fun j e => bkO_bkB e)) (fun _ _ h => .inr h)
  have HM3 : Hid (MkdR w2 x.ra p.xs.length k) := HM1.out.keep (fun g h hg => hg2.block g hg (fun e => by have := HO.out.d g g h (bkO_bkB e.symm); omega))
  clear hm2 hg2 c2
  go_wp2_with fail
  go_ret
  exact ⟨⟨rfl, HM3.out, HM2.out⟩, HG2.out⟩

set_option maxRecDepth 100000 in
set_option maxHeartbeats 4000000 in
theorem heldRep_calls (p : RpL) (x : RpX) (k : Int) (w : World) (hp : p.ok) (hk : 0 < k) (hk2 : k < 1000) (hm : MkdP w p x k) :
    Calls Tryd.prog 17 #[rpV p.d x, .int .i64 k] w fun e w' => e = .returned (.int .i64 (k + (p.xs.length : Int) * 5 + (p.vs.length : Int))) ∧ Below w.heap.size w w' := by
  have HM : Hid (MkdP w p x k) := hm
  have hxn := hp.xn
  have hvn := hp.vn
  clear hm hp
  go_enter Tryd.func17, Tryd.ntmps17
  go_wp2_with fail
  refine (heldRecS_calls x.ra p.xs.length x.rc k _ hxn hk hk2 (HM.out.below (below_alloc _ _)).r).mono ?_
  rintro e w1 ⟨rfl, hb1⟩
  have HHb : Hid (Has w1 w.heap.size (rpC p.d x)) := Has.made hb1
  have HB1 : Hid (Below w.heap.size w w1) := below_call (below_alloc _ _) hb1
  have c2 : w1.cell? ⟨w.heap.size, 2, none⟩ = some (.slice x.va p.d.m x.vc) := HHb.out.cell 2 rfl
  have q1 : decide (k + (p.xs.length : Int) * 5 < 0) = false := by simp; omega
  clear hb1
  go_wp2_with fail
  refine (heldStringS_calls x.va p.vs.length x.vc (k + (p.xs.length : Int) * 5) _ hvn (by omega) (by omega) (HM.out.below HB1.out).v).mono ?_
  rintro e w2 ⟨rfl, hb2⟩
  have HB2 : Hid (Below w.heap.size w w2) := below_call HB1.out hb2
  have q2 : decide (k + (p.xs.length : Int) * 5 + (p.vs.length : Int) < 0) = false := by simp; omega
  clear hb2 c2
  go_wp2_with fail
  go_ret
  exact ⟨rfl, HB2.out⟩
end Go.Proofs.YtiidepafifodjaaDoor
