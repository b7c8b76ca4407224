import Derived.Test.YtcpjnddkibbddaaGreatUnI
/-! Units held against each other by the laws. -/
namespace Go.Proofs.YtcpjnddkibbddaaGreat
open Go.RowKit
attribute [local go_sem] run_store_float
attribute [local go_sem ↓] Go.wp_at_zero Go.wp_at_succ

set_option maxRecDepth 100000 in
set_option maxHeartbeats 4000000 in
theorem eqUp_calls (d : UPD) (w : World) : Calls Tryz.prog 134 #[upV d, upV d] w fun e w' => e = .returned (.bool true) ∧ Below w.heap.size w w' := by
  go_enter Tryz.func134, Tryz.ntmps134
  go_wp2_with fail
  all_goals go_ret
  all_goals exact ⟨rfl, below_alloc2 _ _ _⟩

set_option maxRecDepth 100000 in
set_option maxHeartbeats 8000000 in
theorem eqUpS_calls (L L' : Nat) (a a' : Option Addr) (n cap cap' : Nat) (u : Nat → UPD) (w : World) (hn : n ≤ 1048576) (hT : RowN 2 L w a n fun i => upC (u i)) (hT' : RowN 2 L' w a' n fun i => upC (u i)) :
    Calls Tryz.prog 77 #[.slice a n cap, .slice a' n cap'] w fun e w' => e = .returned (.bool true) ∧ Below w.heap.size w w' := by
  have HT : Hid (RowN 2 L w a n fun i => upC (u i)) := hT
  have HT' : Hid (RowN 2 L' w a' n fun i => upC (u i)) := hT'
  clear hT hT'
  go_enter Tryz.func77, Tryz.ntmps77
  go_wp2_with fail
  go_loopw [5] (fun i wr => ∃ (k : Nat), k ≤ n ∧ i = .int .i64 k ∧ Below w.heap.size w wr) (fun i _ => n - (intOf i).toNat)
  case atStart => exact ⟨0, Nat.zero_le _, rfl, Below.refl _ _⟩
  case round =>
    obtain ⟨k, hk, rfl, hB⟩ := hrel
    by_cases hkn : k < n
    · obtain ⟨b, off, rfl, _, hb, d0, d1⟩ := cells2 (HT.out.below hB) hkn
      obtain ⟨b', off', rfl, _, hb', e0, e1⟩ := cells2 (HT'.out.below hB) hkn
      have k0 : (0 : Int) ≤ (k : Int) := by omega
      have k1 : (k : Int) < (n : Int) := by omega
      go_wp2_with fail
      go_region_with (go_at_call 134; refine (eqUp_calls (u k) _).mono ?_; rintro e w2 ⟨rfl, hb2⟩; (first | replace hB := below_call hB hb2 | replace hB := below_call hB.drew hb2 | replace hB := below_call hB.drew.drew hb2); clear d0 d1 e0 e1 hb2)
      all_goals go_wp2_with fail
      all_goals go_roundw
      case rel => exact ⟨k + 1, by omega, by go_num, hB⟩
      case measure => simp [intOf]; omega
      case rel => exact ⟨k + 1, by omega, by go_num, hB⟩
      case measure => simp [intOf]; omega
    · go_wp2_with fail
      go_ret
      exact ⟨rfl, hB⟩

set_option maxRecDepth 100000 in
set_option maxHeartbeats 4000000 in
theorem eqNode_calls (L L' : Nat) (d : ND) (x x' : NA) (w : World) (hd : d.wf) (hs : d.sm) (hT : NodeAt L w d x) (hT' : NodeAt L' w d x') :
    Calls Tryz.prog 135 #[nodeV d x, nodeV d x'] w fun e w' => e = .returned (.bool true) ∧ Below w.heap.size w w' := by
  have HF : Hid (oneF d.f d.f) := .inl ⟨rfl, hd.f⟩
  have HS : Hid d.sm := hs
  have HT : Hid (NodeAt L w d x) := hT
  have HT' : Hid (NodeAt L' w d x') := hT'
  clear hT hT' hs hd
  go_enter Tryz.func135, Tryz.ntmps135
  go_wp2_with (go_at_call 157; refine (sameFloat_calls _ _ HF.out _).mono ?_; rintro e w1 ⟨rfl, rfl⟩)
  refine (eqIntS_calls L L' _ _ _ _ _ d.r _ HS.out.rn ((HT.out.alloc _).alloc _).1 ((HT'.out.alloc _).alloc _).1).mono ?_
  rintro e w2 ⟨rfl, hb2⟩
  have HA : Hid (Has w2 w.heap.size (nodeC d x)) := ((Has.new w (nodeC d x) _).alloc _).call hb2
  have HA' : Hid (Has w2 (w.heap.size + 1) (nodeC d x')) := (by have h := (Has.new (w.alloc (.cells (nodeC d x) 48)) (nodeC d x') 48).call hb2; show Has _ _ _; simpa using h)
  have HB : Hid (Below w.heap.size w w2) := below_call (below_alloc2 _ _ _) hb2
  clear hb2
  have c7 := HA.out.cell 7 rfl
  have c7' := HA'.out.cell 7 rfl
  go_wp2_with fail
  refine (eqIntS_calls L L' _ _ _ _ _ d.c _ HS.out.kn (HT.out.below HB.out).2 (HT'.out.below HB.out).2).mono ?_
  rintro e w3 ⟨rfl, hb3⟩
  replace HB : Hid (Below w.heap.size w w3) := below_call HB.out hb3
  clear hb3
  go_wp2_with fail
  go_ret
  exact ⟨rfl, HB.out⟩

set_option maxRecDepth 100000 in
set_option maxHeartbeats 8000000 in
theorem eqNodeS_calls (L L' : Nat) (a a' : Option Addr) (n cap cap' : Nat) (q : Nat → ND) (x x' : Nat → NA) (w : World) (hn : n ≤ 1048576) (hq : ∀ i, i < n → (q i).wf) (hs : ∀ i, i < n → (q i).sm) (hT : NodesAt L w n q a x) (hT' : NodesAt L' w n q a' x') :
    Calls Tryz.prog 78 #[.slice a n cap, .slice a' n cap'] w fun e w' => e = .returned (.bool true) ∧ Below w.heap.size w w' := by
  have HQ : Hid (∀ i, i < n → (q i).wf) := hq
  have HS : Hid (∀ i, i < n → (q i).sm) := hs
  have HT : Hid (NodesAt L w n q a x) := hT
  have HT' : Hid (NodesAt L' w n q a' x') := hT'
  clear hT hT' hq hs
  go_enter Tryz.func78, Tryz.ntmps78
  go_wp2_with fail
  go_loopw [5] (fun i wr => ∃ (k : Nat), k ≤ n ∧ i = .int .i64 k ∧ Below w.heap.size w wr) (fun i _ => n - (intOf i).toNat)
  case atStart => exact ⟨0, Nat.zero_le _, rfl, Below.refl _ _⟩
  case round =>
    obtain ⟨k, hk, rfl, hB⟩ := hrel
    by_cases hkn : k < n
    · obtain ⟨b, off, rfl, _, hb, d0, d1, d2, d3, d4, d5, d6, d7⟩ := cells8 (HT.out.1.below hB) hkn
      obtain ⟨b', off', rfl, _, hb', e0, e1, e2, e3, e4, e5, e6, e7⟩ := cells8 (HT'.out.1.below hB) hkn
      have k0 : (0 : Int) ≤ (k : Int) := by omega
      have k1 : (k : Int) < (n : Int) := by omega
      go_wp2_with fail
      go_region_with (go_at_call 135; refine (eqNode_calls L L' (q k) (x k) (x' k) _ (HQ.out k hkn) (HS.out k hkn) (by first | exact (HT.out.2 k hkn).below hB | exact (HT.out.2 k hkn).below hB.drew | exact (HT.out.2 k hkn).below hB.drew.drew) (by first | exact (HT'.out.2 k hkn).below hB | exact (HT'.out.2 k hkn).below hB.drew | exact (HT'.out.2 k hkn).below hB.drew.drew)).mono ?_; rintro e w2 ⟨rfl, hb2⟩; (first | replace hB := below_call hB hb2 | replace hB := below_call hB.drew hb2 | replace hB := below_call hB.drew.drew hb2); clear d0 d1 d2 d3 d4 d5 d6 d7 e0 e1 e2 e3 e4 e5 e6 e7 hb2)
      all_goals go_wp2_with fail
      all_goals go_roundw
      case rel => exact ⟨k + 1, by omega, by go_num, hB⟩
      case measure => simp [intOf]; omega
      case rel => exact ⟨k + 1, by omega, by go_num, hB⟩
      case measure => simp [intOf]; omega
    · go_wp2_with fail
      go_ret
      exact ⟨rfl, hB⟩

set_option maxRecDepth 100000 in
set_option maxHeartbeats 4000000 in
theorem eqFn_calls (L L' : Nat) (d : FD) (x x' : FA) (w : World) (hd : d.wf) (hs : d.sm) (hT : FnAt L w d x) (hT' : FnAt L' w d x') :
    Calls Tryz.prog 37 #[fnV d x, fnV d x'] w fun e w' => e = .returned (.bool true) ∧ Below w.heap.size w w' := by
  have HF : Hid d.wf := hd
  have HS : Hid d.sm := hs
  have HT : Hid (FnAt L w d x) := hT
  have HT' : Hid (FnAt L' w d x') := hT'
  clear hT hT' hs hd
  go_enter Tryz.func37, Tryz.ntmps37
  go_wp2_with fail
  refine (eqStringS_calls L L' _ _ _ _ _ d.v _ HS.out.vn ((HT.out.alloc _).alloc _).1 ((HT'.out.alloc _).alloc _).1).mono ?_
  rintro e w2 ⟨rfl, hb2⟩
  have HA : Hid (Has w2 w.heap.size (fnC d x)) := ((Has.new w (fnC d x) _).alloc _).call hb2
  have HA' : Hid (Has w2 (w.heap.size + 1) (fnC d x')) := (by have h := (Has.new (w.alloc (.cells (fnC d x) 45)) (fnC d x') 45).call hb2; show Has _ _ _; simpa using h)
  have HB : Hid (Below w.heap.size w w2) := below_call (below_alloc2 _ _ _) hb2
  clear hb2
  have c7 := HA.out.cell 5 rfl
  have c7' := HA'.out.cell 5 rfl
  go_wp2_with fail
  refine (eqUpS_calls L L' _ _ _ _ _ d.u _ HS.out.un (HT.out.below HB.out).2.1 (HT'.out.below HB.out).2.1).mono ?_
  rintro e w3 ⟨rfl, hb3⟩
  replace HB : Hid (Below w.heap.size w w3) := below_call HB.out hb3
  replace HA : Hid (Has w3 w.heap.size (fnC d x)) := HA.out.call hb3
  replace HA' : Hid (Has w3 (w.heap.size + 1) (fnC d x')) := HA'.out.call hb3
  clear hb3 c7 c7'
  have c7 := HA.out.cell 6 rfl
  have c7' := HA'.out.cell 6 rfl
  go_wp2_with fail
  refine (eqNodeS_calls L L' _ _ _ _ _ d.nd x.nas x'.nas _ HS.out.nn HF.out.nd HS.out.nd (HT.out.below HB.out).2.2 (HT'.out.below HB.out).2.2).mono ?_
  rintro e w4 ⟨rfl, hb4⟩
  replace HB : Hid (Below w.heap.size w w4) := below_call HB.out hb4
  clear hb4
  go_wp2_with fail
  go_ret
  exact ⟨rfl, HB.out⟩

set_option maxRecDepth 100000 in
set_option maxHeartbeats 8000000 in
theorem eqFnS_calls (L L' : Nat) (a a' : Option Addr) (n cap cap' : Nat) (q : Nat → FD) (x x' : Nat → FA) (w : World) (hn : n ≤ 1048576) (hq : ∀ i, i < n → (q i).wf) (hs : ∀ i, i < n → (q i).sm) (hT : FnsAt L w n q a x) (hT' : FnsAt L' w n q a' x') :
    Calls Tryz.prog 22 #[.slice a n cap, .slice a' n cap'] w fun e w' => e = .returned (.bool true) ∧ Below w.heap.size w w' := by
  have HQ : Hid (∀ i, i < n → (q i).wf) := hq
  have HS : Hid (∀ i, i < n → (q i).sm) := hs
  have HT : Hid (FnsAt L w n q a x) := hT
  have HT' : Hid (FnsAt L' w n q a' x') := hT'
  clear hT hT' hq hs
  go_enter Tryz.func22, Tryz.ntmps22
  go_wp2_with fail
  go_loopw [5] (fun i wr => ∃ (k : Nat), k ≤ n ∧ i = .int .i64 k ∧ Below w.heap.size w wr) (fun i _ => n - (intOf i).toNat)
  case atStart => exact ⟨0, Nat.zero_le _, rfl, Below.refl _ _⟩
  case round =>
    obtain ⟨k, hk, rfl, hB⟩ := hrel
    by_cases hkn : k < n
    · obtain ⟨b, off, rfl, _, hb, d0, d1, d2, d3, d4, d5, d6⟩ := cells7 (HT.out.1.below hB) hkn
      obtain ⟨b', off', rfl, _, hb', e0, e1, e2, e3, e4, e5, e6⟩ := cells7 (HT'.out.1.below hB) hkn
      have k0 : (0 : Int) ≤ (k : Int) := by omega
      have k1 : (k : Int) < (n : Int) := by omega
      go_wp2_with fail
      go_region_with (go_at_call 37; refine (eqFn_calls L L' (q k) (x k) (x' k) _ (HQ.out k hkn) (HS.out k hkn) (by first | exact (HT.out.2 k hkn).below hB | exact (HT.out.2 k hkn).below hB.drew | exact (HT.out.2 k hkn).below hB.drew.drew) (by first | exact (HT'.out.2 k hkn).below hB | exact (HT'.out.2 k hkn).below hB.drew | exact (HT'.out.2 k hkn).below hB.drew.drew)).mono ?_; rintro e w2 ⟨rfl, hb2⟩; (first | replace hB := below_call hB hb2 | replace hB := below_call hB.drew hb2 | replace hB := below_call hB.drew.drew hb2); clear d0 d1 d2 d3 d4 d5 d6 e0 e1 e2 e3 e4 e5 e6 hb2)
      all_goals go_wp2_with fail
      all_goals go_roundw
      case rel => exact ⟨k + 1, by omega, by go_num, hB⟩
      case measure => simp [intOf]; omega
      case rel => exact ⟨k + 1, by omega, by go_num, hB⟩
      case measure => simp [intOf]; omega
    · go_wp2_with fail
      go_ret
      exact ⟨rfl, hB⟩

set_option maxRecDepth 100000 in
set_option maxHeartbeats 4000000 in
theorem eqUnit_calls (L L' : Nat) (d : UD) (a a' : Option Addr) (c c' : Nat) (x x' : Nat → FA) (w : World) (hd : d.wf) (hs : d.sm) (hT : FnsAt L w d.n d.fn a x) (hT' : FnsAt L' w d.n d.fn a' x') :
    Calls Tryz.prog 9 #[unV d a c, unV d a' c'] w fun e w' => e = .returned (.bool true) ∧ Below w.heap.size w w' := by
  have HF : Hid d.wf := hd
  have HS : Hid d.sm := hs
  have HT : Hid (FnsAt L w d.n d.fn a x) := hT
  have HT' : Hid (FnsAt L' w d.n d.fn a' x') := hT'
  clear hT hT' hs hd
  go_enter Tryz.func9, Tryz.ntmps9
  go_wp2_with fail
  refine (eqFnS_calls L L' _ _ _ _ _ d.fn x x' _ HS.out.n HF.out.fn HS.out.fn (by first | exact HT.out | exact (HT.out.alloc _).alloc _) (by first | exact HT'.out | exact (HT'.out.alloc _).alloc _)).mono ?_
  rintro e w2 ⟨rfl, hb2⟩
  have HB : Hid (Below w.heap.size w w2) := by first | exact below_call (below_alloc2 _ _ _) hb2 | exact hb2
  clear hb2
  go_wp2_with fail
  go_ret
  exact ⟨rfl, HB.out⟩

abbrev faV (c f n : Int) : Value := .agg #[.int .i64 c, .int .i64 f, .int .i64 n]

end Go.Proofs.YtcpjnddkibbddaaGreat
