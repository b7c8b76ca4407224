import Derived.Test.YtdialodjllpgaaaGreatDoorThB
import Derived.Test.YtdialodjllpgaaaGreatDoorUnB
import Derived.RangeFuncNested
import Derived.RangeFuncBound
import Derived.RangeFuncCalls
import Derived.RangeFuncLeaves
import Derived.Shelf.Abstract
import Derived.OwnWalkIn
import Derived.TacticsInMore
import Derived.LoopNIn
import Derived.LoopIn
import Derived.Test.YtdialodjllpgaaaGreatDoorCnZ
import Derived.Test.YtdialodjllpgaaaGreatDoorImO
import Derived.Test.YtdialodjllpgaaaGreatDoorSet
import Derived.Test.YtdialodjllpgaaaGreatDoorBdE
/-! A step of nought: the frames from the last one down (an iterator); the first string that is not empty. -/
namespace Go.Proofs.YtdialodjllpgaaaGreatDoor
open Go.RowKit Go.Shelf
attribute [local go_sem] run_store_float
attribute [local go_sem] Oper.semAt_some

abbrev sMain : ByteArray := ⟨#[109, 97, 105, 110]⟩
abbrev bfV (B : Nat) : Value := .func (.func 325) #[] #[.pointer (some ⟨B, 0, none⟩)]
section
attribute [local go_sem ↓] Go.wp_at_zero Go.wp_at_succ
set_option maxRecDepth 100000 in
set_option maxHeartbeats 2000000 in
theorem orS_calls (R : Nat) (w : World) (h0 : w.cell? ⟨R, 0, none⟩ = some (.string sMain)) : Calls Tryz.prog 285 #[.slice (some ⟨R, 0, none⟩) 2 2] w fun e w' => e = .returned (.string sMain) ∧ w' = w := by
  go_enter Tryz.func285, Tryz.ntmps285
  go_wp2_with fail
  refine wp_loop_rounds 1 ?_
  rw [rounds_succ]; go_wp2_with fail
  go_ret
  exact ⟨rfl, rfl⟩
set_option maxRecDepth 100000 in
set_option maxHeartbeats 2000000 in
theorem backF_calls (a : Option Addr) (m cap : Nat) (w : World) : Calls Tryz.prog 284 #[.slice a m cap] w fun e w' => e = .returned (bfV w.heap.size) ∧ w' = w.alloc (.cells #[.slice a m cap] 113) := by
  have hmf : ∀ (fn : Fn) (first cap : Array Value) (w : World), (Instr.makeFunc fn first cap).run Tryz.prog w = .ok (.func fn first cap) w := fun _ _ _ _ => rfl
  go_enter Tryz.func284, Tryz.ntmps284
  go_wp2_with fail
  go_ret
  exact ⟨rfl, rfl⟩
end
set_option maxRecDepth 100000 in
set_option maxHeartbeats 4000000 in
theorem backF1_in (l P1 B : Nat) (a : Option Addr) (n cap : Nat) (fr : Value) (hn : n ≤ 3000) (J Jx : List (Fin n) → World → Prop) (w W : World)
    (hW : Below w.heap.size w W)
    (hY : ∀ (pre : List (Fin n)) (x : Fin n) (W1 : World), J pre W1 → pre.length < n → YieldAt Fence.wide (2 - 1) Tryz.prog l #[.int .i64 (x.val : Int), fr] W1 fun e W' =>
      (e = .returned (.bool true) ∧ J (pre ++ [x]) W' ∧ KN w.heap.size B W1 W') ∨ (e = .returned (.bool false) ∧ Jx (pre ++ [x]) W'))
    (hP1 : P1 < w.heap.size) (hPB : P1 ≠ B) (hbB : ∀ b off, 0 < n → a = some ⟨b, off, none⟩ → b ≠ B)
    (c1 : w.cell? ⟨P1, 0, none⟩ = some (.slice a n cap)) (hT : RowN 1 0 w a n fun _ => #[fr]) (h0 : J [] W) :
    CallsIn Fence.wide 2 Tryz.prog 325 #[.func (.yield l) #[] #[], .pointer (some ⟨P1, 0, none⟩)] W fun e W' => (∃ v, e = .returned v) ∧
      ((∃ ys, ys.map Fin.val = downL n n ∧ J ys W') ∨ (∃ pre, True ∧ Jx pre W')) := by
  have HT : Hid (RowN 1 0 w a n fun _ => #[fr]) := hT
  have d1 := (hW.cell (p := ⟨P1, 0, none⟩) hP1).trans c1
  have HY : Hid (∀ (pre : List (Fin n)) (x : Fin n) (W1 : World), J pre W1 → pre.length < n → YieldAt Fence.wide (2 - 1) Tryz.prog l #[.int .i64 (x.val : Int), fr] W1 fun e W' =>
      (e = .returned (.bool true) ∧ J (pre ++ [x]) W' ∧ KN w.heap.size B W1 W') ∨ (e = .returned (.bool false) ∧ Jx (pre ++ [x]) W')) := hY
  clear hT hY
  refine callsIn_of_wp Tryz.func325 rfl trivial ?_ rfl
  simp only [Tryz.ntmps325, List.size_toArray, List.length_cons, List.length_nil, Nat.reduceAdd, Nat.reduceSub, Array.replicate_succ, Array.replicate_zero, List.push_toArray, List.append_toArray, List.nil_append, List.cons_append]
  gi_wp2
  gi_loopw [3] (fun i wr => ∃ (k : Nat) (pre : List (Fin n)), k ≤ n ∧ i = .int .i64 ((n : Int) - 1 - k) ∧ Hid (pre.map Fin.val = downL n k) ∧ J pre wr ∧ KN w.heap.size B w wr)
    (fun i _ => (intOf i + 1).toNat)
  case atStart => exact ⟨0, [], Nat.zero_le _, by go_num, rfl, h0, KN.of hW⟩
  case round =>
    obtain ⟨k, pre, hk, rfl, HP, hJs, hnx⟩ := hrel
    have HJs : Hid (J pre wr) := hJs
    clear hJs
    by_cases hkn : k < n
    · obtain ⟨x, hx⟩ : ∃ x : Nat, (n : Int) - 1 - k = x := ⟨n - 1 - k, by omega⟩
      have hxe : x = n - 1 - k := by omega
      have hxn : x < n := by omega
      rw [hx]
      obtain ⟨b, off, rfl, _, hb, hc⟩ := HT.out (by omega)
      have hbB := hbB b off (by omega) rfl
      have e1 := (hnx.cell (p := ⟨P1, 0, none⟩) hP1 hPB).trans c1
      have g0 : wr.cell? ⟨b, off + x, none⟩ = some fr := by
        have := (hnx.cell (p := ⟨b, off + x * 1 + 0, none⟩) hb hbB).trans (hc x hxn 0 (by omega))
        simpa using this
      clear c1 d1 hc
      have hpl : pre.length = k := by rw [← List.length_map (f := Fin.val), HP.out, downL_len]
      obtain ⟨fn, tmps, assign, body, hy, hR⟩ := HY.out _ ⟨x, hxn⟩ _ HJs.out (by omega)
      clear hpl
      have HX : Hid ((pre ++ [(⟨x, hxn⟩ : Fin n)]).map Fin.val = downL n (k + 1)) := by show _ = _; rw [List.map_append, HP.out, downL_succ, ← hxe]; rfl
      clear hxe
      gi_wp2
      refine hR.mono ?_
      rintro e W3 (⟨rfl, hJ3, hk3⟩ | ⟨rfl, hJx3⟩)
      · gi_wp2
        go_roundw
        case rel => exact ⟨k + 1, _, by omega, by have := hx; go_num, HX, hJ3, hnx.trans hk3⟩
        case measure => simp [intOf]
      · gi_wp2
        refine bodyPost_ret (results_none rfl _ _ _) rfl ?_
        exact ⟨⟨_, rfl⟩, .inr ⟨_, trivial, hJx3⟩⟩
    · obtain rfl : k = n := by omega
      gi_wp2
      go_end0
      exact ⟨⟨_, rfl⟩, .inl ⟨_, HP.out, HJs.out⟩⟩
end Go.Proofs.YtdialodjllpgaaaGreatDoor

/-! A step of nought: a table is made. -/
namespace Go.Proofs.YtdialodjllpgaaaGreatDoor
open Go.RowKit
attribute [local go_sem] run_store_float
attribute [local go_sem ↓] Go.wp_at_zero Go.wp_at_succ

set_option maxRecDepth 100000 in
set_option maxHeartbeats 4000000 in
theorem textV_calls (s : ByteArray) (w : World) : Calls Tryz.prog 48 #[.string s] w fun e w' => e = .returned (vOf 4 0 0 s 0) ∧ Below w.heap.size w w' := by
  go_enter Tryz.func48, Tryz.ntmps48
  go_wp2_with fail
  refine (value_word s _).mono ?_
  rintro e w1 ⟨rfl, hb⟩
  have hO := (OwnB.new w #[.int .i64 0, .int .i64 0, .float .f64 0, .string ⟨#[]⟩, .int .i64 0] 56).call hb
  have r0 := hO.1.cell 0 rfl
  have r1 := hO.1.cell 1 rfl
  have r2 := hO.1.cell 2 rfl
  have r3 := hO.1.cell 3 rfl
  have r4 := hO.1.cell 4 rfl
  have rz := hO.2
  have HB : Hid (Below w.heap.size w w1) := below_call (below_alloc _ _) hb
  clear hb hO
  go_wp2_with fail
  exact bodyPost_ret (v := vOf 4 0 0 s 0) (by simp [results, Tryz.results48, go_sem, r0, r1, r2, r3, r4]) rfl ⟨rfl, set5 HB.out (Nat.le_refl _) _ _ _ _ _⟩
set_option maxRecDepth 100000 in
set_option maxHeartbeats 4000000 in
theorem numberV_calls (n : Int) (w : World) : Calls Tryz.prog 261 #[.int .i64 n] w fun e w' => e = .returned (vOf 2 n 0 ⟨#[]⟩ 0) ∧ Below w.heap.size w w' := by
  go_enter Tryz.func261, Tryz.ntmps261
  go_wp2_with fail
  refine (value_whole n _).mono ?_
  rintro e w1 ⟨rfl, hb⟩
  have hO := (OwnB.new w #[.int .i64 0, .int .i64 0, .float .f64 0, .string ⟨#[]⟩, .int .i64 0] 56).call hb
  have r0 := hO.1.cell 0 rfl
  have r1 := hO.1.cell 1 rfl
  have r2 := hO.1.cell 2 rfl
  have r3 := hO.1.cell 3 rfl
  have r4 := hO.1.cell 4 rfl
  have rz := hO.2
  have HB : Hid (Below w.heap.size w w1) := below_call (below_alloc _ _) hb
  clear hb hO
  go_wp2_with fail
  exact bodyPost_ret (v := vOf 2 n 0 ⟨#[]⟩ 0) (by simp [results, Tryz.results261, go_sem, r0, r1, r2, r3, r4]) rfl ⟨rfl, set5 HB.out (Nat.le_refl _) _ _ _ _ _⟩
end Go.Proofs.YtdialodjllpgaaaGreatDoor

/-! A step of nought: a table is made. -/
namespace Go.Proofs.YtdialodjllpgaaaGreatDoor
open Go.RowKit
attribute [local go_sem] run_store_float
attribute [local go_sem ↓] Go.wp_at_zero Go.wp_at_succ

theorem makeMapN_run (w : World) : (Instr.makeMap 241 none).run Tryz.prog w = .ok (.map (some w.heap.size)) (w.alloc (.map #[] 0)) := by
  simp [Instr.makeMap, newObj, Sem.run, Result.andThen]
theorem infoTableP : (Tryz.prog.info? 186).map (fun i => (i.zero, i.size, i.bytes)) = some (some (.pointer none), 1, 8) := by kernel_rfl
theorem Sp.tab {X : RX} {d : MD} {u : World} (h : St X d u) (v : Value) : Sp X d u { d with tab := v } (u.setCell ⟨X.M, 16, none⟩ v) := by
  have hx := h.x
  have hTM : X.T ≠ X.M := by have := hx.m; have := hx.t; omega
  have hFM : X.F ≠ X.M := by have := hx.m; have := hx.f; omega
  have hVM : X.V ≠ X.M := by have := hx.m; have := hx.v; omega
  exact h.put v (.inl rfl) (h.m.set (o := 16) (by show 16 < 27; omega) v) (ownB_other h.t hTM) (ownB_other h.f hFM) (ownB_other h.v hVM) h.rr h.hr h.sr (fun _ _ e => e)
theorem Sp.liv {X : RX} {d : MD} {u : World} (h : St X d u) (v : Value) : Sp X d u { d with liv := v } (u.setCell ⟨X.M, 19, none⟩ v) := by
  have hx := h.x
  have hTM : X.T ≠ X.M := by have := hx.m; have := hx.t; omega
  have hFM : X.F ≠ X.M := by have := hx.m; have := hx.f; omega
  have hVM : X.V ≠ X.M := by have := hx.m; have := hx.v; omega
  exact h.put v (.inl rfl) (h.m.set (o := 19) (by show 19 < 27; omega) v) (ownB_other h.t hTM) (ownB_other h.f hFM) (ownB_other h.v hVM) h.rr h.hr h.sr (fun _ _ e => e)
/-- a table that was just made -/
abbrev tbZ (B : Nat) : Array Value := #[.slice none 0 0, .map (some B), .int .i64 0, .int .i64 0, .pointer none, .bool false, .int .i64 0]
/-- a row onto nil, of pointers -/
theorem app1 {w0 : World} (p : Value) {t e : TypeId} (hp : p.oneCell' = true) (ht : Tryz.prog.underlying t = some (.slice e)) (hi : (Tryz.prog.info? e).map (fun i => (i.zero, i.size, i.bytes)) = some (some (.pointer none), 1, 8)) :
    ∃ g cap w', (Builtin.append_ #[t, t] t #[.slice none 0 0, .slice (some ⟨w0.heap.size, 0, none⟩) 1 1]).run Tryz.prog (w0.alloc (.cells #[p] e)) = .ok (.slice (some ⟨g, 0, none⟩) 1 cap) w' ∧ w0.heap.size < g ∧ g < w'.heap.size ∧ w'.cell? ⟨g, 0, none⟩ = some p ∧ Below w0.heap.size w0 w' := by
  obtain ⟨i0, hi0, hy0, hy1, hy2⟩ := info_parts hi
  obtain ⟨v', w7, happ, hown, hgrow, _, hat⟩ := run_append_own_at (P := Tryz.prog) (w0.alloc (.cells #[p] e)) 0 t t e i0 _ 1 8 ht hi0 hy0 hy1 hy2 rfl (by decide) (.slice none 0 0) 0 [] (World.ownsRow_nil _ _ _ _) ⟨w0.heap.size, 0, none⟩ 1 1 [p] rfl (cell_one_new _ _ _) (by simpa using hp) (by unfold maxLen; omega) (by omega) (Nat.zero_le _)
  rcases hown.2 with ⟨_, d⟩ | ⟨g, cap, cur, e1, hb, hg, h2, h3, h4, h5⟩
  · omega
  · subst e1
    refine ⟨g, cap, w7, happ, ?_, (Array.getElem?_eq_some_iff.1 hg).1, ?_, (below_alloc w0 _).grown hgrow (by simp) (fun k e => by cases e)⟩
    · rcases hat with e | e
      · cases e
      · have := Option.some.inj e; simp at this; omega
    · have hc := hown.cells (g := g) rfl 0 p rfl
      simpa [Addr.add] using hc
/-- what newTable leaves -/
structure NT (X : RX) (d : MD) (u : World) (K B t1 c1 t2 c2 : Nat) (w' : World) : Prop where
  s : Sp X d u { d with tab := .slice (some ⟨t1, 0, none⟩) 1 c1, liv := .slice (some ⟨t2, 0, none⟩) 1 c2 } w'
  k : OwnB w' K (tbZ B)
  kn : u.heap.size ≤ K
  b : w'.heap[B]? = some (.map #[] 0)
  bn : u.heap.size ≤ B
  t : w'.cell? ⟨t1, 0, none⟩ = some (ptr K)
  tn : u.heap.size ≤ t1
  tl : t1 < w'.heap.size
set_option maxRecDepth 100000 in
set_option maxHeartbeats 8000000 in
theorem newTable_calls (X : RX) (d : MD) (u : World) (h : St X d u) (ht : d.tab = .slice none 0 0) (hl : d.liv = .slice none 0 0) :
    Calls Tryz.prog 259 #[ptr X.M] u fun e w' => ∃ K B t1 c1 t2 c2, e = .returned (ptr K) ∧ NT X d u K B t1 c1 t2 c2 w' := by
  have HS : Hid (St X d u) := h
  have m16 : u.cell? ⟨X.M, 16, none⟩ = some (.slice none 0 0) := by rw [← ht]; exact h.m.1.cell 16 rfl
  have hMl := h.m.1.1
  have hmk := makeMapN_run
  clear h
  go_enter Tryz.func259, Tryz.ntmps259
  go_upto_region 2 with fail
  obtain ⟨w1, hw1⟩ : ∃ w1, (u.alloc (.map #[] 0)).alloc (.cells (tbZ u.heap.size) 245) = w1 := ⟨_, rfl⟩
  have H1 : Hid (St X d w1 ∧ Below u.heap.size u w1 ∧ OwnB w1 (u.heap.size + 1) (tbZ u.heap.size) ∧ w1.heap[u.heap.size]? = some (.map #[] 0)) := by
    rw [← hw1]
    refine ⟨(HS.out.alloc _).alloc _, below_alloc2 _ _ _, own_new1 _ _ _ _, ?_⟩
    rw [Below.heap_alloc _ _ _ (by simp)]
    exact heap_new u _
  rw [hw1]
  clear hw1 m16
  obtain ⟨K, hK⟩ : ∃ K, u.heap.size + 1 = K := ⟨_, rfl⟩
  rw [hK] at H1
  rw [hK]
  have HK : Hid (u.heap.size + 1 = K) := hK
  clear hK
  obtain ⟨ta, hta⟩ : ∃ ta : Option Addr, Hid (ta = none) := ⟨_, rfl⟩
  obtain ⟨tn, htn⟩ : ∃ tn : Nat, Hid (tn = 0) := ⟨_, rfl⟩
  obtain ⟨tc, htc⟩ : ∃ tc : Nat, Hid (tc = 0) := ⟨_, rfl⟩
  have htv : Hid (Value.slice none 0 0 = .slice ta tn tc) := by rw [hta.out, htn.out, htc.out]; exact rfl
  obtain ⟨t1, c1, w2, happ, hg1, hg2, hg3, hb2⟩ := app1 (w0 := w1) (ptr K) rfl Tryz.underlying64 infoTableP
  have hS2 : St X d w2 := H1.out.1.call hb2
  have m16 : w1.cell? ⟨X.M, 16, none⟩ = some (.slice none 0 0) := by rw [← ht]; exact H1.out.1.m.1.cell 16 rfl
  have m16' : w2.cell? ⟨X.M, 16, none⟩ = some (.slice none 0 0) := by rw [← ht]; exact hS2.m.1.cell 16 rfl
  have mz' := hS2.m.2
  have hM1 := H1.out.1.m.1.1
  have hM2 := hS2.m.1.1
  have H2 : Hid (St X d w2 ∧ Below w1.heap.size w1 w2 ∧ w1.heap.size < t1 ∧ t1 < w2.heap.size ∧ w2.cell? ⟨t1, 0, none⟩ = some (ptr K)) := ⟨hS2, hb2, hg1, hg2, hg3⟩
  rw [htv.out] at happ m16 m16'
  clear hS2 hb2 hg1 hg2 hg3 hMl hmk
  go_upto_region 3 with (at_builtin; refine wpList_app (by rfl) _ _ _ _ (by rfl) (.slice ta tn tc) (.slice (some ⟨w1.heap.size, 0, none⟩) 1 1) _ _ (by rfl) (by rfl) happ ?_)
  obtain ⟨w3, hw3⟩ : ∃ w3, w2.setCell ⟨X.M, 16, none⟩ (.slice (some ⟨t1, 0, none⟩) 1 c1) = w3 := ⟨_, rfl⟩
  obtain ⟨d3, hd3⟩ : ∃ d3 : MD, d3 = { d with tab := .slice (some ⟨t1, 0, none⟩) 1 c1 } := ⟨_, rfl⟩
  have H3 : Hid (Sp X d u d3 w3 ∧ Gx (fun k => k = X.M) w2 w3) := by
    rw [← hw3, hd3]
    exact ⟨((Sp.below HS.out H1.out.2.1).trans (Sp.below H1.out.1 H2.out.2.1)).trans (Sp.tab H2.out.1 _), Gx.set _ _ _ _⟩
  rw [hw3]
  clear hw3 happ m16 m16' mz' hM1 hM2
  have hl3 : d3.liv = .slice none 0 0 := by rw [hd3]; exact hl
  obtain ⟨t2, c2, w4, happ, hg1, hg2, hg3, hb4⟩ := app1 (w0 := w3) (ptr K) rfl Tryz.underlying64 infoTableP
  have hS4 : St X d3 w4 := H3.out.1.s.call hb4
  have m19 : w3.cell? ⟨X.M, 19, none⟩ = some (.slice none 0 0) := by rw [← hl3]; exact H3.out.1.s.m.1.cell 19 rfl
  have m19' : w4.cell? ⟨X.M, 19, none⟩ = some (.slice none 0 0) := by rw [← hl3]; exact hS4.m.1.cell 19 rfl
  have mz' := hS4.m.2
  have hM1 := H3.out.1.s.m.1.1
  have hM2 := hS4.m.1.1
  have H4 : Hid (Sp X d u d3 w4 ∧ Below w3.heap.size w3 w4) := ⟨H3.out.1.call hb4, hb4⟩
  rw [htv.out] at happ m19 m19'
  clear hS4 hb4 hg1 hg2 hg3
  go_wp2_with (at_builtin; refine wpList_app (by rfl) _ _ _ _ (by rfl) (.slice ta tn tc) (.slice (some ⟨w3.heap.size, 0, none⟩) 1 1) _ _ (by rfl) (by rfl) happ ?_)
  have hS := HS.out
  have hMl := hS.m.1.1
  have hk := HK.out
  obtain ⟨a1, a2, a3, a4⟩ := H1.out
  obtain ⟨b1, b2, b3, b4, b5⟩ := H2.out
  obtain ⟨q1, q2⟩ := H3.out
  obtain ⟨e1, e2⟩ := H4.out
  have s1 := a2.size
  have s2 := b2.size
  have s3 := q2.size
  have s4 := e2.size
  have hKl := a3.1.1
  have g : Gx (fun k => k = X.M) w1 (w4.setCell ⟨X.M, 19, none⟩ (.slice (some ⟨t2, 0, none⟩) 1 c2)) := (((Gx.below (fun k => k = X.M) b2).trans q2 (fun _ _ e => e)).trans (Gx.below (fun k => k = X.M) e2) (fun _ _ e => e)).trans (Gx.set w4 X.M 19 _) (fun _ _ e => e)
  have g2 : Gx (fun k => k = X.M) w2 (w4.setCell ⟨X.M, 19, none⟩ (.slice (some ⟨t2, 0, none⟩) 1 c2)) := (q2.trans (Gx.below (fun k => k = X.M) e2) (fun _ _ e => e)).trans (Gx.set w4 X.M 19 _) (fun _ _ e => e)
  have hB : u.heap.size < w1.heap.size := (Array.getElem?_eq_some_iff.1 a4).1
  refine bodyPost_ret (v := ptr K) (by simp [results, Tryz.results259, go_sem]) rfl ⟨K, u.heap.size, t1, c1, t2, c2, rfl, ⟨?_, g.ownB a3 (by show K ≠ X.M; omega), by omega, ?_, Nat.le_refl _, ?_, by omega, by have := g2.size; omega⟩⟩
  · have h5 := e1.trans (Sp.liv e1.s (.slice (some ⟨t2, 0, none⟩) 1 c2))
    rw [hd3] at h5
    exact h5
  · rw [g.block u.heap.size hB (by show u.heap.size ≠ X.M; omega)]
    exact a4
  · exact (World.cell?_of_block (a := ⟨t1, 0, none⟩) (g2.block t1 b4 (by show t1 ≠ X.M; omega))).trans b5
end Go.Proofs.YtdialodjllpgaaaGreatDoor

/-! A step of nought: the error's table. -/
namespace Go.Proofs.YtdialodjllpgaaaGreatDoor
open Go.RowKit
attribute [local go_sem] run_store_float
attribute [local go_sem ↓] Go.wp_at_zero Go.wp_at_succ

abbrev kC : VD := ⟨4, 0, 0, ⟨#[99, 111, 100, 101]⟩, 0⟩
abbrev kL : VD := ⟨4, 0, 0, ⟨#[108, 105, 110, 101]⟩, 0⟩
abbrev nI (n : Int) : VD := ⟨2, n, 0, ⟨#[]⟩, 0⟩
/-- the error's pairs -/
def q0 : Nat → PD := fun _ => pz
def q1 (c : Int) : Nat → PD := addP q0 0 ⟨kC, nI c, 0 + 1⟩
def q2 (c l : Int) : Nat → PD := addP (q1 c) 1 ⟨kL, nI l, 0 + 1 + 1⟩
theorem mk_CL : mk kC ≠ mk kL := by
  intro e
  have := congrArg (fun m : Mk => m.2.2.2.1.data) e
  simp [mk] at this
theorem NT.xo {X : RX} {d : MD} {u : World} {K B t1 c1 t2 c2 : Nat} {w' : World} (h : NT X d u K B t1 c1 t2 c2 w') : XO u.heap.size w' K none 0 0 B 0 q0 [] :=
  ⟨h.kn, h.k.1.1, h.k.1.cell 0 rfl, h.k.1.cell 1 rfl, h.k.1.cell 2 rfl, h.k.2, World.ownsRow_nil _ _ _ _, ⟨#[], 0, h.b, rfl⟩, h.bn, fun _ _ _ e => by cases e⟩
/-- the error's table, made -/
structure ET (N : Nat) (w : World) (K B : Nat) (c l : Int) : Prop where
  x : ∃ a cap, XO N w K a 2 cap B (0 + 1 + 1) (q2 c l) (places (q2 c l) 2)
theorem look_no {B : Nat} {L : List (Mk × Nat)} {y : VD} (hi : idx L (mk y) = none) (u : World) (h : MapIs u B L) : (Instr.lookup 241 (.map (some B)) (mkV (mk y)) true).run Tryz.prog u = .ok (.tuple #[.int .i64 0, .bool false]) u := by
  have := lookup_run Tryz.underlying241 markT h (mk y) (Tryz.zeroValue3 _)
  rw [hi] at this
  exact this
theorem putz1 {N K B : Nat} {w : World} (c : Int) (hN : N ≤ w.heap.size) (h : XO N w K none 0 0 B 0 q0 []) :
    Calls Tryz.prog 260 #[.pointer (some ⟨K, 0, none⟩), kC.v, (nI c).v] w fun e w' => e = .returned (.tuple #[]) ∧ (∃ a' cap', XO N w' K a' 1 cap' B (0 + 1) (q1 c) (places (q1 c) 1) ∧ RowTo w none a') ∧ Below N w w' ∧ (∀ o, 3 ≤ o → w'.cell? ⟨K, o, none⟩ = w.cell? ⟨K, o, none⟩) ∧ FrX w w' K B none := by
  refine (put_none N K none 0 0 B 0 q0 [] kC (nI c) w hN (by omega) (by omega) (look_no rfl) h).mono ?_
  rintro e w' ⟨rfl, h1, hb, ho⟩
  rw [if_neg (by show ¬ ((2 : Int) = 0 ∨ ¬ (0 < 500 ∧ (0 : Int) < 1000000000000)); omega)] at h1
  exact ⟨rfl, h1, hb, ho⟩
theorem putz2 {N K B : Nat} {w : World} {a : Option Addr} {cap : Nat} (c l : Int) (hN : N ≤ w.heap.size) (h : XO N w K a 1 cap B (0 + 1) (q1 c) (places (q1 c) 1)) :
    Calls Tryz.prog 260 #[.pointer (some ⟨K, 0, none⟩), kL.v, (nI l).v] w fun e w' => e = .returned (.tuple #[]) ∧ (∃ a' cap', XO N w' K a' 2 cap' B (0 + 1 + 1) (q2 c l) (places (q2 c l) 2) ∧ RowTo w a a') ∧ Below N w w' ∧ (∀ o, 3 ≤ o → w'.cell? ⟨K, o, none⟩ = w.cell? ⟨K, o, none⟩) ∧ FrX w w' K B (Value.slice a 1 cap).ownBlock := by
  have hi : idx (places (q1 c) 1) (mk kL) = none := by
    show (if mk kL = mk kC then _ else _) = none
    rw [if_neg fun e => mk_CL e.symm]
    rfl
  refine (put_none N K a 1 cap B (0 + 1) (q1 c) _ kL (nI l) w hN (by omega) (by omega) (look_no hi) h).mono ?_
  rintro e w' ⟨rfl, h1, hb, ho⟩
  rw [if_neg (by show ¬ ((2 : Int) = 0 ∨ ¬ (1 < 500 ∧ (0 + 1 : Int) < 1000000000000)); omega)] at h1
  exact ⟨rfl, h1, hb, ho⟩
theorem tabOk_z (c l : Int) : TabOk 2 (0 + 1 + 1) (q2 c l) := by
  have e1 : fz 0 = true := rfl
  have e2 : se ⟨#[]⟩ = true := by first | kernel_rfl | simp [se] | decide
  have e3 : (⟨#[99, 111, 100, 101]⟩ : ByteArray).size = 4 := rfl
  have e4 : (⟨#[108, 105, 110, 101]⟩ : ByteArray).size = 4 := rfl
  refine ⟨by omega, by omega, by omega, fun i hi => ?_, fun i j hj hi => ?_⟩
  · rcases (show i = 0 ∨ i = 1 by omega) with rfl | rfl
    · simp [rowOkB, q2, q1, addP, pOkB, kOk, kc, kv, VD.ok, okB, ueB, usB, e1, e2, e3, lastT]
    · simp [rowOkB, q2, q1, addP, pOkB, kOk, kc, kv, VD.ok, okB, ueB, usB, e1, e2, e4, lastT]
  · obtain ⟨rfl, rfl⟩ : i = 1 ∧ j = 0 := by omega
    exact mk_CL
theorem gt_z (c l : Int) : (gt (q2 c l) (mk kC) 2).val = nI c := by
  have h1 : fnd (q2 c l) (mk kC) 2 = some 0 := by
    have h2 : fnd (q2 c l) (mk kC) 1 = some 0 := by
      show (if mk kC = mk kC then some 0 else none) = some 0
      rw [if_pos rfl]
    rw [fnd, h2]
  rw [gt, h1]
  rfl
theorem getC {N K B : Nat} {w : World} {a : Option Addr} {cap : Nat} (c l : Int) (h : XO N w K a 2 cap B (0 + 1 + 1) (q2 c l) (places (q2 c l) 2)) :
    Calls Tryz.prog 151 #[.pointer (some ⟨K, 0, none⟩), kC.v] w fun e w' => e = .returned (nI c).v ∧ Below w.heap.size w w' := by
  refine (get_calls K a 2 cap B (0 + 1 + 1) (q2 c l) kC w (tabOk_z c l) ⟨h.lt, h.c0, h.c1, h.c2, own_tab h.own, h.map⟩).mono ?_
  rintro e w' ⟨rfl, hb⟩
  exact ⟨by rw [gt_z], hb⟩
set_option maxRecDepth 100000 in
set_option maxHeartbeats 4000000 in
theorem value_made (k r : Int) (w : World) : Calls Tryz.prog 308 #[.agg #[.int .i64 k, .int .i64 r]] w fun e w' => e = .returned (vOf k 0 0 ⟨#[]⟩ r) ∧ Below w.heap.size w w' := by
  go_enter Tryz.func308, Tryz.ntmps308
  go_wp2_with fail
  refine bodyPost_ret (v := vOf k 0 0 ⟨#[]⟩ r) (by simp [results, Tryz.results308, go_sem]) rfl ⟨rfl, ?_⟩
  with_reducible exact below_alloc2 _ _ _
set_option maxRecDepth 100000 in
set_option maxHeartbeats 4000000 in
theorem tvalue_calls (K : Nat) (r : Int) (w : World) (hK : K < w.heap.size) (h : w.cell? ⟨K, 3, none⟩ = some (.int .i64 r)) : Calls Tryz.prog 262 #[ptr K] w fun e w' => e = .returned (vOf 5 0 0 ⟨#[]⟩ r) ∧ Below w.heap.size w w' := by
  go_enter Tryz.func262, Tryz.ntmps262
  go_wp2_with fail
  refine (value_made 5 r _).mono ?_
  rintro e w1 ⟨rfl, hb⟩
  have hO := (OwnB.new w #[.int .i64 0, .int .i64 0, .float .f64 0, .string ⟨#[]⟩, .int .i64 0] 56).call hb
  have r0 := hO.1.cell 0 rfl
  have r1 := hO.1.cell 1 rfl
  have r2 := hO.1.cell 2 rfl
  have r3 := hO.1.cell 3 rfl
  have r4 := hO.1.cell 4 rfl
  have rz := hO.2
  have HB : Hid (Below w.heap.size w w1) := below_call (below_alloc _ _) hb
  clear hb hO h hK
  go_wp2_with fail
  exact bodyPost_ret (v := vOf 5 0 0 ⟨#[]⟩ r) (by simp [results, Tryz.results262, go_sem, r0, r1, r2, r3, r4]) rfl ⟨rfl, set5 HB.out (Nat.le_refl _) _ _ _ _ _⟩
end Go.Proofs.YtdialodjllpgaaaGreatDoor

/-! A step of nought: how the error is told. -/
namespace Go.Proofs.YtdialodjllpgaaaGreatDoor
open Go.RowKit
attribute [local go_sem] run_store_float
attribute [local go_sem ↓] Go.wp_at_zero Go.wp_at_succ

theorem dec14 : bA (decB 14) = ⟨#[49, 52]⟩ := by first | kernel_rfl | rfl | decide
/-- the error's table as told reads it -/
structure EX (w : World) (K : Nat) (c l : Int) : Prop where
  x : ∃ N a cap B, XO N w K a 2 cap B (0 + 1 + 1) (q2 c l) (places (q2 c l) 2)
theorem EX.get {w : World} {K : Nat} {c l : Int} (h : EX w K c l) : Calls Tryz.prog 151 #[.pointer (some ⟨K, 0, none⟩), kC.v] w fun e w' => e = .returned (nI c).v ∧ Below w.heap.size w w' := by
  obtain ⟨N, a, cap, B, h⟩ := h.x
  exact getC c l h
set_option maxRecDepth 100000 in
set_option maxHeartbeats 4000000 in
theorem entryC_calls (K : Nat) (c l : Int) (w : World) (h : ∀ w', Below w.heap.size w w' → EX w' K c l) : Calls Tryz.prog 92 #[ptr K, .string ⟨#[99, 111, 100, 101]⟩] w fun e w' => e = .returned (nI c).v ∧ Below w.heap.size w w' := by
  have HE : Hid (∀ w', Below w.heap.size w w' → EX w' K c l) := h
  clear h
  go_enter Tryz.func92, Tryz.ntmps92
  go_upto_region 1 with fail
  obtain ⟨w0, hw0⟩ : ∃ w0, w.alloc (.cells #[.int .i64 0, .int .i64 0, .float .f64 0, .string ⟨#[]⟩, .int .i64 0] 56) = w0 := ⟨_, rfl⟩
  have HO : Hid (OwnB w0 w.heap.size #[.int .i64 0, .int .i64 0, .float .f64 0, .string ⟨#[]⟩, .int .i64 0]) := by rw [← hw0]; exact OwnB.new w _ _
  have HB : Hid (Below w.heap.size w w0) := by rw [← hw0]; exact below_alloc _ _
  rw [hw0]
  clear hw0
  go_region_with (first | (go_at_call 48; refine (textV_calls _ _).mono ?_; rintro e w1 ⟨rfl, hb1⟩; replace HO : Hid (OwnB w1 w.heap.size #[.int .i64 0, .int .i64 0, .float .f64 0, .string ⟨#[]⟩, .int .i64 0]) := (by first | exact HO.out.call hb1 | exact HO.out.drew.call hb1); replace HB : Hid (Below w.heap.size w w1) := (by first | exact below_call HB.out hb1 | exact below_call HB.out.drew hb1); clear hb1) | (go_at_call 151; refine (HE.out _ HB.out).get.mono ?_; rintro e w2 ⟨rfl, hb2⟩; replace HO : Hid (OwnB w2 w.heap.size #[.int .i64 0, .int .i64 0, .float .f64 0, .string ⟨#[]⟩, .int .i64 0]) := (by first | exact HO.out.call hb2 | exact HO.out.drew.call hb2); replace HB : Hid (Below w.heap.size w w2) := (by first | exact below_call HB.out hb2 | exact below_call HB.out.drew hb2); clear hb2; have r0 := HO.out.1.cell 0 rfl; have r1 := HO.out.1.cell 1 rfl; have r2 := HO.out.1.cell 2 rfl; have r3 := HO.out.1.cell 3 rfl; have r4 := HO.out.1.cell 4 rfl; have rz := HO.out.2))
  all_goals go_wp2_with fail
  all_goals exact bodyPost_ret (v := (nI c).v) (by simp [results, Tryz.results92, go_sem, r0, r1, r2, r3, r4]) rfl ⟨rfl, set5 HB.out (Nat.le_refl _) _ _ _ _ _⟩
set_option maxRecDepth 100000 in
set_option maxHeartbeats 4000000 in
theorem tableOf_calls (X : RX) (d : MD) (u : World) (h : St X d u) (t1 c1 K : Nat) (ht : d.tab = .slice (some ⟨t1, 0, none⟩) 1 c1) (hl : t1 < u.heap.size) (hc : u.cell? ⟨t1, 0, none⟩ = some (ptr K)) :
    Calls Tryz.prog 91 #[ptr X.M, vOf 5 0 0 ⟨#[]⟩ 0] u fun e w' => e = .returned (ptr K) ∧ Below u.heap.size u w' := by
  have m16 : u.cell? ⟨X.M, 16, none⟩ = some (.slice (some ⟨t1, 0, none⟩) 1 c1) := by rw [← ht]; exact h.m.1.cell 16 rfl
  have hMl := h.m.1.1
  clear h ht
  go_enter Tryz.func91, Tryz.ntmps91
  go_wp2_with fail
  go_region_with fail
  all_goals go_wp2_with fail
  all_goals go_ret
  all_goals exact ⟨rfl, (below_alloc _ _).drew⟩
set_option maxRecDepth 100000 in
set_option maxHeartbeats 4000000 in
theorem told_calls (X : RX) (d : MD) (u : World) (h : St X d u) (t1 c1 K : Nat) (l : Int) (ht : d.tab = .slice (some ⟨t1, 0, none⟩) 1 c1) (hl : t1 < u.heap.size) (hc : u.cell? ⟨t1, 0, none⟩ = some (ptr K)) (hE : ∀ w', Below u.heap.size u w' → EX w' K 14 l) (hT : TabX X) :
    Calls Tryz.prog 53 #[ptr X.M, vOf 5 0 0 ⟨#[]⟩ 0] u fun e w' => e = .returned (.string ⟨#[101, 114, 114, 111, 114, 32, 49, 52]⟩) ∧ Below u.heap.size u w' := by
  have HT : Hid (∀ w1, Below u.heap.size u w1 → Calls Tryz.prog 91 #[ptr X.M, vOf 5 0 0 ⟨#[]⟩ 0] w1 fun e w' => e = .returned (ptr K) ∧ Below w1.heap.size w1 w') := fun w1 hb => tableOf_calls X d w1 (h.call hb) t1 c1 K ht (Nat.lt_of_lt_of_le hl hb.size) ((hb.cell (p := ⟨t1, 0, none⟩) hl).trans hc)
  have HG : Hid (∀ w1, Below u.heap.size u w1 → Calls Tryz.prog 92 #[ptr K, .string ⟨#[99, 111, 100, 101]⟩] w1 fun e w' => e = .returned (nI 14).v ∧ Below w1.heap.size w1 w') := fun w1 hb => entryC_calls K 14 l w1 fun w2 hb2 => hE w2 (below_call hb hb2)
  have HX : Hid (∀ w1 : World, Below u.heap.size u w1 → Calls Tryz.prog 55 #[vOf 2 14 0 ⟨#[]⟩ 0] w1 fun e w' => e = .returned (.string ⟨#[49, 52]⟩) ∧ Below w1.heap.size w1 w') := fun w1 hb => (text_calls 14 w1 (by unfold I64r; omega) (hT _ (h.call hb).k)).mono fun e w' h => ⟨by rw [h.1, dec14], h.2⟩
  clear h hE ht hl hc hT
  go_enter Tryz.func53, Tryz.ntmps53
  go_wp2_with fail
  refine (HT.out _ (below_alloc _ _)).mono ?_
  rintro e w1 ⟨rfl, hb1⟩
  have HB : Hid (Below u.heap.size u w1) := below_call (below_alloc _ _) hb1
  clear hb1
  go_wp2_with fail
  refine (HG.out _ HB.out).mono ?_
  rintro e w2 ⟨rfl, hb2⟩
  replace HB : Hid (Below u.heap.size u w2) := below_call HB.out hb2
  clear hb2
  go_wp2_with fail
  refine (HX.out _ (below_call HB.out (below_alloc _ _))).mono ?_
  rintro e w3 ⟨rfl, hb3⟩
  have HB3 : Hid (Below u.heap.size u w3) := below_call (below_call HB.out (below_alloc _ _)) hb3
  clear hb3
  go_wp2_with fail
  go_ret
  exact ⟨rfl, HB3.out⟩
end Go.Proofs.YtdialodjllpgaaaGreatDoor

/-! A step of nought: throw, given the trace. -/
namespace Go.Proofs.YtdialodjllpgaaaGreatDoor
open Go.RowKit
attribute [local go_sem] run_store_float
attribute [local go_sem ↓] Go.wp_at_zero Go.wp_at_succ

theorem own5 {w : World} {B : Nat} {a b c d e : Value} (h : OwnB w B #[a, b, c, d, e]) : w.cell? ⟨B, 0, none⟩ = some a ∧ w.cell? ⟨B, 1, none⟩ = some b ∧ w.cell? ⟨B, 2, none⟩ = some c ∧ w.cell? ⟨B, 3, none⟩ = some d ∧ w.cell? ⟨B, 4, none⟩ = some e :=
  ⟨h.1.cell 0 rfl, h.1.cell 1 rfl, h.1.cell 2 rfl, h.1.cell 3 rfl, h.1.cell 4 rfl⟩
/-- what is told of the error -/
abbrev sE14 : ByteArray := ⟨#[101, 114, 114, 111, 114, 32, 49, 52]⟩
/-- the error's value -/
abbrev vT : Array Value := #[.int .i64 5, .int .i64 0, .float .f64 0, .string ⟨#[]⟩, .int .i64 0]
abbrev thE (tr : ByteArray) : Array Value := #[.int .i64 5, .int .i64 0, .float .f64 0, .string ⟨#[]⟩, .int .i64 0, .string tr]
set_option maxRecDepth 100000 in
set_option maxHeartbeats 4000000 in
theorem throw_calls (X : RX) (d : MD) (u : World) (h : St X d u) (t1 c1 K : Nat) (l : Int) (hn : d.recs.length < 5000) (ht : d.tab = .slice (some ⟨t1, 0, none⟩) 1 c1) (hl : t1 < u.heap.size) (hc : u.cell? ⟨t1, 0, none⟩ = some (ptr K)) (hE : ∀ w', Below u.heap.size u w' → EX w' K 14 l) (hT : TabX X) (hTr : ∀ w1, Below u.heap.size u w1 → Calls Tryz.prog 232 #[ptr X.M] w1 fun e w' => (∃ tr, e = .returned (.string tr)) ∧ Below w1.heap.size w1 w') :
    Calls Tryz.prog 181 #[ptr X.M, vOf 5 0 0 ⟨#[]⟩ 0] u fun e w' => ∃ E tr, e = .returned (ptr E) ∧ u.heap.size ≤ E ∧ OwnB w' E (thE tr) ∧ To X d u (d.p.rcd ⟨4, 0, 0, d.line, sE14⟩) w' := by
  have HS : Hid (St X d u) := h
  have HTr : Hid (∀ w1, Below u.heap.size u w1 → Calls Tryz.prog 232 #[ptr X.M] w1 fun e w' => (∃ tr, e = .returned (.string tr)) ∧ Below w1.heap.size w1 w') := hTr
  have HD : Hid (∀ w1, Below u.heap.size u w1 → Calls Tryz.prog 53 #[ptr X.M, vOf 5 0 0 ⟨#[]⟩ 0] w1 fun e w' => e = .returned (.string sE14) ∧ Below w1.heap.size w1 w') := fun w1 hb => told_calls X d w1 (h.call hb) t1 c1 K l ht (Nat.lt_of_lt_of_le hl hb.size) ((hb.cell (p := ⟨t1, 0, none⟩) hl).trans hc) (fun w2 hb2 => hE w2 (below_call hb hb2)) hT
  have HR : Hid (∀ w1, Below u.heap.size u w1 → Calls Tryz.prog 145 #[ptr X.M, .int .i64 4, .int .i64 0, .int .i64 d.line, .string sE14] w1 fun e w' => e = .returned (.tuple #[]) ∧ To X d w1 (d.p.rcd ⟨4, 0, 0, d.line, sE14⟩) w') := fun w1 hb => record_calls X d 4 0 d.line sE14 w1 (h.call hb) hn
  have HH : Hid (∀ w1, Below u.heap.size u w1 → Calls Tryz.prog 231 #[ptr X.T] w1 fun e w' => e = .returned (.tuple #[.int .i64 0, .int .i64 d.line]) ∧ Below w1.heap.size w1 w') := fun w1 hb => here_calls X d w1 (h.call hb)
  have m23 : u.cell? ⟨X.M, 23, none⟩ = some (ptr X.T) := h.m.1.cell 23 rfl
  have hMl := h.m.1.1
  clear h hn ht hl hc hE hT hTr
  generalize d.line = ln at *
  go_enter Tryz.func181, Tryz.ntmps181
  go_wp2_with fail
  refine (HH.out _ (below_alloc _ _)).mono ?_
  rintro e w1 ⟨rfl, hb1⟩
  have HO : Hid (OwnB w1 u.heap.size vT) := (OwnB.new u _ _).call hb1
  have HB : Hid (Below u.heap.size u w1) := below_call (below_alloc _ _) hb1
  clear hb1 m23 hMl
  go_upto_region 2 with fail
  go_region_held3 (fun w' => w'.cell? ⟨u.heap.size, 0, none⟩ = some (.int .i64 5) ∧ w'.cell? ⟨u.heap.size, 1, none⟩ = some (.int .i64 0) ∧ w'.cell? ⟨u.heap.size, 2, none⟩ = some (.float .f64 0) ∧ w'.cell? ⟨u.heap.size, 3, none⟩ = some (.string ⟨#[]⟩) ∧ w'.cell? ⟨u.heap.size, 4, none⟩ = some (.int .i64 0)) (first | (with_reducible exact own5 HO.out) | (with_reducible exact own5 HO.out.drew) | (with_reducible exact own5 (HO.out.call (below_alloc _ _)))) ((go_at_call 232; refine (HTr.out _ (by first | exact HB.out | exact HB.out.drew)).mono ?_; rintro e w2 ⟨⟨tr, rfl⟩, hb2⟩; replace HO : Hid (OwnB w2 u.heap.size vT) := (by first | exact HO.out.call hb2 | exact HO.out.drew.call hb2); replace HB : Hid (Below u.heap.size u w2) := (by first | exact below_call HB.out hb2 | exact below_call HB.out.drew hb2); clear hb2))
  go_upto_region 3 with fail
  obtain ⟨w3, hw3⟩ : ∃ w3, w2.alloc (.cells (thE tr) 133) = w3 := ⟨_, rfl⟩
  have HE3 : Hid (OwnB w3 w2.heap.size (thE tr)) := by rw [← hw3]; exact OwnB.new w2 _ _
  have HO3 : Hid (OwnB w3 u.heap.size vT) := by rw [← hw3]; exact HO.out.call (below_alloc _ _)
  have HB3 : Hid (Below u.heap.size u w3) := by rw [← hw3]; exact below_call HB.out (below_alloc _ _)
  have HL : Hid (u.heap.size ≤ w2.heap.size) := HB.out.size
  rw [hw3] at *
  clear hw3 HO HB
  generalize w2.heap.size = E at *
  obtain ⟨b0, b1, b2, b3, b4⟩ := own5 HO3.out
  go_wp2_with fail
  refine (HD.out _ HB3.out).mono ?_
  rintro e w4 ⟨rfl, hb4⟩
  have HE4 : Hid (OwnB w4 E (thE tr)) := HE3.out.call hb4
  have HB4 : Hid (Below u.heap.size u w4) := below_call HB3.out hb4
  clear hb4 b0 b1 b2 b3 b4
  go_wp2_with fail
  refine (HR.out _ HB4.out).mono ?_
  rintro e w5 ⟨rfl, hT5⟩
  have HE5 : Hid (OwnB w5 E (thE tr)) := by
    obtain ⟨d', hs, _⟩ := hT5
    refine hs.g.ownB HE4.out fun e => ?_
    obtain ⟨o, ho, _⟩ := HS.out.cells e
    have := (Array.getElem?_eq_some_iff.1 ho).1
    have := HL.out
    omega
  have HT5 : Hid (To X d u (d.p.rcd ⟨4, 0, 0, ln, sE14⟩) w5) := (Sp.below HS.out HB4.out |> To.step) hT5
  clear hT5
  go_wp2_with fail
  go_ret
  exact ⟨E, tr, rfl, HL.out, HE5.out, HT5.out⟩
end Go.Proofs.YtdialodjllpgaaaGreatDoor

/-! A step of nought: a step, and then what lies past the old world changes. -/
namespace Go.Proofs.YtdialodjllpgaaaGreatDoor
open Go.RowKit

theorem Sp.past {X : RX} {d d' : MD} {u w w' : World} (h0 : St X d u) (h : Sp X d u d' w) (hs : ∀ k, stB X d' k → k < u.heap.size) (hR : X.R < u.heap.size) (hb : Below u.heap.size w w') : Sp X d u d' w' := by
  have hx := h.s.x
  have hk : ∀ k, k < u.heap.size → w'.heap[k]? = w.heap[k]? := hb.block
  have ho : ∀ {B : Nat} {A : Array Value}, OwnB w B A → B < u.heap.size → OwnB w' B A := fun hh hB => hh.block hb.size (hk _ hB)
  have hrw : ∀ {N K n c m : Nat} {t : TypeId} {xs : List Value} {a : Option Addr}, w.ownsRow N t K (.slice a m c) n xs → (∀ g, bkOf a = some g → g < u.heap.size) → w'.ownsRow N t K (.slice a m c) n xs := fun hh hg => ownsK_block hh fun q e => hk q (hg q ((own_bk _ _ _).symm.trans e))
  have hWs : X.W.heap.size ≤ u.heap.size := h0.k.size
  refine ⟨⟨hx, ho h.s.m (hs _ (.inl rfl)), ho h.s.t (hs _ (.inr (.inl rfl))), ho h.s.f (hs _ (.inr (.inr (.inl rfl)))), ho h.s.v (hs _ (.inr (.inr (.inr (.inl rfl))))), ho h.s.r hR, hrw h.s.rr fun g e => hs g (.inr (.inr (.inr (.inr (.inl e))))), hrw h.s.hr fun g e => hs g (.inr (.inr (.inr (.inr (.inr (.inl e)))))), hrw h.s.sr fun g e => hs g (.inr (.inr (.inr (.inr (.inr (.inr e)))))), ?_, Nat.le_trans h.s.n hb.size⟩, ?_, h.mv⟩
  · exact ⟨hb.os.trans h.s.k.os, hb.tape.trans h.s.k.tape, hb.output.trans h.s.k.output, Nat.le_trans h.s.k.size hb.size, fun k hk' hn => (hk k (by omega)).trans (h.s.k.block k hk' hn)⟩
  · exact ⟨hb.os.trans h.g.os, hb.tape.trans h.g.tape, hb.output.trans h.g.output, Nat.le_trans h.g.size hb.size, fun k hk' hn => (hk k hk').trans (h.g.block k hk' hn)⟩
theorem St.lts {X : RX} {d : MD} {u : World} (h : St X d u) (k : Nat) (e : stB X d k) : k < u.heap.size := by
  obtain ⟨o, ho, _⟩ := h.cells e
  exact (Array.getElem?_eq_some_iff.1 ho).1
/-- the new table's rows are no part of the state's -/
theorem NT.past {X : RX} {d : MD} {u : World} {K B t1 c1 t2 c2 : Nat} {w w' : World} (h0 : St X d u) (h : NT X d u K B t1 c1 t2 c2 w) (hb : Below u.heap.size w w') : Sp X d u { d with tab := .slice (some ⟨t1, 0, none⟩) 1 c1, liv := .slice (some ⟨t2, 0, none⟩) 1 c2 } w' :=
  Sp.past h0 h.s (fun k e => h0.lts k e) h0.r.1.1 hb
end Go.Proofs.YtdialodjllpgaaaGreatDoor

/-! A step of nought: the error leaves the loop. -/
namespace Go.Proofs.YtdialodjllpgaaaGreatDoor
open Go.RowKit
attribute [local go_sem] run_store_float
attribute [local go_sem ↓] Go.wp_at_zero Go.wp_at_succ

/-- an error on its way -/
abbrev thC (E : Nat) : List PanicEntry := [{ v := .iface 117 (ptr E), recovered := false }]
set_option maxRecDepth 100000 in
set_option maxHeartbeats 8000000 in
theorem turnsZ_calls (M g c : Nat) (a b : Int) (R : Nat → World → Prop) (w : World) (h : B3 g a b 0 w) (hF : ∀ w1, Below w.heap.size w w1 → Calls Tryz.prog 213 #[ptr M, .int .i64 14] w1 fun e w' => ∃ E, e = .returned (ptr E) ∧ R E w') :
    Calls Tryz.prog 206 #[ptr M, .slice (some ⟨g, 0, none⟩) 3 c] w fun e w' => ∃ E, e = .panicked (thC E) ∧ R E w' := by
  obtain ⟨s, hs⟩ : ∃ s : Int, s = 0 := ⟨_, rfl⟩
  rw [← hs] at h
  have hs1 : -20 ≤ s := by omega
  have hs2 : s ≤ 20 := by omega
  have HB : Hid (B3 g a b s w) := h
  have HW : Hid (Below w.heap.size w w) := Below.refl _ _
  have HFF : Hid _ := hF
  have hfl := fl_s hs1 hs2
  have hf1 : (FloatKind.f64.format.order (floatOfInt .f64 s) 0 == some .eq) = true := by rw [hfl.1]; simpa using hs
  have hf2 := hfl.2
  have HS0 : Hid (s = 0) := hs
  clear h hfl hF hs
  go_enter Tryz.func206, Tryz.ntmps206
  go_upto_region 1 with fail
  go_region_held3 (fun w' => w'.cell? ⟨g, 0, none⟩ = some (.int .i64 2) ∧ w'.cell? ⟨g, 1, none⟩ = some (.int .i64 a) ∧ w'.cell? ⟨g, 2, none⟩ = some (.float .f64 0) ∧ w'.cell? ⟨g, 3, none⟩ = some (.string ⟨#[]⟩) ∧ w'.cell? ⟨g, 4, none⟩ = some (.int .i64 0) ∧ w'.cell? ⟨g, 5, none⟩ = some (.int .i64 2) ∧ w'.cell? ⟨g, 6, none⟩ = some (.int .i64 b) ∧ w'.cell? ⟨g, 7, none⟩ = some (.float .f64 0) ∧ w'.cell? ⟨g, 8, none⟩ = some (.string ⟨#[]⟩) ∧ w'.cell? ⟨g, 9, none⟩ = some (.int .i64 0) ∧ w'.cell? ⟨g, 10, none⟩ = some (.int .i64 2) ∧ w'.cell? ⟨g, 11, none⟩ = some (.int .i64 s) ∧ w'.cell? ⟨g, 12, none⟩ = some (.float .f64 0) ∧ w'.cell? ⟨g, 13, none⟩ = some (.string ⟨#[]⟩) ∧ w'.cell? ⟨g, 14, none⟩ = some (.int .i64 0)) (first | (with_reducible exact HB.out.c) | (with_reducible exact HB.out.drew.c)) ((go_at_call 94; refine (thI_calls _ _).mono ?_; rintro e w1 ⟨rfl, hb1⟩; replace HB : Hid (B3 g a b s w1) := (by first | exact HB.out.call hb1 | exact HB.out.drew.call hb1); replace HW : Hid (Below w.heap.size w w1) := (by first | exact below_call HW.out hb1 | exact below_call HW.out.drew hb1); clear hb1))
  go_wp2_with fail
  refine (fo_calls a _).mono ?_
  rintro e w2 ⟨rfl, rfl⟩
  go_wp2_with fail
  refine (fo_calls b _).mono ?_
  rintro e w3 ⟨rfl, rfl⟩
  go_wp2_with fail
  refine (fo_calls s _).mono ?_
  rintro e w4 ⟨rfl, rfl⟩
  generalize floatOfInt .f64 a = fa at *
  generalize floatOfInt .f64 b = fb at *
  generalize floatOfInt .f64 s = fs at *
  go_wp2_with fail
  refine (HFF.out _ HW.out).mono ?_
  rintro e w5 ⟨E, rfl, hR⟩
  have HR : Hid (R E w5) := hR
  clear hR
  go_wp2_with fail
  simp [bodyPost]
  exact HR.out
end Go.Proofs.YtdialodjllpgaaaGreatDoor
