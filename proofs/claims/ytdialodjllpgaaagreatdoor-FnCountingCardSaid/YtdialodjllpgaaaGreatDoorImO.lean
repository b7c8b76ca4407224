import Derived.Test.YtdialodjllpgaaaGreatDoorImP
import Derived.Test.YtdialodjllpgaaaGreatDoorBdC
import Derived.Test.YtdialodjllpgaaaGreatDoorUnB
import Derived.RangeFuncNested
import Derived.RangeFuncBound
import Derived.RangeFuncCalls
import Derived.RangeFuncLeaves
import Derived.Shelf.Abstract
import Derived.OwnWalkIn
import Derived.TacticsInMore
import Derived.LoopNIn
import Derived.LoopIn
/-! The program's check of a unit: the forms by kind. -/
namespace Go.Proofs.YtdialodjllpgaaaGreatDoor
open Go.RowKit

/-- what a form's method says -/
def FoSays (F m : Nat) (nd : Nat → ND) (nas : Nat → NA) (w : World) (f : Nat) (b : Bool) : Prop := Calls Tryz.prog f #[.pointer (some ⟨F, 0, none⟩), nodeV (nd m) (nas m)] w fun e w' => e = .returned (.bool b) ∧ Below w.heap.size w w'
theorem FoSays.as {F m : Nat} {nd : Nat → ND} {nas : Nat → NA} {w : World} {f : Nat} {b c : Bool} (h : FoSays F m nd nas w f b) (e : b = c) : FoSays F m nd nas w f c := e ▸ h

set_option maxRecDepth 10000 in
theorem forms_calls (F m : Nat) (nd : Nat → ND) (nas : Nat → NA) (w : World) (hA : AH w F m nd nas) (hN : NodeAt 0 w (nd m) (nas m)) (hs : (nd m).sm) (hcap : (nd m).kn ≤ (nas m).kc) (k : Nat) (hk : (nd m).k = k) (hv : (1 ≤ k ∧ k ≤ 14) ∨ (20 ≤ k ∧ k ≤ 38)) :
    FoSays F m nd nas w (stN k) (fkB nd m) := by
  rcases (show k = 1 ∨ k = 2 ∨ k = 3 ∨ k = 4 ∨ k = 5 ∨ k = 6 ∨ k = 7 ∨ k = 8 ∨ k = 9 ∨ k = 10 ∨ k = 11 ∨ k = 12 ∨ k = 13 ∨ k = 14 ∨ k = 20 ∨ k = 21 ∨ k = 22 ∨ k = 23 ∨ k = 24 ∨ k = 25 ∨ k = 26 ∨ k = 27 ∨ k = 28 ∨ k = 29 ∨ k = 30 ∨ k = 31 ∨ k = 32 ∨ k = 33 ∨ k = 34 ∨ k = 35 ∨ k = 36 ∨ k = 37 ∨ k = 38 by omega) with rfl | rfl | rfl | rfl | rfl | rfl | rfl | rfl | rfl | rfl | rfl | rfl | rfl | rfl | rfl | rfl | rfl | rfl | rfl | rfl | rfl | rfl | rfl | rfl | rfl | rfl | rfl | rfl | rfl | rfl | rfl | rfl | rfl
  · exact FoSays.as (fo_block F m nd nas w hA hN hs hcap) (by unfold fkB; rw [hk]; first | (simp; done) | (simp [atS]; done) | (simp [Bool.and_assoc]; done) | (simp [atS, Bool.and_assoc]; done) | (simp [btB]; done) | (simp [btB, Bool.and_assoc]; done) | (simp [atS, btB]; done) | (simp [atS, btB, Bool.and_assoc]; done))
  · exact FoSays.as (fo_let F m nd nas w hA hN hs hcap) (by unfold fkB; rw [hk]; simp [Bool.and_assoc])
  · exact FoSays.as (fo_set F m nd nas w hA hN hs hcap) (by unfold fkB; rw [hk]; first | (simp; done) | (simp [atS]; done) | (simp [Bool.and_assoc]; done) | (simp [atS, Bool.and_assoc]; done) | (simp [btB]; done) | (simp [btB, Bool.and_assoc]; done) | (simp [atS, btB]; done) | (simp [atS, btB, Bool.and_assoc]; done))
  · exact FoSays.as (fo_oneCall F m nd nas w hA hN hs hcap) (by unfold fkB; rw [hk]; first | (simp; done) | (simp [atS]; done) | (simp [Bool.and_assoc]; done) | (simp [atS, Bool.and_assoc]; done) | (simp [btB]; done) | (simp [btB, Bool.and_assoc]; done) | (simp [atS, btB]; done) | (simp [atS, btB, Bool.and_assoc]; done))
  · exact FoSays.as (fo_choice F m nd nas w hA hN hs hcap) (by unfold fkB; rw [hk]; first | (simp; done) | (simp [atS]; done) | (simp [Bool.and_assoc]; done) | (simp [atS, Bool.and_assoc]; done) | (simp [btB]; done) | (simp [btB, Bool.and_assoc]; done) | (simp [atS, btB]; done) | (simp [atS, btB, Bool.and_assoc]; done))
  · exact FoSays.as (fo_while F m nd nas w hA hN hs hcap) (by unfold fkB; rw [hk]; first | (simp; done) | (simp [atS]; done) | (simp [Bool.and_assoc]; done) | (simp [atS, Bool.and_assoc]; done) | (simp [btB]; done) | (simp [btB, Bool.and_assoc]; done) | (simp [atS, btB]; done) | (simp [atS, btB, Bool.and_assoc]; done))
  · exact FoSays.as (fo_count F m nd nas w hA hN hs hcap) (by unfold fkB; rw [hk]; first | (simp; done) | (simp [atS]; done) | (simp [Bool.and_assoc]; done) | (simp [atS, Bool.and_assoc]; done) | (simp [btB]; done) | (simp [btB, Bool.and_assoc]; done) | (simp [atS, btB]; done) | (simp [atS, btB, Bool.and_assoc]; done))
  · exact FoSays.as (fo_each F m nd nas w hA hN hs hcap) (by unfold fkB; rw [hk]; first | (simp; done) | (simp [atS]; done) | (simp [Bool.and_assoc]; done) | (simp [atS, Bool.and_assoc]; done) | (simp [btB]; done) | (simp [btB, Bool.and_assoc]; done) | (simp [atS, btB]; done) | (simp [atS, btB, Bool.and_assoc]; done))
  · exact FoSays.as (fo_bare F m nd nas w hA hN hs hcap) (by unfold fkB; rw [hk]; first | (simp; done) | (simp [atS]; done) | (simp [Bool.and_assoc]; done) | (simp [atS, Bool.and_assoc]; done) | (simp [btB]; done) | (simp [btB, Bool.and_assoc]; done) | (simp [atS, btB]; done) | (simp [atS, btB, Bool.and_assoc]; done))
  · exact FoSays.as (fo_bare F m nd nas w hA hN hs hcap) (by unfold fkB; rw [hk]; first | (simp; done) | (simp [atS]; done) | (simp [Bool.and_assoc]; done) | (simp [atS, Bool.and_assoc]; done) | (simp [btB]; done) | (simp [btB, Bool.and_assoc]; done) | (simp [atS, btB]; done) | (simp [atS, btB, Bool.and_assoc]; done))
  · exact FoSays.as (fo_results F m nd nas w hA hN hs hcap) (by unfold fkB; rw [hk]; first | (simp; done) | (simp [atS]; done) | (simp [Bool.and_assoc]; done) | (simp [atS, Bool.and_assoc]; done) | (simp [btB]; done) | (simp [btB, Bool.and_assoc]; done) | (simp [atS, btB]; done) | (simp [atS, btB, Bool.and_assoc]; done))
  · exact FoSays.as (fo_try F m nd nas w hA hN hs hcap) (by unfold fkB; rw [hk]; first | (simp; done) | (simp [atS]; done) | (simp [Bool.and_assoc]; done) | (simp [atS, Bool.and_assoc]; done) | (simp [btB]; done) | (simp [btB, Bool.and_assoc]; done) | (simp [atS, btB]; done) | (simp [atS, btB, Bool.and_assoc]; done))
  · exact FoSays.as (fo_oneExpression F m nd nas w hA hN hs hcap) (by unfold fkB; rw [hk]; first | (simp; done) | (simp [atS]; done) | (simp [Bool.and_assoc]; done) | (simp [atS, Bool.and_assoc]; done) | (simp [btB]; done) | (simp [btB, Bool.and_assoc]; done) | (simp [atS, btB]; done) | (simp [atS, btB, Bool.and_assoc]; done))
  · exact FoSays.as (fo_oneCall F m nd nas w hA hN hs hcap) (by unfold fkB; rw [hk]; first | (simp; done) | (simp [atS]; done) | (simp [Bool.and_assoc]; done) | (simp [atS, Bool.and_assoc]; done) | (simp [btB]; done) | (simp [btB, Bool.and_assoc]; done) | (simp [atS, btB]; done) | (simp [atS, btB, Bool.and_assoc]; done))
  · exact FoSays.as (fo_bare F m nd nas w hA hN hs hcap) (by unfold fkB; rw [hk]; first | (simp; done) | (simp [atS]; done) | (simp [Bool.and_assoc]; done) | (simp [atS, Bool.and_assoc]; done) | (simp [btB]; done) | (simp [btB, Bool.and_assoc]; done) | (simp [atS, btB]; done) | (simp [atS, btB, Bool.and_assoc]; done))
  · exact FoSays.as (fo_bare F m nd nas w hA hN hs hcap) (by unfold fkB; rw [hk]; first | (simp; done) | (simp [atS]; done) | (simp [Bool.and_assoc]; done) | (simp [atS, Bool.and_assoc]; done) | (simp [btB]; done) | (simp [btB, Bool.and_assoc]; done) | (simp [atS, btB]; done) | (simp [atS, btB, Bool.and_assoc]; done))
  · exact FoSays.as (fo_bare F m nd nas w hA hN hs hcap) (by unfold fkB; rw [hk]; first | (simp; done) | (simp [atS]; done) | (simp [Bool.and_assoc]; done) | (simp [atS, Bool.and_assoc]; done) | (simp [btB]; done) | (simp [btB, Bool.and_assoc]; done) | (simp [atS, btB]; done) | (simp [atS, btB, Bool.and_assoc]; done))
  · exact FoSays.as (fo_integer F m nd nas w hA hN hs hcap) (by unfold fkB; rw [hk]; first | (simp; done) | (simp [atS]; done) | (simp [Bool.and_assoc]; done) | (simp [atS, Bool.and_assoc]; done) | (simp [btB]; done) | (simp [btB, Bool.and_assoc]; done) | (simp [atS, btB]; done) | (simp [atS, btB, Bool.and_assoc]; done))
  · exact FoSays.as (fo_fraction F m nd nas w hA hN hs hcap) (by unfold fkB; rw [hk]; first | (simp; done) | (simp [atS]; done) | (simp [Bool.and_assoc]; done) | (simp [atS, Bool.and_assoc]; done) | (simp [btB]; done) | (simp [btB, Bool.and_assoc]; done) | (simp [atS, btB]; done) | (simp [atS, btB, Bool.and_assoc]; done))
  · exact FoSays.as (fo_text F m nd nas w hA hN hs hcap) (by unfold fkB; rw [hk]; first | (simp; done) | (simp [atS]; done) | (simp [Bool.and_assoc]; done) | (simp [atS, Bool.and_assoc]; done) | (simp [btB]; done) | (simp [btB, Bool.and_assoc]; done) | (simp [atS, btB]; done) | (simp [atS, btB, Bool.and_assoc]; done))
  · exact FoSays.as (fo_oneRef F m nd nas w hA hN hs hcap) (by unfold fkB; rw [hk]; first | (simp; done) | (simp [atS]; done) | (simp [Bool.and_assoc]; done) | (simp [atS, Bool.and_assoc]; done) | (simp [btB]; done) | (simp [btB, Bool.and_assoc]; done) | (simp [atS, btB]; done) | (simp [atS, btB, Bool.and_assoc]; done))
  · exact FoSays.as (fo_oneRef F m nd nas w hA hN hs hcap) (by unfold fkB; rw [hk]; first | (simp; done) | (simp [atS]; done) | (simp [Bool.and_assoc]; done) | (simp [atS, Bool.and_assoc]; done) | (simp [btB]; done) | (simp [btB, Bool.and_assoc]; done) | (simp [atS, btB]; done) | (simp [atS, btB, Bool.and_assoc]; done))
  · exact FoSays.as (fo_builtin F m nd nas w hA hN hs hcap) (by unfold fkB; rw [hk]; simp [Bool.and_assoc])
  · exact FoSays.as (fo_twoExpressions F m nd nas w hA hN hs hcap) (by unfold fkB; rw [hk]; first | (simp; done) | (simp [atS]; done) | (simp [Bool.and_assoc]; done) | (simp [atS, Bool.and_assoc]; done) | (simp [btB]; done) | (simp [btB, Bool.and_assoc]; done) | (simp [atS, btB]; done) | (simp [atS, btB, Bool.and_assoc]; done))
  · exact FoSays.as (fo_twoExpressions F m nd nas w hA hN hs hcap) (by unfold fkB; rw [hk]; first | (simp; done) | (simp [atS]; done) | (simp [Bool.and_assoc]; done) | (simp [atS, Bool.and_assoc]; done) | (simp [btB]; done) | (simp [btB, Bool.and_assoc]; done) | (simp [atS, btB]; done) | (simp [atS, btB, Bool.and_assoc]; done))
  · exact FoSays.as (fo_unary F m nd nas w hA hN hs hcap) (by unfold fkB; rw [hk]; first | (simp; done) | (simp [atS]; done) | (simp [Bool.and_assoc]; done) | (simp [atS, Bool.and_assoc]; done) | (simp [btB]; done) | (simp [btB, Bool.and_assoc]; done) | (simp [atS, btB]; done) | (simp [atS, btB, Bool.and_assoc]; done))
  · exact FoSays.as (fo_binary F m nd nas w hA hN hs hcap) (by unfold fkB; rw [hk]; first | (simp; done) | (simp [atS]; done) | (simp [Bool.and_assoc]; done) | (simp [atS, Bool.and_assoc]; done) | (simp [btB]; done) | (simp [btB, Bool.and_assoc]; done) | (simp [atS, btB]; done) | (simp [atS, btB, Bool.and_assoc]; done))
  · exact FoSays.as (fo_twoExpressions F m nd nas w hA hN hs hcap) (by unfold fkB; rw [hk]; first | (simp; done) | (simp [atS]; done) | (simp [Bool.and_assoc]; done) | (simp [atS, Bool.and_assoc]; done) | (simp [btB]; done) | (simp [btB, Bool.and_assoc]; done) | (simp [atS, btB]; done) | (simp [atS, btB, Bool.and_assoc]; done))
  · exact FoSays.as (fo_call F m nd nas w hA hN hs hcap) (by unfold fkB; rw [hk]; simp [Bool.and_assoc])
  · exact FoSays.as (fo_table F m nd nas w hA hN hs hcap) (by unfold fkB; rw [hk]; first | (simp; done) | (simp [atS]; done) | (simp [Bool.and_assoc]; done) | (simp [atS, Bool.and_assoc]; done) | (simp [btB]; done) | (simp [btB, Bool.and_assoc]; done) | (simp [atS, btB]; done) | (simp [atS, btB, Bool.and_assoc]; done))
  · exact FoSays.as (fo_oneRef F m nd nas w hA hN hs hcap) (by unfold fkB; rw [hk]; first | (simp; done) | (simp [atS]; done) | (simp [Bool.and_assoc]; done) | (simp [atS, Bool.and_assoc]; done) | (simp [btB]; done) | (simp [btB, Bool.and_assoc]; done) | (simp [atS, btB]; done) | (simp [atS, btB, Bool.and_assoc]; done))
  · exact FoSays.as (fo_bare F m nd nas w hA hN hs hcap) (by unfold fkB; rw [hk]; first | (simp; done) | (simp [atS]; done) | (simp [Bool.and_assoc]; done) | (simp [atS, Bool.and_assoc]; done) | (simp [btB]; done) | (simp [btB, Bool.and_assoc]; done) | (simp [atS, btB]; done) | (simp [atS, btB, Bool.and_assoc]; done))
  · exact FoSays.as (fo_oneList F m nd nas w hA hN hs hcap) (by unfold fkB; rw [hk]; first | (simp; done) | (simp [atS]; done) | (simp [Bool.and_assoc]; done) | (simp [atS, Bool.and_assoc]; done) | (simp [btB]; done) | (simp [btB, Bool.and_assoc]; done) | (simp [atS, btB]; done) | (simp [atS, btB, Bool.and_assoc]; done))
end Go.Proofs.YtdialodjllpgaaaGreatDoor

/-! The program's check of a unit: nodes from the last one down (an iterator). -/
namespace Go.Proofs.YtdialodjllpgaaaGreatDoor
open Go.RowKit Go.Shelf
attribute [local go_sem] run_store_float
attribute [local go_sem] Oper.semAt_some

set_option maxRecDepth 100000 in
set_option maxHeartbeats 2000000 in
theorem backward_in (F : Fence) (n : Nat) (hF : F.fn 123) (hro : F.round = none) (a : Option Addr) (m cap : Nat) (w : World) :
    CallsIn F n Tryz.prog 123 #[.slice a m cap] w fun e w' => e = .returned (.func (.func 158) #[] #[.pointer (some ⟨w.heap.size, 0, none⟩)]) ∧ w' = w.alloc (.cells #[.slice a m cap] 88) := by
  refine callsIn_of_wp Tryz.func123 rfl hF ?_ hro
  simp only [Tryz.ntmps123, List.size_toArray, List.length_cons, List.length_nil, Nat.reduceAdd, Nat.reduceSub, Array.replicate_succ, Array.replicate_zero, List.push_toArray, List.append_toArray, List.nil_append, List.cons_append]
  gi_wp2
  go_ret
  exact ⟨rfl, rfl⟩

set_option maxRecDepth 100000 in
set_option maxHeartbeats 4000000 in
theorem backward1_in (F : Fence) (m : Nat) (hF : F.fn 158) (hro : F.round = none) (hm : 1 ≤ m) (l P1 B : Nat) (a : Option Addr) (n cap : Nat) (nd : Nat → ND) (nas : Nat → NA) (hn : n ≤ 3000) (J Jx : List (Fin n) → World → Prop) (w W : World)
    (hW : Below w.heap.size w W)
    (hY : ∀ (pre : List (Fin n)) (x : Fin n) (W1 : World), J pre W1 → pre.length < n → YieldAt F (m - 1) Tryz.prog l #[.int .i64 (x.val : Int), nodeV (nd x.val) (nas x.val)] W1 fun e W' =>
      (e = .returned (.bool true) ∧ J (pre ++ [x]) W' ∧ KN w.heap.size B W1 W') ∨ (e = .returned (.bool false) ∧ Jx (pre ++ [x]) W'))
    (hP1 : P1 < w.heap.size) (hPB : P1 ≠ B) (hbB : ∀ b off, 0 < n → a = some ⟨b, off, none⟩ → b ≠ B)
    (c1 : w.cell? ⟨P1, 0, none⟩ = some (.slice a n cap)) (hT : RowN 8 0 w a n fun i => nodeC (nd i) (nas i)) (h0 : J [] W) :
    CallsIn F m Tryz.prog 158 #[.func (.yield l) #[] #[], .pointer (some ⟨P1, 0, none⟩)] W fun e W' => (∃ v, e = .returned v) ∧
      ((∃ ys, ys.map Fin.val = downL n n ∧ J ys W') ∨ (∃ pre, True ∧ Jx pre W')) := by
  have HT : Hid (RowN 8 0 w a n fun i => nodeC (nd i) (nas i)) := hT
  have d1 := (hW.cell (p := ⟨P1, 0, none⟩) hP1).trans c1
  have HY : Hid (∀ (pre : List (Fin n)) (x : Fin n) (W1 : World), J pre W1 → pre.length < n → YieldAt F (m - 1) Tryz.prog l #[.int .i64 (x.val : Int), nodeV (nd x.val) (nas x.val)] W1 fun e W' =>
      (e = .returned (.bool true) ∧ J (pre ++ [x]) W' ∧ KN w.heap.size B W1 W') ∨ (e = .returned (.bool false) ∧ Jx (pre ++ [x]) W')) := hY
  clear hT hY
  refine callsIn_of_wp Tryz.func158 rfl hF ?_ hro
  simp only [Tryz.ntmps158, List.size_toArray, List.length_cons, List.length_nil, Nat.reduceAdd, Nat.reduceSub, Array.replicate_succ, Array.replicate_zero, List.push_toArray, List.append_toArray, List.nil_append, List.cons_append]
  gi_wp2
  gi_loopw [3] (fun i wr => ∃ (k : Nat) (pre : List (Fin n)), k ≤ n ∧ i = .int .i64 ((n : Int) - 1 - k) ∧ Hid (pre.map Fin.val = downL n k) ∧ J pre wr ∧ KN w.heap.size B w wr)
    (fun i _ => (intOf i + 1).toNat)
  case atStart => exact ⟨0, [], Nat.zero_le _, by go_num, rfl, h0, KN.of hW⟩
  case round =>
    obtain ⟨k, pre, hk, rfl, HP, hJs, hnx⟩ := hrel
    have HJs : Hid (J pre wr) := hJs
    clear hJs
    by_cases hkn : k < n
    · obtain ⟨x, hx⟩ : ∃ x : Nat, (n : Int) - 1 - k = x := ⟨n - 1 - k, by omega⟩
      have hxe : x = n - 1 - k := by omega
      have hxn : x < n := by omega
      rw [hx]
      obtain ⟨b, off, rfl, _, hb, hc⟩ := HT.out (by omega)
      have hbB := hbB b off (by omega) rfl
      have e1 := (hnx.cell (p := ⟨P1, 0, none⟩) hP1 hPB).trans c1
      have hc' : ∀ j, j < 8 → wr.cell? ⟨b, off + x * 8 + j, none⟩ = (nodeC (nd x) (nas x))[j]? := fun j hj => (hnx.cell (p := ⟨b, off + x * 8 + j, none⟩) hb hbB).trans (hc x hxn j hj)
      have g0 := hc' 0 (by omega)
      have g1 := hc' 1 (by omega)
      have g2 := hc' 2 (by omega)
      have g3 := hc' 3 (by omega)
      have g4 := hc' 4 (by omega)
      have g5 := hc' 5 (by omega)
      have g6 := hc' 6 (by omega)
      have g7 := hc' 7 (by omega)
      simp only [List.getElem?_toArray, List.getElem?_cons_zero, List.getElem?_cons_succ, Nat.add_zero] at g0 g1 g2 g3 g4 g5 g6 g7
      clear hc' c1 d1 hc
      have hpl : pre.length = k := by rw [← List.length_map (f := Fin.val), HP.out, downL_len]
      obtain ⟨fn, tmps, assign, body, hy, hR⟩ := HY.out _ ⟨x, hxn⟩ _ HJs.out (by omega)
      clear hpl
      have HX : Hid ((pre ++ [(⟨x, hxn⟩ : Fin n)]).map Fin.val = downL n (k + 1)) := by show _ = _; rw [List.map_append, HP.out, downL_succ, ← hxe]; rfl
      clear hxe
      gi_wp2
      refine hR.mono ?_
      rintro e W3 (⟨rfl, hJ3, hk3⟩ | ⟨rfl, hJx3⟩)
      · gi_wp2
        go_roundw
        case rel => exact ⟨k + 1, _, by omega, by have := hx; go_num, HX, hJ3, hnx.trans hk3⟩
        case measure => simp [intOf]
      · gi_wp2
        refine bodyPost_ret (results_none rfl _ _ _) rfl ?_
        exact ⟨⟨_, rfl⟩, .inr ⟨_, trivial, hJx3⟩⟩
    · obtain rfl : k = n := by omega
      gi_wp2
      go_end0
      exact ⟨⟨_, rfl⟩, .inl ⟨_, HP.out, HJs.out⟩⟩

theorem backward_stops (F : Fence) (m : Nat) (hF : F.fn 158) (hro : F.round = none) (hm : 1 ≤ m) (P1 B : Nat) (a : Option Addr) (n cap : Nat) (nd : Nat → ND) (nas : Nat → NA) (hn : n ≤ 3000) (w : World)
    (hP1 : P1 < w.heap.size) (hPB : P1 ≠ B) (hbB : ∀ b off, 0 < n → a = some ⟨b, off, none⟩ → b ≠ B)
    (c1 : w.cell? ⟨P1, 0, none⟩ = some (.slice a n cap)) (hT : RowN 8 0 w a n fun i => nodeC (nd i) (nas i)) :
    SeqStopsK F m Tryz.prog 158 #[.pointer (some ⟨P1, 0, none⟩)] (fun x : Fin n => #[.int .i64 (x.val : Int), nodeV (nd x.val) (nas x.val)]) (KN w.heap.size B) (fun ys => ys.map Fin.val = downL n n) (fun _ => True) n w := fun l J Jx W hW _ _ hY h0 =>
  backward1_in F m hF hro hm l P1 B a n cap nd nas hn J Jx w W hW hY hP1 hPB hbB c1 hT h0
end Go.Proofs.YtdialodjllpgaaaGreatDoor

/-! Tables: put. -/
namespace Go.Proofs.YtdialodjllpgaaaGreatDoor
open Go.RowKit
attribute [local go_sem] run_store_float
attribute [local go_sem ↓] Go.wp_at_zero Go.wp_at_succ

/-- a table's pairs and turns -/
structure TD where
  n : Nat
  t : Int
  q : Nat → PD
def setV (q : Nat → PD) (i : Nat) (v : VD) : Nat → PD := fun j => if j = i then ⟨(q i).key, v, (q i).turn⟩ else q j
def addP (q : Nat → PD) (n : Nat) (p : PD) : Nat → PD := fun j => if j = n then p else q j
/-- what Put makes of a valid table -/
def putD (n : Nat) (t : Int) (q : Nat → PD) (y v : VD) : TD := match fnd q (mk y) n with
  | some i => if v.k = 0 then ⟨n - 1, t, rmv q i⟩ else ⟨n, t, setV q i v⟩
  | none => if v.k = 0 then ⟨n, t, q⟩ else if n < 500 ∧ t < 1000000000000 then ⟨n + 1, t + 1, addP q n ⟨y, v, t + 1⟩⟩ else ⟨n, t, q⟩

theorem CO.new {N : Nat} {w : World} {X : Nat} {a : Option Addr} {n cap B : Nat} {t : Int} {q : Nat → PD} {L : List (Mk × Nat)} (hN : N ≤ w.heap.size) (hX : XO N w X a n cap B t q L) (y v : VD) : CO N w X a n cap B t q L w.heap.size (w.heap.size + 1) y v ((w.alloc (.cells (vCs y) 56)).alloc (.cells (vCs v) 56)) := by
  have h1 := Has.new w (vCs y) 56
  have h2 := Has.new (w.alloc (.cells (vCs y) 56)) (vCs v) 56
  rw [World.size_alloc] at h2
  exact ⟨(hX.alloc _).alloc _, h1.alloc _, h2, ((Below.refl N w).alloc hN _).alloc (by rw [World.size_alloc]; omega) _, hN, fun b off sp e => by have := own_lt hX.own e; simp at this; omega, fun o _ => by
    have hlt := hX.lt
    rw [World.cell?_alloc_past _ _ _ (by simp; omega), World.cell?_alloc_past _ _ _ hlt], fun k hk _ _ _ => by
    rw [Below.heap_alloc _ _ _ (by simp; omega), Below.heap_alloc _ _ _ hk]⟩

set_option maxRecDepth 100000 in
set_option maxHeartbeats 8000000 in
theorem put_none (N X : Nat) (a : Option Addr) (n cap B : Nat) (t : Int) (q : Nat → PD) (L : List (Mk × Nat)) (y v : VD) (w : World) (hN : N ≤ w.heap.size) (hn : n ≤ 500) (t0 : 0 ≤ t) (hL : ∀ u, MapIs u B L → (Instr.lookup 241 (.map (some B)) (mkV (mk y)) true).run Tryz.prog u = .ok (.tuple #[.int .i64 0, .bool false]) u) (hX : XO N w X a n cap B t q L) :
    Calls Tryz.prog 260 #[.pointer (some ⟨X, 0, none⟩), y.v, v.v] w fun e w' => e = .returned (.tuple #[]) ∧ (if v.k = 0 ∨ ¬ (n < 500 ∧ t < 1000000000000) then ∃ L', XO N w' X a n cap B t q L' else ∃ a' cap', XO N w' X a' (n + 1) cap' B (t + 1) (addP q n ⟨y, v, t + 1⟩) (upd L (mk y) n) ∧ RowTo w a a') ∧ Below N w w' ∧ (∀ o, 3 ≤ o → w'.cell? ⟨X, o, none⟩ = w.cell? ⟨X, o, none⟩) ∧ FrX w w' X B (Value.slice a n cap).ownBlock := by
  have hC : CO N w X a n cap B t q L w.heap.size (w.heap.size + 1) y v ((w.alloc (.cells (vCs y) 56)).alloc (.cells (vCs v) 56)) := CO.new hN hX y v
  have HM : Hid (∀ w, Calls Tryz.prog 184 #[y.v] w fun e w' => e = .returned (mkV (mk y)) ∧ Below w.heap.size w w') := fun w => markOf_calls y w
  have HL : Hid (∀ u, MapIs u B L → (Instr.lookup 241 (.map (some B)) (mkV (mk y)) true).run Tryz.prog u = .ok (.tuple #[.int .i64 0, .bool false]) u) := fun u h => hL u h
  obtain ⟨m, HE⟩ : ∃ m, Hid (mk y = m) := ⟨_, rfl⟩
  rw [HE.out] at HM HL ⊢
  clear hX hN hL
  go_enter Tryz.func260, Tryz.ntmps260
  go_wp2_with fail
  obtain ⟨W1, hW1⟩ : ∃ W1, (w.alloc (.cells (vCs y) 56)).alloc (.cells (vCs v) 56) = W1 := ⟨_, rfl⟩
  rw [hW1] at hC ⊢
  clear hW1
  obtain ⟨KB, hKB⟩ : ∃ KB, w.heap.size = KB := ⟨_, rfl⟩
  obtain ⟨VB, hVB⟩ : ∃ VB, KB + 1 = VB := ⟨_, rfl⟩
  rw [hKB, hVB] at hC
  rw [hKB, hVB]
  clear hVB
  have HC : Hid (CO N w X a n cap B t q L KB VB y v W1) := hC
  clear hC
  go_region_held3 (fun w' => w'.cell? ⟨X, 0, none⟩ = some (.slice a n cap) ∧ w'.cell? ⟨X, 1, none⟩ = some (.map (some B)) ∧ w'.cell? ⟨KB, 0, none⟩ = some (.int .i64 y.k) ∧ w'.cell? ⟨KB, 1, none⟩ = some (.int .i64 y.n) ∧ w'.cell? ⟨KB, 2, none⟩ = some (.float .f64 y.f) ∧ w'.cell? ⟨KB, 3, none⟩ = some (.string y.s) ∧ w'.cell? ⟨KB, 4, none⟩ = some (.int .i64 y.r)) (first | (with_reducible exact HC4.out.s2) | (with_reducible exact HC.out.s2) | (with_reducible exact HC.out.drew.s2)) ((go_at_call 184; refine (HM.out _).mono ?_; rintro e w4 ⟨rfl, hb4⟩; have HC4 : Hid (CO N w X a n cap B t q L KB VB y v w4) := (by first | exact HC.out.call hb4 | exact HC.out.drew.call hb4); clear HC hb4; have hlk := HL.out w4 HC4.out.x.map))
  clear HM HL hlk
  have c0 := HC4.out.x.c0
  have c2 := HC4.out.x.c2
  have k0 := HC4.out.k.at 0
  have k1 := HC4.out.k.at 1
  have k2 := HC4.out.k.at 2
  have k3 := HC4.out.k.at 3
  have k4 := HC4.out.k.at 4
  have v0 := HC4.out.v.at 0
  have v1 := HC4.out.v.at 1
  have v2 := HC4.out.v.at 2
  have v3 := HC4.out.v.at 3
  have v4 := HC4.out.v.at 4
  simp only [List.getElem?_toArray, List.getElem?_cons_zero, List.getElem?_cons_succ] at k0 k1 k2 k3 k4 v0 v1 v2 v3 v4
  by_cases hv : v.k = 0
  · go_wp2_with fail
    go_end0
    exact ⟨rfl, ⟨_, HC4.out.x⟩, HC4.out.b, HC4.out.tl, HC4.out.ex⟩
  · by_cases hn5 : n < 500
    · have hn6 : (n : Int) < 500 := by omega
      by_cases ht : t < 1000000000000
      · go_wp2_with (go_at_call 307; refine (comes_calls N X a n cap B t q L y v _ (Nat.le_trans HC4.out.s HC4.out.b.size) hn5 t0 ht HC4.out.x).mono ?_; rintro e w5 ⟨rfl, hx5, hb5, ht5, he5⟩)
        go_end0
        rw [HE.out] at hx5
        have hs4 := HC4.out.b.size
        obtain ⟨a', cap', hx6, hr6⟩ := hx5
        exact ⟨rfl, ⟨a', ⟨cap', hx6⟩, fun b e => (hr6 b e).imp id (fun h => Nat.le_trans hs4 h)⟩, HC4.out.b.trans hb5, fun o ho => (ht5 o ho).trans (HC4.out.tl o ho), fun k hk h1 h2 h3 => (he5 k (Nat.lt_of_lt_of_le hk hs4) h1 h2 h3).trans (HC4.out.ex k hk h1 h2 h3)⟩
      · go_wp2_with fail
        go_end0
        exact ⟨rfl, ⟨_, HC4.out.x⟩, HC4.out.b, HC4.out.tl, HC4.out.ex⟩
    · have hn6 : ¬ (n : Int) < 500 := by omega
      go_wp2_with fail
      go_end0
      exact ⟨rfl, ⟨_, HC4.out.x⟩, HC4.out.b, HC4.out.tl, HC4.out.ex⟩

structure S4 (X g n cap VB : Nat) (v : VD) (w' : World) : Prop where
  c : w'.cell? ⟨X, 0, none⟩ = some (.slice (some ⟨g, 0, none⟩) n cap) ∧ w'.cell? ⟨VB, 0, none⟩ = some (.int .i64 v.k) ∧ w'.cell? ⟨VB, 1, none⟩ = some (.int .i64 v.n) ∧ w'.cell? ⟨VB, 2, none⟩ = some (.float .f64 v.f) ∧ w'.cell? ⟨VB, 3, none⟩ = some (.string v.s) ∧ w'.cell? ⟨VB, 4, none⟩ = some (.int .i64 v.r)
end Go.Proofs.YtdialodjllpgaaaGreatDoor
