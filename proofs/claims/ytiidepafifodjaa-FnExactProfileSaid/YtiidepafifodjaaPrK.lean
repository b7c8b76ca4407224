import Derived.Test.YtiidepafifodjaaMpA
import Derived.Test.YtiidepafifodjaaOwA
import Derived.Maps.Range
import Derived.RangeFuncNested
import Derived.RangeFuncBound
import Derived.RangeFuncCalls
import Derived.RangeFuncLeaves
import Derived.Shelf.Abstract
import Derived.OwnWalkIn
import Derived.TacticsInMore
import Derived.LoopNIn
import Derived.LoopIn
/-! The keys of a map with struct keys, one by one. -/
namespace Go.Proofs.Ytiidepafifodjaa
open Go.RowKit Go.Shelf
attribute [local go_sem] run_store_float
attribute [local go_sem] Oper.semAt_some

theorem RngH.left_eq {w : World} {b r : Nat} {L : List (SP × Int)} {ys : List SP} (h : RngH w b r L ys) : w.rangeLeft b r = L.length - ys.length := by
  obtain ⟨es, c, since, seen, c0, hb, hr, _, _, _, _, _, hp⟩ := h
  have h1 := hp.length_eq
  simp only [List.length_append, List.length_map, Array.length_toList] at h1
  simp only [World.rangeLeft, hb, hr]
  omega

set_option maxRecDepth 100000 in
set_option maxHeartbeats 2000000 in
theorem keys_in (F : Fence) (n : Nat) (hF : F.fn 53) (hro : F.round = none) (mb : Option Nat) (w : World) :
    CallsIn F n Try.prog 53 #[.map mb] w fun e w' => e = .returned (.func (.func 103) #[] #[.pointer (some ⟨w.heap.size, 0, none⟩)]) ∧ w' = w.alloc (.cells #[.map mb] 84) := by
  refine callsIn_of_wp Try.func53 rfl hF ?_ hro
  simp only [Try.ntmps53, List.size_toArray, List.length_cons, List.length_nil, Nat.reduceAdd, Nat.reduceSub, Array.replicate_succ, Array.replicate_zero, List.push_toArray, List.append_toArray, List.nil_append, List.cons_append]
  gi_wp2
  go_ret
  exact ⟨rfl, rfl⟩

set_option maxRecDepth 100000 in
set_option maxHeartbeats 4000000 in
theorem keys1_in (F : Fence) (m : Nat) (hF : F.fn 103) (hro : F.round = none) (hm : 1 ≤ m) (l Bm b : Nat) (L : List (SP × Int)) (J Jx : List SP → World → Prop) (W : World)
    (hJ : AbidesFrom W.heap.size J)
    (hY : ∀ pre x W1, J pre W1 → pre.length < L.length → YieldAt F (m - 1) Try.prog l #[spV x] W1 fun e W' =>
      (e = .returned (.bool true) ∧ J (pre ++ [x]) W' ∧ KeepsWalks W1 W') ∨ (e = .returned (.bool false) ∧ Jx (pre ++ [x]) W'))
    (c1 : W.cell? ⟨Bm, 0, none⟩ = some (.map (some b))) (hM : MapH W b L) (h0 : J [] W) :
    CallsIn F m Try.prog 103 #[.func (.yield l) #[] #[], .pointer (some ⟨Bm, 0, none⟩)] W fun e W' => (∃ v, e = .returned v) ∧
      ((∃ ys, ys.Perm (L.map (·.1)) ∧ J ys W') ∨ (∃ pre, True ∧ Jx pre W')) := by
  have HY : Hid (∀ pre x W1, J pre W1 → pre.length < L.length → YieldAt F (m - 1) Try.prog l #[spV x] W1 fun e W' =>
      (e = .returned (.bool true) ∧ J (pre ++ [x]) W' ∧ KeepsWalks W1 W') ∨ (e = .returned (.bool false) ∧ Jx (pre ++ [x]) W')) := hY
  have HJ : Hid (AbidesFrom W.heap.size J) := hJ
  clear hY hJ
  obtain ⟨w0, hrange, hR0, hg0, hs0⟩ := hM.range (P := Try.prog) Try.underlying84
  have HR0 : Hid (RngH w0 b W.heap.size L []) := hR0
  have HJ0 : Hid (J [] w0) := HJ.out [] W w0 none h0 hg0 (fun r e => by cases e)
  clear hR0 hg0 hs0 h0 hM
  refine callsIn_of_wp Try.func103 rfl hF ?_ hro
  simp only [Try.ntmps103, List.size_toArray, List.length_cons, List.length_nil, Nat.reduceAdd, Nat.reduceSub, Array.replicate_succ, Array.replicate_zero, List.push_toArray, List.append_toArray, List.nil_append, List.cons_append]
  gi_wp2
  clear hrange c1
  generalize hWs : W.heap.size = r at *
  gi_loopw [3] (fun _ wr => ∃ (ys : List SP), Hid (RngH wr b r L ys) ∧ Hid (J ys wr)) (fun _ wr => wr.rangeLeft b r)
  case atStart => exact ⟨[], HR0, HJ0⟩
  case round =>
    clear HR0 HJ0
    obtain ⟨ys, HR, HJs⟩ := hrel
    rcases HR.out.next (P := Try.prog) 0 with ⟨hp, hrun⟩ | ⟨x, v, w2, hlt, hrun, hR2, hg2, hs2, hen⟩
    · have HP : Hid (ys.Perm (L.map (·.1))) := hp
      clear hp
      gi_wp2
      go_end0
      exact ⟨⟨_, rfl⟩, .inl ⟨ys, HP.out, HJs.out⟩⟩
    · have HR2 : Hid (RngH w2 b r L (ys ++ [x])) := hR2
      have HJ2 : Hid (J ys (w2.alloc (.cells #[.int .i64 x.1, .int .i64 x.2] 86))) := HJ.out _ _ _ none (HJ.out ys wr w2 (some r) HJs.out hg2 (fun k e => by cases e; exact ⟨Nat.le_refl _, HR.out.walk⟩)) (World.grownBy_alloc w2 _ none) (fun k e => by cases e)
      have HL : Hid (ys.length < L.length) := hlt
      obtain ⟨fn, tmps, assign, body, hy, hRd⟩ := HY.out _ x _ HJ2.out hlt
      clear hR2 hg2 hs2 hlt
      gi_wp2
      refine hRd.mono ?_
      rintro e W3 (⟨rfl, hJ3, hk3⟩ | ⟨rfl, hJx3⟩)
      · have HR3 : Hid (RngH W3 b r L (ys ++ [x])) := HR2.out.of_walks ((KeepsWalks.alloc _ _).trans hk3)
        have HJ3 : Hid (J (ys ++ [x]) W3) := hJ3
        clear hJ3 hk3
        gi_wp2
        go_roundw
        case rel => exact ⟨ys ++ [x], HR3, HJ3⟩
        case measure => rw [HR3.out.left_eq, HR.out.left_eq]; have := HL.out; simp; omega
      · gi_wp2
        refine bodyPost_ret (results_none rfl _ _ _) rfl ?_
        exact ⟨⟨_, rfl⟩, .inr ⟨_, trivial, hJx3⟩⟩

theorem keys_stops (F : Fence) (m : Nat) (hF : F.fn 103) (hro : F.round = none) (hm : 1 ≤ m) (Bm b : Nat) (L : List (SP × Int)) (w : World) (hBm : Bm < w.heap.size)
    (c1 : w.cell? ⟨Bm, 0, none⟩ = some (.map (some b))) (hM : MapH w b L) :
    SeqStopsK F m Try.prog 103 #[.pointer (some ⟨Bm, 0, none⟩)] (fun x : SP => #[spV x]) KeepsWalks (fun ys => ys.Perm (L.map (·.1))) (fun _ => True) L.length w := fun l J Jx W hW hJ _ hY h0 =>
  keys1_in F m hF hro hm l Bm b L J Jx W hJ hY ((hW.cell (p := ⟨Bm, 0, none⟩) hBm).trans c1) (hM.below hW) h0
end Go.Proofs.Ytiidepafifodjaa
