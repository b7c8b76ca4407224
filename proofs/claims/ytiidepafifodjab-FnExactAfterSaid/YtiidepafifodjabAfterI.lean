import Derived.Test.YtiidepafifodjabTabS
import Derived.RangeFuncNested
import Derived.RangeFuncBound
import Derived.RangeFuncCalls
import Derived.RangeFuncLeaves
import Derived.Shelf.Abstract
import Derived.OwnWalkIn
import Derived.TacticsInMore
import Derived.LoopNIn
import Derived.LoopIn
/-! Tables: the iterator behind After. -/
namespace Go.Proofs.Ytiidepafifodjab
open Go.RowKit Go.Shelf
attribute [local go_sem] run_store_float
attribute [local go_sem] Oper.semAt_some

set_option maxRecDepth 100000 in
set_option maxHeartbeats 2000000 in
theorem after_in (F : Fence) (n : Nat) (hF : F.fn 80) (hro : F.round = none) (p : Option Addr) (T : Int) (w : World) :
    CallsIn F n Try.prog 80 #[.pointer p, .int .i64 T] w fun e w' => e = .returned (.func (.func 90) #[] #[.pointer (some ⟨w.heap.size, 0, none⟩), .pointer (some ⟨w.heap.size + 1, 0, none⟩)]) ∧ w' = (w.alloc (.cells #[.pointer p] 121)).alloc (.cells #[.int .i64 T] 3) := by
  refine callsIn_of_wp Try.func80 rfl hF ?_ hro
  simp only [Try.ntmps80, List.size_toArray, List.length_cons, List.length_nil, Nat.reduceAdd, Nat.reduceSub, Array.replicate_succ, Array.replicate_zero, List.push_toArray, List.append_toArray, List.nil_append, List.cons_append]
  gi_wp2
  go_ret
  exact ⟨rfl, rfl⟩

/-- what has come when k rounds are over -/
def came (q : Nat → PD) (T : Int) : Nat → List PD
  | 0 => []
  | k + 1 => if T < (q k).turn then came q T k ++ [q k] else came q T k
theorem came_len (q : Nat → PD) (T : Int) : ∀ k, (came q T k).length ≤ k
  | 0 => by simp [came]
  | k + 1 => by
    have := came_len q T k
    unfold came
    split
    · simp; omega
    · omega
theorem came_yes {q : Nat → PD} {T : Int} {k : Nat} (h : T < (q k).turn) : came q T (k + 1) = came q T k ++ [q k] := by rw [came, if_pos h]
theorem came_no {q : Nat → PD} {T : Int} {k : Nat} (h : ¬ T < (q k).turn) : came q T (k + 1) = came q T k := by rw [came, if_neg h]

set_option maxRecDepth 100000 in
set_option maxHeartbeats 4000000 in
theorem after1_in (F : Fence) (m : Nat) (hF : F.fn 90) (hro : F.round = none) (hm : 1 ≤ m) (l P1 P2 X : Nat) (a : Option Addr) (n cap : Nat) (q : Nat → PD) (T : Int) (hn : n ≤ 1048576) (J Jx : List PD → World → Prop) (w W : World)
    (hW : Below w.heap.size w W) (hJ : AbidesFrom W.heap.size J)
    (hY : ∀ pre x W1, J pre W1 → pre.length < n → YieldAt F (m - 1) Try.prog l #[pOf x] W1 fun e W' =>
      (e = .returned (.bool true) ∧ J (pre ++ [x]) W' ∧ Below w.heap.size W1 W') ∨ (e = .returned (.bool false) ∧ Jx (pre ++ [x]) W'))
    (hP1 : P1 < w.heap.size) (hP2 : P2 < w.heap.size) (hX : X < w.heap.size)
    (c1 : w.cell? ⟨P1, 0, none⟩ = some (.pointer (some ⟨X, 0, none⟩))) (c2 : w.cell? ⟨P2, 0, none⟩ = some (.int .i64 T)) (cx : w.cell? ⟨X, 0, none⟩ = some (.slice a n cap)) (hT : Tab w a n q) (h0 : J [] W) :
    CallsIn F m Try.prog 90 #[.func (.yield l) #[] #[], .pointer (some ⟨P1, 0, none⟩), .pointer (some ⟨P2, 0, none⟩)] W fun e W' => (∃ v, e = .returned v) ∧
      ((∃ ys, ys = came q T n ∧ J ys W') ∨ (∃ pre, (∃ k, k < n ∧ T < (q k).turn ∧ pre = came q T k ++ [q k]) ∧ Jx pre W')) := by
  have HT : Hid (Tab w a n q) := hT
  have d1 := (hW.cell (p := ⟨P1, 0, none⟩) hP1).trans c1
  have dx := (hW.cell (p := ⟨X, 0, none⟩) hX).trans cx
  have HY : Hid (∀ pre x W1, J pre W1 → pre.length < n → YieldAt F (m - 1) Try.prog l #[pOf x] W1 fun e W' =>
      (e = .returned (.bool true) ∧ J (pre ++ [x]) W' ∧ Below w.heap.size W1 W') ∨ (e = .returned (.bool false) ∧ Jx (pre ++ [x]) W')) := hY
  have HJ : Hid (AbidesFrom W.heap.size J) := hJ
  clear hT hY hJ
  refine callsIn_of_wp Try.func90 rfl hF ?_ hro
  simp only [Try.ntmps90, List.size_toArray, List.length_cons, List.length_nil, Nat.reduceAdd, Nat.reduceSub, Array.replicate_succ, Array.replicate_zero, List.push_toArray, List.append_toArray, List.nil_append, List.cons_append]
  gi_wp2
  gi_loopw [11] (fun i wr => ∃ k : Nat, k ≤ n ∧ i = .int .i64 k ∧ J (came q T k) wr ∧ Below w.heap.size w wr)
    (fun i _ => n - (intOf i).toNat)
  case atStart => exact ⟨0, Nat.zero_le _, rfl, h0, hW⟩
  case round =>
    obtain ⟨k, hk, rfl, hJs, hnx⟩ := hrel
    have HJs : Hid (J (came q T k) wr) := hJs
    clear hJs
    by_cases hkn : k < n
    · obtain ⟨b, off, rfl, hb, hc⟩ := HT.out (by omega)
      have e2 := (hnx.cell (p := ⟨P2, 0, none⟩) hP2).trans c2
      have z2 : P2 < wr.heap.size := Nat.lt_of_lt_of_le hP2 hnx.size
      have hc' : ∀ j, j < 11 → wr.cell? ⟨b, off + k * 11 + j, none⟩ = (pCells (q k))[j]? := fun j hj => (hnx.cell (p := ⟨b, off + k * 11 + j, none⟩) hb).trans (hc k hkn j hj)
      have g0 := hc' 0 (by omega)
      have g1 := hc' 1 (by omega)
      have g2 := hc' 2 (by omega)
      have g3 := hc' 3 (by omega)
      have g4 := hc' 4 (by omega)
      have g5 := hc' 5 (by omega)
      have g6 := hc' 6 (by omega)
      have g7 := hc' 7 (by omega)
      have g8 := hc' 8 (by omega)
      have g9 := hc' 9 (by omega)
      have g10 := hc' 10 (by omega)
      simp only [List.getElem?_toArray, List.getElem?_cons_zero, List.getElem?_cons_succ, Nat.add_zero] at g0 g1 g2 g3 g4 g5 g6 g7 g8 g9 g10
      clear hc'
      clear hc c1 c2 cx d1 dx
      have hJ2 : Hid (J (came q T k) (wr.alloc (.cells (pCells (q k)) 48))) := HJ.out _ _ _ none HJs.out (World.grownBy_alloc wr _ none) (fun r e => by cases e)
      by_cases ht : T < (q k).turn
      · obtain ⟨fn, tmps, assign, body, hy, hR⟩ := HY.out _ (q k) _ hJ2.out (Nat.lt_of_le_of_lt (came_len q T k) hkn)
        have Ht : Hid (T < (q k).turn) := ht
        gi_wp2
        refine hR.mono ?_
        rintro e W3 (⟨rfl, hJ3, hk3⟩ | ⟨rfl, hJx3⟩)
        · gi_wp2
          go_roundw
          case rel => exact ⟨k + 1, by omega, by go_num, by rw [came_yes Ht.out]; exact hJ3, (hnx.alloc hnx.size _).trans hk3⟩
          case measure => simp [intOf]; omega
        · gi_wp2
          refine bodyPost_ret (results_none rfl _ _ _) rfl ?_
          exact ⟨⟨_, rfl⟩, .inr ⟨_, ⟨k, hkn, Ht.out, rfl⟩, hJx3⟩⟩
      · have Ht : Hid (¬ T < (q k).turn) := ht
        gi_wp2
        refine ⟨fun _ h => (by cases h), ?_⟩
        gi_wp2
        go_roundw
        case rel => exact ⟨k + 1, by omega, by go_num, by rw [came_no (Int.not_lt.2 Ht.out)]; exact hJ2.out, hnx.alloc hnx.size _⟩
        case measure => simp [intOf]; omega
    · obtain rfl : k = n := by omega
      gi_wp2
      go_end0
      exact ⟨⟨_, rfl⟩, .inl ⟨_, rfl, HJs.out⟩⟩

theorem after_stops (F : Fence) (m : Nat) (hF : F.fn 90) (hro : F.round = none) (hm : 1 ≤ m) (P1 P2 X : Nat) (a : Option Addr) (n cap : Nat) (q : Nat → PD) (T : Int) (hn : n ≤ 1048576) (w : World)
    (hP1 : P1 < w.heap.size) (hP2 : P2 < w.heap.size) (hX : X < w.heap.size)
    (c1 : w.cell? ⟨P1, 0, none⟩ = some (.pointer (some ⟨X, 0, none⟩))) (c2 : w.cell? ⟨P2, 0, none⟩ = some (.int .i64 T)) (cx : w.cell? ⟨X, 0, none⟩ = some (.slice a n cap)) (hT : Tab w a n q) :
    SeqStopsK F m Try.prog 90 #[.pointer (some ⟨P1, 0, none⟩), .pointer (some ⟨P2, 0, none⟩)] (fun x : PD => #[pOf x]) (Below w.heap.size) (fun ys => ys = came q T n) (fun pre => ∃ k, k < n ∧ T < (q k).turn ∧ pre = came q T k ++ [q k]) n w := fun l J Jx W hW hJ _ hY h0 =>
  after1_in F m hF hro hm l P1 P2 X a n cap q T hn J Jx w W hW hJ hY hP1 hP2 hX c1 c2 cx hT h0
end Go.Proofs.Ytiidepafifodjab
