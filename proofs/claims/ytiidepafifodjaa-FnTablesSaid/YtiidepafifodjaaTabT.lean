import Derived.Test.YtiidepafifodjaaTabQ
import Derived.Test.YtiidepafifodjaaTabP
import Derived.RangeFuncNested
import Derived.RangeFuncBound
import Derived.RangeFuncCalls
import Derived.RangeFuncLeaves
import Derived.Shelf.Abstract
import Derived.OwnWalkIn
import Derived.TacticsInMore
import Derived.LoopNIn
import Derived.LoopIn
/-! Tables: Get, both. -/
namespace Go.Proofs.Ytiidepafifodjaa
open Go.RowKit
attribute [local go_sem] run_store_float
attribute [local go_sem ↓] Go.wp_at_zero Go.wp_at_succ

abbrev vzv : Value := vOf 0 0 0 ⟨#[]⟩ 0

/-- what Get answers -/
def GetSays (n : Nat) (t : Int) (q : Nat → PD) (x : VD) (v : VD) : Prop := (TabOk n t q ∧ v = if kc x = 0 then (gt q (mk (kv x)) n).val else vz) ∨ (¬ TabOk n t q ∧ v = vz)
theorem GetSays.one {n : Nat} {t : Int} {q : Nat → PD} {x u v : VD} (h : GetSays n t q x u) (k : GetSays n t q x v) : u = v := by
  rcases h with ⟨h1, h2⟩ | ⟨h1, h2⟩ <;> rcases k with ⟨k1, k2⟩ | ⟨k1, k2⟩
  · rw [h2, k2]
  · exact absurd h1 k1
  · exact absurd k1 h1
  · rw [h2, k2]

set_option maxRecDepth 100000 in
set_option maxHeartbeats 4000000 in
theorem implGet_calls (a : Option Addr) (n cap : Nat) (t : Int) (q : Nat → PD) (x : VD) (w : World) (hn : n ≤ 1048576) (hq : ∀ i, i < n → (q i).wf) (xf : x.f < 2 ^ 64) (hT : Tab w a n q) :
    Calls Try.prog 82 #[tOf a n cap t, x.v] w fun e w' => (∃ v : VD, e = .returned v.v ∧ GetSays n t q x v) ∧ Below w.heap.size w w' := by
  have hK : Hid (∀ w, Calls Try.prog 75 #[x.v] w fun e w' => e = .returned (kgV (kc x) (kv x)) ∧ Below w.heap.size w w') := by
    intro w; rw [← kyG_kv]; exact implKey_calls _ _ _ _ _ xf w
  have hQ : Hid (∀ i, i < n → (q i).wf) := hq
  have HT : Hid (Tab w a n q) := hT
  clear hq hT xf
  have p2 : w.heap.size ≤ w.heap.size + 1 + 1 := Nat.le_add_right _ 2
  go_enter Try.func82, Try.ntmps82
  go_wp2_with fail
  refine (index_calls a n cap t q _ hn hQ.out (((HT.out.alloc _).alloc _).alloc _)).mono ?_
  rintro e w2 ⟨⟨hok, a', cap', B, rfl, _, ho, hM⟩ | ⟨hok, rfl⟩, hb2⟩
  · have HX : Hid (XBox (w2.alloc (.cells #[.slice a' n cap', .map (some B), .int .i64 t] 115)) w2.heap.size a' n cap' B t q) := XBox.new ho hM _
    have HO : Hid (TabOk n t q) := hok
    have hB := below_call (below_alloc3 _ _ _ _) hb2
    obtain ⟨hc2, hf2⟩ := bcell hb2
    have hz2 := hb2.size
    (try simp at hz2)
    have ha2 : w.heap.size < w2.heap.size := by omega
    have hb2' : w.heap.size + 1 < w2.heap.size := by omega
    have hc2' : w.heap.size + 1 + 1 < w2.heap.size := by omega
    clear hb2 ho hM hok
    go_wp2_with fail
    refine (hK.out _).mono ?_
    rintro e w3 ⟨rfl, hb3⟩
    replace HX : Hid (XBox w3 w2.heap.size a' n cap' B t q) := HX.out.call hb3
    replace hB := below_call (below_a hB _) hb3
    obtain ⟨hc3, hf3⟩ := bcell hb3
    have hz3 := hb3.size
    (try simp at hz3)
    have ha3 : w.heap.size < w3.heap.size := by omega
    have hc3' : w.heap.size + 1 + 1 < w3.heap.size := by omega
    clear hb3 hK
    by_cases hkc : kc x = 0
    · have hG : Hid (∀ w, XBox w w2.heap.size a' n cap' B t q → Calls Try.prog 131 #[.pointer (some ⟨w2.heap.size, 0, none⟩), (kv x).v] w fun e w' => e = .returned (gt q (mk (kv x)) n).val.v ∧ Below w.heap.size w w') := fun w h => get_calls _ a' n cap' B t q (kv x) w HO.out h
      have hV : Hid (GetSays n t q x (gt q (mk (kv x)) n).val) := .inl ⟨HO.out, by rw [if_pos hkc]⟩
      rw [hkc]
      generalize (gt q (mk (kv x)) n).val = v at hG hV
      generalize kv x = y at hG
      clear hkc
      go_wp2_with fail
      refine (hG.out _ (HX.out.alloc _)).mono ?_
      rintro e w4 ⟨rfl, hb4⟩
      replace hB := below_call (below_a hB _) hb4
      obtain ⟨hc4, hf4⟩ := bcell hb4
      clear hb4 hG
      have hd3 : w.heap.size + 1 < w3.heap.size := by omega
      go_wp2_with fail
      exact bodyPost_ret (v := v.v) (by simp [results, Try.results82, go_sem, hc4, hc3, hc2, hc2', hd3, hb2', hc3']) rfl ⟨⟨v, rfl, hV.out⟩, set5 hB p2 _ _ _ _ _⟩
    · have hV : Hid (GetSays n t q x vz) := .inl ⟨HO.out, by rw [if_neg hkc]⟩
      generalize kc x = c at hkc
      generalize kv x = y
      go_wp2_with fail
      exact bodyPost_ret (v := vzv) (by simp [results, Try.results82, go_sem, hc3, hc2, hc2', hb2', hc3']) rfl ⟨⟨vz, rfl, hV.out⟩, below_a (set5 hB p2 _ _ _ _ _) _⟩
  · have hno : Hid (GetSays n t q x vz) := .inr ⟨hok, rfl⟩
    have hB := below_call (below_alloc3 _ _ _ _) hb2
    obtain ⟨hc2, hf2⟩ := bcell hb2
    have hz2 := hb2.size
    (try simp at hz2)
    have ha2 : w.heap.size < w2.heap.size := by omega
    have hb2' : w.heap.size + 1 < w2.heap.size := by omega
    have hc2' : w.heap.size + 1 + 1 < w2.heap.size := by omega
    clear hb2 hok
    go_wp2_with fail
    refine (hK.out _).mono ?_
    rintro e w3 ⟨rfl, hb3⟩
    replace hB := below_call (below_a hB _) hb3
    obtain ⟨hc3, hf3⟩ := bcell hb3
    have hz3 := hb3.size
    (try simp at hz3)
    have ha3 : w.heap.size < w3.heap.size := by omega
    have hc3' : w.heap.size + 1 + 1 < w3.heap.size := by omega
    clear hb3 hK
    generalize kc x = c
    generalize kv x = y
    go_wp2_with fail
    exact bodyPost_ret (v := vzv) (by simp [results, Try.results82, go_sem, hc3, hc2, hc2', hb2', hc3']) rfl ⟨⟨vz, rfl, hno.out⟩, below_a (set5 hB p2 _ _ _ _ _) _⟩
end Go.Proofs.Ytiidepafifodjaa

/-! Tables: the iterator behind After. -/
namespace Go.Proofs.Ytiidepafifodjaa
open Go.RowKit Go.Shelf
attribute [local go_sem] run_store_float
attribute [local go_sem] Oper.semAt_some

set_option maxRecDepth 100000 in
set_option maxHeartbeats 2000000 in
theorem after_in (F : Fence) (n : Nat) (hF : F.fn 148) (hro : F.round = none) (p : Option Addr) (T : Int) (w : World) :
    CallsIn F n Try.prog 148 #[.pointer p, .int .i64 T] w fun e w' => e = .returned (.func (.func 168) #[] #[.pointer (some ⟨w.heap.size, 0, none⟩), .pointer (some ⟨w.heap.size + 1, 0, none⟩)]) ∧ w' = (w.alloc (.cells #[.pointer p] 177)).alloc (.cells #[.int .i64 T] 3) := by
  refine callsIn_of_wp Try.func148 rfl hF ?_ hro
  simp only [Try.ntmps148, List.size_toArray, List.length_cons, List.length_nil, Nat.reduceAdd, Nat.reduceSub, Array.replicate_succ, Array.replicate_zero, List.push_toArray, List.append_toArray, List.nil_append, List.cons_append]
  gi_wp2
  go_ret
  exact ⟨rfl, rfl⟩

/-- what has come when k rounds are over -/
def came (q : Nat → PD) (T : Int) : Nat → List PD
  | 0 => []
  | k + 1 => if T < (q k).turn then came q T k ++ [q k] else came q T k
theorem came_len (q : Nat → PD) (T : Int) : ∀ k, (came q T k).length ≤ k
  | 0 => by simp [came]
  | k + 1 => by
    have := came_len q T k
    unfold came
    split
    · simp; omega
    · omega
theorem came_yes {q : Nat → PD} {T : Int} {k : Nat} (h : T < (q k).turn) : came q T (k + 1) = came q T k ++ [q k] := by rw [came, if_pos h]
theorem came_no {q : Nat → PD} {T : Int} {k : Nat} (h : ¬ T < (q k).turn) : came q T (k + 1) = came q T k := by rw [came, if_neg h]

set_option maxRecDepth 100000 in
set_option maxHeartbeats 4000000 in
theorem after1_in (F : Fence) (m : Nat) (hF : F.fn 168) (hro : F.round = none) (hm : 1 ≤ m) (l P1 P2 X : Nat) (a : Option Addr) (n cap : Nat) (q : Nat → PD) (T : Int) (hn : n ≤ 1048576) (J Jx : List PD → World → Prop) (w W : World)
    (hW : Below w.heap.size w W) (hJ : AbidesFrom W.heap.size J)
    (hY : ∀ pre x W1, J pre W1 → pre.length < n → YieldAt F (m - 1) Try.prog l #[pOf x] W1 fun e W' =>
      (e = .returned (.bool true) ∧ J (pre ++ [x]) W' ∧ Below w.heap.size W1 W') ∨ (e = .returned (.bool false) ∧ Jx (pre ++ [x]) W'))
    (hP1 : P1 < w.heap.size) (hP2 : P2 < w.heap.size) (hX : X < w.heap.size)
    (c1 : w.cell? ⟨P1, 0, none⟩ = some (.pointer (some ⟨X, 0, none⟩))) (c2 : w.cell? ⟨P2, 0, none⟩ = some (.int .i64 T)) (cx : w.cell? ⟨X, 0, none⟩ = some (.slice a n cap)) (hT : Tab w a n q) (h0 : J [] W) :
    CallsIn F m Try.prog 168 #[.func (.yield l) #[] #[], .pointer (some ⟨P1, 0, none⟩), .pointer (some ⟨P2, 0, none⟩)] W fun e W' => (∃ v, e = .returned v) ∧
      ((∃ ys, ys = came q T n ∧ J ys W') ∨ (∃ pre, (∃ k, k < n ∧ T < (q k).turn ∧ pre = came q T k ++ [q k]) ∧ Jx pre W')) := by
  have HT : Hid (Tab w a n q) := hT
  have d1 := (hW.cell (p := ⟨P1, 0, none⟩) hP1).trans c1
  have dx := (hW.cell (p := ⟨X, 0, none⟩) hX).trans cx
  have HY : Hid (∀ pre x W1, J pre W1 → pre.length < n → YieldAt F (m - 1) Try.prog l #[pOf x] W1 fun e W' =>
      (e = .returned (.bool true) ∧ J (pre ++ [x]) W' ∧ Below w.heap.size W1 W') ∨ (e = .returned (.bool false) ∧ Jx (pre ++ [x]) W')) := hY
  have HJ : Hid (AbidesFrom W.heap.size J) := hJ
  clear hT hY hJ
  refine callsIn_of_wp Try.func168 rfl hF ?_ hro
  simp only [Try.ntmps168, List.size_toArray, List.length_cons, List.length_nil, Nat.reduceAdd, Nat.reduceSub, Array.replicate_succ, Array.replicate_zero, List.push_toArray, List.append_toArray, List.nil_append, List.cons_append]
  gi_wp2
  gi_loopw [11] (fun i wr => ∃ k : Nat, k ≤ n ∧ i = .int .i64 k ∧ J (came q T k) wr ∧ Below w.heap.size w wr)
    (fun i _ => n - (intOf i).toNat)
  case atStart => exact ⟨0, Nat.zero_le _, rfl, h0, hW⟩
  case round =>
    obtain ⟨k, hk, rfl, hJs, hnx⟩ := hrel
    have HJs : Hid (J (came q T k) wr) := hJs
    clear hJs
    by_cases hkn : k < n
    · obtain ⟨b, off, rfl, hb, hc⟩ := HT.out (by omega)
      have e2 := (hnx.cell (p := ⟨P2, 0, none⟩) hP2).trans c2
      have z2 : P2 < wr.heap.size := Nat.lt_of_lt_of_le hP2 hnx.size
      have hc' : ∀ j, j < 11 → wr.cell? ⟨b, off + k * 11 + j, none⟩ = (pCells (q k))[j]? := fun j hj => (hnx.cell (p := ⟨b, off + k * 11 + j, none⟩) hb).trans (hc k hkn j hj)
      have g0 := hc' 0 (by omega)
      have g1 := hc' 1 (by omega)
      have g2 := hc' 2 (by omega)
      have g3 := hc' 3 (by omega)
      have g4 := hc' 4 (by omega)
      have g5 := hc' 5 (by omega)
      have g6 := hc' 6 (by omega)
      have g7 := hc' 7 (by omega)
      have g8 := hc' 8 (by omega)
      have g9 := hc' 9 (by omega)
      have g10 := hc' 10 (by omega)
      simp only [List.getElem?_toArray, List.getElem?_cons_zero, List.getElem?_cons_succ, Nat.add_zero] at g0 g1 g2 g3 g4 g5 g6 g7 g8 g9 g10
      clear hc'
      clear hc c1 c2 cx d1 dx
      have hJ2 : Hid (J (came q T k) (wr.alloc (.cells (pCells (q k)) 123))) := HJ.out _ _ _ none HJs.out (World.grownBy_alloc wr _ none) (fun r e => by cases e)
      by_cases ht : T < (q k).turn
      · obtain ⟨fn, tmps, assign, body, hy, hR⟩ := HY.out _ (q k) _ hJ2.out (Nat.lt_of_le_of_lt (came_len q T k) hkn)
        have Ht : Hid (T < (q k).turn) := ht
        gi_wp2
        refine hR.mono ?_
        rintro e W3 (⟨rfl, hJ3, hk3⟩ | ⟨rfl, hJx3⟩)
        · gi_wp2
          go_roundw
          case rel => exact ⟨k + 1, by omega, by go_num, by rw [came_yes Ht.out]; exact hJ3, (hnx.alloc hnx.size _).trans hk3⟩
          case measure => simp [intOf]; omega
        · gi_wp2
          refine bodyPost_ret (results_none rfl _ _ _) rfl ?_
          exact ⟨⟨_, rfl⟩, .inr ⟨_, ⟨k, hkn, Ht.out, rfl⟩, hJx3⟩⟩
      · have Ht : Hid (¬ T < (q k).turn) := ht
        gi_wp2
        refine ⟨fun _ h => (by cases h), ?_⟩
        gi_wp2
        go_roundw
        case rel => exact ⟨k + 1, by omega, by go_num, by rw [came_no (Int.not_lt.2 Ht.out)]; exact hJ2.out, hnx.alloc hnx.size _⟩
        case measure => simp [intOf]; omega
    · obtain rfl : k = n := by omega
      gi_wp2
      go_end0
      exact ⟨⟨_, rfl⟩, .inl ⟨_, rfl, HJs.out⟩⟩

theorem after_stops (F : Fence) (m : Nat) (hF : F.fn 168) (hro : F.round = none) (hm : 1 ≤ m) (P1 P2 X : Nat) (a : Option Addr) (n cap : Nat) (q : Nat → PD) (T : Int) (hn : n ≤ 1048576) (w : World)
    (hP1 : P1 < w.heap.size) (hP2 : P2 < w.heap.size) (hX : X < w.heap.size)
    (c1 : w.cell? ⟨P1, 0, none⟩ = some (.pointer (some ⟨X, 0, none⟩))) (c2 : w.cell? ⟨P2, 0, none⟩ = some (.int .i64 T)) (cx : w.cell? ⟨X, 0, none⟩ = some (.slice a n cap)) (hT : Tab w a n q) :
    SeqStopsK F m Try.prog 168 #[.pointer (some ⟨P1, 0, none⟩), .pointer (some ⟨P2, 0, none⟩)] (fun x : PD => #[pOf x]) (Below w.heap.size) (fun ys => ys = came q T n) (fun pre => ∃ k, k < n ∧ T < (q k).turn ∧ pre = came q T k ++ [q k]) n w := fun l J Jx W hW hJ _ hY h0 =>
  after1_in F m hF hro hm l P1 P2 X a n cap q T hn J Jx w W hW hJ hY hP1 hP2 hX c1 c2 cx hT h0
end Go.Proofs.Ytiidepafifodjaa
