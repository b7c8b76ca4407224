import Derived.Test.YtdialodjllpgaaaGreatDoorRnB
import Derived.Test.YtdialodjllpgaaaGreatDoorLbG
import Derived.Test.YtdialodjllpgaaaGreatDoorDcA
import Derived.Test.YtdialodjllpgaaaGreatDoorWtA
/-! FnCounting: what the laws make of texts. -/
namespace Go.Proofs.YtdialodjllpgaaaGreatDoor
open Go.RowKit
attribute [local go_sem] run_store_float
attribute [local go_sem ↓] Go.wp_at_zero Go.wp_at_succ

set_option maxRecDepth 100000 in
set_option maxHeartbeats 4000000 in
theorem specTextI_calls (n : Int) (w : World) (h0 : -1000 ≤ n) (h1 : n ≤ 1000) :
    Calls Tryz.prog 19 #[.agg #[.int .i64 2, .int .i64 n, .float .f64 0, .string ⟨#[]⟩, .int .i64 0]] w fun e w' => e = .returned (.string (bA (decB n))) ∧ Below w.heap.size w w' := by
  go_enter Tryz.func19, Tryz.ntmps19
  go_wp2_with fail
  refine (specOk_calls 2 n 0 ⟨#[]⟩ 0 _).mono ?_
  rintro e w1 ⟨rfl, hb1⟩
  have hok : okB 2 n 0 ⟨#[]⟩ 0 = true := by
    simp [okB, ueB, usB]
    constructor <;> kernel_rfl
  rw [hok]
  have HO : Hid (Has w1 w.heap.size #[.int .i64 2, .int .i64 n, .float .f64 0, .string ⟨#[]⟩, .int .i64 0] ∧ Below w.heap.size w w1) := ⟨(Has.new _ _ _).call hb1, below_call (below_alloc _ _) hb1⟩
  have o0 := HO.out.1.cell 0 rfl
  have o1 := HO.out.1.cell 1 rfl
  clear hb1 hok
  go_wp2_with fail
  refine (decimal_calls n _ (by omega) (by omega)).mono ?_
  rintro e w2 ⟨rfl, hb2⟩
  have HB : Hid (Below w.heap.size w w2) := below_call HO.out.2 hb2
  clear hb2 o0 o1
  go_wp2_with fail
  go_ret
  exact ⟨rfl, HB.out⟩
set_option maxRecDepth 100000 in
set_option maxHeartbeats 4000000 in
theorem wText_calls (n : Int) (w : World) (h0 : -1000 ≤ n) (h1 : n ≤ 1000) :
    Calls Tryz.prog 8 #[.int .i64 n] w fun e w' => e = .returned (.string (bA (decB n))) ∧ Below w.heap.size w w' := by
  go_enter Tryz.func8, Tryz.ntmps8
  go_wp2_with fail
  refine (specTextI_calls n _ h0 h1).mono ?_
  rintro e w1 ⟨rfl, hb⟩
  have HB : Hid _ := hb
  clear hb
  go_wp2_with fail
  go_ret
  exact ⟨rfl, HB.out⟩
/-- the texts of the prints among the first records -/
def prL (q : Nat → RcD) : Nat → List Value
  | 0 => []
  | k + 1 => prL q k ++ (if (q k).k = 6 then [.string (q k).s] else [])
theorem prL_len (q : Nat → RcD) : ∀ k, (prL q k).length ≤ k
  | 0 => Nat.le_refl _
  | k + 1 => by
    have := prL_len q k
    unfold prL
    split <;> simp <;> omega
abbrev repV (c : Int) (ra : Option Addr) (n rc : Nat) (va : Option Addr) (vn vc : Nat) (er tr : ByteArray) (ti md : Int) : Value := .agg #[.int .i64 c, .slice ra n rc, .slice va vn vc, .string er, .string tr, .int .i64 ti, .int .i64 md]
set_option maxRecDepth 100000 in
set_option maxHeartbeats 8000000 in
theorem wPrints_calls (c : Int) (ra : Option Addr) (n rc : Nat) (va : Option Addr) (vn vc : Nat) (er tr : ByteArray) (ti md : Int) (q : Nat → RcD) (w : World) (hn : n ≤ 2000) (hr : RcsAt 0 w ra n q) :
    Calls Tryz.prog 7 #[repV c ra n rc va vn vc er tr ti md] w fun e w' => (∃ a k, e = .returned (.slice a (prL q n).length k) ∧ w'.ownsRow w.heap.size 9 1 (.slice a (prL q n).length k) (prL q n).length (prL q n)) ∧ Below w.heap.size w w' := by
  have HR : Hid (RcsAt 0 w ra n q) := hr
  clear hr
  go_enter Tryz.func7, Tryz.ntmps7
  go_wp2_with fail
  obtain ⟨w0, hw0⟩ : ∃ w0, w.alloc (.cells #[.int .i64 c, .slice ra n rc, .slice va vn vc, .string er, .string tr, .int .i64 ti, .int .i64 md] 27) = w0 := ⟨_, rfl⟩
  have H0 : Hid (Below w.heap.size w w0) := by rw [← hw0]; exact below_alloc _ _
  rw [hw0]
  clear hw0
  go_loopw [3, 9] (fun v i wr => ∃ k a oc, k ≤ n ∧ v = .slice a (prL q k).length oc ∧ i = .int .i64 (k : Int) ∧ Hid (wr.ownsRow w.heap.size 9 1 (.slice a (prL q k).length oc) (prL q k).length (prL q k) ∧ Below w.heap.size w wr)) (fun _ i _ => n - (intOf i).toNat)
  case atStart => exact ⟨0, none, 0, Nat.zero_le _, rfl, rfl, World.ownsRow_nil _ _ _ _, H0.out⟩
  case round =>
    obtain ⟨k, a, oc, hk, rfl, rfl, HO⟩ := hrel
    by_cases hkn : k < n
    · obtain ⟨b, off, e1, _, hb, c0, c1, c2, c3, c4⟩ := cellsR (RowN.below HR.out HO.out.2) hkn
      rw [e1]
      have hpl := prL_len q k
      by_cases h6 : (q k).k = 6
      · obtain ⟨m, hm⟩ : ∃ m, (prL q k).length = m := ⟨_, rfl⟩
        have HM : Hid ((prL q k).length = m) := hm
        rw [hm] at HO hpl
        rw [hm]
        clear hm
        obtain ⟨i0, hi0, hy0, hy1, hy2⟩ := info_parts infoStr'
        have hO7 : World.ownsRow ((wr.alloc (.cells #[.int .i64 6, .int .i64 (q k).t, .int .i64 (q k).f, .int .i64 (q k).l, .string (q k).s] 53)).alloc (.cells #[.string (q k).s] 9)) w.heap.size 9 1 (.slice a m oc) m (prL q k) := ownsK_below HO.out.1 (below_alloc2 _ _ _)
        obtain ⟨v', w7, happ, hown, hgrow, _, hat⟩ := run_append_own_at (P := Tryz.prog) ((wr.alloc (.cells #[.int .i64 6, .int .i64 (q k).t, .int .i64 (q k).f, .int .i64 (q k).l, .string (q k).s] 53)).alloc (.cells #[.string (q k).s] 9)) w.heap.size 25 25 9 i0 _ 1 16 Tryz.underlying25 hi0 hy0 hy1 hy2 rfl (by decide) (.slice a m oc) m (prL q k) hO7 ⟨wr.heap.size + 1, 0, none⟩ 1 1 [.string (q k).s] rfl (fun j v e => by
          have hn := new_news (wr.alloc (.cells #[.int .i64 6, .int .i64 (q k).t, .int .i64 (q k).f, .int .i64 (q k).l, .string (q k).s] 53)) #[.string (q k).s] 9 j v e
          rw [World.size_alloc] at hn
          exact hn) (by simp [Value.oneCell']) (by unfold maxLen; omega) (by omega) (by have := HO.out.2.size; simp; omega)
        obtain ⟨oa', oc', rfl⟩ := ownsK_form hown
        have hp1 : prL q (k + 1) = prL q k ++ [.string (q k).s] := by show prL q k ++ (if (q k).k = 6 then [.string (q k).s] else []) = _; rw [if_pos h6]
        have HN : Hid (w7.ownsRow w.heap.size 9 1 (.slice oa' (prL q (k + 1)).length oc') (prL q (k + 1)).length (prL q (k + 1)) ∧ Below w.heap.size w w7 ∧ (prL q (k + 1)).length = m + 1) := by
          have hl : (prL q (k + 1)).length = m + 1 := by rw [hp1, List.length_append, HM.out]; rfl
          refine ⟨?_, (((HO.out.2.alloc HO.out.2.size _).alloc (by have := HO.out.2.size; simp; omega) _).grown hgrow (by have := HO.out.2.size; simp; omega) (fun z e => (own_ge HO.out.1 ((own_bk _ _ _).symm.trans e)).1)), hl⟩
          rw [hl, hp1]
          exact hown
        clear hown hgrow hat hO7 hi0 hy0 hy1 hy2 hp1
        go_wp2_with (at_builtin; refine wpList_app (by rfl) _ _ _ _ (by rfl) (.slice a m oc) (.slice (some ⟨wr.heap.size + 1, 0, none⟩) 1 1) _ _ (by rfl) (by rfl) happ ?_)
        go_roundw
        case rel => exact ⟨k + 1, oa', oc', by omega, by rw [HN.out.2.2], by go_num, HN.out.1, HN.out.2.1⟩
        case measure => simp [intOf]; omega
      · go_wp2_with fail
        go_roundw
        case rel =>
          have hp1 : prL q (k + 1) = prL q k := by show prL q k ++ (if (q k).k = 6 then [.string (q k).s] else []) = _; rw [if_neg h6]; simp
          exact ⟨k + 1, a, oc, by omega, by rw [hp1], by go_num, by rw [hp1]; exact ⟨ownsK_below HO.out.1 (below_alloc _ _), HO.out.2.alloc HO.out.2.size _⟩⟩
        case measure => simp [intOf]; omega
    · obtain rfl : k = n := by omega
      go_wp2_with fail
      go_ret
      exact ⟨⟨a, oc, rfl, HO.out.1⟩, HO.out.2⟩
end Go.Proofs.YtdialodjllpgaaaGreatDoor

/-! FnCounting: texts compared. -/
namespace Go.Proofs.YtdialodjllpgaaaGreatDoor
open Go.RowKit
attribute [local go_sem] run_store_float
attribute [local go_sem ↓] Go.wp_at_zero Go.wp_at_succ

set_option maxRecDepth 100000 in
set_option maxHeartbeats 8000000 in
theorem wTexts_calls (a b : Option Addr) (n c d : Nat) (t : Nat → ByteArray) (w : World) (hn : n ≤ 2000) (ha : RowN 1 0 w a n fun i => #[.string (t i)]) (hb : RowN 1 0 w b n fun i => #[.string (t i)]) :
    Calls Tryz.prog 9 #[.slice a n c, .slice b n d] w fun e w' => e = .returned (.bool true) ∧ Below w.heap.size w w' := by
  have HA : Hid (RowN 1 0 w a n fun i => #[.string (t i)]) := ha
  have HB : Hid (RowN 1 0 w b n fun i => #[.string (t i)]) := hb
  clear ha hb
  go_enter Tryz.func9, Tryz.ntmps9
  go_wp2_with fail
  go_loopw [13] (fun i wr => ∃ k : Nat, k ≤ n ∧ i = .int .i64 (k : Int) ∧ Hid (Below w.heap.size w wr)) (fun i _ => n - (intOf i).toNat)
  case atStart => exact ⟨0, Nat.zero_le _, rfl, bl_refl _⟩
  case round =>
    obtain ⟨k, hk, rfl, HW⟩ := hrel
    by_cases hkn : k < n
    · obtain ⟨ba, oa, e1, _, h1, c1⟩ := cells1 (RowN.below HA.out HW.out) hkn
      obtain ⟨bb, ob, e2, _, h2, c2⟩ := cells1 (RowN.below HB.out HW.out) hkn
      rw [e1, e2]
      go_upto_region 6 with fail
      go_region_with fail
      all_goals
        go_wp2_with fail
        go_roundw
        case rel => exact ⟨k + 1, by omega, by go_num, bl_drew HW.out⟩
        case measure => simp [intOf]; omega
    · obtain rfl : k = n := by omega
      go_wp2_with fail
      go_ret
      exact ⟨rfl, HW.out⟩
end Go.Proofs.YtdialodjllpgaaaGreatDoor

/-! FnCounting: what a run of the unit stands on. -/
namespace Go.Proofs.YtdialodjllpgaaaGreatDoor
open Go.RowKit

theorem cu_sm (a b s l6 l7 l8 : Int) : (cuU a b s l6 l7 l8).sm := by
  refine ⟨by show 1 ≤ 1048576; omega, fun i _ => ⟨by show 4 ≤ 1048576; omega, by show 1 ≤ 1048576; omega, fun i _ => by show 1 ≤ 1048576; omega, by show 0 ≤ 1048576; omega, by show 10 ≤ 1048576; omega, ?_⟩⟩
  refine lt10 ?_ ?_ ?_ ?_ ?_ ?_ ?_ ?_ ?_ ?_
  all_goals exact ⟨of_decide_eq_true rfl, of_decide_eq_true rfl, of_decide_eq_true rfl⟩
theorem cu_u1x {a b s l6 l7 l8 : Int} {ub : Nat} {x : FA} {w : World} (h : FnsAt 0 w 1 (fun _ => cuF a b s l6 l7 l8) (some ⟨ub, 0, none⟩) (fun _ => x)) : U1x w (cuF a b s l6 l7 l8) x ub 0 := by
  obtain ⟨b', off, e, _, hl, c0, c1, c2, c3, c4, c5, c6⟩ := cells7 h.1 (k := 0) (by omega)
  cases e
  exact ⟨hl, c2, c3, c4, c6, (h.2 0 (by omega)).2.2⟩
theorem cu_txn {a b s l6 l7 l8 : Int} {x : FA} {w : World} (hn : NodesAt 0 w 10 (cuN a b s l6 l7 l8) x.na x.nas) (hc : CapF (cuF a b s l6 l7 l8) x) : TxN (cuF a b s l6 l7 l8) x w 9 8 7 6 5 4 3 := by
  have h8 := hc.2 8 (by show 8 < 10; omega)
  have h5 := hc.2 5 (by show 5 < 10; omega)
  exact ⟨rfl, rfl, rfl, rfl, by show 8 < 10; omega, ⟨rfl, rfl, h8, (hn.2 8 (by omega)).2, fun j hj => by
    rcases (show j = 0 ∨ j = 1 ∨ j = 2 by omega) with rfl | rfl | rfl
    · exact ⟨rfl, by show 0 < 10; omega, rfl⟩
    · exact ⟨rfl, by show 1 < 10; omega, rfl⟩
    · exact ⟨rfl, by show 2 < 10; omega, rfl⟩, rfl, ⟨by show 7 < 10; omega, rfl, rfl, rfl, by show 6 < 10; omega, rfl, by show 0 < 1; omega, rfl, ⟨by show 5 < 10; omega, rfl, rfl, rfl, rfl, h5, by show 4 < 10; omega, rfl, rfl, by show 3 < 10; omega, rfl, by show 0 < 1; omega, rfl⟩⟩⟩⟩
theorem runPre_of {a b s l6 l7 l8 : Int} {ub : Nat} {x : FA} {w : World} (h : FnsAt 0 w 1 (fun _ => cuF a b s l6 l7 l8) (some ⟨ub, 0, none⟩) (fun _ => x)) (hc : CapF (cuF a b s l6 l7 l8) x) (hl : LnsOk l6 l7 l8) : RunPre (cuU a b s l6 l7 l8) ub 0 (fun _ => x) (cuF a b s l6 l7 l8) x 8 7 6 5 4 3 w :=
  ⟨cu_sm _ _ _ _ _ _, fun _ _ => hc, h, rfl, cu_ok a b s l6 l7 l8 hl, cu_u1x h, cu_txn (h.2 0 (by omega)).2.2 hc⟩
theorem ndx_of {a b s l6 l7 l8 : Int} {x : FA} {w : World} (hn : NodesAt 0 w 10 (cuN a b s l6 l7 l8) x.na x.nas) : ∃ rb ro, ∀ v, Below w.heap.size w v → NdX (cuF a b s l6 l7 l8) x 8 6 a b s rb ro v := by
  obtain ⟨rb, ro, e, _, hl, _⟩ := (hn.2 8 (by omega)).1 (by show 0 < 1; omega)
  exact ⟨rb, ro, fun v hv => ⟨hn.below hv, by show 8 < 10; omega, rfl, rfl, rfl, rfl, rfl, e, Nat.lt_of_lt_of_le hl hv.size⟩⟩
end Go.Proofs.YtdialodjllpgaaaGreatDoor

/-! FnCounting: the numbers and their texts, plain. -/
namespace Go.Proofs.YtdialodjllpgaaaGreatDoor
open Go.RowKit

theorem first_not {P : Nat → Prop} [DecidablePred P] : ∀ M, ¬ P M → ∃ N, N ≤ M ∧ (∀ k, k < N → P k) ∧ ¬ P N
  | 0, h => ⟨0, Nat.le_refl _, fun k hk => absurd hk (Nat.not_lt_zero _), h⟩
  | M + 1, h => by
    by_cases c : P M
    · by_cases e : ∀ k, k < M + 1 → P k
      · exact ⟨M + 1, Nat.le_refl _, e, h⟩
      · obtain ⟨k, hk⟩ : ∃ k, ¬ (k < M + 1 → P k) := Classical.not_forall.1 e
        have hk1 : k < M + 1 := Classical.byContradiction fun c => hk fun d => absurd d c
        have hk2 : ¬ P k := fun c => hk fun _ => c
        have hkM : k ≠ M := fun e => hk2 (e ▸ c)
        obtain ⟨N, h1, h2, h3⟩ := first_not k hk2
        exact ⟨N, by omega, h2, h3⟩
    · obtain ⟨N, h1, h2, h3⟩ := first_not M c
      exact ⟨N, by omega, h2, h3⟩
theorem cb_ex {a b s : Int} (a1 : -20 ≤ a) (a2 : a ≤ 20) (b1 : -20 ≤ b) (b2 : b ≤ 20) (s1 : -20 ≤ s) (s2 : s ≤ 20) (s0 : s ≠ 0) : ∃ N, N ≤ 41 ∧ CB a b s N := by
  by_cases hs : 0 < s
  · obtain ⟨N, h1, h2, h3⟩ := first_not (P := fun k : Nat => a + k * s ≤ b) 41 (by show ¬ (a + ((41 : Nat) : Int) * s ≤ b); omega)
    exact ⟨N, h1, ⟨by omega, by omega, by omega, by omega, by omega, by omega, s0, by omega, fun _ => ⟨h2, by omega⟩, fun h => by omega⟩⟩
  · obtain ⟨N, h1, h2, h3⟩ := first_not (P := fun k : Nat => b ≤ a + k * s) 41 (by show ¬ (b ≤ a + ((41 : Nat) : Int) * s); omega)
    exact ⟨N, h1, ⟨by omega, by omega, by omega, by omega, by omega, by omega, s0, by omega, fun h => by omega, fun _ => ⟨h2, by omega⟩⟩⟩
/-- the text of turn k -/
def tnB (a s : Int) (k : Nat) : ByteArray := bA (decB (a + k * s))
def tnL (a s : Int) (n : Nat) : List Value := (List.range n).map fun k => .string (tnB a s k)
theorem tnL_len (a s : Int) (n : Nat) : (tnL a s n).length = n := by simp [tnL]
theorem tnL_succ (a s : Int) (n : Nat) : tnL a s (n + 1) = tnL a s n ++ [.string (tnB a s n)] := by simp [tnL, List.range_succ]
def prF (r : RcD) : List Value := if r.k = 6 then [.string r.s] else []
theorem prL_take (l : List RcD) (d : RcD) : ∀ k, k ≤ l.length → prL (fun i => l.getD i d) k = (l.take k).flatMap prF
  | 0, _ => by simp [prL]
  | k + 1, h => by
    have ih := prL_take l d k (by omega)
    have hk : k < l.length := by omega
    show prL (fun i => l.getD i d) k ++ (if (l.getD k d).k = 6 then [.string (l.getD k d).s] else []) = _
    rw [ih, List.take_add_one, List.flatMap_append]
    congr 1
    have e : l[k]? = some (l.getD k d) := by simp [List.getD, List.getElem?_eq_getElem hk]
    rw [e]
    simp [prF]
theorem prL_all (l : List RcD) (d : RcD) : prL (fun i => l.getD i d) l.length = l.flatMap prF := by rw [prL_take l d _ (Nat.le_refl _), List.take_length]
theorem loop_prF (p : DP) (L a s : Int) : ∀ n, (loopP p L a s n).recs.flatMap prF = p.recs.flatMap prF ++ tnL a s n
  | 0 => by simp [loopP, tnL]
  | n + 1 => by
    have ih := loop_prF p L a s n
    have e : (loopP p L a s (n + 1)).recs = ((loopP p L a s n).recs ++ [⟨1, 0, 0, L, ⟨#[]⟩⟩]) ++ [⟨6, 0, 0, L, bA (decB (a + n * s))⟩] := rfl
    rw [e, List.flatMap_append, List.flatMap_append, ih, tnL_succ]
    simp [prF, tnB]
theorem loop_len (p : DP) (L a s : Int) : ∀ n, (loopP p L a s n).recs.length = p.recs.length + 2 * n
  | 0 => by simp [loopP]
  | n + 1 => by
    have ih := loop_len p L a s n
    have e : (loopP p L a s (n + 1)).recs = ((loopP p L a s n).recs ++ [⟨1, 0, 0, L, ⟨#[]⟩⟩]) ++ [⟨6, 0, 0, L, bA (decB (a + n * s))⟩] := rfl
    rw [e, List.length_append, List.length_append, ih]
    simp
    omega
theorem all_prF (L0 L a s : Int) (n : Nat) : ((dZ.p.all L0 L a s n).recs).flatMap prF = tnL a s n := by
  have e : (dZ.p.all L0 L a s n).recs = (loopP ((dZ.p.tick.ln L0).rcd ⟨1, 0, 0, L0, ⟨#[]⟩⟩) L a s n).recs := rfl
  rw [e, loop_prF]
  rfl
theorem all_len (L0 L a s : Int) (n : Nat) : (dZ.p.all L0 L a s n).recs.length = 1 + 2 * n := by
  have e : (dZ.p.all L0 L a s n).recs = (loopP ((dZ.p.tick.ln L0).rcd ⟨1, 0, 0, L0, ⟨#[]⟩⟩) L a s n).recs := rfl
  rw [e, loop_len]
  rfl
theorem row_tn {w : World} {N : Nat} {a : Option Addr} {c n : Nat} {x s : Int} (h : w.ownsRow N 9 1 (.slice a n c) n (tnL x s n)) : RowN 1 0 w a n fun i => #[.string (tnB x s i)] := fun h0 => by
  rcases h.2 with ⟨_, e⟩ | ⟨g, c', cur, e, h1, h2, _⟩
  · omega
  · have e1 : a = some ⟨g, 0, none⟩ := by injection e
    refine ⟨g, 0, e1, Nat.zero_le _, (Array.getElem?_eq_some_iff.1 h2).1, fun i hi j hj => ?_⟩
    obtain rfl : j = 0 := by omega
    have hc := h.cells (g := g) (by rw [e1]; rfl) i (.string (tnB x s i)) (by simp [tnL, hi])
    rw [show 0 + i * 1 + 0 = i by omega]
    cases i <;> simpa [Addr.add] using hc
end Go.Proofs.YtdialodjllpgaaaGreatDoor

/-! FnCounting: the walk. -/
namespace Go.Proofs.YtdialodjllpgaaaGreatDoor
open Go.RowKit
attribute [local go_sem] run_store_float
attribute [local go_sem ↓] Go.wp_at_zero Go.wp_at_succ

/-- what a text shows whose loop's step is nought -/
abbrev zrL (L0 : Int) : List RcD := [⟨1, 0, 0, L0, ⟨#[]⟩⟩, ⟨4, 0, 0, L0, ⟨#[101, 114, 114, 111, 114, 32, 49, 52]⟩⟩]
abbrev er14 : ByteArray := ⟨#[101, 114, 114, 111, 114, 32, 49, 52]⟩
/-- a step of nought is error 14 -/
def ZeroSays : Prop := ∀ (a b l6 l7 l8 : Int) (x : FA) (ub uc : Nat) (v v' : World) (X : RX) (E bb : Nat) (P : PX) (L : LX) (Z : MX) (u0 : World), -20 ≤ a → a ≤ 20 → -20 ≤ b → b ≤ 20 → FnsAt 0 v 1 (fun _ => cuF a b 0 l6 l7 l8) (some ⟨ub, 0, none⟩) (fun _ => x) → TabP v → EtP v → LnsOk l6 l7 l8 →
  NM v (.slice (some ⟨ub, 0, none⟩) 1 uc) (cuF a b 0 l6 l7 l8) x (nodeC (cuN a b 0 l6 l7 l8 6) (x.nas 6)) (nodeC (cuN a b 0 l6 l7 l8 8) (x.nas 8)) X E bb P L Z u0 v' → Calls Tryz.prog 23 #[ptr X.M] v' fun e v'' => e = .returned (.tuple #[]) ∧ Below v.heap.size v v'' ∧ ∃ tr ti md ra rc va vn vc, RepAt X.M E 1 er14 tr ti md ra 2 rc (fun i => (zrL l8).getD i ⟨0, 0, 0, 0, ⟨#[]⟩⟩) va vn vc v''
set_option maxRecDepth 100000 in
set_option maxHeartbeats 16000000 in
theorem fnCounting_walk (hZ : ZeroSays) (a : Option Addr) (len cap : Nat) (zs : List Int) (w : World) (hR : IsRow w a len cap zs) (hT : TabP w) (hEt : EtP w) :
    Calls Tryz.prog 3 #[.slice a len cap] w fun e w' => e = .returned (.bool true) ∧ Below w.heap.size w w' := by
  have HR : Hid (IsRow w a len cap zs) := hR
  have HT : Hid (TabP w) := hT
  have HEt : Hid (EtP w) := hEt
  have HZ : Hid ZeroSays := hZ
  clear hR hT hZ hEt
  by_cases hl : 1048576 < len
  · go_enter Tryz.func3, Tryz.ntmps3
    go_wp2_with fail
    go_ret
    exact ⟨rfl, Below.refl _ _⟩
  · go_enter Tryz.func3, Tryz.ntmps3
    go_wp2_with fail
    refine (wByte_calls a len cap zs 0 _ HR.out (by omega) (by omega) (by omega)).mono ?_
    rintro e w1 ⟨⟨v0, h01, h02, rfl⟩, rfl⟩
    go_wp2_with fail
    refine (wByte_calls a len cap zs 1 _ HR.out (by omega) (by omega) (by omega)).mono ?_
    rintro e w1 ⟨⟨v1, h11, h12, rfl⟩, rfl⟩
    go_wp2_with fail
    refine (wByte_calls a len cap zs 2 _ HR.out (by omega) (by omega) (by omega)).mono ?_
    rintro e w1 ⟨⟨v2, h21, h22, rfl⟩, rfl⟩
    go_wp2_with fail
    obtain ⟨A, hA⟩ : ∃ A, v0 % 41 - 20 = A := ⟨_, rfl⟩
    obtain ⟨B, hB⟩ : ∃ B, v1 % 41 - 20 = B := ⟨_, rfl⟩
    obtain ⟨S, hS⟩ : ∃ S, v2 % 41 - 20 = S := ⟨_, rfl⟩
    rw [hA, hB, hS]
    have A1 : -20 ≤ A := by omega
    have A2 : A ≤ 20 := by omega
    have B1 : -20 ≤ B := by omega
    have B2 : B ≤ 20 := by omega
    have S1 : -20 ≤ S := by omega
    have S2 : S ≤ 20 := by omega
    clear hA hB hS h01 h02 h11 h12 h21 h22
    generalize v0 % 41 = z0
    generalize v1 % 41 = z1
    generalize v2 % 41 = z2
    refine (madeCount_calls A B S _).mono ?_
    rintro e w2 ⟨ub, uc, l6, l7, l8, x, rfl, hln, hfn, hcap, hb2⟩
    have H2 : Hid (LnsOk l6 l7 l8 ∧ FnsAt 0 w2 1 (fun _ => cuF A B S l6 l7 l8) (some ⟨ub, 0, none⟩) (fun _ => x) ∧ CapF (cuF A B S l6 l7 l8) x ∧ Below w1.heap.size w1 w2 ∧ TabP w2) := ⟨hln, hfn, hcap, hb2, TabP.keep HT.out hb2 (Nat.le_refl _)⟩
    have HEt2 : Hid (EtP w2) := EtP.keep HEt.out hb2 (Nat.le_refl _)
    clear hln hfn hcap hb2
    by_cases s0 : S = 0
    · subst s0
      go_wp2_with fail
      refine (run_calls (cuU A B 0 l6 l7 l8) ub 0 uc (fun _ => x) (cuF A B 0 l6 l7 l8) x 8 7 6 5 4 3 1 er14 2 (fun i => (zrL l8).getD i ⟨0, 0, 0, 0, ⟨#[]⟩⟩) w2 (runPre_of H2.out.2.1 H2.out.2.2.1 H2.out.1) (fun v v' X E bb P L Z u0 hb hN => HZ.out A B l6 l7 l8 x ub uc v v' X E bb P L Z u0 A1 A2 B1 B2 (H2.out.2.1.below hb) (TabP.keep H2.out.2.2.2.2 hb (Nat.le_refl _)) (EtP.keep HEt2.out hb (Nat.le_refl _)) H2.out.1 hN)).mono ?_
      rintro e w3 ⟨tr, ti, md, ra, rc, va, vn, vc, rfl, hr, hb3⟩
      have H3 : Hid (RcsAt 0 w3 ra 2 (fun i => (zrL l8).getD i ⟨0, 0, 0, 0, ⟨#[]⟩⟩) ∧ Below w1.heap.size w1 w3) := ⟨hr, below_call H2.out.2.2.2.1 hb3⟩
      clear hr hb3
      go_wp2_with fail
      refine (wPrints_calls 1 ra 2 rc va vn vc er14 tr ti md (fun i => (zrL l8).getD i ⟨0, 0, 0, 0, ⟨#[]⟩⟩) _ (by omega) (RowN.alloc H3.out.1 _)).mono ?_
      rintro e w4 ⟨⟨oa, oc, rfl, _⟩, hb4⟩
      have hp : (prL (fun i => (zrL l8).getD i ⟨0, 0, 0, 0, ⟨#[]⟩⟩) 2).length = 0 := by rfl
      rw [hp]
      have H4 : Hid (Below w1.heap.size w1 w4) := below_call (H3.out.2.alloc H3.out.2.size _) hb4
      clear hb4 hp
      go_wp2_with fail
      go_ret
      exact ⟨rfl, H4.out⟩
    · obtain ⟨N, hN, hCB⟩ := cb_ex A1 A2 B1 B2 S1 S2 s0
      have HC : Hid (CB A B S N ∧ N ≤ 41) := ⟨hCB, hN⟩
      clear hN hCB
      go_wp2_with fail
      obtain ⟨rb, ro, hnd⟩ := ndx_of (H2.out.2.1.2 0 (by omega)).2.2
      refine (run_calls (cuU A B S l6 l7 l8) ub 0 uc (fun _ => x) (cuF A B S l6 l7 l8) x 8 7 6 5 4 3 0 ⟨#[]⟩ (dZ.p.all l8 l6 A S N).recs.length (fun i => (dZ.p.all l8 l6 A S N).recs.getD i ⟨0, 0, 0, 0, ⟨#[]⟩⟩) w2 (runPre_of H2.out.2.1 H2.out.2.2.1 H2.out.1) (fun v v' X E bb P L Z u0 hb hN => rt_of hN (cu_u1x (H2.out.2.1.below hb)) (hnd v hb) (TabP.keep H2.out.2.2.2.2 hb (Nat.le_refl _)) HC.out.1 S1 S2 (by have := HC.out.2; omega))).mono ?_
      clear hnd
      rintro e w3 ⟨tr, ti, md, ra, rc, va, vn, vc, rfl, hr, hb3⟩
      obtain ⟨Q, hQ⟩ : ∃ Q, (fun i => (dZ.p.all l8 l6 A S N).recs.getD i ⟨0, 0, 0, 0, ⟨#[]⟩⟩) = Q := ⟨_, rfl⟩
      obtain ⟨n, hn⟩ : ∃ n, (dZ.p.all l8 l6 A S N).recs.length = n := ⟨_, rfl⟩
      have H3 : Hid (RcsAt 0 w3 ra n Q ∧ Below w1.heap.size w1 w3 ∧ prL Q n = tnL A S N ∧ n ≤ 2000) := ⟨by rw [← hQ, ← hn]; exact hr, below_call H2.out.2.2.2.1 hb3, by rw [← hQ, ← hn, prL_all, all_prF], by have := all_len l8 l6 A S N; have := HC.out.2; omega⟩
      rw [hn]
      clear hr hb3 hQ hn
      go_wp2_with fail
      obtain ⟨w4, hw4⟩ : ∃ w4, w3.alloc (.cells #[.int .i64 0, .slice ra n rc, .slice va vn vc, .string ⟨#[]⟩, .string tr, .int .i64 ti, .int .i64 md] 27) = w4 := ⟨_, rfl⟩
      have H4 : Hid (Below w1.heap.size w1 w4 ∧ Has w4 w3.heap.size #[.int .i64 0, .slice ra n rc, .slice va vn vc, .string ⟨#[]⟩, .string tr, .int .i64 ti, .int .i64 md] ∧ RcsAt 0 w4 ra n Q) := by
        rw [← hw4]
        exact ⟨H3.out.2.1.alloc H3.out.2.1.size _, Has.new _ _ _, RowN.alloc H3.out.1 _⟩
      rw [hw4]
      clear hw4
      have hd1 : decide (1048576 < (len : Int)) = false := by simp; omega
      have hd2 : (S == 0) = false := by simp [s0]
      rw [hd1, hd2]
      clear hd1 hd2
      go_loopw [7, 8] (fun v i wr => ∃ (k : Nat) (oa : Option Addr) (oc : Nat), k ≤ N ∧ v = .slice oa k oc ∧ i = .int .i64 (A + k * S) ∧ Hid (wr.ownsRow w4.heap.size 9 1 (.slice oa k oc) k (tnL A S k) ∧ Below w4.heap.size w4 wr)) (fun v _ _ => N - (match v with | .slice _ k _ => k | _ => 0))
      case atStart => exact ⟨0, none, 0, Nat.zero_le _, rfl, by simp, World.ownsRow_nil _ _ _ _, Below.refl _ _⟩
      case round =>
        obtain ⟨k, oa, oc, hk, rfl, rfl, HO⟩ := hrel
        obtain ⟨i, hi⟩ : ∃ i, A + (k : Int) * S = i := ⟨_, rfl⟩
        rw [hi]
        have HI : Hid (A + (k : Int) * S = i) := hi
        clear hi
        have hN41 := HC.out.2
        by_cases hkn : k < N
        · have hnx : Hid (i + S = A + ((k + 1 : Nat) : Int) * S) := by
            show i + S = A + ((k + 1 : Nat) : Int) * S
            rw [← HI.out, show ((k + 1 : Nat) : Int) = (k : Int) + 1 by omega, Int.add_mul]
            omega
          have hg : (0 < S ∧ i ≤ B ∧ A ≤ i) ∨ (S < 0 ∧ B ≤ i ∧ i ≤ A) := by
            rcases (show 0 < S ∨ S < 0 by omega) with c | c
            · have h1 := (HC.out.1.up c).1 k hkn
              have h2 : 0 ≤ (k : Int) * S := Int.mul_nonneg (by omega) (by omega)
              have := HI.out
              exact .inl ⟨c, by omega, by omega⟩
            · have h1 := (HC.out.1.dn c).1 k hkn
              have h2 : (k : Int) * S ≤ 0 := Int.mul_nonpos_of_nonneg_of_nonpos (by omega) (by omega)
              have := HI.out
              exact .inr ⟨c, by omega, by omega⟩
          have i1 : -1000 ≤ i := by omega
          have i2 : i ≤ 1000 := by omega
          have hw : IntKind.i64.wrap (i + S) = i + S := wrap_small (by omega) (by omega)
          have htn : Hid (tnB A S k = bA (decB i)) := by show bA (decB (A + k * S)) = _; rw [HI.out]
          rcases hg with ⟨g1, g2, g3⟩ | ⟨g1, g2, g3⟩
          all_goals
            have g4 : ¬ (S < 0 ∧ 0 < S) := by omega
            go_wp2_with fail
            refine (wText_calls i _ i1 i2).mono ?_
            rintro e w5 ⟨rfl, hb5⟩
            obtain ⟨i0, hi0, hy0, hy1, hy2⟩ := info_parts infoStr'
            have hO5 : World.ownsRow (w5.alloc (.cells #[.string (bA (decB i))] 9)) w4.heap.size 9 1 (.slice oa k oc) k (tnL A S k) := ownsK_below (ownsK_below HO.out.1 hb5) (below_alloc _ _)
            have hB5 : Below w4.heap.size w4 w5 := below_call HO.out.2 hb5
            obtain ⟨v', w7, happ, hown, hgrow, _, hat⟩ := run_append_own_at (P := Tryz.prog) (w5.alloc (.cells #[.string (bA (decB i))] 9)) w4.heap.size 25 25 9 i0 _ 1 16 Tryz.underlying25 hi0 hy0 hy1 hy2 rfl (by decide) (.slice oa k oc) k (tnL A S k) hO5 ⟨w5.heap.size, 0, none⟩ 1 1 [.string (bA (decB i))] rfl (cell_one_new _ _ _) (by simp [Value.oneCell']) (by unfold maxLen; omega) (by omega) (by have := hB5.size; simp; omega)
            obtain ⟨oa', oc', rfl⟩ := ownsK_form hown
            have HN : Hid (w7.ownsRow w4.heap.size 9 1 (.slice oa' (k + 1) oc') (k + 1) (tnL A S (k + 1)) ∧ Below w4.heap.size w4 w7) := by
              rw [tnL_succ, htn.out]
              exact ⟨hown, (hB5.alloc hB5.size _).grown hgrow (by have := hB5.size; simp; omega) (fun z e => (own_ge hO5 ((own_bk _ _ _).symm.trans e)).1)⟩
            clear hown hgrow hat hO5 hB5 hi0 hy0 hy1 hy2 hb5
            go_wp2_with (at_builtin; refine wpList_app (by rfl) _ _ _ _ (by rfl) (.slice oa k oc) (.slice (some ⟨w5.heap.size, 0, none⟩) 1 1) _ _ (by rfl) (by rfl) happ ?_)
            go_roundw
            case rel => exact ⟨k + 1, oa', oc', by omega, rfl, by rw [hnx.out], HN⟩
            case measure => show N - (k + 1) < N - k; omega
        · obtain rfl : k = N := by omega
          have hg : (0 < S ∧ B < i) ∨ (S < 0 ∧ i < B) := by
            have := HI.out
            rcases (show 0 < S ∨ S < 0 by omega) with c | c
            · exact .inl ⟨c, by have := (HC.out.1.up c).2; omega⟩
            · exact .inr ⟨c, by have := (HC.out.1.dn c).2; omega⟩
          have hh := H4.out.2.1.call HO.out.2
          have r0 := hh.cell 0 rfl
          have r1 := hh.cell 1 rfl
          have r2 := hh.cell 2 rfl
          have r3 := hh.cell 3 rfl
          have r4 := hh.cell 4 rfl
          have r5 := hh.cell 5 rfl
          have r6 := hh.cell 6 rfl
          clear hh
          rcases hg with ⟨g1, g2⟩ | ⟨g1, g2⟩
          all_goals
            go_wp2_with fail
            refine (wPrints_calls 0 ra n rc va vn vc ⟨#[]⟩ tr ti md Q _ H3.out.2.2.2 (RowN.below H4.out.2.2 HO.out.2)).mono ?_
            rintro e w5 ⟨⟨pa, pc, rfl, hp⟩, hb5⟩
            have hpn : (prL Q n).length = k := by rw [H3.out.2.2.1, tnL_len]
            rw [hpn]
            have H5 : Hid (RowN 1 0 w5 pa k (fun j => #[.string (tnB A S j)]) ∧ RowN 1 0 w5 oa k (fun j => #[.string (tnB A S j)]) ∧ Below w1.heap.size w1 w5) := by
              rw [hpn, H3.out.2.2.1] at hp
              exact ⟨row_tn hp, RowN.below (row_tn HO.out.1) hb5, below_call (below_call H4.out.1 HO.out.2) hb5⟩
            clear hp hb5 hpn
            go_wp2_with fail
            refine (wTexts_calls pa oa k pc oc (tnB A S) _ (by omega) H5.out.1 H5.out.2.1).mono ?_
            rintro e w6 ⟨rfl, hb6⟩
            have H6 : Hid (Below w1.heap.size w1 w6) := below_call H5.out.2.2 hb6
            clear hb6
            go_wp2_with fail
            go_ret
            exact ⟨rfl, H6.out⟩
end Go.Proofs.YtdialodjllpgaaaGreatDoor
