import Derived.Test.YtcpjnddkibbddaaGreatLnO
/-! Lines: the answer marked, and the marks held. -/
namespace Go.Proofs.YtcpjnddkibbddaaGreat
open Go.RowKit
attribute [local go_sem] run_store_float
attribute [local go_sem ↓] Go.wp_at_zero Go.wp_at_succ

/-- the marks from k on -/
def mkd (k : Int) (n : Nat) : List Int := (List.range n).map fun (i : Nat) => k + (i : Int)
theorem mkd_len (k : Int) (n : Nat) : (mkd k n).length = n := by simp [mkd]
theorem mkd_is {k : Int} {n : Nat} {ys : List Int} (hl : ys.length = n) (h : ∀ j, j < n → ys[j]? = some (k + (j : Int))) : ys = mkd k n := by
  apply List.ext_getElem?
  intro j
  by_cases hj : j < n
  · rw [h j hj]
    simp [mkd, hj]
  · rw [List.getElem?_eq_none (by omega), List.getElem?_eq_none (by rw [mkd_len]; omega)]
theorem grownBy_tr {a b c : World} {r : Option Nat} (h : a.grownBy b r) (k : b.grownBy c r) : a.grownBy c r :=
  ⟨k.os.trans h.os, k.tape.trans h.tape, k.output.trans h.output, Nat.le_trans h.size k.size, fun x hx hn => (k.block x (Nat.lt_of_lt_of_le hx h.size) hn).trans (h.block x hx hn)⟩
theorem grownBy_set (w : World) (g j : Nat) (v : Value) : w.grownBy (w.setCell ⟨g, j, none⟩ v) (some g) :=
  ⟨rfl, rfl, rfl, by simp, fun x _ hn => Below.heap_setCell _ _ _ _ (fun e => hn (by rw [e]))⟩
theorem sv_set (xs : List Int) (j : Nat) (v : Int) : sv (xs.set j v) = (sv xs).set j (.int .i64 v) := by simp [sv, List.map_set]

set_option maxRecDepth 100000 in
set_option maxHeartbeats 4000000 in
theorem markIntS_own (N : Nat) (a : Option Addr) (n cap : Nat) (xs : List Int) (k : Int) (w : World) (hx : xs.length = n) (hn : n ≤ 3000) (hk : 0 < k) (hk2 : k < 1000) (ho : w.ownsRow N 3 1 (.slice a n cap) n (sv xs)) :
    Calls Tryz.prog 11 #[.slice a n cap, .int .i64 k] w fun e w' => e = .returned (.int .i64 (k + (n : Int))) ∧ w'.ownsRow N 3 1 (.slice a n cap) n (sv (mkd k n)) ∧ w.grownBy w' (bkOf a) := by
  have HO : Hid (w.ownsRow N 3 1 (.slice a n cap) n (sv xs)) := ho
  clear ho
  go_enter Tryz.func11, Tryz.ntmps11
  go_wp2_with fail
  go_loopw [1, 5] (fun kv i wr => ∃ (m : Nat) (ys : List Int), m ≤ n ∧ kv = .int .i64 (k + (m : Int)) ∧ i = .int .i64 m ∧ Hid (ys.length = n ∧ (∀ j, j < m → ys[j]? = some (k + (j : Int))) ∧ wr.ownsRow N 3 1 (.slice a n cap) n (sv ys) ∧ w.grownBy wr (bkOf a))) (fun _ i _ => n - (intOf i).toNat)
  case atStart => exact ⟨0, xs, Nat.zero_le _, by simp, rfl, ⟨hx, fun j hj => by omega, HO.out, World.grownBy.refl _ _⟩⟩
  case round =>
    obtain ⟨m, ys, hm, rfl, rfl, HI⟩ := hrel
    by_cases hmn : m < n
    · obtain ⟨hl, hv, how, hg⟩ := HI.out
      have hf := how.2
      rcases hf with ⟨_, h00⟩ | ⟨g, cap', cur, e2, _⟩
      · omega
      cases e2
      have g0 : wr.cell? ⟨g, m, none⟩ = some (.int .i64 (ys.getD m 0)) := by
        rw [how.cellAt m (by omega)]
        simp [sv, List.getD, List.getElem?_eq_getElem (show m < ys.length by omega)]
      have z := how.frozenAt
      have HI2 : Hid ((ys.set m (k + (m : Int))).length = n ∧ (∀ j, j < m + 1 → (ys.set m (k + (m : Int)))[j]? = some (k + (j : Int))) ∧ (wr.setCell ⟨g, m, none⟩ (.int .i64 (k + (m : Int)))).ownsRow N 3 1 (.slice (some ⟨g, 0, none⟩) n cap) n (sv (ys.set m (k + (m : Int)))) ∧ w.grownBy (wr.setCell ⟨g, m, none⟩ (.int .i64 (k + (m : Int)))) (bkOf (some ⟨g, 0, none⟩))) := by
        refine ⟨by simpa using hl, fun j hj => ?_, ?_, grownBy_tr hg (grownBy_set _ _ _ _)⟩
        · by_cases c : j = m
          · subst c
            rw [List.getElem?_set_self (by omega)]
          · rw [List.getElem?_set_ne (fun h => c h.symm)]
            exact hv j (by omega)
        · rw [sv_set]
          exact (how.stored m _).1
      clear hl hv how hg HI
      go_wp2_with fail
      go_roundw
      case rel => exact ⟨m + 1, _, by omega, by go_num, by go_num, HI2⟩
      case measure => simp [intOf]; omega
    · obtain rfl : m = n := by omega
      go_wp2_with fail
      go_ret
      exact ⟨rfl, by rw [← mkd_is HI.out.1 HI.out.2.1]; exact HI.out.2.2.1, HI.out.2.2.2⟩

set_option maxRecDepth 100000 in
set_option maxHeartbeats 4000000 in
theorem heldIntS_calls (L : Nat) (a : Option Addr) (n cap : Nat) (k : Int) (w : World) (hn : n ≤ 3000) (hk : 0 < k) (hk2 : k < 1000) (hT : IntsAt L w a n (fun i => k + (i : Int))) :
    Calls Tryz.prog 12 #[.slice a n cap, .int .i64 k] w fun e w' => e = .returned (.int .i64 (k + (n : Int))) ∧ w' = w := by
  have HT : Hid (RowN 1 L w a n fun i => #[.int .i64 (k + (i : Int))]) := hT
  clear hT
  go_enter Tryz.func12, Tryz.ntmps12
  go_wp2_with fail
  go_loopw [1, 5] (fun kv i wr => ∃ m : Nat, m ≤ n ∧ kv = .int .i64 (k + (m : Int)) ∧ i = .int .i64 m ∧ wr = w) (fun _ i _ => n - (intOf i).toNat)
  case atStart => exact ⟨0, Nat.zero_le _, by simp, rfl, rfl⟩
  case round =>
    obtain ⟨m, hm, rfl, rfl, rfl⟩ := hrel
    by_cases hmn : m < n
    · obtain ⟨b, off, rfl, _, hb, d0⟩ := cells1 HT.out hmn
      go_wp2_with fail
      go_roundw
      case rel => exact ⟨m + 1, by omega, by go_num, by go_num, by first | rfl | trivial⟩
      case measure => simp [intOf]; omega
    · obtain rfl : m = n := by omega
      go_wp2_with fail
      go_ret
      exact ⟨rfl, rfl⟩
theorem IntsAt.mkd {N : Nat} {w : World} {a : Option Addr} {k : Int} {n cap : Nat} (h : w.ownsRow N 3 1 (.slice a n cap) n (sv (mkd k n))) : IntsAt N w a n (fun i => k + (i : Int)) := by
  have h1 : LiAt N w a (Go.Proofs.YtcpjnddkibbddaaGreat.mkd k n) := LiAt.own (cap := cap) (by rw [mkd_len]; exact h)
  intro hn
  obtain ⟨b, off, e, h2, h3, h4⟩ := h1 (by rw [mkd_len]; exact hn)
  refine ⟨b, off, e, h2, h3, fun i hi j hj => ?_⟩
  rw [h4 i (by rw [mkd_len]; exact hi) j hj]
  simp [Go.Proofs.YtcpjnddkibbddaaGreat.mkd, List.getD, hi]
end Go.Proofs.YtcpjnddkibbddaaGreat
