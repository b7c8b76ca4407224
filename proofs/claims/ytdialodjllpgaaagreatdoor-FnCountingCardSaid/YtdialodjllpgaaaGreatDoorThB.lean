import Derived.Test.YtdialodjllpgaaaGreatDoorImB
import Derived.Test.YtdialodjllpgaaaGreatDoorSpU
import Derived.Test.YtdialodjllpgaaaGreatDoorRows
import Derived.JoinedOf
import Derived.Test.YtdialodjllpgaaaGreatDoorCnH
import Derived.RangeFuncCalls
import Derived.Deep.RegionHeld3
import Derived.OrdersIn
/-! The specification's check of a unit: codes 6 to 9. -/
namespace Go.Proofs.YtdialodjllpgaaaGreatDoor
open Go.RowKit
attribute [local go_sem] run_store_float
attribute [local go_sem ↓] Go.wp_at_zero Go.wp_at_succ

/-- the same place, its nodes' block said -/
abbrev faS (x : FA) (b o : Nat) : FA := ⟨x.va, x.vc, x.ua, x.uc, some ⟨b, o, none⟩, x.nc, x.nas⟩
end Go.Proofs.YtdialodjllpgaaaGreatDoor

/-! The specification's check of a unit, whole. -/
namespace Go.Proofs.YtdialodjllpgaaaGreatDoor
open Go.RowKit
attribute [local go_sem] run_store_float
attribute [local go_sem ↓] Go.wp_at_zero Go.wp_at_succ

theorem Least.in {P : FT → Prop} {x : FT} (h : Least P x) (h0 : x.c ≠ 0) : P x := by
  rcases h with ⟨rfl, _⟩ | ⟨_, h, _⟩
  · exact absurd rfl h0
  · exact h
end Go.Proofs.YtdialodjllpgaaaGreatDoor

/-! FnCounting: the row's closed facts, one by one. -/
namespace Go.Proofs.YtdialodjllpgaaaGreatDoor
open Go
set_option maxRecDepth 100000
theorem jfA : (Rows.fnCountingRow.inPlace == Tryz.pinned.checked.prog.inPlace 3) = true := by kernel_rfl
theorem jfB : (Rows.fnCountingRow.unfollowed == Tryz.pinned.checked.prog.unfollowed 3) = true := by kernel_rfl
theorem jfC : (Rows.fnCountingRow.recurses == Tryz.pinned.checked.prog.recurses 3) = true := by kernel_rfl
theorem jfD : (Rows.fnCountingRow.named == Tryz.pinned.checked.prog.varsNamed 3) = true := by kernel_rfl
theorem jfE : (laidOutB Tryz.pinned.checked.prog) = true := by kernel_rfl
theorem jfF : (mapsRowed Tryz.pinned.checked.prog) = true := by kernel_rfl
theorem jf : joinedFacts Tryz.pinned.checked.prog 3 Tryz.f3 Rows.fnCountingSpec Rows.fnCountingRow = true := by
  unfold joinedFacts
  rw [jfA, jfB, jfC, jfD, jfE, jfF]
  kernel_rfl
end Go.Proofs.YtdialodjllpgaaaGreatDoor

/-! A region that draws its order, inside a round of a range over a function: the laws of a region outside serve. -/
namespace Go.Proofs.YtdialodjllpgaaaGreatDoor
open Go.RowKit

/-- no operation defers -/
def noDefer (ops : Array Oper) : Bool := ops.all fun o => match o.op with
  | .defer _ => false
  | _ => true
theorem noDefer_spec {ops : Array Oper} (h : noDefer ops = true) {j : Nat} {o : Oper} (e : ops[j]? = some o) : ∀ c, o.op ≠ .defer c := fun c hc => by
  obtain ⟨hj, rfl⟩ := Array.getElem?_eq_some_iff.1 e
  have := (Array.all_eq_true.1 h) j hj
  rw [hc] at this
  cases this
/-- what goes on, and nothing else -/
abbrev OnlyN (R : Act → World → Prop) : Exit → Act → World → Prop := fun e a w => e = .normal ∧ R a w
theorem onlyN_out {R : Act → World → Prop} : ¬ LetsOut (OnlyN R) := fun ⟨_, _, h, _⟩ => by cases h
theorem wpOp_round {l n : Nat} {P : Program} {ops : Array Oper} {R : Act → World → Prop} {i : Nat} {K : Act → World → Prop} {a : Act} {w : World} (hd : noDefer ops = true) (h : wpOp P ops (OnlyN R) i K a w) :
    wpOpIn (Fence.wide.inRound l) n P ops (OnlyN R) i K a w := by
  unfold wpOp at h
  unfold wpOpIn
  cases ho : ops[i]? with
  | none => rw [ho] at h; exact h
  | some o =>
    rw [ho] at h
    simp only at h ⊢
    by_cases hw : Region.wanted o (yielded ops a.tmps) = true
    · rw [if_pos hw] at h ⊢
      rcases h with h | h
      · refine ⟨fun _ _ => trivial, ?_⟩
        rw [Oper.semAt_eq _ _ _ (noDefer_spec hd ho)]
        unfold Oper.wp at h
        generalize (execOp a.eval o).run P w = r at h ⊢
        cases r with
        | ok x w' =>
          cases x with
          | value v => exact h
          | skip => exact h
          | defer d => exact h
          | enter f args => exact ⟨fun e => by simp [Fence.inRound, Fence.wide] at e, CallsIn.inRound l (callsIn_wide.2 h)⟩
          | row row args => exact ⟨fun e => by simp [Fence.inRound, Fence.wide] at e, fun c cs _ => by
              obtain ⟨v, w'', hr, hs⟩ := h c cs
              exact ⟨v, w'', hr, stepsIn_wide.2 hs⟩⟩
          | _ => exact h.elim
        | halt x w' =>
          cases x with
          | panic v => exact h
          | _ => exact h.elim
      · exact absurd h.2 onlyN_out
    · rw [if_neg hw] at h ⊢
      exact ⟨fun _ _ => trivial, h⟩
theorem wpAny_round {l n : Nat} {P : Program} {ops : Array Oper} {md : Region.Mode} {R : Act → World → Prop} (hd : noDefer ops = true) : ∀ (fuel : Nat) (listed : Array Bool) (a : Act) (w : World),
    wpAny P md ops (OnlyN R) fuel listed a w → wpAnyIn (Fence.wide.inRound l) n P md ops (OnlyN R) fuel listed a w
  | 0, _, _, _, h => h
  | fuel + 1, _, _, _, h => ⟨h.1, fun i hi => wpOp_round hd (wpOp_mono (fun a' w' h' => wpAny_round hd fuel _ a' w' h') (h.2 i hi))⟩
/-- a region that draws, inside a round, walked as outside -/
theorem wpIn_round_held {l n id : Nat} {P : Program} {ops : Array Oper} {R : Act → World → Prop} {S : World → Prop} {a : Act} {w : World} (hm : P.follows .mixedOrders = true) (hd : noDefer ops = true) (hS : S w.drew)
    (h : S w.drew → wpAnyH P .any ops (OnlyN R) S ops.size (Array.replicate ops.size false) a w.drew) : (Code.region id ops true).wpIn (Fence.wide.inRound l) n P (OnlyN R) a w :=
  wpIn_region_any hm (wpAny_round hd _ _ _ _ (wpAny_of_held _ _ _ _ (h hS)))
end Go.Proofs.YtdialodjllpgaaaGreatDoor
