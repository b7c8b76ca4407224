import Derived.Test.YtiidepafifodjaaDoorHrRow
import Derived.Test.YtiidepafifodjaaDoorTie
import Derived.Test.YtiidepafifodjaaDoorCards
import Derived.SevenTiedAt
/-! FnExactHear: the tied card. -/
namespace Go.Proofs.YtiidepafifodjaaDoor
open Go

theorem fnExactHear_card_holds : Rows.FnExactHearCardSaid :=
  Claim7.holds_tied_plain_at .later [] [.data, .data, .data, .sentinel, .sentinel] true (true, "ed5c6fb4eca86c71b0adddfbb0ad1e180b32d2b4a66ab5e782b83508c9c82b41") true
    fnExactHear_row_holds (fun _ h => by cases h) (by kernel_rfl) (fun _ h => by cases h) fnExactHear_row_tie rfl ⟨rfl, rfl⟩ (by kernel_rfl) rfl
    (fun f fn hf hfn => by
      obtain rfl : f = 4 := Option.some.inj ((show Tryd.prog.funcNamed "loop.example/meaning/laws.FnExactHear" = some 4 by kernel_rfl).symm.trans hf) |>.symm
      obtain rfl : fn = Tryd.f4 := (Option.some.inj (Tryd.func4.symm.trans hfn)).symm
      exact ⟨by kernel_rfl, fun j t ht => by
        rw [Tryd.params4] at ht
        have h3 : t = 27 := by
          rcases j with _ | j
          · simpa using ht.symm
          · simp at ht
        subst h3
        exact (show Tryd.prog.wantsStandIn 27 = false by kernel_rfl)⟩)
    (by kernel_rfl)
end Go.Proofs.YtiidepafifodjaaDoor
