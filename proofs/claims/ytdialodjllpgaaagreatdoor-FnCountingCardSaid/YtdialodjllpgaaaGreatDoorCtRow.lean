import Derived.Test.YtdialodjllpgaaaGreatDoorLwA
import Derived.Test.YtdialodjllpgaaaGreatDoorImB
import Derived.LaidSub
import Derived.LaidMore
import Derived.MakeChecks
import Derived.OpenVars
import Derived.LaidHandle
import Derived.LaidLaws
import Derived.Stop.Joined
import Derived.Test.YtdialodjllpgaaaGreatDoorThB
import Derived.Test.YtdialodjllpgaaaGreatDoorTie
import Derived.Test.YtdialodjllpgaaaGreatDoorCards
import Derived.SevenTiedAt
/-! FnCounting: the row. -/
namespace Go.Proofs.YtdialodjllpgaaaGreatDoor
open Go.ChangeShapes Go.WideShapes Go.ChangeAt Go.RowKit

def laidC : List (String × DataW Unit) := [("math/bits.deBruijn32tab", Rows.laid_math_bits_deBruijn32tab), ("math/bits.deBruijn64tab", Rows.laid_math_bits_deBruijn64tab), ("internal/strconv.uint64pow10", Rows.laid_internal_strconv_uint64pow10), ("errors.errorType", Rows.laid_errors_errorType), ("loop.example/meaning/impl.stateNames", Rows.laid_loop_example_meaning_impl_stateNames), ("loop.example/meaning/impl.typeNames", Rows.laid_loop_example_meaning_impl_typeNames), ("loop.example/meaning/impl.handlerNames", Rows.laid_loop_example_meaning_impl_handlerNames)]
theorem tPowC : (Tryz.prog.globals[6]?).map (·.type) = some 460 := by kernel_rfl
theorem doorC_met (os : Os) (args : Array Value) : laidMetH Tryz.prog laidC ((World.doorLaid Tryz.prog 400 os).forCall (fun _ _ => 0) ⟨#[], args, []⟩).memory :=
  laidMetH_of_parts3 (fuel := 8) (laidMet_of_run' 8 (by kernel_rfl) (by kernel_rfl)) (by kernel_rfl) (by kernel_rfl)
theorem keepP : laidC.filter (fun x => x.1 == "internal/strconv.uint64pow10") = [("internal/strconv.uint64pow10", Rows.laid_internal_strconv_uint64pow10)] := by kernel_rfl
theorem tabP_of_laidC {W : World} (h : laidMetH Tryz.prog laidC W) : TabP W := by
  have h' := h.filter (fun x => x.1 == "internal/strconv.uint64pow10")
  rw [keepP] at h'
  rw [MakeChecks.laidMetH_plain _ _ _ (by kernel_rfl)] at h'
  obtain ⟨ps, ⟨g2, t2, cs2, f2, p2, q2, hg2, ht2, hv2, hd2, _, _⟩, _⟩ := h'
  obtain rfl := Option.some.inj (gPow.symm.trans hg2)
  obtain rfl := Option.some.inj (tPowC.symm.trans ht2)
  have hd := hd2
  unfold TabP Lib.TabIs
  rw [hv2, ← Lib.cells_of_tab (k := .u64) (zs := Lib.pow10Tab) Tryz.underlying460 Tryz.underlying73 (by kernel_rfl) (by kernel_rfl) hd]
theorem gEtC : Tryz.prog.globalNamed "errors.errorType" = some 0 := by kernel_rfl
theorem rtC : (Tryz.prog.cutTypes.find? (·.1 == "internal/reflectlite.rtype")).map (·.2) = some 227 := by kernel_rfl
theorem szC : Tryz.prog.types.size = 510 := by kernel_rfl
theorem oneC : ((List.range 510).filter fun t => Tryz.prog.rowNamed t [101, 114, 114, 111, 114]) = [127] := by kernel_rfl
theorem keepE : laidC.filter (fun x => x.1 == "errors.errorType") = [("errors.errorType", Rows.laid_errors_errorType)] := by kernel_rfl
theorem etP_of_laidC {W : World} (h : laidMetH Tryz.prog laidC W) : EtP W := by
  have h1 := h.filter (fun x => x.1 == "errors.errorType")
  rw [keepE] at h1
  have h' : laidMet Tryz.prog [] W ∧ handlesMet Tryz.prog [("errors.errorType", Rows.laid_errors_errorType)] W := h1
  obtain ⟨name, u, ty, e1, e2, e3, e4, e5⟩ := h'.2 _ (List.mem_singleton.2 rfl)
  have en : name = [101, 114, 114, 111, 114] := (Option.some.inj e1).symm
  subst en
  obtain rfl := Option.some.inj (rtC.symm.trans e2)
  have hm : ty ∈ (List.range 510).filter fun t => Tryz.prog.rowNamed t [101, 114, 114, 111, 114] := List.mem_filter.2 ⟨List.mem_range.2 (by rw [← szC]; exact e3), e4⟩
  rw [oneC] at hm
  obtain rfl := List.mem_singleton.1 hm
  have hh : typeHandle Tryz.prog 127 = hT 127 := by kernel_rfl
  rw [hh] at e5
  show W.cell? ⟨0, 0, none⟩ = _
  simpa using World.var?_cell gEtC e5 0
end Go.Proofs.YtdialodjllpgaaaGreatDoor

/-! FnCounting: the row, lifted. -/
namespace Go.Proofs.YtdialodjllpgaaaGreatDoor
open Go.ChangeShapes Go.WideShapes Go.ChangeAt Go.RowKit

set_option maxRecDepth 100000 in
theorem fnCounting_lifted (hZ : ZeroSays) (os : Os) (started : os.Started) (H : Type) (enc : TypeId × Value → H) :
    ReturnsInHanded {} Tryz.checked os 3 .any (fun w args => (Rows.fnCountingSpec.pre enc Tryz.prog Tryz.f3 [] false w args ∧ laidMetH Tryz.prog laidC w) ∧ sizedMet enc Tryz.prog Tryz.f3 (OpenSpec.ofChange Rows.fnCountingSpec) false w args) (Rows.fnCountingSpec.post enc Tryz.prog Tryz.f3 false true false false) := by
  refine returnsInHanded_of_change_and (C := Tryz.checked) (X := fun w _ => laidMetH Tryz.prog laidC w) (fun _ _ _ hh h => laidMetH.of_heap hh h) Tryz.own started (by kernel_rfl) Tryz.func3
    (ChangeSpec.witness_shaped (enc := enc) (C := Tryz.checked) (os := os) (X := fun w _ => laidMetH Tryz.prog laidC w) false (World.doorLaid Tryz.prog 400 os) #[.slice none 0 0] 8 rfl (World.shaped_of_RefB (by kernel_rfl) (by kernel_rfl)) (by kernel_rfl) (by kernel_rfl) (by kernel_rfl) (doorC_met os _)) ?_
  intro W base args ds gs before hval0 hW _ _ hL _
  have hval : ∀ (j : Nat) t v, Tryz.f3.params[j]? = some t → args[j]? = some v → Value.okWide Tryz.prog W .any base t v := hval0
  have hW' := hW
  obtain ⟨p, q, hA0, hV, rfl, _, _⟩ := hW
  have hA : DataW.TrodAll enc Tryz.prog W 0 (fun _ => true) true Tryz.f3.params.toList args.toList ds p := hA0
  rw [Tryz.params3] at hA hval
  obtain ⟨v0, vs0, d0, ds0, p0, q0, hargs, rfl, rfl, h0, rest0⟩ := trodAll_cons hA
  obtain ⟨rfl, rfl, rfl⟩ := trodAll_nil rest0
  obtain rfl : args = #[v0] := by cases args; simp_all
  obtain ⟨g1, g2, g3, rfl⟩ : ∃ g1 g2 g3, gs = [g1, g2, g3] := by
    rcases gs with _ | ⟨g1, gs⟩
    · exact hV.elim
    · rcases gs with _ | ⟨g2, gs⟩
      · obtain ⟨_, _, _, _, _, _, _, _, _, _, h, _⟩ := hV
        exact h.elim
      · rcases gs with _ | ⟨g3, gs⟩
        · obtain ⟨_, _, _, _, _, _, _, _, _, _, ⟨_, _, _, _, _, _, _, _, _, _, h, _⟩, _⟩ := hV
          exact h.elim
        · rcases gs with _ | ⟨g4, gs⟩
          · exact ⟨g1, g2, g3, rfl⟩
          · obtain ⟨_, _, _, _, _, _, _, _, _, _, ⟨_, _, _, _, _, _, _, _, _, _, ⟨_, _, _, _, _, _, _, _, _, _, h, _⟩, _⟩, _⟩ := hV
            exact h.elim
  have kk0 := h0
  have lt0 : ∀ x ∈ p0, x.block < W.heap.size := by obtain ⟨m, hm⟩ := kk0; exact DataW.trod_lt m _ _ _ hm
  obtain ⟨a0, len0, cap0, rfl⟩ := okWide_slice Tryz.underlying22 (hval 0 22 v0 rfl rfl)
  obtain ⟨z0, row0⟩ := open_bytes h0
  clear hA0 hval0
  have hP : TabP W := tabP_of_laidC hL
  refine (fnCounting_walk hZ a0 len0 cap0 z0 W row0 hP (etP_of_laidC hL)).mono fun e W' ⟨he, bel⟩ => ?_
  subst he
  exact ⟨_, rfl, _, _, _, [], _, _, hW', trodAll_mk1 (shut_bool Tryz.underlying4 _), (trodAll_cons_mk (Below.trod Tryz.laidOut (by kernel_rfl) (of_decide_eq_true (by kernel_rfl)) kk0 bel lt0) trodAll_mk0), Below.trodVars Tryz.laidOut bel (by kernel_rfl) hV, bel.frame _, fun h => by cases h⟩

end Go.Proofs.YtdialodjllpgaaaGreatDoor

/-! FnCounting: the row holds. -/
namespace Go.Proofs.YtdialodjllpgaaaGreatDoor
open Go.ChangeShapes Go.WideShapes Go.ChangeAt Go.RowKit

theorem ctNamed : Tryz.pinned.checked.prog.funcNamed Rows.fnCountingRow.func = some 3 := by kernel_rfl
theorem fnCounting_row_holds (hZ : ZeroSays) : Rows.FnCountingSaid :=
  OpenClaim.holds_of_wide 3 Tryz.f3 rfl rfl rfl rfl rfl rfl rfl ⟨rfl, rfl, rfl, rfl, rfl⟩ rfl rfl rfl rfl rfl ctNamed Tryz.func3 jf
    (of_decide_eq_true (by kernel_rfl)) (by unfold Func.isWrapper; first | (rw [if_pos (by decide +kernel)]; kernel_rfl) | (rw [if_neg (by decide +kernel)]; exact ⟨rfl, rfl⟩))
    (fun os started H enc _ => fnCounting_lifted hZ os started H enc)
end Go.Proofs.YtdialodjllpgaaaGreatDoor

/-! FnCounting: the tied card. -/
namespace Go.Proofs.YtdialodjllpgaaaGreatDoor
open Go
set_option maxRecDepth 100000

theorem ctGoes : true = Rows.fnCountingRow.goesBy Tryz.pinned.checked.prog := by kernel_rfl
theorem ctWf : Rows.fnCountingRow.wfByText (OpenSpec.ofChange Rows.fnCountingSpec) = true := by kernel_rfl
theorem ctMain : Tryz.pinned.checked.prog.mainIs = some (true, "9cccac4a5840ae2ccf4bcc8429c1a77bf24a1466517b0abfcb97410143ca10a8".toList) := by kernel_rfl
theorem ctLooks : true = Tryz.pinned.checked.prog.looks [] := by kernel_rfl
theorem fnCounting_card_of (hZ : ZeroSays) : Rows.FnCountingCardSaid := by
  refine ⟨Claim7.tied_new_at .later [.data, .data, .data, .handle, .data, .data, .data] true (Claim7.new_of_sixth (fnCounting_row_holds hZ) (true, "9cccac4a5840ae2ccf4bcc8429c1a77bf24a1466517b0abfcb97410143ca10a8") true rfl ⟨rfl, rfl⟩ ctMain (by simp [Claim7.isSixth]) (fun f fn hf hfn => ?_)) ctWf, (fun D hD => by cases hD), fnCounting_row_tie, (fun h => by cases h), ctGoes⟩
  obtain rfl : f = 3 := Option.some.inj (ctNamed.symm.trans hf) |>.symm
  obtain rfl : fn = Tryz.f3 := (Option.some.inj (Tryz.func3.symm.trans hfn)).symm
  exact ⟨ctLooks, fun j t ht => by
    rw [Tryz.params3] at ht
    have h3 : t = 22 := by
      rcases j with _ | j
      · simpa using ht.symm
      · simp at ht
    subst h3
    exact (show Tryz.prog.wantsStandIn 22 = false by kernel_rfl)⟩
end Go.Proofs.YtdialodjllpgaaaGreatDoor
