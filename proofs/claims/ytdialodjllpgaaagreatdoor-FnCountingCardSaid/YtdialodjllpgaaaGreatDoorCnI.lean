import Derived.Test.YtdialodjllpgaaaGreatDoorCnD
import Derived.Test.YtdialodjllpgaaaGreatDoorThing
import Derived.Shelf.Strconv.Itoa4
/-! The program's text of a whole number: strconv.FormatInt by the contract that the shelf holds of it. -/
namespace Go.Proofs.YtdialodjllpgaaaGreatDoor
open Go.RowKit Go.Shelf

def fmtL_ren : Go.Shelf.Ren := ⟨fun | 173 => 486 | 246 => 350 | 283 => 377 | 284 => 378 | 285 => 379 | 286 => 380 | 129 => 408 | 317 => 407 | 318 => 409 | 319 => 410 | 320 => 411 | 337 => 426 | 338 => 427 | n => n, fun | 3 => 3 | 9 => 9 | 2 => 2 | 4 => 4 | 171 => 440 | 0 => 0 | 53 => 73 | 37 => 22 | 5 => 5 | 173 => 443 | 212 => 460 | 51 => 76 | 20 => 20 | 213 => 461 | 46 => 137 | 232 => 475 | 233 => 476 | n => n, fun | 17 => 6 | 18 => 7 | 19 => 8 | n => n⟩
theorem fmtL : Go.Proofs.LaysM.n173 Tryz.prog fmtL_ren := {
  mixed := by kernel_rfl
  f129 := Tryz.func408.trans (congrArg some (by kernel_rfl))
  f173 := Tryz.func486.trans (congrArg some (by kernel_rfl))
  f246 := Tryz.func350.trans (congrArg some (by kernel_rfl))
  f283 := Tryz.func377.trans (congrArg some (by kernel_rfl))
  f284 := Tryz.func378.trans (congrArg some (by kernel_rfl))
  f285 := Tryz.func379.trans (congrArg some (by kernel_rfl))
  f286 := Tryz.func380.trans (congrArg some (by kernel_rfl))
  f317 := Tryz.func407.trans (congrArg some (by kernel_rfl))
  f318 := Tryz.func409.trans (congrArg some (by kernel_rfl))
  f319 := Tryz.func410.trans (congrArg some (by kernel_rfl))
  f320 := Tryz.func411.trans (congrArg some (by kernel_rfl))
  f337 := Tryz.func426.trans (congrArg some (by kernel_rfl))
  f338 := Tryz.func427.trans (congrArg some (by kernel_rfl))
  t0 := Tryz.underlying0
  a0 := Tryz.isAgg0
  z0 := Tryz.sizeOf0
  v0 := Tryz.zeroValue0
  t2 := Tryz.underlying2
  a2 := Tryz.isAgg2
  z2 := Tryz.sizeOf2
  v2 := Tryz.zeroValue2
  t3 := Tryz.underlying3
  a3 := Tryz.isAgg3
  z3 := Tryz.sizeOf3
  v3 := Tryz.zeroValue3
  t4 := Tryz.underlying4
  a4 := Tryz.isAgg4
  z4 := Tryz.sizeOf4
  v4 := Tryz.zeroValue4
  t5 := Tryz.underlying5
  a5 := Tryz.isAgg5
  z5 := Tryz.sizeOf5
  v5 := Tryz.zeroValue5
  t9 := Tryz.underlying9
  a9 := Tryz.isAgg9
  z9 := Tryz.sizeOf9
  v9 := Tryz.zeroValue9
  t20 := Tryz.underlying20
  a20 := Tryz.isAgg20
  z20 := Tryz.sizeOf20
  v20 := Tryz.zeroValue20
  t37 := Tryz.underlying22
  a37 := Tryz.isAgg22
  z37 := Tryz.sizeOf22
  v37 := Tryz.zeroValue22
  t46 := Tryz.underlying137
  a46 := Tryz.isAgg137
  z46 := Tryz.sizeOf137
  v46 := Tryz.zeroValue137
  t51 := Tryz.underlying76
  a51 := Tryz.isAgg76
  z51 := Tryz.sizeOf76
  v51 := Tryz.zeroValue76
  t53 := Tryz.underlying73
  a53 := Tryz.isAgg73
  z53 := Tryz.sizeOf73
  v53 := Tryz.zeroValue73
  t171 := Tryz.underlying440
  a171 := Tryz.isAgg440
  z171 := Tryz.sizeOf440
  v171 := Tryz.zeroValue440
  t173 := Tryz.underlying443
  a173 := Tryz.isAgg443
  z173 := Tryz.sizeOf443
  v173 := Tryz.zeroValue443
  t212 := Tryz.underlying460
  a212 := Tryz.isAgg460
  z212 := Tryz.sizeOf460
  v212 := Tryz.zeroValue460
  t213 := Tryz.underlying461
  a213 := Tryz.isAgg461
  z213 := Tryz.sizeOf461
  t232 := Tryz.underlying475
  a232 := Tryz.isAgg475
  z232 := Tryz.sizeOf475
  v232 := Tryz.zeroValue475
  t233 := Tryz.underlying476
  a233 := Tryz.isAgg476
  z233 := Tryz.sizeOf476
  v233 := Tryz.zeroValue476
  g17 := by kernel_rfl
  g18 := by kernel_rfl
  g19 := by kernel_rfl
  i0 := by kernel_rfl
  i2 := by kernel_rfl
  i3 := by kernel_rfl
  i4 := by kernel_rfl
  i5 := by kernel_rfl
  i9 := by kernel_rfl
  i20 := by kernel_rfl
  i37 := by kernel_rfl
  i46 := by kernel_rfl
  i51 := by kernel_rfl
  i53 := by kernel_rfl
  i171 := by kernel_rfl
  i173 := by kernel_rfl
  i212 := by kernel_rfl
  i232 := by kernel_rfl
  i233 := by kernel_rfl
  m17 := by kernel_rfl
  m18 := by kernel_rfl
  m19 := by kernel_rfl }


theorem fmt_calls (n : Int) (w : World) (hn : I64r n) (hT : TabP w) :
    Calls Tryz.prog 486 #[.int .i64 n, .int .i64 10] w fun e w' => e = .returned (.string (bA (decB n))) ∧ Below w.heap.size w w' := by
  refine Calls.mono (Any.strconv_FormatInt_10 fmtL n hn.1 hn.2 w hT) fun e w' ⟨he, k, os, hw⟩ => ⟨by rw [he, decB_itoa n hn]; rfl, ?_⟩
  rw [hw]
  refine ⟨rfl, rfl, rfl, by simp [Sort.grow], fun i hi => ?_⟩
  simp [Sort.grow, World.drewN, Array.getElem?_append_left hi]

set_option maxRecDepth 100000 in
set_option maxHeartbeats 4000000 in
theorem wtext_calls (n : Int) (w : World) (hn : I64r n) (hT : TabP w) :
    Calls Tryz.prog 485 #[.int .i64 n] w fun e w' => e = .returned (.string (bA (decB n))) ∧ Below w.heap.size w w' := by
  have HT : Hid (TabP w) := hT
  clear hT
  go_enter Tryz.func485, Tryz.ntmps485
  go_wp2_with fail
  refine (fmt_calls n _ hn HT.out).mono ?_
  rintro e w1 ⟨rfl, hb⟩
  go_wp2_with fail
  go_ret
  exact ⟨rfl, hb⟩

theorem thW_int (n : Int) : thW 2 n 0 ⟨#[]⟩ 0 = .iface 249 (.int .i64 n) := by
  have h1 : fz 0 = true := by decide
  have h2 : se ⟨#[]⟩ = true := by first | rfl | kernel_rfl | simp [se]
  simp [thW, okB, thV, ueB, usB, h1, h2]
set_option maxRecDepth 100000 in
set_option maxHeartbeats 4000000 in
theorem text_calls (n : Int) (w : World) (hn : I64r n) (hT : TabP w) :
    Calls Tryz.prog 55 #[vOf 2 n 0 ⟨#[]⟩ 0] w fun e w' => e = .returned (.string (bA (decB n))) ∧ Below w.heap.size w w' := by
  have HT : Hid (TabP w) := hT
  clear hT
  go_enter Tryz.func55, Tryz.ntmps55
  go_wp2_with fail
  refine (th_calls 2 n 0 ⟨#[]⟩ 0 _).mono ?_
  rw [thW_int]
  rintro e w1 ⟨rfl, hb⟩
  have HB : Hid (Below w.heap.size w w1) := below_call (below_alloc _ _) hb
  have hb2 : Below (w.alloc (.cells #[.int .i64 2, .int .i64 n, .float .f64 0, .string ⟨#[]⟩, .int .i64 0] 56)).heap.size _ w1 := hb
  have HT1 : Hid (TabP w1) := TabP.keep HT.out HB.out (Nat.le_refl _)
  clear hb hb2
  have hm : (method 610 249 (.int .i64 n) "loop.example/meaning/impl.text").run Tryz.prog w1 = .ok (485, .int .i64 n) w1 := by kernel_rfl
  go_wp2_with fail
  refine (wtext_calls n _ hn HT1.out).mono ?_
  rintro e w2 ⟨rfl, hb2⟩
  go_wp2_with fail
  go_ret
  exact ⟨rfl, below_call HB.out hb2⟩
end Go.Proofs.YtdialodjllpgaaaGreatDoor
