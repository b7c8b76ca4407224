import Derived.Test.YtcpjnddkibbddaaGreatLnC
import Derived.Shelf.Sort.Plain
import Derived.Shelf.Slices.CompactI
import Derived.Shelf.Slices.In.SortNone
import Derived.Sort.OwnSortedInts
/-! Lines: the library's sort and compact, by the contracts that the shelf holds of them. -/
namespace Go.Proofs.YtcpjnddkibbddaaGreat
open Go.RowKit Go.Shelf
def lays189_ren : Go.Shelf.Ren := ⟨fun | 189 => 20 | 125 => 36 | 257 => 35 | 128 => 74 | 129 => 75 | 294 => 65 | 295 => 66 | 296 => 67 | 297 => 68 | 298 => 69 | 299 => 70 | 216 => 71 | 300 => 72 | 301 => 73 | 328 => 128 | 329 => 129 | 330 => 130 | 331 => 131 | 332 => 132 | 215 => 133 | 343 => 156 | n => n, fun | 28 => 26 | 3 => 3 | 46 => 67 | 0 => 0 | 51 => 107 | 53 => 52 | 4 => 4 | 183 => 99 | 182 => 98 | 131 => 104 | 5 => 5 | 9 => 9 | 218 => 137 | 222 => 141 | 228 => 157 | 229 => 158 | n => n, fun | n => n⟩
theorem lays189 : Go.Proofs.Lays.n189 Tryz.prog lays189_ren := {
  mixed := by kernel_rfl
  f125 := Tryz.func36.trans (congrArg some (by kernel_rfl))
  f128 := Tryz.func74.trans (congrArg some (by kernel_rfl))
  f129 := Tryz.func75.trans (congrArg some (by kernel_rfl))
  f189 := Tryz.func20.trans (congrArg some (by kernel_rfl))
  f215 := Tryz.func133.trans (congrArg some (by kernel_rfl))
  f216 := Tryz.func71.trans (congrArg some (by kernel_rfl))
  f257 := Tryz.func35.trans (congrArg some (by kernel_rfl))
  f294 := Tryz.func65.trans (congrArg some (by kernel_rfl))
  f295 := Tryz.func66.trans (congrArg some (by kernel_rfl))
  f296 := Tryz.func67.trans (congrArg some (by kernel_rfl))
  f297 := Tryz.func68.trans (congrArg some (by kernel_rfl))
  f298 := Tryz.func69.trans (congrArg some (by kernel_rfl))
  f299 := Tryz.func70.trans (congrArg some (by kernel_rfl))
  f300 := Tryz.func72.trans (congrArg some (by kernel_rfl))
  f301 := Tryz.func73.trans (congrArg some (by kernel_rfl))
  f328 := Tryz.func128.trans (congrArg some (by kernel_rfl))
  f329 := Tryz.func129.trans (congrArg some (by kernel_rfl))
  f330 := Tryz.func130.trans (congrArg some (by kernel_rfl))
  f331 := Tryz.func131.trans (congrArg some (by kernel_rfl))
  f332 := Tryz.func132.trans (congrArg some (by kernel_rfl))
  f343 := Tryz.func156.trans (congrArg some (by kernel_rfl))
  t0 := Tryz.underlying0
  a0 := Tryz.isAgg0
  z0 := Tryz.sizeOf0
  v0 := Tryz.zeroValue0
  t3 := Tryz.underlying3
  a3 := Tryz.isAgg3
  z3 := Tryz.sizeOf3
  v3 := Tryz.zeroValue3
  t4 := Tryz.underlying4
  a4 := Tryz.isAgg4
  z4 := Tryz.sizeOf4
  v4 := Tryz.zeroValue4
  t5 := Tryz.underlying5
  a5 := Tryz.isAgg5
  z5 := Tryz.sizeOf5
  v5 := Tryz.zeroValue5
  t9 := Tryz.underlying9
  a9 := Tryz.isAgg9
  z9 := Tryz.sizeOf9
  v9 := Tryz.zeroValue9
  t28 := Tryz.underlying26
  a28 := Tryz.isAgg26
  z28 := Tryz.sizeOf26
  v28 := Tryz.zeroValue26
  t46 := Tryz.underlying67
  a46 := Tryz.isAgg67
  z46 := Tryz.sizeOf67
  v46 := Tryz.zeroValue67
  t51 := Tryz.underlying107
  a51 := Tryz.isAgg107
  z51 := Tryz.sizeOf107
  v51 := Tryz.zeroValue107
  t53 := Tryz.underlying52
  a53 := Tryz.isAgg52
  z53 := Tryz.sizeOf52
  v53 := Tryz.zeroValue52
  t131 := Tryz.underlying104
  a131 := Tryz.isAgg104
  z131 := Tryz.sizeOf104
  v131 := Tryz.zeroValue104
  t182 := Tryz.underlying98
  a182 := Tryz.isAgg98
  z182 := Tryz.sizeOf98
  v182 := Tryz.zeroValue98
  t183 := Tryz.underlying99
  a183 := Tryz.isAgg99
  z183 := Tryz.sizeOf99
  v183 := Tryz.zeroValue99
  t218 := Tryz.underlying137
  a218 := Tryz.isAgg137
  z218 := Tryz.sizeOf137
  v218 := Tryz.zeroValue137
  t222 := Tryz.underlying141
  a222 := Tryz.isAgg141
  z222 := Tryz.sizeOf141
  v222 := Tryz.zeroValue141
  t228 := Tryz.underlying157
  a228 := Tryz.isAgg157
  z228 := Tryz.sizeOf157
  v228 := Tryz.zeroValue157
  t229 := Tryz.underlying158
  a229 := Tryz.isAgg158
  z229 := Tryz.sizeOf158
  v229 := Tryz.zeroValue158 }
def lays220_ren : Go.Shelf.Ren := ⟨fun | 20 => 21 | n => n, fun | 22 => 26 | 3 => 3 | 4 => 4 | 0 => 0 | n => n, fun | n => n⟩
theorem lays220 : Go.Proofs.Lays2.n20 Tryz.prog lays220_ren := {
  mixed := by kernel_rfl
  f20 := Tryz.func21.trans (congrArg some (by kernel_rfl))
  t0 := Tryz.underlying0
  a0 := Tryz.isAgg0
  z0 := Tryz.sizeOf0
  v0 := Tryz.zeroValue0
  t3 := Tryz.underlying3
  a3 := Tryz.isAgg3
  z3 := Tryz.sizeOf3
  v3 := Tryz.zeroValue3
  t4 := Tryz.underlying4
  a4 := Tryz.isAgg4
  z4 := Tryz.sizeOf4
  v4 := Tryz.zeroValue4
  t22 := Tryz.underlying26
  a22 := Tryz.isAgg26
  z22 := Tryz.sizeOf26
  v22 := Tryz.zeroValue26
  i3 := by kernel_rfl }
theorem cpt_is : ∀ (n : Nat) (xs : List Int), xs.length = n → Lib.compact xs = cpt xs
  | 0, [], _ => rfl
  | 1, [x], _ => by unfold cpt Lib.compact Lib.compactUpTo Lib.keeps; simp [List.range_succ]
  | n + 2, x :: y :: r, h => by
    have ih := cpt_is (n + 1) (y :: r) (by simpa using h)
    unfold cpt
    rw [← ih]
    unfold Lib.compact Lib.compactUpTo
    rw [show (x :: y :: r).length = ((y :: r).length) + 1 from rfl, List.range_succ_eq_map, show (y :: r).length = r.length + 1 from rfl, List.range_succ_eq_map]
    simp only [List.filter_cons, List.filter_map, List.map_cons, List.map_map]
    have k0 : Lib.keeps (x :: y :: r).toArray 0 = true := by simp [Lib.keeps]
    have k0' : Lib.keeps (y :: r).toArray 0 = true := by simp [Lib.keeps]
    have kS : ∀ j, Lib.keeps (x :: y :: r).toArray (j + 1 + 1) = Lib.keeps (y :: r).toArray (j + 1) := fun j => by simp [Lib.keeps]
    have k1 : Lib.keeps (x :: y :: r).toArray (0 + 1) = decide (y ≠ x) := by simp [Lib.keeps]
    by_cases e : x = y
    · subst e
      simp [k0, k0', k1, Function.comp_def, kS]
    · have e2 : ¬ y = x := fun h => e h.symm
      simp [k0, k0', k1, e, e2, Function.comp_def, kS]
theorem sort_says : SortSays := fun N a cap xs w hn hown => by
  rcases hown.2 with ⟨h0, h00⟩ | ⟨g, cap', cur, e2, hN, hh, h4, h5, h6, h7⟩
  · obtain rfl : xs = [] := List.eq_nil_of_length_eq_zero h00
    refine (Any.slices_Sort_int_none lays189 a cap w).mono ?_
    rintro e w' ⟨rfl, rfl⟩
    exact ⟨[], rfl, rfl, List.Pairwise.nil, fun v => Iff.rfl, hown, World.grownBy.refl _ _⟩
  · cases e2
    have hlt : g < w.heap.size := (Array.getElem?_eq_some_iff.1 hh).1
    refine (Any.slices_Sort_int lays189 g 0 cap xs w (holds_of_blockI hh (by rw [← Nat.mul_one xs.length]; exact h7)) hlt (by omega)).mono ?_
    rintro e w' ⟨rfl, n, os, rfl⟩
    have hp := List.mergeSort_perm xs (fun x y => decide (x ≤ y))
    have hl : (xs.mergeSort fun x y => decide (x ≤ y)).length = xs.length := hp.length_eq
    refine ⟨_, rfl, hl, ?_, fun v => hp.mem_iff, ownsRow_sortedI hl hN hh h4 h5 h6, grownBy_sortedI _⟩
    have := List.pairwise_mergeSort (le := fun (x y : Int) => decide (x ≤ y)) (fun a b c h1 h2 => by simp at h1 h2 ⊢; omega) (fun a b => by simp; omega) xs
    exact this.imp fun h => by simpa using h
theorem comp_says : CompSays := fun N a cap xs w hn hown => by
  rcases hown.2 with ⟨h0, h00⟩ | ⟨g, cap', cur, e2, hN, hh, h4, h5, h6, h7⟩
  · obtain rfl : xs = [] := List.eq_nil_of_length_eq_zero h00
    refine (Any.slices_Compact_int_empty lays220 a cap w).mono ?_
    rintro e w' ⟨rfl, rfl⟩
    exact ⟨rfl, hown, World.grownBy.refl _ _⟩
  · cases e2
    have hlt : g < w.heap.size := (Array.getElem?_eq_some_iff.1 hh).1
    refine (Any.slices_Compact_int lays220 g 0 cap xs w (holds_of_blockI hh (by rw [← Nat.mul_one xs.length]; exact h7)) (by omega) h4).mono ?_
    rintro e w' ⟨rfl, n, rfl⟩
    rw [cpt_is _ _ rfl]
    have hc := cpt_len xs
    have hg := @grownBy_sortedI w g n #[] (cpt xs ++ List.replicate (xs.length - (cpt xs).length) 0).toArray
    have hl : (cpt xs ++ List.replicate (xs.length - (cpt xs).length) (0 : Int)).length = xs.length := by simp; omega
    have ho := ownsRow_sortedI (n := n) (os := #[]) (cap := cap) hl hN hh h4 h5 h6
    rw [Go.Sort.grow_empty] at hg ho
    refine ⟨rfl, ?_, hg⟩
    rcases ho.2 with ⟨h0, _⟩ | ⟨g', cap', cur', e2, _, hh', _, _, h6', h7'⟩
    · cases h0
    · cases e2
      refine ⟨by simp [sv], .inr ⟨g, cap, cur', rfl, hN, hh', Nat.le_trans hc h4, h5, h6', ?_⟩⟩
      have h8 := congrArg (List.take ((cpt xs).length * 1)) h7'
      rw [List.take_take, Nat.min_eq_left (by omega)] at h8
      rw [h8]
      simp [sv]
theorem implLines_calls (L : Nat) (u : UD) (a : Option Addr) (cap : Nat) (fas : Nat → FA) (w : World) (hs : u.sm) (hcf : ∀ i, i < u.n → CapF (u.fn i) (fas i)) (hT : FnsAt L w u.n u.fn a fas) :
    Calls Tryz.prog 7 #[unV u a cap] w fun e w' => ImplLPost u w e w' := implLines_of sort_says comp_says L u a cap fas w hs hcf hT
end Go.Proofs.YtcpjnddkibbddaaGreat
