import Derived.Test.YtcpjnddkibbddaaGreatLnB
/-! Lines: the program's, given what the library's sort and compact answer. -/
namespace Go.Proofs.YtcpjnddkibbddaaGreat
open Go.RowKit
attribute [local go_sem] run_store_float
attribute [local go_sem ↓] Go.wp_at_zero Go.wp_at_succ

/-- runs of equal numbers made one -/
def cpt : List Int → List Int
  | [] => []
  | [x] => [x]
  | x :: y :: r => if x = y then cpt (y :: r) else x :: cpt (y :: r)
def Up (xs : List Int) : Prop := xs.Pairwise (· ≤ ·)
theorem cpt_mem : ∀ (xs : List Int) (v : Int), v ∈ cpt xs ↔ v ∈ xs
  | [], v => Iff.rfl
  | [x], v => Iff.rfl
  | x :: y :: r, v => by
    unfold cpt
    by_cases e : x = y
    · rw [if_pos e, cpt_mem (y :: r) v, e]
      simp
    · rw [if_neg e, List.mem_cons, cpt_mem (y :: r) v, List.mem_cons (l := y :: r)]
theorem cpt_len : ∀ xs : List Int, (cpt xs).length ≤ xs.length
  | [] => Nat.le_refl _
  | [x] => Nat.le_refl _
  | x :: y :: r => by
    have := cpt_len (y :: r)
    unfold cpt
    split
    · simp at this ⊢; omega
    · simp at this ⊢; omega
theorem cpt_asc : ∀ xs : List Int, Up xs → Asc (cpt xs)
  | [], _ => List.Pairwise.nil
  | [x], _ => by unfold cpt Asc; simp
  | x :: y :: r, h => by
    unfold Up at h
    rw [List.pairwise_cons] at h
    have ih := cpt_asc (y :: r) h.2
    unfold cpt
    by_cases e : x = y
    · rw [if_pos e]; exact ih
    · rw [if_neg e]
      unfold Asc at ih ⊢
      rw [List.pairwise_cons]
      refine ⟨fun z hz => ?_, ih⟩
      have hz := (cpt_mem (y :: r) z).1 hz
      have h1 := h.1 y (List.mem_cons_self ..)
      have h2 : y ≤ z := by
        rcases List.mem_cons.1 hz with rfl | hz
        · exact Int.le_refl _
        · exact (List.pairwise_cons.1 h.2).1 z hz
      omega
/-- the second of two new blocks -/
theorem cell_one_new2 (w : World) (o : Obj) (x : Value) (t : TypeId) : ∀ j u, [x][j]? = some u → ((w.alloc o).alloc (.cells #[x] t)).cell? ((⟨w.heap.size + 1, 0, none⟩ : Addr).add j) = some u := by
  have h := cell_one_new (w.alloc o) x t
  rw [show (w.alloc o).heap.size = w.heap.size + 1 from by simp] at h
  exact h
/-- what the library's sort is to answer -/
def SortSays : Prop := ∀ (N : Nat) (a : Option Addr) (cap : Nat) (xs : List Int) (w : World), xs.length ≤ 3000 → w.ownsRow N 3 1 (.slice a xs.length cap) xs.length (sv xs) →
  Calls Tryz.prog 20 #[.slice a xs.length cap] w fun e w' => ∃ ys, e = .returned (.tuple #[]) ∧ ys.length = xs.length ∧ Up ys ∧ (∀ v, v ∈ ys ↔ v ∈ xs) ∧ w'.ownsRow N 3 1 (.slice a xs.length cap) xs.length (sv ys) ∧ w.grownBy w' (bkOf a)
/-- what the library's compact is to answer -/
def CompSays : Prop := ∀ (N : Nat) (a : Option Addr) (cap : Nat) (xs : List Int) (w : World), xs.length ≤ 3000 → w.ownsRow N 3 1 (.slice a xs.length cap) xs.length (sv xs) →
  Calls Tryz.prog 21 #[.slice a xs.length cap] w fun e w' => e = .returned (.slice a (cpt xs).length cap) ∧ w'.ownsRow N 3 1 (.slice a (cpt xs).length cap) (cpt xs).length (sv (cpt xs)) ∧ w.grownBy w' (bkOf a)
def ImplLPost (u : UD) (w : World) (e : Ending) (w' : World) : Prop := (∃ xs a cap, e = .returned (.slice a xs.length cap) ∧ LinesIs u xs ∧ xs.length ≤ 3000 ∧ w'.ownsRow w.heap.size 3 1 (.slice a xs.length cap) xs.length (sv xs)) ∧ Below w.heap.size w w'

set_option maxRecDepth 100000 in
set_option maxHeartbeats 4000000 in
theorem implLines_of (hSo : SortSays) (hCo : CompSays) (L : Nat) (u : UD) (a : Option Addr) (cap : Nat) (fas : Nat → FA) (w : World) (hs : u.sm) (hcf : ∀ i, i < u.n → CapF (u.fn i) (fas i)) (hT : FnsAt L w u.n u.fn a fas) :
    Calls Tryz.prog 7 #[unV u a cap] w fun e w' => ImplLPost u w e w' := by
  have HT : Hid (FnsAt L w u.n u.fn a fas) := hT
  have HS : Hid u.sm := hs
  have HSo : Hid SortSays := hSo
  have HCo : Hid CompSays := hCo
  have HCF : Hid (∀ i, i < u.n → CapF (u.fn i) (fas i)) := hcf
  clear hT hs hSo hCo hcf
  obtain ⟨i0, hi0, hy0, hy1, hy2⟩ := info_parts infoInt
  go_enter Tryz.func7, Tryz.ntmps7
  go_wp2_with fail
  refine (implCheck_calls L u a cap fas _ HS.out HCF.out (HT.out.alloc _)).mono ?_
  rintro e w2 ⟨⟨c1, f1, n1⟩, rfl, hl1, hb1⟩
  have HB : Hid (Below w.heap.size w w2) := below_call (below_alloc _ _) hb1
  have HX : Hid (Has w2 w.heap.size #[.slice a u.n cap]) := Has.made hb1
  have HL : Hid (Least (BadU u) ⟨c1, f1, n1⟩) := hl1
  clear hl1 hb1
  by_cases hc : c1 = 0
  · have hz := HL.out.nil hc
    have hnb : ∀ y, ¬ BadU u y := by
      have h := HL.out
      rw [hz] at h
      exact h.none
    obtain ⟨rfl, rfl, rfl⟩ : c1 = 0 ∧ f1 = 0 ∧ n1 = 0 := by simpa [ft0] using hz
    have HNB : Hid (∀ y, ¬ BadU u y) := hnb
    have hsz : SizeOk u := sz_of (fun y hy => hnb y (.inl hy))
    have htot := hsz.2.2
    have hun := hsz.2.1
    have HTL : Hid (∀ k, k < u.n → tot u.fn k + (u.fn k).nn ≤ 3000) := fun k hk => by
      have h : tot u.fn (k + 1) ≤ tot u.fn u.n := tot_mono u.fn (k + 1) u.n (by omega)
      have h2 : tot u.fn (k + 1) = tot u.fn k + (u.fn k).nn := rfl
      omega
    clear hnb hsz hc hz
    have u0 := HX.out.cell 0 rfl
    go_wp2_with fail
    clear u0
    go_loopw [3, 15] (fun o i wr => ∃ (k : Nat) (ys : List Int) (a1 : Option Addr) (cap1 : Nat), k ≤ u.n ∧ i = .int .i64 k ∧ o = .slice a1 ys.length cap1 ∧ Hid (ys.length ≤ tot u.fn k + 0 ∧ ∀ v, v ∈ ys ↔ LnUp u k 0 v) ∧ Hid (wr.ownsRow w.heap.size 3 1 (.slice a1 ys.length cap1) ys.length (sv ys)) ∧ Hid (Below w.heap.size w wr)) (fun _ i _ => u.n - (intOf i).toNat)
    case atStart => exact ⟨0, [], none, 0, Nat.zero_le _, rfl, rfl, ⟨by simp, fun v => ⟨fun h => absurd h (by simp), fun h => absurd h (lnUp_zero u v)⟩⟩, World.ownsRow_nil _ _ _ _, HB⟩
    case round =>
      clear HB
      obtain ⟨k, ys, a1, cap1, hk, rfl, rfl, HLS, HO, HB⟩ := hrel
      by_cases hkn : k < u.n
      · have HTr : Hid (FnsAt L wr u.n u.fn a fas) := HT.out.below HB.out
        obtain ⟨b, off, e0, _, hb, d0, d1, d2, d3, d4, d5, d6⟩ := cells7 HTr.out.1 hkn
        rw [e0]
        have hnn := HTL.out k hkn
        rename World => wa
        go_wp2_with fail
        have HB2 : Hid (Below w.heap.size w (wa.alloc (.cells (fnC (u.fn k) (fas k)) 45))) := below_a HB.out _
        have HO2 : Hid ((wa.alloc (.cells (fnC (u.fn k) (fas k)) 45)).ownsRow w.heap.size 3 1 (.slice a1 ys.length cap1) ys.length (sv ys)) := HO.out.alloc _
        clear d0 d1 d2 d3 d4 d5 d6 e0 HB HO HTr
        go_loopw [3, 22] (fun o i wr => ∃ (m : Nat) (ys : List Int) (a1 : Option Addr) (cap1 : Nat), m ≤ (u.fn k).nn ∧ i = .int .i64 m ∧ o = .slice a1 ys.length cap1 ∧ Hid (ys.length ≤ tot u.fn k + m ∧ ∀ v, v ∈ ys ↔ LnUp u k m v) ∧ Hid (wr.ownsRow w.heap.size 3 1 (.slice a1 ys.length cap1) ys.length (sv ys)) ∧ Hid (Below w.heap.size w wr)) (fun _ i _ => (u.fn k).nn - (intOf i).toNat)
        case atStart => exact ⟨0, ys, a1, cap1, Nat.zero_le _, rfl, rfl, HLS, HO2, HB2⟩
        case round =>
          clear HB2 HO2 HLS
          obtain ⟨m, ys, a1, cap1, hm, rfl, rfl, HLS, HO, HB⟩ := hrel
          by_cases hmn : m < (u.fn k).nn
          · obtain ⟨b2, o2, e2, _, hb2, g0, g1, g2, g3, g4, g5, g6, g7⟩ := cells8 ((HT.out.below HB.out).2 k hkn).2.2.1 hmn
            rw [e2]
            clear e2
            have HB3 : Hid (Below w.heap.size w (wr.alloc (.cells (nodeC ((u.fn k).nd m) ((fas k).nas m)) 48))) := below_a HB.out _
            have HO4 : Hid ((wr.alloc (.cells (nodeC ((u.fn k).nd m) ((fas k).nas m)) 48)).ownsRow w.heap.size 3 1 (.slice a1 ys.length cap1) ys.length (sv ys)) := HO.out.alloc _
            have hlen := HLS.out.1
            have HSK : Hid (¬ LnK ((u.fn k).nd m) → ys.length ≤ tot u.fn k + (m + 1) ∧ ∀ v, v ∈ ys ↔ LnUp u k (m + 1) v) := fun h => ⟨by have := HLS.out.1; omega, fun v => by rw [HLS.out.2, lnUp_succ]; exact ⟨.inl, fun h' => h'.resolve_right fun c => h c.1⟩⟩
            by_cases h1 : ((u.fn k).nd m).k = 1
            · have HNK : Hid (¬ LnK ((u.fn k).nd m)) := fun h => h.2 h1
              have q : (((u.fn k).nd m).k != 1) = false := by rw [h1]; rfl
              clear h1
              go_wp2_with fail
              go_roundw
              case rel => exact ⟨m + 1, ys, a1, cap1, by omega, by go_num, rfl, HSK.out HNK.out, HO4, HB3⟩
              case measure => simp [intOf]; omega
            · have q : (((u.fn k).nd m).k != 1) = true := by simpa using h1
              cases hst : stK ((u.fn k).nd m).k
              · have HNK : Hid (¬ LnK ((u.fn k).nd m)) := fun h => by
                  have h1 := h.1
                  rw [hst] at h1
                  exact Bool.noConfusion h1
                have hs2 : setB 32766 ((u.fn k).nd m).k = false := (setSt _).trans hst
                clear h1
                go_wp2_with (go_at_call 19; refine (has_calls 32766 (by decide) _ _).mono ?_; rw [hs2]; rintro e w9 ⟨rfl, rfl⟩)
                go_roundw
                case rel => exact ⟨m + 1, ys, a1, cap1, by omega, by go_num, rfl, HSK.out HNK.out, HO4, HB3⟩
                case measure => simp [intOf]; omega
              · have HNK : Hid (LnK ((u.fn k).nd m)) := ⟨hst, h1⟩
                have hs2 : setB 32766 ((u.fn k).nd m).k = true := (setSt _).trans hst
                have HSK2 : Hid ((ys ++ [((u.fn k).nd m).l]).length ≤ tot u.fn k + (m + 1) ∧ ∀ v, v ∈ ys ++ [((u.fn k).nd m).l] ↔ LnUp u k (m + 1) v) := ⟨by rw [len_add]; omega, fun v => by rw [List.mem_append, HLS.out.2, lnUp_succ]; exact or_congr Iff.rfl ⟨fun h => ⟨HNK.out, (List.mem_singleton.1 h).symm⟩, fun h => by simp [h.2]⟩⟩
                clear h1
                go_wp2_with (first | (go_at_call 19; refine (has_calls 32766 (by decide) _ _).mono ?_; rw [hs2]; rintro e w9 ⟨rfl, rfl⟩) | (at_builtin; refine wpList_append_own_at _ rfl _ _ 26 rfl w.heap.size 3 i0 _ 1 8 Tryz.underlying26 hi0 hy0 hy1 hy2 rfl (by decide) (.slice a1 ys.length cap1) ys.length (sv ys) rfl (HO4.out.alloc _) ⟨wr.heap.size + 1, 0, none⟩ 1 1 [.int .i64 ((u.fn k).nd m).l] rfl rfl (cell_one_new2 _ _ _ _) (by simp [Value.oneCell']) (by unfold maxLen; omega) (by omega) (by have := HB3.out.size; simp at this ⊢; omega) ?_; intro v' w7 hown hgrow _ hblk; obtain ⟨a7, cap7, rfl⟩ := ownsRow_form hown; have HO7 : Hid (w7.ownsRow w.heap.size 3 1 (.slice a7 (ys.length + 1) cap7) (ys.length + 1) (sv (ys ++ [((u.fn k).nd m).l]))) := (by have h := hown; rw [← sv_add] at h; exact h); have HB7 : Hid (Below w.heap.size w w7) := (HB3.out.alloc HB3.out.size _).grown hgrow (by have := HB3.out.size; simp at this ⊢; omega) (fun k e => (HO4.out.lt k e).1); clear hown hgrow hblk))
                go_roundw
                case rel => exact ⟨m + 1, ys ++ [((u.fn k).nd m).l], a7, cap7, by omega, by go_num, by rw [len_add], HSK2, by rw [len_add]; exact HO7, HB7⟩
                case measure => simp [intOf]; omega
          · obtain rfl : m = (u.fn k).nn := by omega
            have HN : Hid (ys.length ≤ tot u.fn (k + 1) + 0 ∧ ∀ v, v ∈ ys ↔ LnUp u (k + 1) 0 v) := ⟨by have := HLS.out.1; unfold tot; omega, fun v => by rw [HLS.out.2, lnUp_next]⟩
            go_wp2_with fail
            go_roundw
            case rel => exact ⟨k + 1, ys, a1, cap1, by omega, by go_num, rfl, HN, HO, HB⟩
            case measure => simp [intOf]; omega
      · obtain rfl : k = u.n := by omega
        have hl := HLS.out.1
        go_wp2_with (first | (go_at_call 20; refine (HSo.out w.heap.size a1 cap1 ys _ (by omega) HO.out).mono ?_; rintro e w7 ⟨zs, rfl, hz1, hz2, hz3, ho7, hg7⟩; rw [← hz1] at ho7; have HZ : Hid (zs.length = ys.length ∧ Up zs ∧ ∀ v, v ∈ zs ↔ v ∈ ys) := ⟨hz1, hz2, hz3⟩; have HO7 : Hid (w7.ownsRow w.heap.size 3 1 (.slice a1 zs.length cap1) zs.length (sv zs)) := ho7; have HB7 : Hid (Below w.heap.size w w7) := HB.out.grown hg7 HB.out.size (fun k e => (HO.out.lt k ((own_bk _ _ _).trans e)).1); clear ho7 hg7 hz2 hz3) | (go_at_call 21; rw [← hz1]; refine (HCo.out w.heap.size a1 cap1 zs _ (by omega) HO7.out).mono ?_; rintro e w8 ⟨rfl, ho8, hg8⟩; have HO8 : Hid (w8.ownsRow w.heap.size 3 1 (.slice a1 (cpt zs).length cap1) (cpt zs).length (sv (cpt zs))) := ho8; have HB8 : Hid (Below w.heap.size w w8) := HB7.out.grown hg8 HB7.out.size (fun k e => (HO7.out.lt k ((own_bk _ _ _).trans e)).1); clear ho8 hg8))
        go_ret
        exact ⟨⟨cpt zs, a1, cap1, rfl, .inl ⟨HNB.out, cpt_asc _ HZ.out.2.1, fun v => by rw [cpt_mem, HZ.out.2.2, HLS.out.2]⟩, Nat.le_trans (cpt_len zs) (by have := HZ.out.1; omega), HO8.out⟩, HB8.out⟩
  · have HBad : Hid (∃ y, BadU u y) := ⟨_, HL.out.in hc⟩
    have q1 : ((c1 : Int) == 0) = false := by simp; omega
    have q2 : ((c1 : Int) != 0) = true := by simp; omega
    go_wp2_with fail
    go_ret
    exact ⟨⟨[], none, 0, rfl, .inr ⟨HBad.out, rfl⟩, by simp, World.ownsRow_nil _ _ _ _⟩, HB.out⟩
end Go.Proofs.YtcpjnddkibbddaaGreat
