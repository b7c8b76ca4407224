import Derived.Test.YtcpjnddkibbddaaGreatImT
/-! Lines: the specification puts a number into an ascending list. -/
namespace Go.Proofs.YtcpjnddkibbddaaGreat
open Go.RowKit
attribute [local go_sem] run_store_float
attribute [local go_sem ↓] Go.wp_at_zero Go.wp_at_succ

/-- the specification's own way -/
def insA (put : Bool) (x : Int) : List Int → List Int
  | [] => if put then [] else [x]
  | y :: r => if put = false ∧ x ≤ y then x :: (if y = x then insA true x r else y :: insA true x r) else (if y = x then insA put x r else y :: insA put x r)
def Asc (xs : List Int) : Prop := xs.Pairwise (· < ·)
theorem insA_true (x : Int) : ∀ r : List Int, insA true x r = r.filter (fun y => decide (y ≠ x))
  | [] => rfl
  | y :: r => by
    unfold insA
    rw [if_neg (by simp), insA_true x r, List.filter_cons]
    by_cases e : y = x
    · rw [if_pos e, if_neg (by simp [e])]
    · rw [if_neg e, if_pos (by simp [e])]
theorem mem_insA (x : Int) : ∀ (xs : List Int) (v : Int), v ∈ insA false x xs ↔ v ∈ xs ∨ v = x
  | [], v => by unfold insA; simp
  | y :: r, v => by
    unfold insA
    by_cases h : x ≤ y
    · rw [if_pos ⟨rfl, h⟩, insA_true]
      by_cases e : y = x
      · rw [if_pos e]
        simp only [List.mem_cons, List.mem_filter, decide_eq_true_eq, e]
        by_cases c : v = x
        · simp [c]
        · simp [c]
      · rw [if_neg e]
        simp only [List.mem_cons, List.mem_filter, decide_eq_true_eq]
        by_cases c : v = x
        · simp [c]
        · simp [c]
    · rw [if_neg (fun c => h c.2), if_neg (by omega)]
      simp only [List.mem_cons, mem_insA x r v]
      exact or_assoc.symm
theorem asc_insA (x : Int) : ∀ xs : List Int, Asc xs → Asc (insA false x xs)
  | [], _ => by unfold insA Asc; simp
  | y :: r, h => by
    unfold Asc at h ⊢
    rw [List.pairwise_cons] at h
    unfold insA
    by_cases c : x ≤ y
    · rw [if_pos ⟨rfl, c⟩, insA_true]
      have hf : (r.filter (fun y => decide (y ≠ x))).Pairwise (· < ·) := h.2.sublist List.filter_sublist
      by_cases e : y = x
      · rw [if_pos e, List.pairwise_cons]
        exact ⟨fun z hz => by have := h.1 z (List.mem_filter.1 hz).1; omega, hf⟩
      · rw [if_neg e, List.pairwise_cons, List.pairwise_cons]
        refine ⟨fun z hz => ?_, fun z hz => h.1 z (List.mem_filter.1 hz).1, hf⟩
        rcases List.mem_cons.1 hz with rfl | hz
        · omega
        · have := h.1 z (List.mem_filter.1 hz).1; omega
    · rw [if_neg (fun d => c d.2), if_neg (by omega), List.pairwise_cons]
      refine ⟨fun z hz => ?_, asc_insA x r h.2⟩
      rcases (mem_insA x r z).1 hz with hz | rfl
      · exact h.1 z hz
      · omega
theorem asc_same : ∀ {xs ys : List Int}, Asc xs → Asc ys → (∀ v, v ∈ xs ↔ v ∈ ys) → xs = ys
  | [], [], _, _, _ => rfl
  | [], y :: ys, _, _, h => absurd ((h y).2 (List.mem_cons_self ..)) (by simp)
  | x :: xs, [], _, _, h => absurd ((h x).1 (List.mem_cons_self ..)) (by simp)
  | x :: xs, y :: ys, hx, hy, h => by
    unfold Asc at hx hy
    rw [List.pairwise_cons] at hx hy
    have e : x = y := by
      rcases List.mem_cons.1 ((h x).1 (List.mem_cons_self ..)) with e | h1
      · exact e
      · rcases List.mem_cons.1 ((h y).2 (List.mem_cons_self ..)) with e | h2
        · exact e.symm
        · have := hx.1 y h2
          have := hy.1 x h1
          omega
    subst e
    congr 1
    refine asc_same hx.2 hy.2 fun v => ⟨fun hv => ?_, fun hv => ?_⟩
    · rcases List.mem_cons.1 ((h v).1 (List.mem_cons_of_mem _ hv)) with e | h1
      · have := hx.1 v hv; omega
      · exact h1
    · rcases List.mem_cons.1 ((h v).2 (List.mem_cons_of_mem _ hv)) with e | h1
      · have := hy.1 v hv; omega
      · exact h1
theorem len_add (xs : List Int) (x : Int) : (xs ++ [x]).length = xs.length + 1 := by simp
/-- a list of ints in memory -/
def LiAt (L : Nat) (w : World) (a : Option Addr) (xs : List Int) : Prop := IntsAt L w a xs.length (fun i => xs.getD i 0)
theorem LiAt.own {N : Nat} {w : World} {a : Option Addr} {cap : Nat} {xs : List Int} (h : w.ownsRow N 3 1 (.slice a xs.length cap) xs.length (sv xs)) : LiAt N w a xs := fun hn => by
  rcases h.2 with ⟨_, h2⟩ | ⟨g, cap', cur, e2, h3, hh, h4, _, h6, h7⟩
  · omega
  · cases e2
    refine ⟨g, 0, rfl, h3, (Array.getElem?_eq_some_iff.1 hh).1, fun i hi j hj => ?_⟩
    obtain rfl : j = 0 := by omega
    have h8 : (cur.toList.take (xs.length * 1))[i]? = some (.int .i64 (xs.getD i 0)) := by rw [h7]; simp [sv, List.getD, List.getElem?_eq_getElem hi]
    rw [List.getElem?_take_of_lt (by omega), Array.getElem?_toList] at h8
    simp [World.cell?, hh, h8]

set_option maxRecDepth 100000 in
set_option maxHeartbeats 4000000 in
theorem l3insert_calls (L : Nat) (a : Option Addr) (cap : Nat) (xs : List Int) (x : Int) (w : World) (hn : xs.length ≤ 3000) (hT : LiAt L w a xs) :
    Calls Tryz.prog 16 #[.slice a xs.length cap, .int .i64 x] w fun e w' => (∃ a' cap', e = .returned (.slice a' (insA false x xs).length cap') ∧ w'.ownsRow w.heap.size 3 1 (.slice a' (insA false x xs).length cap') (insA false x xs).length (sv (insA false x xs))) ∧ Below w.heap.size w w' := by
  have HT : Hid (LiAt L w a xs) := hT
  clear hT
  obtain ⟨i0, hi0, hy0, hy1, hy2⟩ := info_parts infoInt
  go_enter Tryz.func16, Tryz.ntmps16
  go_wp2_with fail
  go_loopw [5, 6, 11] (fun o p i wr => ∃ (k : Nat) (out : List Int) (put : Bool) (a1 : Option Addr) (cap1 : Nat), k ≤ xs.length ∧ i = .int .i64 k ∧ p = .bool put ∧ o = .slice a1 out.length cap1 ∧ out.length ≤ 2 * k ∧ Hid (out ++ insA put x (xs.drop k) = insA false x xs) ∧ Hid (wr.ownsRow w.heap.size 3 1 (.slice a1 out.length cap1) out.length (sv out)) ∧ Hid (Below w.heap.size w wr)) (fun _ _ i _ => xs.length - (intOf i).toNat)
  case atStart => exact ⟨0, [], false, none, 0, Nat.zero_le _, rfl, rfl, rfl, by simp, by show _ = _; simp, World.ownsRow_nil _ _ _ _, Below.refl _ _⟩
  case round =>
    obtain ⟨k, out, put, a1, cap1, hk, rfl, rfl, rfl, hlen, HI, HO, HB⟩ := hrel
    by_cases hkn : k < xs.length
    · obtain ⟨b, off, rfl, _, hb, d0⟩ := cells1 (RowN.below HT.out HB.out) hkn
      obtain ⟨y, hy⟩ : ∃ y, xs[k]? = some y := ⟨_, List.getElem?_eq_getElem hkn⟩
      have hd : xs.drop k = y :: xs.drop (k + 1) := by
        obtain ⟨h1, h2⟩ := List.getElem?_eq_some_iff.1 hy
        rw [List.drop_eq_getElem_cons h1, h2]
      have hyk : xs.getD k 0 = y := by simp [List.getD, hy]
      simp only [hyk] at d0
      clear hyk
      have HI2 : Hid (out ++ insA put x (y :: xs.drop (k + 1)) = insA false x xs) := by have h := HI.out; rw [hd] at h; exact h
      clear HI hd hy
      by_cases hc : put = false ∧ x ≤ y
      · obtain ⟨rfl, hxy⟩ := hc
        by_cases e : y = x
        · subst e
          have HI3 : Hid ((out ++ [y]) ++ insA true y (xs.drop (k + 1)) = insA false y xs) := by
            have h := HI2.out
            rw [insA, if_pos ⟨rfl, hxy⟩, if_pos rfl] at h
            show _ = _
            rw [← h, List.append_assoc]
            rfl
          go_wp2_with (at_builtin; refine wpList_append_own_at _ rfl _ _ 26 rfl w.heap.size 3 i0 _ 1 8 Tryz.underlying26 hi0 hy0 hy1 hy2 rfl (by decide) (.slice a1 out.length cap1) out.length (sv out) rfl (HO.out.alloc _) ⟨wr.heap.size, 0, none⟩ 1 1 [.int .i64 y] rfl rfl (cell_one_new _ _ _) (by simp [Value.oneCell']) (by unfold maxLen; omega) (by omega) (by have := HB.out.size; simp; omega) ?_; intro v' w7 hown hgrow _ hblk; obtain ⟨a7, cap7, rfl⟩ := ownsRow_form hown; have HO7 : Hid (w7.ownsRow w.heap.size 3 1 (.slice a7 (out.length + 1) cap7) (out.length + 1) (sv (out ++ [y]))) := (by have h := hown; rw [← sv_add] at h; exact h); have HB7 : Hid (Below w.heap.size w w7) := (HB.out.alloc HB.out.size _).grown hgrow (by have := HB.out.size; simp; omega) (fun k e => (HO.out.lt k e).1); clear hown hgrow hblk)
          go_roundw
          case rel => exact ⟨k + 1, out ++ [y], true, a7, cap7, by omega, by go_num, rfl, by rw [len_add], by rw [len_add]; omega, HI3, by rw [len_add]; exact HO7, HB7⟩
          case measure => simp [intOf]; omega
        · have HI3 : Hid (((out ++ [x]) ++ [y]) ++ insA true x (xs.drop (k + 1)) = insA false x xs) := by
            have h := HI2.out
            rw [insA, if_pos ⟨rfl, hxy⟩, if_neg e] at h
            show _ = _
            rw [← h, List.append_assoc, List.append_assoc]
            rfl
          have q : (y != x) = true := by simpa using e
          go_wp2_with (first | (at_builtin; refine wpList_append_own_at _ rfl _ _ 26 rfl w.heap.size 3 i0 _ 1 8 Tryz.underlying26 hi0 hy0 hy1 hy2 rfl (by decide) (.slice a1 out.length cap1) out.length (sv out) rfl (HO.out.alloc _) ⟨wr.heap.size, 0, none⟩ 1 1 [.int .i64 x] rfl rfl (cell_one_new _ _ _) (by simp [Value.oneCell']) (by unfold maxLen; omega) (by omega) (by have := HB.out.size; simp; omega) ?_; intro v' w7 hown hgrow _ hblk; obtain ⟨a7, cap7, rfl⟩ := ownsRow_form hown; have HO7 : Hid (w7.ownsRow w.heap.size 3 1 (.slice a7 (out.length + 1) cap7) (out.length + 1) (sv (out ++ [x]))) := (by have h := hown; rw [← sv_add] at h; exact h); have HB7 : Hid (Below w.heap.size w w7) := (HB.out.alloc HB.out.size _).grown hgrow (by have := HB.out.size; simp; omega) (fun k e => (HO.out.lt k e).1); clear hown hgrow hblk) | (at_builtin; refine wpList_append_own_at _ rfl _ _ 26 rfl w.heap.size 3 i0 _ 1 8 Tryz.underlying26 hi0 hy0 hy1 hy2 rfl (by decide) (.slice a7 (out.length + 1) cap7) (out.length + 1) (sv (out ++ [x])) rfl (HO7.out.alloc _) ⟨w7.heap.size, 0, none⟩ 1 1 [.int .i64 y] rfl rfl (cell_one_new _ _ _) (by simp [Value.oneCell']) (by unfold maxLen; omega) (by omega) (by have := HB7.out.size; simp; omega) ?_; intro v' w8 hown hgrow _ hblk; obtain ⟨a8, cap8, rfl⟩ := ownsRow_form hown; have HO8 : Hid (w8.ownsRow w.heap.size 3 1 (.slice a8 ((out.length + 1) + 1) cap8) ((out.length + 1) + 1) (sv ((out ++ [x]) ++ [y]))) := (by have h := hown; rw [← sv_add] at h; exact h); have HB8 : Hid (Below w.heap.size w w8) := (HB7.out.alloc HB7.out.size _).grown hgrow (by have := HB7.out.size; simp; omega) (fun k e => (HO7.out.lt k e).1); clear hown hgrow hblk))
          go_roundw
          case rel => exact ⟨k + 1, (out ++ [x]) ++ [y], true, a8, cap8, by omega, by go_num, rfl, by rw [len_add, len_add], by rw [len_add, len_add]; omega, HI3, by rw [len_add, len_add]; exact HO8, HB8⟩
          case measure => simp [intOf]; omega
      · by_cases e : y = x
        · subst e
          cases put with
          | false => exact absurd ⟨rfl, Int.le_refl _⟩ hc
          | true =>
            have HI3 : Hid (out ++ insA true y (xs.drop (k + 1)) = insA false y xs) := by
              have h := HI2.out
              rw [insA, if_neg hc, if_pos rfl] at h
              exact h
            have q : (y != y) = false := by simp
            go_wp2_with fail
            go_roundw
            case rel => exact ⟨k + 1, out, true, a1, cap1, by omega, by go_num, rfl, rfl, by omega, HI3, HO, HB⟩
            case measure => simp [intOf]; omega
        · have HI3 : Hid ((out ++ [y]) ++ insA put x (xs.drop (k + 1)) = insA false x xs) := by
            have h := HI2.out
            rw [insA, if_neg hc, if_neg e] at h
            show _ = _
            rw [← h, List.append_assoc]
            rfl
          have q : (y != x) = true := by simpa using e
          cases put with
          | false =>
            have hxy : ¬ x ≤ y := fun h => hc ⟨rfl, h⟩
            clear hc
            go_wp2_with (at_builtin; refine wpList_append_own_at _ rfl _ _ 26 rfl w.heap.size 3 i0 _ 1 8 Tryz.underlying26 hi0 hy0 hy1 hy2 rfl (by decide) (.slice a1 out.length cap1) out.length (sv out) rfl (HO.out.alloc _) ⟨wr.heap.size, 0, none⟩ 1 1 [.int .i64 y] rfl rfl (cell_one_new _ _ _) (by simp [Value.oneCell']) (by unfold maxLen; omega) (by omega) (by have := HB.out.size; simp; omega) ?_; intro v' w7 hown hgrow _ hblk; obtain ⟨a7, cap7, rfl⟩ := ownsRow_form hown; have HO7 : Hid (w7.ownsRow w.heap.size 3 1 (.slice a7 (out.length + 1) cap7) (out.length + 1) (sv (out ++ [y]))) := (by have h := hown; rw [← sv_add] at h; exact h); have HB7 : Hid (Below w.heap.size w w7) := (HB.out.alloc HB.out.size _).grown hgrow (by have := HB.out.size; simp; omega) (fun k e => (HO.out.lt k e).1); clear hown hgrow hblk)
            go_roundw
            case rel => exact ⟨k + 1, out ++ [y], false, a7, cap7, by omega, by go_num, rfl, by rw [len_add], by rw [len_add]; omega, HI3, by rw [len_add]; exact HO7, HB7⟩
            case measure => simp [intOf]; omega
          | true =>
            clear hc
            go_wp2_with (at_builtin; refine wpList_append_own_at _ rfl _ _ 26 rfl w.heap.size 3 i0 _ 1 8 Tryz.underlying26 hi0 hy0 hy1 hy2 rfl (by decide) (.slice a1 out.length cap1) out.length (sv out) rfl (HO.out.alloc _) ⟨wr.heap.size, 0, none⟩ 1 1 [.int .i64 y] rfl rfl (cell_one_new _ _ _) (by simp [Value.oneCell']) (by unfold maxLen; omega) (by omega) (by have := HB.out.size; simp; omega) ?_; intro v' w7 hown hgrow _ hblk; obtain ⟨a7, cap7, rfl⟩ := ownsRow_form hown; have HO7 : Hid (w7.ownsRow w.heap.size 3 1 (.slice a7 (out.length + 1) cap7) (out.length + 1) (sv (out ++ [y]))) := (by have h := hown; rw [← sv_add] at h; exact h); have HB7 : Hid (Below w.heap.size w w7) := (HB.out.alloc HB.out.size _).grown hgrow (by have := HB.out.size; simp; omega) (fun k e => (HO.out.lt k e).1); clear hown hgrow hblk)
            go_roundw
            case rel => exact ⟨k + 1, out ++ [y], true, a7, cap7, by omega, by go_num, rfl, by rw [len_add], by rw [len_add]; omega, HI3, by rw [len_add]; exact HO7, HB7⟩
            case measure => simp [intOf]; omega
    · obtain rfl : k = xs.length := by omega
      have HI2 : Hid (out ++ (if put then [] else [x]) = insA false x xs) := by have h := HI.out; rw [List.drop_length] at h; exact h
      clear HI
      cases put with
      | true =>
        have HI3 : Hid (out = insA false x xs) := by have h := HI2.out; rwa [if_pos rfl, List.append_nil] at h
        go_wp2_with fail
        go_ret
        exact ⟨⟨a1, cap1, by rw [← HI3.out]; rfl, by rw [← HI3.out]; exact HO.out⟩, HB.out⟩
      | false =>
        have HI3 : Hid (out ++ [x] = insA false x xs) := by have h := HI2.out; rwa [if_neg (by simp)] at h
        go_wp2_with (at_builtin; refine wpList_append_own_at _ rfl _ _ 26 rfl w.heap.size 3 i0 _ 1 8 Tryz.underlying26 hi0 hy0 hy1 hy2 rfl (by decide) (.slice a1 out.length cap1) out.length (sv out) rfl (HO.out.alloc _) ⟨wr.heap.size, 0, none⟩ 1 1 [.int .i64 x] rfl rfl (cell_one_new _ _ _) (by simp [Value.oneCell']) (by unfold maxLen; omega) (by omega) (by have := HB.out.size; simp; omega) ?_; intro v' w7 hown hgrow _ hblk; obtain ⟨a7, cap7, rfl⟩ := ownsRow_form hown; have HO7 : Hid (w7.ownsRow w.heap.size 3 1 (.slice a7 (out.length + 1) cap7) (out.length + 1) (sv (out ++ [x]))) := (by have h := hown; rw [← sv_add] at h; exact h); have HB7 : Hid (Below w.heap.size w w7) := (HB.out.alloc HB.out.size _).grown hgrow (by have := HB.out.size; simp; omega) (fun k e => (HO.out.lt k e).1); clear hown hgrow hblk)
        go_ret
        exact ⟨⟨a7, cap7, by rw [← HI3.out, len_add]; rfl, by rw [← HI3.out, len_add]; exact HO7.out⟩, HB7.out⟩
end Go.Proofs.YtcpjnddkibbddaaGreat
