import Derived.Test.YtjempigpjcnmhaaGreatChA
import Derived.Shelf.Sort.Plain
import Derived.Shelf.Slices.CompactI
import Derived.Shelf.Slices.In.SortNone
import Derived.Sort.OwnSortedInts
/-! Lines: the specification puts a number into an ascending list. -/
namespace Go.Proofs.YtjempigpjcnmhaaGreat
open Go.RowKit
attribute [local go_sem] run_store_float
attribute [local go_sem ↓] Go.wp_at_zero Go.wp_at_succ

/-- the specification's own way -/
def insA (put : Bool) (x : Int) : List Int → List Int
  | [] => if put then [] else [x]
  | y :: r => if put = false ∧ x ≤ y then x :: (if y = x then insA true x r else y :: insA true x r) else (if y = x then insA put x r else y :: insA put x r)
def Asc (xs : List Int) : Prop := xs.Pairwise (· < ·)
theorem insA_true (x : Int) : ∀ r : List Int, insA true x r = r.filter (fun y => decide (y ≠ x))
  | [] => rfl
  | y :: r => by
    unfold insA
    rw [if_neg (by simp), insA_true x r, List.filter_cons]
    by_cases e : y = x
    · rw [if_pos e, if_neg (by simp [e])]
    · rw [if_neg e, if_pos (by simp [e])]
theorem mem_insA (x : Int) : ∀ (xs : List Int) (v : Int), v ∈ insA false x xs ↔ v ∈ xs ∨ v = x
  | [], v => by unfold insA; simp
  | y :: r, v => by
    unfold insA
    by_cases h : x ≤ y
    · rw [if_pos ⟨rfl, h⟩, insA_true]
      by_cases e : y = x
      · rw [if_pos e]
        simp only [List.mem_cons, List.mem_filter, decide_eq_true_eq, e]
        by_cases c : v = x
        · simp [c]
        · simp [c]
      · rw [if_neg e]
        simp only [List.mem_cons, List.mem_filter, decide_eq_true_eq]
        by_cases c : v = x
        · simp [c]
        · simp [c]
    · rw [if_neg (fun c => h c.2), if_neg (by omega)]
      simp only [List.mem_cons, mem_insA x r v]
      exact or_assoc.symm
theorem asc_insA (x : Int) : ∀ xs : List Int, Asc xs → Asc (insA false x xs)
  | [], _ => by unfold insA Asc; simp
  | y :: r, h => by
    unfold Asc at h ⊢
    rw [List.pairwise_cons] at h
    unfold insA
    by_cases c : x ≤ y
    · rw [if_pos ⟨rfl, c⟩, insA_true]
      have hf : (r.filter (fun y => decide (y ≠ x))).Pairwise (· < ·) := h.2.sublist List.filter_sublist
      by_cases e : y = x
      · rw [if_pos e, List.pairwise_cons]
        exact ⟨fun z hz => by have := h.1 z (List.mem_filter.1 hz).1; omega, hf⟩
      · rw [if_neg e, List.pairwise_cons, List.pairwise_cons]
        refine ⟨fun z hz => ?_, fun z hz => h.1 z (List.mem_filter.1 hz).1, hf⟩
        rcases List.mem_cons.1 hz with rfl | hz
        · omega
        · have := h.1 z (List.mem_filter.1 hz).1; omega
    · rw [if_neg (fun d => c d.2), if_neg (by omega), List.pairwise_cons]
      refine ⟨fun z hz => ?_, asc_insA x r h.2⟩
      rcases (mem_insA x r z).1 hz with hz | rfl
      · exact h.1 z hz
      · omega
theorem asc_same : ∀ {xs ys : List Int}, Asc xs → Asc ys → (∀ v, v ∈ xs ↔ v ∈ ys) → xs = ys
  | [], [], _, _, _ => rfl
  | [], y :: ys, _, _, h => absurd ((h y).2 (List.mem_cons_self ..)) (by simp)
  | x :: xs, [], _, _, h => absurd ((h x).1 (List.mem_cons_self ..)) (by simp)
  | x :: xs, y :: ys, hx, hy, h => by
    unfold Asc at hx hy
    rw [List.pairwise_cons] at hx hy
    have e : x = y := by
      rcases List.mem_cons.1 ((h x).1 (List.mem_cons_self ..)) with e | h1
      · exact e
      · rcases List.mem_cons.1 ((h y).2 (List.mem_cons_self ..)) with e | h2
        · exact e.symm
        · have := hx.1 y h2
          have := hy.1 x h1
          omega
    subst e
    congr 1
    refine asc_same hx.2 hy.2 fun v => ⟨fun hv => ?_, fun hv => ?_⟩
    · rcases List.mem_cons.1 ((h v).1 (List.mem_cons_of_mem _ hv)) with e | h1
      · have := hx.1 v hv; omega
      · exact h1
    · rcases List.mem_cons.1 ((h v).2 (List.mem_cons_of_mem _ hv)) with e | h1
      · have := hy.1 v hv; omega
      · exact h1
theorem len_add (xs : List Int) (x : Int) : (xs ++ [x]).length = xs.length + 1 := by simp
/-- a list of ints in memory -/
def LiAt (L : Nat) (w : World) (a : Option Addr) (xs : List Int) : Prop := IntsAt L w a xs.length (fun i => xs.getD i 0)
theorem LiAt.own {N : Nat} {w : World} {a : Option Addr} {cap : Nat} {xs : List Int} (h : w.ownsRow N 3 1 (.slice a xs.length cap) xs.length (sv xs)) : LiAt N w a xs := fun hn => by
  rcases h.2 with ⟨_, h2⟩ | ⟨g, cap', cur, e2, h3, hh, h4, _, h6, h7⟩
  · omega
  · cases e2
    refine ⟨g, 0, rfl, h3, (Array.getElem?_eq_some_iff.1 hh).1, fun i hi j hj => ?_⟩
    obtain rfl : j = 0 := by omega
    have h8 : (cur.toList.take (xs.length * 1))[i]? = some (.int .i64 (xs.getD i 0)) := by rw [h7]; simp [sv, List.getD, List.getElem?_eq_getElem hi]
    rw [List.getElem?_take_of_lt (by omega), Array.getElem?_toList] at h8
    simp [World.cell?, hh, h8]

set_option maxRecDepth 100000 in
set_option maxHeartbeats 4000000 in
theorem l3insert_calls (L : Nat) (a : Option Addr) (cap : Nat) (xs : List Int) (x : Int) (w : World) (hn : xs.length ≤ 3000) (hT : LiAt L w a xs) :
    Calls Tryz.prog 30 #[.slice a xs.length cap, .int .i64 x] w fun e w' => (∃ a' cap', e = .returned (.slice a' (insA false x xs).length cap') ∧ w'.ownsRow w.heap.size 3 1 (.slice a' (insA false x xs).length cap') (insA false x xs).length (sv (insA false x xs))) ∧ Below w.heap.size w w' := by
  have HT : Hid (LiAt L w a xs) := hT
  clear hT
  obtain ⟨i0, hi0, hy0, hy1, hy2⟩ := info_parts infoInt
  go_enter Tryz.func30, Tryz.ntmps30
  go_wp2_with fail
  go_loopw [5, 6, 11] (fun o p i wr => ∃ (k : Nat) (out : List Int) (put : Bool) (a1 : Option Addr) (cap1 : Nat), k ≤ xs.length ∧ i = .int .i64 k ∧ p = .bool put ∧ o = .slice a1 out.length cap1 ∧ out.length ≤ 2 * k ∧ Hid (out ++ insA put x (xs.drop k) = insA false x xs) ∧ Hid (wr.ownsRow w.heap.size 3 1 (.slice a1 out.length cap1) out.length (sv out)) ∧ Hid (Below w.heap.size w wr)) (fun _ _ i _ => xs.length - (intOf i).toNat)
  case atStart => exact ⟨0, [], false, none, 0, Nat.zero_le _, rfl, rfl, rfl, by simp, by show _ = _; simp, World.ownsRow_nil _ _ _ _, Below.refl _ _⟩
  case round =>
    obtain ⟨k, out, put, a1, cap1, hk, rfl, rfl, rfl, hlen, HI, HO, HB⟩ := hrel
    by_cases hkn : k < xs.length
    · obtain ⟨b, off, rfl, _, hb, d0⟩ := cells1 (RowN.below HT.out HB.out) hkn
      obtain ⟨y, hy⟩ : ∃ y, xs[k]? = some y := ⟨_, List.getElem?_eq_getElem hkn⟩
      have hd : xs.drop k = y :: xs.drop (k + 1) := by
        obtain ⟨h1, h2⟩ := List.getElem?_eq_some_iff.1 hy
        rw [List.drop_eq_getElem_cons h1, h2]
      have hyk : xs.getD k 0 = y := by simp [List.getD, hy]
      simp only [hyk] at d0
      clear hyk
      have HI2 : Hid (out ++ insA put x (y :: xs.drop (k + 1)) = insA false x xs) := by have h := HI.out; rw [hd] at h; exact h
      clear HI hd hy
      by_cases hc : put = false ∧ x ≤ y
      · obtain ⟨rfl, hxy⟩ := hc
        by_cases e : y = x
        · subst e
          have HI3 : Hid ((out ++ [y]) ++ insA true y (xs.drop (k + 1)) = insA false y xs) := by
            have h := HI2.out
            rw [insA, if_pos ⟨rfl, hxy⟩, if_pos rfl] at h
            show _ = _
            rw [← h, List.append_assoc]
            rfl
          go_wp2_with (at_builtin; refine wpList_append_own_at _ rfl _ _ 36 rfl w.heap.size 3 i0 _ 1 8 Tryz.underlying36 hi0 hy0 hy1 hy2 rfl (by decide) (.slice a1 out.length cap1) out.length (sv out) rfl (HO.out.alloc _) ⟨wr.heap.size, 0, none⟩ 1 1 [.int .i64 y] rfl rfl (cell_one_new _ _ _) (by simp [Value.oneCell']) (by unfold maxLen; omega) (by omega) (by have := HB.out.size; simp; omega) ?_; intro v' w7 hown hgrow _ hblk; obtain ⟨a7, cap7, rfl⟩ := ownsRow_form hown; have HO7 : Hid (w7.ownsRow w.heap.size 3 1 (.slice a7 (out.length + 1) cap7) (out.length + 1) (sv (out ++ [y]))) := (by have h := hown; rw [← sv_add] at h; exact h); have HB7 : Hid (Below w.heap.size w w7) := (HB.out.alloc HB.out.size _).grown hgrow (by have := HB.out.size; simp; omega) (fun k e => (HO.out.lt k e).1); clear hown hgrow hblk)
          go_roundw
          case rel => exact ⟨k + 1, out ++ [y], true, a7, cap7, by omega, by go_num, rfl, by rw [len_add], by rw [len_add]; omega, HI3, by rw [len_add]; exact HO7, HB7⟩
          case measure => simp [intOf]; omega
        · have HI3 : Hid (((out ++ [x]) ++ [y]) ++ insA true x (xs.drop (k + 1)) = insA false x xs) := by
            have h := HI2.out
            rw [insA, if_pos ⟨rfl, hxy⟩, if_neg e] at h
            show _ = _
            rw [← h, List.append_assoc, List.append_assoc]
            rfl
          have q : (y != x) = true := by simpa using e
          go_wp2_with (first | (at_builtin; refine wpList_append_own_at _ rfl _ _ 36 rfl w.heap.size 3 i0 _ 1 8 Tryz.underlying36 hi0 hy0 hy1 hy2 rfl (by decide) (.slice a1 out.length cap1) out.length (sv out) rfl (HO.out.alloc _) ⟨wr.heap.size, 0, none⟩ 1 1 [.int .i64 x] rfl rfl (cell_one_new _ _ _) (by simp [Value.oneCell']) (by unfold maxLen; omega) (by omega) (by have := HB.out.size; simp; omega) ?_; intro v' w7 hown hgrow _ hblk; obtain ⟨a7, cap7, rfl⟩ := ownsRow_form hown; have HO7 : Hid (w7.ownsRow w.heap.size 3 1 (.slice a7 (out.length + 1) cap7) (out.length + 1) (sv (out ++ [x]))) := (by have h := hown; rw [← sv_add] at h; exact h); have HB7 : Hid (Below w.heap.size w w7) := (HB.out.alloc HB.out.size _).grown hgrow (by have := HB.out.size; simp; omega) (fun k e => (HO.out.lt k e).1); clear hown hgrow hblk) | (at_builtin; refine wpList_append_own_at _ rfl _ _ 36 rfl w.heap.size 3 i0 _ 1 8 Tryz.underlying36 hi0 hy0 hy1 hy2 rfl (by decide) (.slice a7 (out.length + 1) cap7) (out.length + 1) (sv (out ++ [x])) rfl (HO7.out.alloc _) ⟨w7.heap.size, 0, none⟩ 1 1 [.int .i64 y] rfl rfl (cell_one_new _ _ _) (by simp [Value.oneCell']) (by unfold maxLen; omega) (by omega) (by have := HB7.out.size; simp; omega) ?_; intro v' w8 hown hgrow _ hblk; obtain ⟨a8, cap8, rfl⟩ := ownsRow_form hown; have HO8 : Hid (w8.ownsRow w.heap.size 3 1 (.slice a8 ((out.length + 1) + 1) cap8) ((out.length + 1) + 1) (sv ((out ++ [x]) ++ [y]))) := (by have h := hown; rw [← sv_add] at h; exact h); have HB8 : Hid (Below w.heap.size w w8) := (HB7.out.alloc HB7.out.size _).grown hgrow (by have := HB7.out.size; simp; omega) (fun k e => (HO7.out.lt k e).1); clear hown hgrow hblk))
          go_roundw
          case rel => exact ⟨k + 1, (out ++ [x]) ++ [y], true, a8, cap8, by omega, by go_num, rfl, by rw [len_add, len_add], by rw [len_add, len_add]; omega, HI3, by rw [len_add, len_add]; exact HO8, HB8⟩
          case measure => simp [intOf]; omega
      · by_cases e : y = x
        · subst e
          cases put with
          | false => exact absurd ⟨rfl, Int.le_refl _⟩ hc
          | true =>
            have HI3 : Hid (out ++ insA true y (xs.drop (k + 1)) = insA false y xs) := by
              have h := HI2.out
              rw [insA, if_neg hc, if_pos rfl] at h
              exact h
            have q : (y != y) = false := by simp
            go_wp2_with fail
            go_roundw
            case rel => exact ⟨k + 1, out, true, a1, cap1, by omega, by go_num, rfl, rfl, by omega, HI3, HO, HB⟩
            case measure => simp [intOf]; omega
        · have HI3 : Hid ((out ++ [y]) ++ insA put x (xs.drop (k + 1)) = insA false x xs) := by
            have h := HI2.out
            rw [insA, if_neg hc, if_neg e] at h
            show _ = _
            rw [← h, List.append_assoc]
            rfl
          have q : (y != x) = true := by simpa using e
          cases put with
          | false =>
            have hxy : ¬ x ≤ y := fun h => hc ⟨rfl, h⟩
            clear hc
            go_wp2_with (at_builtin; refine wpList_append_own_at _ rfl _ _ 36 rfl w.heap.size 3 i0 _ 1 8 Tryz.underlying36 hi0 hy0 hy1 hy2 rfl (by decide) (.slice a1 out.length cap1) out.length (sv out) rfl (HO.out.alloc _) ⟨wr.heap.size, 0, none⟩ 1 1 [.int .i64 y] rfl rfl (cell_one_new _ _ _) (by simp [Value.oneCell']) (by unfold maxLen; omega) (by omega) (by have := HB.out.size; simp; omega) ?_; intro v' w7 hown hgrow _ hblk; obtain ⟨a7, cap7, rfl⟩ := ownsRow_form hown; have HO7 : Hid (w7.ownsRow w.heap.size 3 1 (.slice a7 (out.length + 1) cap7) (out.length + 1) (sv (out ++ [y]))) := (by have h := hown; rw [← sv_add] at h; exact h); have HB7 : Hid (Below w.heap.size w w7) := (HB.out.alloc HB.out.size _).grown hgrow (by have := HB.out.size; simp; omega) (fun k e => (HO.out.lt k e).1); clear hown hgrow hblk)
            go_roundw
            case rel => exact ⟨k + 1, out ++ [y], false, a7, cap7, by omega, by go_num, rfl, by rw [len_add], by rw [len_add]; omega, HI3, by rw [len_add]; exact HO7, HB7⟩
            case measure => simp [intOf]; omega
          | true =>
            clear hc
            go_wp2_with (at_builtin; refine wpList_append_own_at _ rfl _ _ 36 rfl w.heap.size 3 i0 _ 1 8 Tryz.underlying36 hi0 hy0 hy1 hy2 rfl (by decide) (.slice a1 out.length cap1) out.length (sv out) rfl (HO.out.alloc _) ⟨wr.heap.size, 0, none⟩ 1 1 [.int .i64 y] rfl rfl (cell_one_new _ _ _) (by simp [Value.oneCell']) (by unfold maxLen; omega) (by omega) (by have := HB.out.size; simp; omega) ?_; intro v' w7 hown hgrow _ hblk; obtain ⟨a7, cap7, rfl⟩ := ownsRow_form hown; have HO7 : Hid (w7.ownsRow w.heap.size 3 1 (.slice a7 (out.length + 1) cap7) (out.length + 1) (sv (out ++ [y]))) := (by have h := hown; rw [← sv_add] at h; exact h); have HB7 : Hid (Below w.heap.size w w7) := (HB.out.alloc HB.out.size _).grown hgrow (by have := HB.out.size; simp; omega) (fun k e => (HO.out.lt k e).1); clear hown hgrow hblk)
            go_roundw
            case rel => exact ⟨k + 1, out ++ [y], true, a7, cap7, by omega, by go_num, rfl, by rw [len_add], by rw [len_add]; omega, HI3, by rw [len_add]; exact HO7, HB7⟩
            case measure => simp [intOf]; omega
    · obtain rfl : k = xs.length := by omega
      have HI2 : Hid (out ++ (if put then [] else [x]) = insA false x xs) := by have h := HI.out; rw [List.drop_length] at h; exact h
      clear HI
      cases put with
      | true =>
        have HI3 : Hid (out = insA false x xs) := by have h := HI2.out; rwa [if_pos rfl, List.append_nil] at h
        go_wp2_with fail
        go_ret
        exact ⟨⟨a1, cap1, by rw [← HI3.out]; rfl, by rw [← HI3.out]; exact HO.out⟩, HB.out⟩
      | false =>
        have HI3 : Hid (out ++ [x] = insA false x xs) := by have h := HI2.out; rwa [if_neg (by simp)] at h
        go_wp2_with (at_builtin; refine wpList_append_own_at _ rfl _ _ 36 rfl w.heap.size 3 i0 _ 1 8 Tryz.underlying36 hi0 hy0 hy1 hy2 rfl (by decide) (.slice a1 out.length cap1) out.length (sv out) rfl (HO.out.alloc _) ⟨wr.heap.size, 0, none⟩ 1 1 [.int .i64 x] rfl rfl (cell_one_new _ _ _) (by simp [Value.oneCell']) (by unfold maxLen; omega) (by omega) (by have := HB.out.size; simp; omega) ?_; intro v' w7 hown hgrow _ hblk; obtain ⟨a7, cap7, rfl⟩ := ownsRow_form hown; have HO7 : Hid (w7.ownsRow w.heap.size 3 1 (.slice a7 (out.length + 1) cap7) (out.length + 1) (sv (out ++ [x]))) := (by have h := hown; rw [← sv_add] at h; exact h); have HB7 : Hid (Below w.heap.size w w7) := (HB.out.alloc HB.out.size _).grown hgrow (by have := HB.out.size; simp; omega) (fun k e => (HO.out.lt k e).1); clear hown hgrow hblk)
        go_ret
        exact ⟨⟨a7, cap7, by rw [← HI3.out, len_add]; rfl, by rw [← HI3.out, len_add]; exact HO7.out⟩, HB7.out⟩
end Go.Proofs.YtjempigpjcnmhaaGreat

/-! Lines: the specification's. -/
namespace Go.Proofs.YtjempigpjcnmhaaGreat
open Go.RowKit
attribute [local go_sem] run_store_float
attribute [local go_sem ↓] Go.wp_at_zero Go.wp_at_succ

/-- a node that begins a statement and is no block -/
def LnK (d : ND) : Prop := stK d.k = true ∧ d.k ≠ 1
/-- the lines ahead of node m of fn f -/
def LnUp (u : UD) (f m : Nat) (v : Int) : Prop := ∃ g x, (g < f ∧ x < (u.fn g).nn ∨ g = f ∧ x < m) ∧ LnK ((u.fn g).nd x) ∧ ((u.fn g).nd x).l = v
theorem lnUp_zero (u : UD) (v : Int) : ¬ LnUp u 0 0 v := by rintro ⟨g, x, h | h, _⟩ <;> omega
theorem lnUp_succ (u : UD) (f m : Nat) (v : Int) : LnUp u f (m + 1) v ↔ LnUp u f m v ∨ (LnK ((u.fn f).nd m) ∧ ((u.fn f).nd m).l = v) := by
  constructor
  · rintro ⟨g, x, h | h, h2⟩
    · exact .inl ⟨g, x, .inl h, h2⟩
    · by_cases e : x = m
      · obtain ⟨rfl, _⟩ := h
        subst e
        exact .inr h2
      · exact .inl ⟨g, x, .inr ⟨h.1, by omega⟩, h2⟩
  · rintro (⟨g, x, h | h, h2⟩ | h)
    · exact ⟨g, x, .inl h, h2⟩
    · exact ⟨g, x, .inr ⟨h.1, by omega⟩, h2⟩
    · exact ⟨f, m, .inr ⟨rfl, by omega⟩, h⟩
theorem lnUp_next (u : UD) (f : Nat) (v : Int) : LnUp u f (u.fn f).nn v ↔ LnUp u (f + 1) 0 v := by
  constructor
  · rintro ⟨g, x, h | h, h2⟩
    · exact ⟨g, x, .inl ⟨by omega, h.2⟩, h2⟩
    · obtain ⟨rfl, h⟩ := h
      exact ⟨g, x, .inl ⟨by omega, h⟩, h2⟩
  · rintro ⟨g, x, h | h, h2⟩
    · by_cases e : g = f
      · subst e
        exact ⟨g, x, .inr ⟨rfl, h.2⟩, h2⟩
      · exact ⟨g, x, .inl ⟨by omega, h.2⟩, h2⟩
    · omega
/-- what Lines is to answer -/
def LinesIs (u : UD) (xs : List Int) : Prop := ((∀ y, ¬ BadU u y) ∧ Asc xs ∧ ∀ v, v ∈ xs ↔ LnUp u u.n 0 v) ∨ ((∃ y, BadU u y) ∧ xs = [])
theorem LinesIs.uniq {u : UD} {xs ys : List Int} (h : LinesIs u xs) (k : LinesIs u ys) : xs = ys := by
  rcases h with ⟨h1, h2, h3⟩ | ⟨⟨y, h1⟩, rfl⟩ <;> rcases k with ⟨k1, k2, k3⟩ | ⟨⟨z, k1⟩, rfl⟩
  · exact asc_same h2 k2 fun v => (h3 v).trans (k3 v).symm
  · exact absurd k1 (h1 z)
  · exact absurd h1 (k1 y)
  · rfl
theorem insA_len (x : Int) (xs : List Int) : ∀ put, (insA put x xs).length ≤ xs.length + 1 := by
  induction xs with
  | nil => intro put; unfold insA; split <;> simp
  | cons y r ih =>
    intro put
    have ht : (insA true x r).length ≤ r.length := by rw [insA_true]; exact List.length_filter_le _ _
    have h1 := ih put
    unfold insA
    by_cases h : put = false ∧ x ≤ y
    · rw [if_pos h]
      split
      · simp; omega
      · simp; omega
    · rw [if_neg h]
      split
      · simp; omega
      · simp; omega
theorem LiAt.nil (L : Nat) (w : World) : LiAt L w none [] := fun h => absurd h (by simp)
/-- the list, its place, how many there can be -/
structure LS (L : Nat) (u : UD) (f m : Nat) (xs : List Int) (a : Option Addr) (w : World) : Prop where
  asc : Asc xs
  mem : ∀ v, v ∈ xs ↔ LnUp u f m v
  at_ : LiAt L w a xs
  len : xs.length ≤ tot u.fn f + m
theorem LS.below {L : Nat} {u : UD} {f m : Nat} {xs : List Int} {a : Option Addr} {w w' : World} (h : LS L u f m xs a w) (hb : Below w.heap.size w w') : LS L u f m xs a w' := ⟨h.asc, h.mem, RowN.below h.at_ hb, h.len⟩
theorem LS.skip {L : Nat} {u : UD} {f m : Nat} {xs : List Int} {a : Option Addr} {w : World} (h : LS L u f m xs a w) (hk : ¬ LnK ((u.fn f).nd m)) : LS L u f (m + 1) xs a w := ⟨h.asc, fun v => by rw [h.mem, lnUp_succ]; exact ⟨.inl, fun h' => h'.resolve_right fun c => hk c.1⟩, h.at_, by have := h.len; omega⟩
theorem LS.next {L : Nat} {u : UD} {f : Nat} {xs : List Int} {a : Option Addr} {w : World} (h : LS L u f (u.fn f).nn xs a w) : LS L u (f + 1) 0 xs a w := ⟨h.asc, fun v => by rw [h.mem, lnUp_next], h.at_, by have := h.len; unfold tot; omega⟩
theorem tot_mono (fn : Nat → FD) (k : Nat) : ∀ n, k ≤ n → tot fn k ≤ tot fn n
  | 0, h => by
    obtain rfl : k = 0 := by omega
    exact Nat.le_refl _
  | n + 1, h => by
    by_cases e : k = n + 1
    · subst e; exact Nat.le_refl _
    · have := tot_mono fn k n (by omega)
      show _ ≤ tot fn n + (fn n).nn
      omega
def SpecLPost (u : UD) (w : World) (e : Ending) (w' : World) : Prop := (∃ xs a cap, e = .returned (.slice a xs.length cap) ∧ LinesIs u xs ∧ xs.length ≤ 3000 ∧ LiAt w.heap.size w' a xs) ∧ Below w.heap.size w w'

set_option maxRecDepth 100000 in
set_option maxHeartbeats 4000000 in
theorem specLines_calls (L : Nat) (u : UD) (a : Option Addr) (cap : Nat) (fas : Nat → FA) (w : World) (hs : u.sm) (hT : FnsAt L w u.n u.fn a fas) :
    Calls Tryz.prog 11 #[unV u a cap] w fun e w' => SpecLPost u w e w' := by
  have HT : Hid (FnsAt L w u.n u.fn a fas) := hT
  have HS : Hid u.sm := hs
  clear hT hs
  go_enter Tryz.func11, Tryz.ntmps11
  go_wp2_with fail
  refine (specCheck_calls L u a cap fas _ HS.out (HT.out.alloc _)).mono ?_
  rintro e w1 ⟨x1, rfl, hl1, hb1⟩
  obtain ⟨w2, hw2⟩ : ∃ w2, w2 = w1.alloc (.cells (ftC x1) 27) := ⟨_, rfl⟩
  have HB : Hid (Below w.heap.size w w2) := by show Below _ _ _; rw [hw2]; exact below_a (below_call (below_alloc _ _) hb1) _
  have HX : Hid (Has w2 w.heap.size #[.slice a u.n cap]) := by show Has _ _ _; rw [hw2]; exact (Has.made hb1).alloc _
  have HF : Hid (Has w2 w1.heap.size (ftC x1)) := by show Has _ _ _; rw [hw2]; exact Has.new _ _ _
  have HL : Hid (Least (BadU u) x1) := hl1
  clear hl1 hb1
  go_upto_region 3 with fail
  simp only [ftC] at hw2
  rw [← hw2]
  clear hw2
  have f0 : w2.cell? ⟨w1.heap.size, 0, none⟩ = some (.int .i64 (x1.c : Int)) := HF.out.cell 0 rfl
  by_cases hc : x1.c = 0
  · have hnb : ∀ y, ¬ BadU u y := by
      have h := HL.out
      rw [h.nil hc] at h
      exact h.none
    have HNB : Hid (∀ y, ¬ BadU u y) := hnb
    have hsz : SizeOk u := sz_of (fun y hy => hnb y (.inl hy))
    have htot := hsz.2.2
    have hun := hsz.2.1
    have HTL : Hid (∀ k, k < u.n → tot u.fn k + (u.fn k).nn ≤ 3000) := fun k hk => by
      have h : tot u.fn (k + 1) ≤ tot u.fn u.n := tot_mono u.fn (k + 1) u.n (by omega)
      have h2 : tot u.fn (k + 1) = tot u.fn k + (u.fn k).nn := rfl
      omega
    rw [hc] at f0
    clear hnb hsz
    have u0 := HX.out.cell 0 rfl
    go_wp2_with fail
    clear f0 u0
    go_loopw [3, 18] (fun o i wr => ∃ (k : Nat) (xs : List Int) (a1 : Option Addr) (cap1 : Nat), k ≤ u.n ∧ i = .int .i64 k ∧ o = .slice a1 xs.length cap1 ∧ Hid (LS w.heap.size u k 0 xs a1 wr) ∧ Hid (Below w.heap.size w wr)) (fun _ i _ => u.n - (intOf i).toNat)
    case atStart => exact ⟨0, [], none, 0, Nat.zero_le _, rfl, rfl, ⟨List.Pairwise.nil, fun v => ⟨fun h => absurd h (by simp), fun h => absurd h (lnUp_zero u v)⟩, LiAt.nil _ _, by simp⟩, HB⟩
    case round =>
      clear HB
      obtain ⟨k, xs, a1, cap1, hk, rfl, rfl, HLS, HB⟩ := hrel
      by_cases hkn : k < u.n
      · have HTr : Hid (FnsAt L wr u.n u.fn a fas) := HT.out.below HB.out
        obtain ⟨b, off, e0, _, hb, d0, d1, d2, d3, d4, d5, d6⟩ := cells7 HTr.out.1 hkn
        rw [e0]
        have hnn := HTL.out k hkn
        rename World => wa
        go_wp2_with fail
        have HB2 : Hid (Below w.heap.size w (wa.alloc (.cells (fnC (u.fn k) (fas k)) 49))) := below_a HB.out _
        have HLS2 : Hid (LS w.heap.size u k 0 xs a1 (wa.alloc (.cells (fnC (u.fn k) (fas k)) 49))) := HLS.out.below (below_alloc _ _)
        clear d0 d1 d2 d3 d4 d5 d6 e0 HB HLS HTr
        go_loopw [3, 25] (fun o i wr => ∃ (m : Nat) (xs : List Int) (a1 : Option Addr) (cap1 : Nat), m ≤ (u.fn k).nn ∧ i = .int .i64 m ∧ o = .slice a1 xs.length cap1 ∧ Hid (LS w.heap.size u k m xs a1 wr) ∧ Hid (Below w.heap.size w wr)) (fun _ i _ => (u.fn k).nn - (intOf i).toNat)
        case atStart => exact ⟨0, xs, a1, cap1, Nat.zero_le _, rfl, rfl, HLS2, HB2⟩
        case round =>
          clear HB2 HLS2
          obtain ⟨m, xs, a1, cap1, hm, rfl, rfl, HLS, HB⟩ := hrel
          by_cases hmn : m < (u.fn k).nn
          · obtain ⟨b2, o2, e2, _, hb2, g0, g1, g2, g3, g4, g5, g6, g7⟩ := cells8 ((HT.out.below HB.out).2 k hkn).2.2.1 hmn
            rw [e2]
            clear e2
            have HB3 : Hid (Below w.heap.size w (wr.alloc (.cells (nodeC ((u.fn k).nd m) ((fas k).nas m)) 52))) := below_a HB.out _
            have HLS3 : Hid (LS w.heap.size u k m xs a1 (wr.alloc (.cells (nodeC ((u.fn k).nd m) ((fas k).nas m)) 52))) := HLS.out.below (below_alloc _ _)
            have hlen := HLS.out.len
            cases hst : stK ((u.fn k).nd m).k
            · have HNK : Hid (¬ LnK ((u.fn k).nd m)) := fun h => by
                have h1 := h.1
                rw [hst] at h1
                exact Bool.noConfusion h1
              go_wp2_with (go_at_call 29; refine (l3stat_calls _ _).mono ?_; rw [hst]; rintro e w9 ⟨rfl, rfl⟩)
              go_roundw
              case rel => exact ⟨m + 1, xs, a1, cap1, by omega, by go_num, rfl, HLS3.out.skip HNK.out, HB3⟩
              case measure => simp [intOf]; omega
            · by_cases h1 : ((u.fn k).nd m).k = 1
              · have HNK : Hid (¬ LnK ((u.fn k).nd m)) := fun h => h.2 h1
                have q : (((u.fn k).nd m).k != 1) = false := by rw [h1]; rfl
                clear h1
                go_wp2_with (go_at_call 29; refine (l3stat_calls _ _).mono ?_; rw [hst]; rintro e w9 ⟨rfl, rfl⟩)
                go_roundw
                case rel => exact ⟨m + 1, xs, a1, cap1, by omega, by go_num, rfl, HLS3.out.skip HNK.out, HB3⟩
                case measure => simp [intOf]; omega
              · have HNK : Hid (LnK ((u.fn k).nd m)) := ⟨hst, h1⟩
                have q : (((u.fn k).nd m).k != 1) = true := by simpa using h1
                clear h1
                go_wp2_with (first | (go_at_call 29; refine (l3stat_calls _ _).mono ?_; rw [hst]; rintro e w9 ⟨rfl, rfl⟩) | (go_at_call 30; refine (l3insert_calls w.heap.size a1 cap1 xs ((u.fn k).nd m).l _ (by omega) HLS3.out.at_).mono ?_; rintro e w9 ⟨⟨a9, cap9, rfl, ho9⟩, hb9⟩; have HO9 : Hid _ := ho9; have HB9 : Hid (Below w.heap.size w w9) := below_call HB3.out hb9; clear ho9 hb9))
                go_roundw
                case rel => exact ⟨m + 1, insA false ((u.fn k).nd m).l xs, a9, cap9, by omega, by go_num, rfl, ⟨asc_insA _ _ HLS3.out.asc, fun v => by rw [mem_insA, HLS3.out.mem, lnUp_succ]; exact or_congr Iff.rfl ⟨fun h => ⟨HNK.out, h.symm⟩, fun h => h.2.symm⟩, RowN.less (LiAt.own HO9.out) HB3.out.size, Nat.le_trans (insA_len _ _ _) (by omega)⟩, HB9⟩
                case measure => simp [intOf]; omega
          · obtain rfl : m = (u.fn k).nn := by omega
            go_wp2_with fail
            go_roundw
            case rel => exact ⟨k + 1, xs, a1, cap1, by omega, by go_num, rfl, HLS.out.next, HB⟩
            case measure => simp [intOf]; omega
      · obtain rfl : k = u.n := by omega
        go_wp2_with fail
        go_ret
        exact ⟨⟨xs, a1, cap1, rfl, .inl ⟨HNB.out, HLS.out.asc, HLS.out.mem⟩, by have := HLS.out.len; omega, HLS.out.at_⟩, HB.out⟩
  · have HBad : Hid (∃ y, BadU u y) := ⟨x1, HL.out.in hc⟩
    have q : ((x1.c : Int) != 0) = true := by simp; omega
    go_wp2_with fail
    go_ret
    exact ⟨⟨[], none, 0, rfl, .inr ⟨HBad.out, rfl⟩, by simp, LiAt.nil _ _⟩, HB.out⟩
end Go.Proofs.YtjempigpjcnmhaaGreat

/-! Lines: the program's, given what the library's sort and compact answer. -/
namespace Go.Proofs.YtjempigpjcnmhaaGreat
open Go.RowKit
attribute [local go_sem] run_store_float
attribute [local go_sem ↓] Go.wp_at_zero Go.wp_at_succ

/-- runs of equal numbers made one -/
def cpt : List Int → List Int
  | [] => []
  | [x] => [x]
  | x :: y :: r => if x = y then cpt (y :: r) else x :: cpt (y :: r)
def Up (xs : List Int) : Prop := xs.Pairwise (· ≤ ·)
theorem cpt_mem : ∀ (xs : List Int) (v : Int), v ∈ cpt xs ↔ v ∈ xs
  | [], v => Iff.rfl
  | [x], v => Iff.rfl
  | x :: y :: r, v => by
    unfold cpt
    by_cases e : x = y
    · rw [if_pos e, cpt_mem (y :: r) v, e]
      simp
    · rw [if_neg e, List.mem_cons, cpt_mem (y :: r) v, List.mem_cons (l := y :: r)]
theorem cpt_len : ∀ xs : List Int, (cpt xs).length ≤ xs.length
  | [] => Nat.le_refl _
  | [x] => Nat.le_refl _
  | x :: y :: r => by
    have := cpt_len (y :: r)
    unfold cpt
    split
    · simp at this ⊢; omega
    · simp at this ⊢; omega
theorem cpt_asc : ∀ xs : List Int, Up xs → Asc (cpt xs)
  | [], _ => List.Pairwise.nil
  | [x], _ => by unfold cpt Asc; simp
  | x :: y :: r, h => by
    unfold Up at h
    rw [List.pairwise_cons] at h
    have ih := cpt_asc (y :: r) h.2
    unfold cpt
    by_cases e : x = y
    · rw [if_pos e]; exact ih
    · rw [if_neg e]
      unfold Asc at ih ⊢
      rw [List.pairwise_cons]
      refine ⟨fun z hz => ?_, ih⟩
      have hz := (cpt_mem (y :: r) z).1 hz
      have h1 := h.1 y (List.mem_cons_self ..)
      have h2 : y ≤ z := by
        rcases List.mem_cons.1 hz with rfl | hz
        · exact Int.le_refl _
        · exact (List.pairwise_cons.1 h.2).1 z hz
      omega
/-- the second of two new blocks -/
theorem cell_one_new2 (w : World) (o : Obj) (x : Value) (t : TypeId) : ∀ j u, [x][j]? = some u → ((w.alloc o).alloc (.cells #[x] t)).cell? ((⟨w.heap.size + 1, 0, none⟩ : Addr).add j) = some u := by
  have h := cell_one_new (w.alloc o) x t
  rw [show (w.alloc o).heap.size = w.heap.size + 1 from by simp] at h
  exact h
/-- what the library's sort is to answer -/
def SortSays : Prop := ∀ (N : Nat) (a : Option Addr) (cap : Nat) (xs : List Int) (w : World), xs.length ≤ 3000 → w.ownsRow N 3 1 (.slice a xs.length cap) xs.length (sv xs) →
  Calls Tryz.prog 32 #[.slice a xs.length cap] w fun e w' => ∃ ys, e = .returned (.tuple #[]) ∧ ys.length = xs.length ∧ Up ys ∧ (∀ v, v ∈ ys ↔ v ∈ xs) ∧ w'.ownsRow N 3 1 (.slice a xs.length cap) xs.length (sv ys) ∧ w.grownBy w' (bkOf a)
/-- what the library's compact is to answer -/
def CompSays : Prop := ∀ (N : Nat) (a : Option Addr) (cap : Nat) (xs : List Int) (w : World), xs.length ≤ 3000 → w.ownsRow N 3 1 (.slice a xs.length cap) xs.length (sv xs) →
  Calls Tryz.prog 33 #[.slice a xs.length cap] w fun e w' => e = .returned (.slice a (cpt xs).length cap) ∧ w'.ownsRow N 3 1 (.slice a (cpt xs).length cap) (cpt xs).length (sv (cpt xs)) ∧ w.grownBy w' (bkOf a)
def ImplLPost (u : UD) (w : World) (e : Ending) (w' : World) : Prop := (∃ xs a cap, e = .returned (.slice a xs.length cap) ∧ LinesIs u xs ∧ xs.length ≤ 3000 ∧ w'.ownsRow w.heap.size 3 1 (.slice a xs.length cap) xs.length (sv xs)) ∧ Below w.heap.size w w'

set_option maxRecDepth 100000 in
set_option maxHeartbeats 4000000 in
theorem implLines_of (hSo : SortSays) (hCo : CompSays) (L : Nat) (u : UD) (a : Option Addr) (cap : Nat) (fas : Nat → FA) (w : World) (hs : u.sm) (hcf : ∀ i, i < u.n → CapF (u.fn i) (fas i)) (hT : FnsAt L w u.n u.fn a fas) :
    Calls Tryz.prog 12 #[unV u a cap] w fun e w' => ImplLPost u w e w' := by
  have HT : Hid (FnsAt L w u.n u.fn a fas) := hT
  have HS : Hid u.sm := hs
  have HSo : Hid SortSays := hSo
  have HCo : Hid CompSays := hCo
  have HCF : Hid (∀ i, i < u.n → CapF (u.fn i) (fas i)) := hcf
  clear hT hs hSo hCo hcf
  obtain ⟨i0, hi0, hy0, hy1, hy2⟩ := info_parts infoInt
  go_enter Tryz.func12, Tryz.ntmps12
  go_wp2_with fail
  refine (implCheck_calls L u a cap fas _ HS.out HCF.out (HT.out.alloc _)).mono ?_
  rintro e w2 ⟨⟨c1, f1, n1⟩, rfl, hl1, hb1⟩
  have HB : Hid (Below w.heap.size w w2) := below_call (below_alloc _ _) hb1
  have HX : Hid (Has w2 w.heap.size #[.slice a u.n cap]) := Has.made hb1
  have HL : Hid (Least (BadU u) ⟨c1, f1, n1⟩) := hl1
  clear hl1 hb1
  by_cases hc : c1 = 0
  · have hz := HL.out.nil hc
    have hnb : ∀ y, ¬ BadU u y := by
      have h := HL.out
      rw [hz] at h
      exact h.none
    obtain ⟨rfl, rfl, rfl⟩ : c1 = 0 ∧ f1 = 0 ∧ n1 = 0 := by simpa [ft0] using hz
    have HNB : Hid (∀ y, ¬ BadU u y) := hnb
    have hsz : SizeOk u := sz_of (fun y hy => hnb y (.inl hy))
    have htot := hsz.2.2
    have hun := hsz.2.1
    have HTL : Hid (∀ k, k < u.n → tot u.fn k + (u.fn k).nn ≤ 3000) := fun k hk => by
      have h : tot u.fn (k + 1) ≤ tot u.fn u.n := tot_mono u.fn (k + 1) u.n (by omega)
      have h2 : tot u.fn (k + 1) = tot u.fn k + (u.fn k).nn := rfl
      omega
    clear hnb hsz hc hz
    have u0 := HX.out.cell 0 rfl
    go_wp2_with fail
    clear u0
    go_loopw [3, 15] (fun o i wr => ∃ (k : Nat) (ys : List Int) (a1 : Option Addr) (cap1 : Nat), k ≤ u.n ∧ i = .int .i64 k ∧ o = .slice a1 ys.length cap1 ∧ Hid (ys.length ≤ tot u.fn k + 0 ∧ ∀ v, v ∈ ys ↔ LnUp u k 0 v) ∧ Hid (wr.ownsRow w.heap.size 3 1 (.slice a1 ys.length cap1) ys.length (sv ys)) ∧ Hid (Below w.heap.size w wr)) (fun _ i _ => u.n - (intOf i).toNat)
    case atStart => exact ⟨0, [], none, 0, Nat.zero_le _, rfl, rfl, ⟨by simp, fun v => ⟨fun h => absurd h (by simp), fun h => absurd h (lnUp_zero u v)⟩⟩, World.ownsRow_nil _ _ _ _, HB⟩
    case round =>
      clear HB
      obtain ⟨k, ys, a1, cap1, hk, rfl, rfl, HLS, HO, HB⟩ := hrel
      by_cases hkn : k < u.n
      · have HTr : Hid (FnsAt L wr u.n u.fn a fas) := HT.out.below HB.out
        obtain ⟨b, off, e0, _, hb, d0, d1, d2, d3, d4, d5, d6⟩ := cells7 HTr.out.1 hkn
        rw [e0]
        have hnn := HTL.out k hkn
        rename World => wa
        go_wp2_with fail
        have HB2 : Hid (Below w.heap.size w (wa.alloc (.cells (fnC (u.fn k) (fas k)) 49))) := below_a HB.out _
        have HO2 : Hid ((wa.alloc (.cells (fnC (u.fn k) (fas k)) 49)).ownsRow w.heap.size 3 1 (.slice a1 ys.length cap1) ys.length (sv ys)) := HO.out.alloc _
        clear d0 d1 d2 d3 d4 d5 d6 e0 HB HO HTr
        go_loopw [3, 22] (fun o i wr => ∃ (m : Nat) (ys : List Int) (a1 : Option Addr) (cap1 : Nat), m ≤ (u.fn k).nn ∧ i = .int .i64 m ∧ o = .slice a1 ys.length cap1 ∧ Hid (ys.length ≤ tot u.fn k + m ∧ ∀ v, v ∈ ys ↔ LnUp u k m v) ∧ Hid (wr.ownsRow w.heap.size 3 1 (.slice a1 ys.length cap1) ys.length (sv ys)) ∧ Hid (Below w.heap.size w wr)) (fun _ i _ => (u.fn k).nn - (intOf i).toNat)
        case atStart => exact ⟨0, ys, a1, cap1, Nat.zero_le _, rfl, rfl, HLS, HO2, HB2⟩
        case round =>
          clear HB2 HO2 HLS
          obtain ⟨m, ys, a1, cap1, hm, rfl, rfl, HLS, HO, HB⟩ := hrel
          by_cases hmn : m < (u.fn k).nn
          · obtain ⟨b2, o2, e2, _, hb2, g0, g1, g2, g3, g4, g5, g6, g7⟩ := cells8 ((HT.out.below HB.out).2 k hkn).2.2.1 hmn
            rw [e2]
            clear e2
            have HB3 : Hid (Below w.heap.size w (wr.alloc (.cells (nodeC ((u.fn k).nd m) ((fas k).nas m)) 52))) := below_a HB.out _
            have HO4 : Hid ((wr.alloc (.cells (nodeC ((u.fn k).nd m) ((fas k).nas m)) 52)).ownsRow w.heap.size 3 1 (.slice a1 ys.length cap1) ys.length (sv ys)) := HO.out.alloc _
            have hlen := HLS.out.1
            have HSK : Hid (¬ LnK ((u.fn k).nd m) → ys.length ≤ tot u.fn k + (m + 1) ∧ ∀ v, v ∈ ys ↔ LnUp u k (m + 1) v) := fun h => ⟨by have := HLS.out.1; omega, fun v => by rw [HLS.out.2, lnUp_succ]; exact ⟨.inl, fun h' => h'.resolve_right fun c => h c.1⟩⟩
            by_cases h1 : ((u.fn k).nd m).k = 1
            · have HNK : Hid (¬ LnK ((u.fn k).nd m)) := fun h => h.2 h1
              have q : (((u.fn k).nd m).k != 1) = false := by rw [h1]; rfl
              clear h1
              go_wp2_with fail
              go_roundw
              case rel => exact ⟨m + 1, ys, a1, cap1, by omega, by go_num, rfl, HSK.out HNK.out, HO4, HB3⟩
              case measure => simp [intOf]; omega
            · have q : (((u.fn k).nd m).k != 1) = true := by simpa using h1
              cases hst : stK ((u.fn k).nd m).k
              · have HNK : Hid (¬ LnK ((u.fn k).nd m)) := fun h => by
                  have h1 := h.1
                  rw [hst] at h1
                  exact Bool.noConfusion h1
                have hs2 : setB 32766 ((u.fn k).nd m).k = false := (setSt _).trans hst
                clear h1
                go_wp2_with (go_at_call 31; refine (has_calls 32766 (by decide) _ _).mono ?_; rw [hs2]; rintro e w9 ⟨rfl, rfl⟩)
                go_roundw
                case rel => exact ⟨m + 1, ys, a1, cap1, by omega, by go_num, rfl, HSK.out HNK.out, HO4, HB3⟩
                case measure => simp [intOf]; omega
              · have HNK : Hid (LnK ((u.fn k).nd m)) := ⟨hst, h1⟩
                have hs2 : setB 32766 ((u.fn k).nd m).k = true := (setSt _).trans hst
                have HSK2 : Hid ((ys ++ [((u.fn k).nd m).l]).length ≤ tot u.fn k + (m + 1) ∧ ∀ v, v ∈ ys ++ [((u.fn k).nd m).l] ↔ LnUp u k (m + 1) v) := ⟨by rw [len_add]; omega, fun v => by rw [List.mem_append, HLS.out.2, lnUp_succ]; exact or_congr Iff.rfl ⟨fun h => ⟨HNK.out, (List.mem_singleton.1 h).symm⟩, fun h => by simp [h.2]⟩⟩
                clear h1
                go_wp2_with (first | (go_at_call 31; refine (has_calls 32766 (by decide) _ _).mono ?_; rw [hs2]; rintro e w9 ⟨rfl, rfl⟩) | (at_builtin; refine wpList_append_own_at _ rfl _ _ 36 rfl w.heap.size 3 i0 _ 1 8 Tryz.underlying36 hi0 hy0 hy1 hy2 rfl (by decide) (.slice a1 ys.length cap1) ys.length (sv ys) rfl (HO4.out.alloc _) ⟨wr.heap.size + 1, 0, none⟩ 1 1 [.int .i64 ((u.fn k).nd m).l] rfl rfl (cell_one_new2 _ _ _ _) (by simp [Value.oneCell']) (by unfold maxLen; omega) (by omega) (by have := HB3.out.size; simp at this ⊢; omega) ?_; intro v' w7 hown hgrow _ hblk; obtain ⟨a7, cap7, rfl⟩ := ownsRow_form hown; have HO7 : Hid (w7.ownsRow w.heap.size 3 1 (.slice a7 (ys.length + 1) cap7) (ys.length + 1) (sv (ys ++ [((u.fn k).nd m).l]))) := (by have h := hown; rw [← sv_add] at h; exact h); have HB7 : Hid (Below w.heap.size w w7) := (HB3.out.alloc HB3.out.size _).grown hgrow (by have := HB3.out.size; simp at this ⊢; omega) (fun k e => (HO4.out.lt k e).1); clear hown hgrow hblk))
                go_roundw
                case rel => exact ⟨m + 1, ys ++ [((u.fn k).nd m).l], a7, cap7, by omega, by go_num, by rw [len_add], HSK2, by rw [len_add]; exact HO7, HB7⟩
                case measure => simp [intOf]; omega
          · obtain rfl : m = (u.fn k).nn := by omega
            have HN : Hid (ys.length ≤ tot u.fn (k + 1) + 0 ∧ ∀ v, v ∈ ys ↔ LnUp u (k + 1) 0 v) := ⟨by have := HLS.out.1; unfold tot; omega, fun v => by rw [HLS.out.2, lnUp_next]⟩
            go_wp2_with fail
            go_roundw
            case rel => exact ⟨k + 1, ys, a1, cap1, by omega, by go_num, rfl, HN, HO, HB⟩
            case measure => simp [intOf]; omega
      · obtain rfl : k = u.n := by omega
        have hl := HLS.out.1
        go_wp2_with (first | (go_at_call 32; refine (HSo.out w.heap.size a1 cap1 ys _ (by omega) HO.out).mono ?_; rintro e w7 ⟨zs, rfl, hz1, hz2, hz3, ho7, hg7⟩; rw [← hz1] at ho7; have HZ : Hid (zs.length = ys.length ∧ Up zs ∧ ∀ v, v ∈ zs ↔ v ∈ ys) := ⟨hz1, hz2, hz3⟩; have HO7 : Hid (w7.ownsRow w.heap.size 3 1 (.slice a1 zs.length cap1) zs.length (sv zs)) := ho7; have HB7 : Hid (Below w.heap.size w w7) := HB.out.grown hg7 HB.out.size (fun k e => (HO.out.lt k ((own_bk _ _ _).trans e)).1); clear ho7 hg7 hz2 hz3) | (go_at_call 33; rw [← hz1]; refine (HCo.out w.heap.size a1 cap1 zs _ (by omega) HO7.out).mono ?_; rintro e w8 ⟨rfl, ho8, hg8⟩; have HO8 : Hid (w8.ownsRow w.heap.size 3 1 (.slice a1 (cpt zs).length cap1) (cpt zs).length (sv (cpt zs))) := ho8; have HB8 : Hid (Below w.heap.size w w8) := HB7.out.grown hg8 HB7.out.size (fun k e => (HO7.out.lt k ((own_bk _ _ _).trans e)).1); clear ho8 hg8))
        go_ret
        exact ⟨⟨cpt zs, a1, cap1, rfl, .inl ⟨HNB.out, cpt_asc _ HZ.out.2.1, fun v => by rw [cpt_mem, HZ.out.2.2, HLS.out.2]⟩, Nat.le_trans (cpt_len zs) (by have := HZ.out.1; omega), HO8.out⟩, HB8.out⟩
  · have HBad : Hid (∃ y, BadU u y) := ⟨_, HL.out.in hc⟩
    have q1 : ((c1 : Int) == 0) = false := by simp; omega
    have q2 : ((c1 : Int) != 0) = true := by simp; omega
    go_wp2_with fail
    go_ret
    exact ⟨⟨[], none, 0, rfl, .inr ⟨HBad.out, rfl⟩, by simp, World.ownsRow_nil _ _ _ _⟩, HB.out⟩
end Go.Proofs.YtjempigpjcnmhaaGreat

/-! Lines: the library's sort and compact, by the contracts that the shelf holds of them. -/
namespace Go.Proofs.YtjempigpjcnmhaaGreat
open Go.RowKit Go.Shelf
def lays189_ren : Go.Shelf.Ren := ⟨fun | 189 => 32 | 125 => 56 | 257 => 55 | 128 => 125 | 129 => 126 | 294 => 116 | 295 => 117 | 296 => 118 | 297 => 119 | 298 => 120 | 299 => 121 | 216 => 122 | 300 => 123 | 301 => 124 | 328 => 151 | 329 => 152 | 330 => 153 | 331 => 154 | 332 => 155 | 215 => 143 | 343 => 160 | n => n, fun | 28 => 36 | 3 => 3 | 46 => 88 | 0 => 0 | 51 => 130 | 53 => 55 | 4 => 4 | 183 => 123 | 182 => 122 | 131 => 127 | 5 => 5 | 9 => 9 | 218 => 152 | 222 => 156 | 228 => 160 | 229 => 161 | n => n, fun | n => n⟩
theorem lays189 : Go.Proofs.Lays.n189 Tryz.prog lays189_ren := {
  mixed := by kernel_rfl
  f125 := Tryz.func56.trans (congrArg some (by kernel_rfl))
  f128 := Tryz.func125.trans (congrArg some (by kernel_rfl))
  f129 := Tryz.func126.trans (congrArg some (by kernel_rfl))
  f189 := Tryz.func32.trans (congrArg some (by kernel_rfl))
  f215 := Tryz.func143.trans (congrArg some (by kernel_rfl))
  f216 := Tryz.func122.trans (congrArg some (by kernel_rfl))
  f257 := Tryz.func55.trans (congrArg some (by kernel_rfl))
  f294 := Tryz.func116.trans (congrArg some (by kernel_rfl))
  f295 := Tryz.func117.trans (congrArg some (by kernel_rfl))
  f296 := Tryz.func118.trans (congrArg some (by kernel_rfl))
  f297 := Tryz.func119.trans (congrArg some (by kernel_rfl))
  f298 := Tryz.func120.trans (congrArg some (by kernel_rfl))
  f299 := Tryz.func121.trans (congrArg some (by kernel_rfl))
  f300 := Tryz.func123.trans (congrArg some (by kernel_rfl))
  f301 := Tryz.func124.trans (congrArg some (by kernel_rfl))
  f328 := Tryz.func151.trans (congrArg some (by kernel_rfl))
  f329 := Tryz.func152.trans (congrArg some (by kernel_rfl))
  f330 := Tryz.func153.trans (congrArg some (by kernel_rfl))
  f331 := Tryz.func154.trans (congrArg some (by kernel_rfl))
  f332 := Tryz.func155.trans (congrArg some (by kernel_rfl))
  f343 := Tryz.func160.trans (congrArg some (by kernel_rfl))
  t0 := Tryz.underlying0
  a0 := Tryz.isAgg0
  z0 := Tryz.sizeOf0
  v0 := Tryz.zeroValue0
  t3 := Tryz.underlying3
  a3 := Tryz.isAgg3
  z3 := Tryz.sizeOf3
  v3 := Tryz.zeroValue3
  t4 := Tryz.underlying4
  a4 := Tryz.isAgg4
  z4 := Tryz.sizeOf4
  v4 := Tryz.zeroValue4
  t5 := Tryz.underlying5
  a5 := Tryz.isAgg5
  z5 := Tryz.sizeOf5
  v5 := Tryz.zeroValue5
  t9 := Tryz.underlying9
  a9 := Tryz.isAgg9
  z9 := Tryz.sizeOf9
  v9 := Tryz.zeroValue9
  t28 := Tryz.underlying36
  a28 := Tryz.isAgg36
  z28 := Tryz.sizeOf36
  v28 := Tryz.zeroValue36
  t46 := Tryz.underlying88
  a46 := Tryz.isAgg88
  z46 := Tryz.sizeOf88
  v46 := Tryz.zeroValue88
  t51 := Tryz.underlying130
  a51 := Tryz.isAgg130
  z51 := Tryz.sizeOf130
  v51 := Tryz.zeroValue130
  t53 := Tryz.underlying55
  a53 := Tryz.isAgg55
  z53 := Tryz.sizeOf55
  v53 := Tryz.zeroValue55
  t131 := Tryz.underlying127
  a131 := Tryz.isAgg127
  z131 := Tryz.sizeOf127
  v131 := Tryz.zeroValue127
  t182 := Tryz.underlying122
  a182 := Tryz.isAgg122
  z182 := Tryz.sizeOf122
  v182 := Tryz.zeroValue122
  t183 := Tryz.underlying123
  a183 := Tryz.isAgg123
  z183 := Tryz.sizeOf123
  v183 := Tryz.zeroValue123
  t218 := Tryz.underlying152
  a218 := Tryz.isAgg152
  z218 := Tryz.sizeOf152
  v218 := Tryz.zeroValue152
  t222 := Tryz.underlying156
  a222 := Tryz.isAgg156
  z222 := Tryz.sizeOf156
  v222 := Tryz.zeroValue156
  t228 := Tryz.underlying160
  a228 := Tryz.isAgg160
  z228 := Tryz.sizeOf160
  v228 := Tryz.zeroValue160
  t229 := Tryz.underlying161
  a229 := Tryz.isAgg161
  z229 := Tryz.sizeOf161
  v229 := Tryz.zeroValue161 }
def lays220_ren : Go.Shelf.Ren := ⟨fun | 20 => 33 | n => n, fun | 22 => 36 | 3 => 3 | 4 => 4 | 0 => 0 | n => n, fun | n => n⟩
theorem lays220 : Go.Proofs.Lays2.n20 Tryz.prog lays220_ren := {
  mixed := by kernel_rfl
  f20 := Tryz.func33.trans (congrArg some (by kernel_rfl))
  t0 := Tryz.underlying0
  a0 := Tryz.isAgg0
  z0 := Tryz.sizeOf0
  v0 := Tryz.zeroValue0
  t3 := Tryz.underlying3
  a3 := Tryz.isAgg3
  z3 := Tryz.sizeOf3
  v3 := Tryz.zeroValue3
  t4 := Tryz.underlying4
  a4 := Tryz.isAgg4
  z4 := Tryz.sizeOf4
  v4 := Tryz.zeroValue4
  t22 := Tryz.underlying36
  a22 := Tryz.isAgg36
  z22 := Tryz.sizeOf36
  v22 := Tryz.zeroValue36
  i3 := by kernel_rfl }
theorem cpt_is : ∀ (n : Nat) (xs : List Int), xs.length = n → Lib.compact xs = cpt xs
  | 0, [], _ => rfl
  | 1, [x], _ => by unfold cpt Lib.compact Lib.compactUpTo Lib.keeps; simp [List.range_succ]
  | n + 2, x :: y :: r, h => by
    have ih := cpt_is (n + 1) (y :: r) (by simpa using h)
    unfold cpt
    rw [← ih]
    unfold Lib.compact Lib.compactUpTo
    rw [show (x :: y :: r).length = ((y :: r).length) + 1 from rfl, List.range_succ_eq_map, show (y :: r).length = r.length + 1 from rfl, List.range_succ_eq_map]
    simp only [List.filter_cons, List.filter_map, List.map_cons, List.map_map]
    have k0 : Lib.keeps (x :: y :: r).toArray 0 = true := by simp [Lib.keeps]
    have k0' : Lib.keeps (y :: r).toArray 0 = true := by simp [Lib.keeps]
    have kS : ∀ j, Lib.keeps (x :: y :: r).toArray (j + 1 + 1) = Lib.keeps (y :: r).toArray (j + 1) := fun j => by simp [Lib.keeps]
    have k1 : Lib.keeps (x :: y :: r).toArray (0 + 1) = decide (y ≠ x) := by simp [Lib.keeps]
    by_cases e : x = y
    · subst e
      simp [k0, k0', k1, Function.comp_def, kS]
    · have e2 : ¬ y = x := fun h => e h.symm
      simp [k0, k0', k1, e, e2, Function.comp_def, kS]
theorem sort_says : SortSays := fun N a cap xs w hn hown => by
  rcases hown.2 with ⟨h0, h00⟩ | ⟨g, cap', cur, e2, hN, hh, h4, h5, h6, h7⟩
  · obtain rfl : xs = [] := List.eq_nil_of_length_eq_zero h00
    refine (Any.slices_Sort_int_none lays189 a cap w).mono ?_
    rintro e w' ⟨rfl, rfl⟩
    exact ⟨[], rfl, rfl, List.Pairwise.nil, fun v => Iff.rfl, hown, World.grownBy.refl _ _⟩
  · cases e2
    have hlt : g < w.heap.size := (Array.getElem?_eq_some_iff.1 hh).1
    refine (Any.slices_Sort_int lays189 g 0 cap xs w (holds_of_blockI hh (by rw [← Nat.mul_one xs.length]; exact h7)) hlt (by omega)).mono ?_
    rintro e w' ⟨rfl, n, os, rfl⟩
    have hp := List.mergeSort_perm xs (fun x y => decide (x ≤ y))
    have hl : (xs.mergeSort fun x y => decide (x ≤ y)).length = xs.length := hp.length_eq
    refine ⟨_, rfl, hl, ?_, fun v => hp.mem_iff, ownsRow_sortedI hl hN hh h4 h5 h6, grownBy_sortedI _⟩
    have := List.pairwise_mergeSort (le := fun (x y : Int) => decide (x ≤ y)) (fun a b c h1 h2 => by simp at h1 h2 ⊢; omega) (fun a b => by simp; omega) xs
    exact this.imp fun h => by simpa using h
theorem comp_says : CompSays := fun N a cap xs w hn hown => by
  rcases hown.2 with ⟨h0, h00⟩ | ⟨g, cap', cur, e2, hN, hh, h4, h5, h6, h7⟩
  · obtain rfl : xs = [] := List.eq_nil_of_length_eq_zero h00
    refine (Any.slices_Compact_int_empty lays220 a cap w).mono ?_
    rintro e w' ⟨rfl, rfl⟩
    exact ⟨rfl, hown, World.grownBy.refl _ _⟩
  · cases e2
    have hlt : g < w.heap.size := (Array.getElem?_eq_some_iff.1 hh).1
    refine (Any.slices_Compact_int lays220 g 0 cap xs w (holds_of_blockI hh (by rw [← Nat.mul_one xs.length]; exact h7)) (by omega) h4).mono ?_
    rintro e w' ⟨rfl, n, rfl⟩
    rw [cpt_is _ _ rfl]
    have hc := cpt_len xs
    have hg := @grownBy_sortedI w g n #[] (cpt xs ++ List.replicate (xs.length - (cpt xs).length) 0).toArray
    have hl : (cpt xs ++ List.replicate (xs.length - (cpt xs).length) (0 : Int)).length = xs.length := by simp; omega
    have ho := ownsRow_sortedI (n := n) (os := #[]) (cap := cap) hl hN hh h4 h5 h6
    rw [Go.Sort.grow_empty] at hg ho
    refine ⟨rfl, ?_, hg⟩
    rcases ho.2 with ⟨h0, _⟩ | ⟨g', cap', cur', e2, _, hh', _, _, h6', h7'⟩
    · cases h0
    · cases e2
      refine ⟨by simp [sv], .inr ⟨g, cap, cur', rfl, hN, hh', Nat.le_trans hc h4, h5, h6', ?_⟩⟩
      have h8 := congrArg (List.take ((cpt xs).length * 1)) h7'
      rw [List.take_take, Nat.min_eq_left (by omega)] at h8
      rw [h8]
      simp [sv]
theorem implLines_calls (L : Nat) (u : UD) (a : Option Addr) (cap : Nat) (fas : Nat → FA) (w : World) (hs : u.sm) (hcf : ∀ i, i < u.n → CapF (u.fn i) (fas i)) (hT : FnsAt L w u.n u.fn a fas) :
    Calls Tryz.prog 12 #[unV u a cap] w fun e w' => ImplLPost u w e w' := implLines_of sort_says comp_says L u a cap fas w hs hcf hT
end Go.Proofs.YtjempigpjcnmhaaGreat
