import Derived.Test.YtcpjnddkibbddaaGreatLnA
/-! Lines: the specification's. -/
namespace Go.Proofs.YtcpjnddkibbddaaGreat
open Go.RowKit
attribute [local go_sem] run_store_float
attribute [local go_sem ↓] Go.wp_at_zero Go.wp_at_succ

/-- a node that begins a statement and is no block -/
def LnK (d : ND) : Prop := stK d.k = true ∧ d.k ≠ 1
/-- the lines ahead of node m of fn f -/
def LnUp (u : UD) (f m : Nat) (v : Int) : Prop := ∃ g x, (g < f ∧ x < (u.fn g).nn ∨ g = f ∧ x < m) ∧ LnK ((u.fn g).nd x) ∧ ((u.fn g).nd x).l = v
theorem lnUp_zero (u : UD) (v : Int) : ¬ LnUp u 0 0 v := by rintro ⟨g, x, h | h, _⟩ <;> omega
theorem lnUp_succ (u : UD) (f m : Nat) (v : Int) : LnUp u f (m + 1) v ↔ LnUp u f m v ∨ (LnK ((u.fn f).nd m) ∧ ((u.fn f).nd m).l = v) := by
  constructor
  · rintro ⟨g, x, h | h, h2⟩
    · exact .inl ⟨g, x, .inl h, h2⟩
    · by_cases e : x = m
      · obtain ⟨rfl, _⟩ := h
        subst e
        exact .inr h2
      · exact .inl ⟨g, x, .inr ⟨h.1, by omega⟩, h2⟩
  · rintro (⟨g, x, h | h, h2⟩ | h)
    · exact ⟨g, x, .inl h, h2⟩
    · exact ⟨g, x, .inr ⟨h.1, by omega⟩, h2⟩
    · exact ⟨f, m, .inr ⟨rfl, by omega⟩, h⟩
theorem lnUp_next (u : UD) (f : Nat) (v : Int) : LnUp u f (u.fn f).nn v ↔ LnUp u (f + 1) 0 v := by
  constructor
  · rintro ⟨g, x, h | h, h2⟩
    · exact ⟨g, x, .inl ⟨by omega, h.2⟩, h2⟩
    · obtain ⟨rfl, h⟩ := h
      exact ⟨g, x, .inl ⟨by omega, h⟩, h2⟩
  · rintro ⟨g, x, h | h, h2⟩
    · by_cases e : g = f
      · subst e
        exact ⟨g, x, .inr ⟨rfl, h.2⟩, h2⟩
      · exact ⟨g, x, .inl ⟨by omega, h.2⟩, h2⟩
    · omega
/-- what Lines is to answer -/
def LinesIs (u : UD) (xs : List Int) : Prop := ((∀ y, ¬ BadU u y) ∧ Asc xs ∧ ∀ v, v ∈ xs ↔ LnUp u u.n 0 v) ∨ ((∃ y, BadU u y) ∧ xs = [])
theorem LinesIs.uniq {u : UD} {xs ys : List Int} (h : LinesIs u xs) (k : LinesIs u ys) : xs = ys := by
  rcases h with ⟨h1, h2, h3⟩ | ⟨⟨y, h1⟩, rfl⟩ <;> rcases k with ⟨k1, k2, k3⟩ | ⟨⟨z, k1⟩, rfl⟩
  · exact asc_same h2 k2 fun v => (h3 v).trans (k3 v).symm
  · exact absurd k1 (h1 z)
  · exact absurd h1 (k1 y)
  · rfl
theorem insA_len (x : Int) (xs : List Int) : ∀ put, (insA put x xs).length ≤ xs.length + 1 := by
  induction xs with
  | nil => intro put; unfold insA; split <;> simp
  | cons y r ih =>
    intro put
    have ht : (insA true x r).length ≤ r.length := by rw [insA_true]; exact List.length_filter_le _ _
    have h1 := ih put
    unfold insA
    by_cases h : put = false ∧ x ≤ y
    · rw [if_pos h]
      split
      · simp; omega
      · simp; omega
    · rw [if_neg h]
      split
      · simp; omega
      · simp; omega
theorem LiAt.nil (L : Nat) (w : World) : LiAt L w none [] := fun h => absurd h (by simp)
/-- the list, its place, how many there can be -/
structure LS (L : Nat) (u : UD) (f m : Nat) (xs : List Int) (a : Option Addr) (w : World) : Prop where
  asc : Asc xs
  mem : ∀ v, v ∈ xs ↔ LnUp u f m v
  at_ : LiAt L w a xs
  len : xs.length ≤ tot u.fn f + m
theorem LS.below {L : Nat} {u : UD} {f m : Nat} {xs : List Int} {a : Option Addr} {w w' : World} (h : LS L u f m xs a w) (hb : Below w.heap.size w w') : LS L u f m xs a w' := ⟨h.asc, h.mem, RowN.below h.at_ hb, h.len⟩
theorem LS.skip {L : Nat} {u : UD} {f m : Nat} {xs : List Int} {a : Option Addr} {w : World} (h : LS L u f m xs a w) (hk : ¬ LnK ((u.fn f).nd m)) : LS L u f (m + 1) xs a w := ⟨h.asc, fun v => by rw [h.mem, lnUp_succ]; exact ⟨.inl, fun h' => h'.resolve_right fun c => hk c.1⟩, h.at_, by have := h.len; omega⟩
theorem LS.next {L : Nat} {u : UD} {f : Nat} {xs : List Int} {a : Option Addr} {w : World} (h : LS L u f (u.fn f).nn xs a w) : LS L u (f + 1) 0 xs a w := ⟨h.asc, fun v => by rw [h.mem, lnUp_next], h.at_, by have := h.len; unfold tot; omega⟩
theorem tot_mono (fn : Nat → FD) (k : Nat) : ∀ n, k ≤ n → tot fn k ≤ tot fn n
  | 0, h => by
    obtain rfl : k = 0 := by omega
    exact Nat.le_refl _
  | n + 1, h => by
    by_cases e : k = n + 1
    · subst e; exact Nat.le_refl _
    · have := tot_mono fn k n (by omega)
      show _ ≤ tot fn n + (fn n).nn
      omega
def SpecLPost (u : UD) (w : World) (e : Ending) (w' : World) : Prop := (∃ xs a cap, e = .returned (.slice a xs.length cap) ∧ LinesIs u xs ∧ xs.length ≤ 3000 ∧ LiAt w.heap.size w' a xs) ∧ Below w.heap.size w w'

set_option maxRecDepth 100000 in
set_option maxHeartbeats 4000000 in
theorem specLines_calls (L : Nat) (u : UD) (a : Option Addr) (cap : Nat) (fas : Nat → FA) (w : World) (hs : u.sm) (hT : FnsAt L w u.n u.fn a fas) :
    Calls Tryz.prog 5 #[unV u a cap] w fun e w' => SpecLPost u w e w' := by
  have HT : Hid (FnsAt L w u.n u.fn a fas) := hT
  have HS : Hid u.sm := hs
  clear hT hs
  go_enter Tryz.func5, Tryz.ntmps5
  go_wp2_with fail
  refine (specCheck_calls L u a cap fas _ HS.out (HT.out.alloc _)).mono ?_
  rintro e w1 ⟨x1, rfl, hl1, hb1⟩
  obtain ⟨w2, hw2⟩ : ∃ w2, w2 = w1.alloc (.cells (ftC x1) 39) := ⟨_, rfl⟩
  have HB : Hid (Below w.heap.size w w2) := by show Below _ _ _; rw [hw2]; exact below_a (below_call (below_alloc _ _) hb1) _
  have HX : Hid (Has w2 w.heap.size #[.slice a u.n cap]) := by show Has _ _ _; rw [hw2]; exact (Has.made hb1).alloc _
  have HF : Hid (Has w2 w1.heap.size (ftC x1)) := by show Has _ _ _; rw [hw2]; exact Has.new _ _ _
  have HL : Hid (Least (BadU u) x1) := hl1
  clear hl1 hb1
  go_upto_region 3 with fail
  simp only [ftC] at hw2
  rw [← hw2]
  clear hw2
  have f0 : w2.cell? ⟨w1.heap.size, 0, none⟩ = some (.int .i64 (x1.c : Int)) := HF.out.cell 0 rfl
  by_cases hc : x1.c = 0
  · have hnb : ∀ y, ¬ BadU u y := by
      have h := HL.out
      rw [h.nil hc] at h
      exact h.none
    have HNB : Hid (∀ y, ¬ BadU u y) := hnb
    have hsz : SizeOk u := sz_of (fun y hy => hnb y (.inl hy))
    have htot := hsz.2.2
    have hun := hsz.2.1
    have HTL : Hid (∀ k, k < u.n → tot u.fn k + (u.fn k).nn ≤ 3000) := fun k hk => by
      have h : tot u.fn (k + 1) ≤ tot u.fn u.n := tot_mono u.fn (k + 1) u.n (by omega)
      have h2 : tot u.fn (k + 1) = tot u.fn k + (u.fn k).nn := rfl
      omega
    rw [hc] at f0
    clear hnb hsz
    have u0 := HX.out.cell 0 rfl
    go_wp2_with fail
    clear f0 u0
    go_loopw [3, 18] (fun o i wr => ∃ (k : Nat) (xs : List Int) (a1 : Option Addr) (cap1 : Nat), k ≤ u.n ∧ i = .int .i64 k ∧ o = .slice a1 xs.length cap1 ∧ Hid (LS w.heap.size u k 0 xs a1 wr) ∧ Hid (Below w.heap.size w wr)) (fun _ i _ => u.n - (intOf i).toNat)
    case atStart => exact ⟨0, [], none, 0, Nat.zero_le _, rfl, rfl, ⟨List.Pairwise.nil, fun v => ⟨fun h => absurd h (by simp), fun h => absurd h (lnUp_zero u v)⟩, LiAt.nil _ _, by simp⟩, HB⟩
    case round =>
      clear HB
      obtain ⟨k, xs, a1, cap1, hk, rfl, rfl, HLS, HB⟩ := hrel
      by_cases hkn : k < u.n
      · have HTr : Hid (FnsAt L wr u.n u.fn a fas) := HT.out.below HB.out
        obtain ⟨b, off, e0, _, hb, d0, d1, d2, d3, d4, d5, d6⟩ := cells7 HTr.out.1 hkn
        rw [e0]
        have hnn := HTL.out k hkn
        rename World => wa
        go_wp2_with fail
        have HB2 : Hid (Below w.heap.size w (wa.alloc (.cells (fnC (u.fn k) (fas k)) 45))) := below_a HB.out _
        have HLS2 : Hid (LS w.heap.size u k 0 xs a1 (wa.alloc (.cells (fnC (u.fn k) (fas k)) 45))) := HLS.out.below (below_alloc _ _)
        clear d0 d1 d2 d3 d4 d5 d6 e0 HB HLS HTr
        go_loopw [3, 25] (fun o i wr => ∃ (m : Nat) (xs : List Int) (a1 : Option Addr) (cap1 : Nat), m ≤ (u.fn k).nn ∧ i = .int .i64 m ∧ o = .slice a1 xs.length cap1 ∧ Hid (LS w.heap.size u k m xs a1 wr) ∧ Hid (Below w.heap.size w wr)) (fun _ i _ => (u.fn k).nn - (intOf i).toNat)
        case atStart => exact ⟨0, xs, a1, cap1, Nat.zero_le _, rfl, rfl, HLS2, HB2⟩
        case round =>
          clear HB2 HLS2
          obtain ⟨m, xs, a1, cap1, hm, rfl, rfl, HLS, HB⟩ := hrel
          by_cases hmn : m < (u.fn k).nn
          · obtain ⟨b2, o2, e2, _, hb2, g0, g1, g2, g3, g4, g5, g6, g7⟩ := cells8 ((HT.out.below HB.out).2 k hkn).2.2.1 hmn
            rw [e2]
            clear e2
            have HB3 : Hid (Below w.heap.size w (wr.alloc (.cells (nodeC ((u.fn k).nd m) ((fas k).nas m)) 48))) := below_a HB.out _
            have HLS3 : Hid (LS w.heap.size u k m xs a1 (wr.alloc (.cells (nodeC ((u.fn k).nd m) ((fas k).nas m)) 48))) := HLS.out.below (below_alloc _ _)
            have hlen := HLS.out.len
            cases hst : stK ((u.fn k).nd m).k
            · have HNK : Hid (¬ LnK ((u.fn k).nd m)) := fun h => by
                have h1 := h.1
                rw [hst] at h1
                exact Bool.noConfusion h1
              go_wp2_with (go_at_call 15; refine (l3stat_calls _ _).mono ?_; rw [hst]; rintro e w9 ⟨rfl, rfl⟩)
              go_roundw
              case rel => exact ⟨m + 1, xs, a1, cap1, by omega, by go_num, rfl, HLS3.out.skip HNK.out, HB3⟩
              case measure => simp [intOf]; omega
            · by_cases h1 : ((u.fn k).nd m).k = 1
              · have HNK : Hid (¬ LnK ((u.fn k).nd m)) := fun h => h.2 h1
                have q : (((u.fn k).nd m).k != 1) = false := by rw [h1]; rfl
                clear h1
                go_wp2_with (go_at_call 15; refine (l3stat_calls _ _).mono ?_; rw [hst]; rintro e w9 ⟨rfl, rfl⟩)
                go_roundw
                case rel => exact ⟨m + 1, xs, a1, cap1, by omega, by go_num, rfl, HLS3.out.skip HNK.out, HB3⟩
                case measure => simp [intOf]; omega
              · have HNK : Hid (LnK ((u.fn k).nd m)) := ⟨hst, h1⟩
                have q : (((u.fn k).nd m).k != 1) = true := by simpa using h1
                clear h1
                go_wp2_with (first | (go_at_call 15; refine (l3stat_calls _ _).mono ?_; rw [hst]; rintro e w9 ⟨rfl, rfl⟩) | (go_at_call 16; refine (l3insert_calls w.heap.size a1 cap1 xs ((u.fn k).nd m).l _ (by omega) HLS3.out.at_).mono ?_; rintro e w9 ⟨⟨a9, cap9, rfl, ho9⟩, hb9⟩; have HO9 : Hid _ := ho9; have HB9 : Hid (Below w.heap.size w w9) := below_call HB3.out hb9; clear ho9 hb9))
                go_roundw
                case rel => exact ⟨m + 1, insA false ((u.fn k).nd m).l xs, a9, cap9, by omega, by go_num, rfl, ⟨asc_insA _ _ HLS3.out.asc, fun v => by rw [mem_insA, HLS3.out.mem, lnUp_succ]; exact or_congr Iff.rfl ⟨fun h => ⟨HNK.out, h.symm⟩, fun h => h.2.symm⟩, RowN.less (LiAt.own HO9.out) HB3.out.size, Nat.le_trans (insA_len _ _ _) (by omega)⟩, HB9⟩
                case measure => simp [intOf]; omega
          · obtain rfl : m = (u.fn k).nn := by omega
            go_wp2_with fail
            go_roundw
            case rel => exact ⟨k + 1, xs, a1, cap1, by omega, by go_num, rfl, HLS.out.next, HB⟩
            case measure => simp [intOf]; omega
      · obtain rfl : k = u.n := by omega
        go_wp2_with fail
        go_ret
        exact ⟨⟨xs, a1, cap1, rfl, .inl ⟨HNB.out, HLS.out.asc, HLS.out.mem⟩, by have := HLS.out.len; omega, HLS.out.at_⟩, HB.out⟩
  · have HBad : Hid (∃ y, BadU u y) := ⟨x1, HL.out.in hc⟩
    have q : ((x1.c : Int) != 0) = true := by simp; omega
    go_wp2_with fail
    go_ret
    exact ⟨⟨[], none, 0, rfl, .inr ⟨HBad.out, rfl⟩, by simp, LiAt.nil _ _⟩, HB.out⟩
end Go.Proofs.YtcpjnddkibbddaaGreat
