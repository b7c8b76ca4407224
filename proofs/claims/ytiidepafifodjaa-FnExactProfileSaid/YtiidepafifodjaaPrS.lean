import Derived.Test.YtiidepafifodjaaCtA
import Derived.Test.YtiidepafifodjaaOwA
import Derived.Test.YtiidepafifodjaaMpA
import Derived.Deep.Cut
import Derived.Deep.DeepCutAuto
/-! The specification's Profile. -/
namespace Go.Proofs.Ytiidepafifodjaa
open Go.RowKit
attribute [local go_sem] run_store_float
attribute [local go_sem ↓] Go.wp_at_zero Go.wp_at_succ

theorem infoCount : (Try.prog.info? 94).map (fun i => (i.zero, i.size, i.bytes)) = some (some (.agg #[.int .i64 0, .int .i64 0, .int .i64 0]), 3, 24) := by kernel_rfl
theorem own_add {u : World} {N cap : Nat} {a : Option Addr} {xs : List CT} {f l h : Int} (ho : u.ownsRow N 94 3 (.slice a (xs.length + 1) cap) (xs.length + 1) (ctS xs ++ [.int .i64 f, .int .i64 l, .int .i64 h])) : u.ownsRow N 94 3 (.slice a (xs ++ [CT.mk f l h]).length cap) (xs ++ [CT.mk f l h]).length (ctS (xs ++ [CT.mk f l h])) := by
  rw [ctS_append, List.length_append]
  exact ho
theorem own_add2 {u : World} {N cap m : Nat} {a : Option Addr} {xs : List CT} {f l h : Int} (ho : u.ownsRow N 94 3 (.slice a m cap) m (ctS xs ++ [.int .i64 f, .int .i64 l, .int .i64 h])) (hm : m = xs.length + 1) : u.ownsRow N 94 3 (.slice a (xs ++ [CT.mk f l h]).length cap) (xs ++ [CT.mk f l h]).length (ctS (xs ++ [CT.mk f l h])) := by
  subst hm
  exact own_add ho
theorem own_add1 {u : World} {N cap m : Nat} {a : Option Addr} {xs : List CT} {f l h : Int} (ho : u.ownsRow N 94 3 (.slice a m cap) m (ctS xs ++ [.int .i64 f, .int .i64 l, .int .i64 h])) : u.ownsRow N 94 3 (.slice a m cap) m (ctS (xs ++ [CT.mk f l h])) := by
  rw [ctS_append]
  exact ho
theorem hitA_len (f l : Int) : ∀ (xs : List CT) (p : Bool), (hitA p f l xs).length ≤ xs.length + if p then 0 else 1
  | [], p => by cases p <;> simp [hitA]
  | c :: r, p => by
    unfold hitA
    have h1 := hitA_len f l r true
    have h2 := hitA_len f l r p
    simp only [if_true] at h1
    split
    · next h => obtain ⟨rfl, _⟩ := h; simp; omega
    · split
      · simp only [List.length_cons]; split <;> omega
      · simp only [List.length_cons]; split at h2 <;> simp_all <;> omega

set_option maxRecDepth 100000 in
set_option maxHeartbeats 4000000 in
theorem l5hit_calls (L : Nat) (a : Option Addr) (cap : Nat) (xs : List CT) (f l : Int) (w : World) (hn : xs.length ≤ 1048576) (hh : ∀ c ∈ xs, 0 ≤ c.h ∧ c.h ≤ 1048576) (hT : CtAt L w a xs) :
    Calls Try.prog 49 #[.slice a xs.length cap, .int .i64 f, .int .i64 l] w fun e w' => (∃ a' cap', e = .returned (.slice a' (hitA false f l xs).length cap') ∧ w'.ownsRow w.heap.size 94 3 (.slice a' (hitA false f l xs).length cap') (hitA false f l xs).length (ctS (hitA false f l xs))) ∧ Below w.heap.size w w' := by
  have HT : Hid (CtAt L w a xs) := hT
  have HH : Hid (∀ c ∈ xs, 0 ≤ c.h ∧ c.h ≤ 1048576) := hh
  clear hT hh
  obtain ⟨i0, hi0, hy0, hy1, hy2⟩ := info_parts infoCount
  go_enter Try.func49, Try.ntmps49
  go_wp2_with fail
  go_loopw [7, 8, 13] (fun o p i wr => ∃ (k : Nat) (out : List CT) (put : Bool) (a1 : Option Addr) (cap1 : Nat), k ≤ xs.length ∧ i = .int .i64 k ∧ p = .bool put ∧ o = .slice a1 out.length cap1 ∧ out.length ≤ 2 * k ∧ Hid (out ++ hitA put f l (xs.drop k) = hitA false f l xs) ∧ Hid (wr.ownsRow w.heap.size 94 3 (.slice a1 out.length cap1) out.length (ctS out)) ∧ Hid (Below w.heap.size w wr)) (fun _ _ i _ => xs.length - (intOf i).toNat)
  case atStart => exact ⟨0, [], false, none, 0, Nat.zero_le _, rfl, rfl, rfl, by simp, by show _ = _; simp, World.ownsRow_nil _ _ _ _, Below.refl _ _⟩
  case round =>
    obtain ⟨k, out, put, a1, cap1, hk, rfl, rfl, rfl, hlen, HI, HO, HB⟩ := hrel
    by_cases hkn : k < xs.length
    · obtain ⟨b, off, rfl, _, hb, d0, d1, d2⟩ := cells3 (RowN.below HT.out HB.out) hkn
      obtain ⟨y, hy⟩ : ∃ y, xs[k]? = some y := ⟨_, List.getElem?_eq_getElem hkn⟩
      have hd : xs.drop k = y :: xs.drop (k + 1) := by
        obtain ⟨h1, h2⟩ := List.getElem?_eq_some_iff.1 hy
        rw [List.drop_eq_getElem_cons h1, h2]
      have hyk : xs.getD k default = y := by simp [List.getD, hy]
      simp only [hyk] at d0 d1 d2
      obtain ⟨hh0, hh1⟩ := HH.out y (List.mem_of_getElem? hy)
      clear hyk
      have HI2 : Hid (out ++ hitA put f l (y :: xs.drop (k + 1)) = hitA false f l xs) := by have h := HI.out; rw [hd] at h; exact h
      clear HI hd hy
      obtain ⟨yf, yl, yh⟩ := y
      dsimp only at d0 d1 d2 hh0 hh1
      go_upto_region 6 with fail
      obtain ⟨wb, hwb⟩ : ∃ wb, wb = wr.alloc (.cells #[.int .i64 yf, .int .i64 yl, .int .i64 yh] 94) := ⟨_, rfl⟩
      have HX : Hid (Has wb wr.heap.size #[.int .i64 yf, .int .i64 yl, .int .i64 yh]) := by rw [hwb]; exact Has.new _ _ _
      have hfz : ∀ j, wb.frozen? ⟨wr.heap.size, j, none⟩ = false := fun j => by rw [hwb]; simp [go_sem]
      have HOb : Hid (wb.ownsRow w.heap.size 94 3 (.slice a1 out.length cap1) out.length (ctS out)) := by rw [hwb]; exact HO.out.alloc _
      have HBb : Hid (Below w.heap.size w wb) := by rw [hwb]; exact HB.out.alloc HB.out.size _
      have HR : Hid (∀ j, (Value.slice a1 out.length cap1).ownBlock = some j → j ≠ wr.heap.size) := fun j e => by have := (HO.out.lt j e).2; omega
      have hRb : wr.heap.size < wb.heap.size := HX.out.lt
      have hRw : w.heap.size ≤ wr.heap.size := HB.out.size
      rw [← hwb]
      clear hwb d0 d1 d2 HO HB
      have c0 := HX.out.cell 0 rfl
      have c1 := HX.out.cell 1 rfl
      have c2 := HX.out.cell 2 rfl
      generalize wr.heap.size = R at *
      cases put with
      | false =>
        by_cases h1 : f < yf
        · have HI3 : Hid (((out ++ [CT.mk (f) (l) (1)]) ++ [CT.mk (yf) (yl) (yh)]) ++ hitA true f l (xs.drop (k + 1)) = hitA false f l xs) := by
            have h := HI2.out
            rw [hitA, if_pos ⟨rfl, by first | exact .inl h1 | exact .inr ⟨h1, h2⟩⟩] at h
            show _ = _
            rw [← h]
            simp
          clear HI2
          go_wp2_with (first | (at_builtin; refine wpList_append_own_at _ rfl _ _ 27 rfl w.heap.size 94 i0 _ 3 24 Try.underlying27 hi0 hy0 hy1 hy2 rfl (by decide) (.slice a1 (out).length cap1) (out).length (ctS (out)) rfl (HOb.out.alloc _) ⟨wb.heap.size, 0, none⟩ 1 1 [.int .i64 (f), .int .i64 (l), .int .i64 (1)] rfl rfl (new_news _ #[.int .i64 (f), .int .i64 (l), .int .i64 (1)] _) (by simp [Value.oneCell']) (by unfold maxLen; omega) (by omega) (by have := HBb.out.size; simp; omega) ?_; intro v' w7 hown hgrow _ _; obtain ⟨a7, cap7, rfl⟩ := ownsK_form hown; have HO7 : Hid (w7.ownsRow w.heap.size 94 3 (.slice a7 (out.length + 1) cap7) (out.length + 1) (ctS (out ++ [CT.mk (f) (l) (1)]))) := own_add1 hown; have HB7 : Hid (Below w.heap.size w w7) := (HBb.out.alloc HBb.out.size _).grown hgrow (by have := HBb.out.size; simp; omega) (fun k e => (HOb.out.lt k e).1); have HX7 : Hid (Has w7 R #[.int .i64 yf, .int .i64 yl, .int .i64 yh]) := has_grownK (HX.out.alloc _) hgrow (fun e => HR.out _ e.symm rfl); have e0 := HX7.out.cell 0 rfl; have e1 := HX7.out.cell 1 rfl; have e2 := HX7.out.cell 2 rfl; clear c0 c1 c2; clear hown hgrow) | (at_builtin; refine wpList_append_own_at _ rfl _ _ 27 rfl w.heap.size 94 i0 _ 3 24 Try.underlying27 hi0 hy0 hy1 hy2 rfl (by decide) (.slice a7 (out.length + 1) cap7) (out.length + 1) (ctS (out ++ [CT.mk (f) (l) (1)])) rfl (HO7.out.alloc _) ⟨w7.heap.size, 0, none⟩ 1 1 [.int .i64 (yf), .int .i64 (yl), .int .i64 (yh)] rfl rfl (new_news _ #[.int .i64 (yf), .int .i64 (yl), .int .i64 (yh)] _) (by simp [Value.oneCell']) (by unfold maxLen; omega) (by omega) (by have := HB7.out.size; simp; omega) ?_; intro v' w8 hown hgrow _ _; obtain ⟨a8, cap8, rfl⟩ := ownsK_form hown; have HO8 : Hid (w8.ownsRow w.heap.size 94 3 (.slice a8 ((out ++ [CT.mk (f) (l) (1)]) ++ [CT.mk (yf) (yl) (yh)]).length cap8) ((out ++ [CT.mk (f) (l) (1)]) ++ [CT.mk (yf) (yl) (yh)]).length (ctS ((out ++ [CT.mk (f) (l) (1)]) ++ [CT.mk (yf) (yl) (yh)]))) := own_add2 hown (by simp); have HB8 : Hid (Below w.heap.size w w8) := (HB7.out.alloc HB7.out.size _).grown hgrow (by have := HB7.out.size; simp; omega) (fun k e => (HO7.out.lt k e).1); clear hown hgrow))
          go_roundw
          case rel => exact ⟨k + 1, _, true, a8, cap8, by omega, by go_num, rfl, by simp, by simp; omega, HI3, HO8, HB8⟩
          case measure => simp [intOf]; omega
        by_cases g1 : yf < f
        · have q : (yf == f) = false := by simp only [beq_eq_false_iff_ne]; omega
          have HI3 : Hid ((out ++ [CT.mk (yf) (yl) (yh)]) ++ hitA false f l (xs.drop (k + 1)) = hitA false f l xs) := by
            have h := HI2.out
            rw [hitA, if_neg (by dsimp only; simp; try omega), if_neg (by dsimp only; omega)] at h
            show _ = _
            rw [← h]
            simp
          clear HI2
          go_wp2_with (at_builtin; refine wpList_append_own_at _ rfl _ _ 27 rfl w.heap.size 94 i0 _ 3 24 Try.underlying27 hi0 hy0 hy1 hy2 rfl (by decide) (.slice a1 (out).length cap1) (out).length (ctS (out)) rfl (HOb.out.alloc _) ⟨wb.heap.size, 0, none⟩ 1 1 [.int .i64 (yf), .int .i64 (yl), .int .i64 (yh)] rfl rfl (new_news _ #[.int .i64 (yf), .int .i64 (yl), .int .i64 (yh)] _) (by simp [Value.oneCell']) (by unfold maxLen; omega) (by omega) (by have := HBb.out.size; simp; omega) ?_; intro v' w8 hown hgrow _ _; obtain ⟨a8, cap8, rfl⟩ := ownsK_form hown; have HO8 : Hid (w8.ownsRow w.heap.size 94 3 (.slice a8 ((out) ++ [CT.mk (yf) (yl) (yh)]).length cap8) ((out) ++ [CT.mk (yf) (yl) (yh)]).length (ctS ((out) ++ [CT.mk (yf) (yl) (yh)]))) := own_add hown; have HB8 : Hid (Below w.heap.size w w8) := (HBb.out.alloc HBb.out.size _).grown hgrow (by have := HBb.out.size; simp; omega) (fun k e => (HOb.out.lt k e).1); clear hown hgrow)
          go_roundw
          case rel => exact ⟨k + 1, _, false, a8, cap8, by omega, by go_num, rfl, by simp, by simp; omega, HI3, HO8, HB8⟩
          case measure => simp [intOf]; omega
        obtain rfl : f = yf := by omega
        clear g1 h1
        have h1 : f = f := rfl
        by_cases h2 : l < yl
        · have q : (yl == l) = false := by simp only [beq_eq_false_iff_ne]; omega
          have HI3 : Hid (((out ++ [CT.mk (f) (l) (1)]) ++ [CT.mk (f) (yl) (yh)]) ++ hitA true f l (xs.drop (k + 1)) = hitA false f l xs) := by
            have h := HI2.out
            rw [hitA, if_pos ⟨rfl, by first | exact .inl h1 | exact .inr ⟨h1, h2⟩⟩] at h
            show _ = _
            rw [← h]
            simp
          clear HI2
          go_wp2_with (first | (at_builtin; refine wpList_append_own_at _ rfl _ _ 27 rfl w.heap.size 94 i0 _ 3 24 Try.underlying27 hi0 hy0 hy1 hy2 rfl (by decide) (.slice a1 (out).length cap1) (out).length (ctS (out)) rfl (HOb.out.alloc _) ⟨wb.heap.size, 0, none⟩ 1 1 [.int .i64 (f), .int .i64 (l), .int .i64 (1)] rfl rfl (new_news _ #[.int .i64 (f), .int .i64 (l), .int .i64 (1)] _) (by simp [Value.oneCell']) (by unfold maxLen; omega) (by omega) (by have := HBb.out.size; simp; omega) ?_; intro v' w7 hown hgrow _ _; obtain ⟨a7, cap7, rfl⟩ := ownsK_form hown; have HO7 : Hid (w7.ownsRow w.heap.size 94 3 (.slice a7 (out.length + 1) cap7) (out.length + 1) (ctS (out ++ [CT.mk (f) (l) (1)]))) := own_add1 hown; have HB7 : Hid (Below w.heap.size w w7) := (HBb.out.alloc HBb.out.size _).grown hgrow (by have := HBb.out.size; simp; omega) (fun k e => (HOb.out.lt k e).1); have HX7 : Hid (Has w7 R #[.int .i64 f, .int .i64 yl, .int .i64 yh]) := has_grownK (HX.out.alloc _) hgrow (fun e => HR.out _ e.symm rfl); have e0 := HX7.out.cell 0 rfl; have e1 := HX7.out.cell 1 rfl; have e2 := HX7.out.cell 2 rfl; clear c0 c1 c2; clear hown hgrow) | (at_builtin; refine wpList_append_own_at _ rfl _ _ 27 rfl w.heap.size 94 i0 _ 3 24 Try.underlying27 hi0 hy0 hy1 hy2 rfl (by decide) (.slice a7 (out.length + 1) cap7) (out.length + 1) (ctS (out ++ [CT.mk (f) (l) (1)])) rfl (HO7.out.alloc _) ⟨w7.heap.size, 0, none⟩ 1 1 [.int .i64 (f), .int .i64 (yl), .int .i64 (yh)] rfl rfl (new_news _ #[.int .i64 (f), .int .i64 (yl), .int .i64 (yh)] _) (by simp [Value.oneCell']) (by unfold maxLen; omega) (by omega) (by have := HB7.out.size; simp; omega) ?_; intro v' w8 hown hgrow _ _; obtain ⟨a8, cap8, rfl⟩ := ownsK_form hown; have HO8 : Hid (w8.ownsRow w.heap.size 94 3 (.slice a8 ((out ++ [CT.mk (f) (l) (1)]) ++ [CT.mk (f) (yl) (yh)]).length cap8) ((out ++ [CT.mk (f) (l) (1)]) ++ [CT.mk (f) (yl) (yh)]).length (ctS ((out ++ [CT.mk (f) (l) (1)]) ++ [CT.mk (f) (yl) (yh)]))) := own_add2 hown (by simp); have HB8 : Hid (Below w.heap.size w w8) := (HB7.out.alloc HB7.out.size _).grown hgrow (by have := HB7.out.size; simp; omega) (fun k e => (HO7.out.lt k e).1); clear hown hgrow))
          go_roundw
          case rel => exact ⟨k + 1, _, true, a8, cap8, by omega, by go_num, rfl, by simp, by simp; omega, HI3, HO8, HB8⟩
          case measure => simp [intOf]; omega
        by_cases g2 : yl < l
        · have q : (yl == l) = false := by simp only [beq_eq_false_iff_ne]; omega
          have HI3 : Hid ((out ++ [CT.mk (f) (yl) (yh)]) ++ hitA false f l (xs.drop (k + 1)) = hitA false f l xs) := by
            have h := HI2.out
            rw [hitA, if_neg (by dsimp only; simp; try omega), if_neg (by dsimp only; omega)] at h
            show _ = _
            rw [← h]
            simp
          clear HI2
          go_wp2_with (at_builtin; refine wpList_append_own_at _ rfl _ _ 27 rfl w.heap.size 94 i0 _ 3 24 Try.underlying27 hi0 hy0 hy1 hy2 rfl (by decide) (.slice a1 (out).length cap1) (out).length (ctS (out)) rfl (HOb.out.alloc _) ⟨wb.heap.size, 0, none⟩ 1 1 [.int .i64 (f), .int .i64 (yl), .int .i64 (yh)] rfl rfl (new_news _ #[.int .i64 (f), .int .i64 (yl), .int .i64 (yh)] _) (by simp [Value.oneCell']) (by unfold maxLen; omega) (by omega) (by have := HBb.out.size; simp; omega) ?_; intro v' w8 hown hgrow _ _; obtain ⟨a8, cap8, rfl⟩ := ownsK_form hown; have HO8 : Hid (w8.ownsRow w.heap.size 94 3 (.slice a8 ((out) ++ [CT.mk (f) (yl) (yh)]).length cap8) ((out) ++ [CT.mk (f) (yl) (yh)]).length (ctS ((out) ++ [CT.mk (f) (yl) (yh)]))) := own_add hown; have HB8 : Hid (Below w.heap.size w w8) := (HBb.out.alloc HBb.out.size _).grown hgrow (by have := HBb.out.size; simp; omega) (fun k e => (HOb.out.lt k e).1); clear hown hgrow)
          go_roundw
          case rel => exact ⟨k + 1, _, false, a8, cap8, by omega, by go_num, rfl, by simp, by simp; omega, HI3, HO8, HB8⟩
          case measure => simp [intOf]; omega
        obtain rfl : l = yl := by omega
        clear g2 h2
        have h2 : l = l := rfl
        have HI3 : Hid ((out ++ [CT.mk (f) (l) (yh + 1)]) ++ hitA true f l (xs.drop (k + 1)) = hitA false f l xs) := by
          have h := HI2.out
          rw [hitA, if_neg (by dsimp only; simp; try omega), if_pos ⟨h1, h2⟩] at h
          show _ = _
          rw [← h]
          simp
        clear HI2
        have HOc : Hid ((wb.setCell ⟨R, 2, none⟩ (.int .i64 (yh + 1))).ownsRow w.heap.size 94 3 (.slice a1 out.length cap1) out.length (ctS out)) := ownsK_set HOb.out _ HR.out
        have HBc : Hid (Below w.heap.size w (wb.setCell ⟨R, 2, none⟩ (.int .i64 (yh + 1)))) := frS HBb.out hRw _
        go_upto_region 12 with fail
        have k0 : (wb.setCell ⟨R, 2, none⟩ (.int .i64 (yh + 1))).cell? ⟨R, 0, none⟩ = some (.int .i64 f) := by simp [go_sem, c0]
        have k1 : (wb.setCell ⟨R, 2, none⟩ (.int .i64 (yh + 1))).cell? ⟨R, 1, none⟩ = some (.int .i64 l) := by simp [go_sem, c1]
        have k2 : (wb.setCell ⟨R, 2, none⟩ (.int .i64 (yh + 1))).cell? ⟨R, 2, none⟩ = some (.int .i64 (yh + 1)) := by simp [go_sem, c2]
        generalize wb.setCell ⟨R, 2, none⟩ (.int .i64 (yh + 1)) = wc at *
        go_wp2_with (at_builtin; refine wpList_append_own_at _ rfl _ _ 27 rfl w.heap.size 94 i0 _ 3 24 Try.underlying27 hi0 hy0 hy1 hy2 rfl (by decide) (.slice a1 (out).length cap1) (out).length (ctS (out)) rfl (HOc.out.alloc _) ⟨wc.heap.size, 0, none⟩ 1 1 [.int .i64 (f), .int .i64 (l), .int .i64 (yh + 1)] rfl rfl (new_news _ #[.int .i64 (f), .int .i64 (l), .int .i64 (yh + 1)] _) (by simp [Value.oneCell']) (by unfold maxLen; omega) (by omega) (by have := HBc.out.size; simp; omega) ?_; intro v' w8 hown hgrow _ _; obtain ⟨a8, cap8, rfl⟩ := ownsK_form hown; have HO8 : Hid (w8.ownsRow w.heap.size 94 3 (.slice a8 ((out) ++ [CT.mk (f) (l) (yh + 1)]).length cap8) ((out) ++ [CT.mk (f) (l) (yh + 1)]).length (ctS ((out) ++ [CT.mk (f) (l) (yh + 1)]))) := own_add hown; have HB8 : Hid (Below w.heap.size w w8) := (HBc.out.alloc HBc.out.size _).grown hgrow (by have := HBc.out.size; simp; omega) (fun k e => (HOc.out.lt k e).1); clear hown hgrow)
        go_roundw
        case rel => exact ⟨k + 1, _, true, a8, cap8, by omega, by go_num, rfl, by simp, by simp; omega, HI3, HO8, HB8⟩
        case measure => simp [intOf]; omega
      | true =>
        by_cases h1 : f < yf
        · have HI3 : Hid ((out ++ [CT.mk (yf) (yl) (yh)]) ++ hitA true f l (xs.drop (k + 1)) = hitA false f l xs) := by
            have h := HI2.out
            rw [hitA, if_neg (by dsimp only; simp; try omega), if_neg (by dsimp only; omega)] at h
            show _ = _
            rw [← h]
            simp
          clear HI2
          go_wp2_with (at_builtin; refine wpList_append_own_at _ rfl _ _ 27 rfl w.heap.size 94 i0 _ 3 24 Try.underlying27 hi0 hy0 hy1 hy2 rfl (by decide) (.slice a1 (out).length cap1) (out).length (ctS (out)) rfl (HOb.out.alloc _) ⟨wb.heap.size, 0, none⟩ 1 1 [.int .i64 (yf), .int .i64 (yl), .int .i64 (yh)] rfl rfl (new_news _ #[.int .i64 (yf), .int .i64 (yl), .int .i64 (yh)] _) (by simp [Value.oneCell']) (by unfold maxLen; omega) (by omega) (by have := HBb.out.size; simp; omega) ?_; intro v' w8 hown hgrow _ _; obtain ⟨a8, cap8, rfl⟩ := ownsK_form hown; have HO8 : Hid (w8.ownsRow w.heap.size 94 3 (.slice a8 ((out) ++ [CT.mk (yf) (yl) (yh)]).length cap8) ((out) ++ [CT.mk (yf) (yl) (yh)]).length (ctS ((out) ++ [CT.mk (yf) (yl) (yh)]))) := own_add hown; have HB8 : Hid (Below w.heap.size w w8) := (HBb.out.alloc HBb.out.size _).grown hgrow (by have := HBb.out.size; simp; omega) (fun k e => (HOb.out.lt k e).1); clear hown hgrow)
          go_roundw
          case rel => exact ⟨k + 1, _, true, a8, cap8, by omega, by go_num, rfl, by simp, by simp; omega, HI3, HO8, HB8⟩
          case measure => simp [intOf]; omega
        by_cases g1 : yf < f
        · have q : (yf == f) = false := by simp only [beq_eq_false_iff_ne]; omega
          have HI3 : Hid ((out ++ [CT.mk (yf) (yl) (yh)]) ++ hitA true f l (xs.drop (k + 1)) = hitA false f l xs) := by
            have h := HI2.out
            rw [hitA, if_neg (by dsimp only; simp; try omega), if_neg (by dsimp only; omega)] at h
            show _ = _
            rw [← h]
            simp
          clear HI2
          go_wp2_with (at_builtin; refine wpList_append_own_at _ rfl _ _ 27 rfl w.heap.size 94 i0 _ 3 24 Try.underlying27 hi0 hy0 hy1 hy2 rfl (by decide) (.slice a1 (out).length cap1) (out).length (ctS (out)) rfl (HOb.out.alloc _) ⟨wb.heap.size, 0, none⟩ 1 1 [.int .i64 (yf), .int .i64 (yl), .int .i64 (yh)] rfl rfl (new_news _ #[.int .i64 (yf), .int .i64 (yl), .int .i64 (yh)] _) (by simp [Value.oneCell']) (by unfold maxLen; omega) (by omega) (by have := HBb.out.size; simp; omega) ?_; intro v' w8 hown hgrow _ _; obtain ⟨a8, cap8, rfl⟩ := ownsK_form hown; have HO8 : Hid (w8.ownsRow w.heap.size 94 3 (.slice a8 ((out) ++ [CT.mk (yf) (yl) (yh)]).length cap8) ((out) ++ [CT.mk (yf) (yl) (yh)]).length (ctS ((out) ++ [CT.mk (yf) (yl) (yh)]))) := own_add hown; have HB8 : Hid (Below w.heap.size w w8) := (HBb.out.alloc HBb.out.size _).grown hgrow (by have := HBb.out.size; simp; omega) (fun k e => (HOb.out.lt k e).1); clear hown hgrow)
          go_roundw
          case rel => exact ⟨k + 1, _, true, a8, cap8, by omega, by go_num, rfl, by simp, by simp; omega, HI3, HO8, HB8⟩
          case measure => simp [intOf]; omega
        obtain rfl : f = yf := by omega
        clear g1 h1
        have h1 : f = f := rfl
        by_cases h2 : l < yl
        · have q : (yl == l) = false := by simp only [beq_eq_false_iff_ne]; omega
          have HI3 : Hid ((out ++ [CT.mk (f) (yl) (yh)]) ++ hitA true f l (xs.drop (k + 1)) = hitA false f l xs) := by
            have h := HI2.out
            rw [hitA, if_neg (by dsimp only; simp; try omega), if_neg (by dsimp only; omega)] at h
            show _ = _
            rw [← h]
            simp
          clear HI2
          go_wp2_with (at_builtin; refine wpList_append_own_at _ rfl _ _ 27 rfl w.heap.size 94 i0 _ 3 24 Try.underlying27 hi0 hy0 hy1 hy2 rfl (by decide) (.slice a1 (out).length cap1) (out).length (ctS (out)) rfl (HOb.out.alloc _) ⟨wb.heap.size, 0, none⟩ 1 1 [.int .i64 (f), .int .i64 (yl), .int .i64 (yh)] rfl rfl (new_news _ #[.int .i64 (f), .int .i64 (yl), .int .i64 (yh)] _) (by simp [Value.oneCell']) (by unfold maxLen; omega) (by omega) (by have := HBb.out.size; simp; omega) ?_; intro v' w8 hown hgrow _ _; obtain ⟨a8, cap8, rfl⟩ := ownsK_form hown; have HO8 : Hid (w8.ownsRow w.heap.size 94 3 (.slice a8 ((out) ++ [CT.mk (f) (yl) (yh)]).length cap8) ((out) ++ [CT.mk (f) (yl) (yh)]).length (ctS ((out) ++ [CT.mk (f) (yl) (yh)]))) := own_add hown; have HB8 : Hid (Below w.heap.size w w8) := (HBb.out.alloc HBb.out.size _).grown hgrow (by have := HBb.out.size; simp; omega) (fun k e => (HOb.out.lt k e).1); clear hown hgrow)
          go_roundw
          case rel => exact ⟨k + 1, _, true, a8, cap8, by omega, by go_num, rfl, by simp, by simp; omega, HI3, HO8, HB8⟩
          case measure => simp [intOf]; omega
        by_cases g2 : yl < l
        · have q : (yl == l) = false := by simp only [beq_eq_false_iff_ne]; omega
          have HI3 : Hid ((out ++ [CT.mk (f) (yl) (yh)]) ++ hitA true f l (xs.drop (k + 1)) = hitA false f l xs) := by
            have h := HI2.out
            rw [hitA, if_neg (by dsimp only; simp; try omega), if_neg (by dsimp only; omega)] at h
            show _ = _
            rw [← h]
            simp
          clear HI2
          go_wp2_with (at_builtin; refine wpList_append_own_at _ rfl _ _ 27 rfl w.heap.size 94 i0 _ 3 24 Try.underlying27 hi0 hy0 hy1 hy2 rfl (by decide) (.slice a1 (out).length cap1) (out).length (ctS (out)) rfl (HOb.out.alloc _) ⟨wb.heap.size, 0, none⟩ 1 1 [.int .i64 (f), .int .i64 (yl), .int .i64 (yh)] rfl rfl (new_news _ #[.int .i64 (f), .int .i64 (yl), .int .i64 (yh)] _) (by simp [Value.oneCell']) (by unfold maxLen; omega) (by omega) (by have := HBb.out.size; simp; omega) ?_; intro v' w8 hown hgrow _ _; obtain ⟨a8, cap8, rfl⟩ := ownsK_form hown; have HO8 : Hid (w8.ownsRow w.heap.size 94 3 (.slice a8 ((out) ++ [CT.mk (f) (yl) (yh)]).length cap8) ((out) ++ [CT.mk (f) (yl) (yh)]).length (ctS ((out) ++ [CT.mk (f) (yl) (yh)]))) := own_add hown; have HB8 : Hid (Below w.heap.size w w8) := (HBb.out.alloc HBb.out.size _).grown hgrow (by have := HBb.out.size; simp; omega) (fun k e => (HOb.out.lt k e).1); clear hown hgrow)
          go_roundw
          case rel => exact ⟨k + 1, _, true, a8, cap8, by omega, by go_num, rfl, by simp, by simp; omega, HI3, HO8, HB8⟩
          case measure => simp [intOf]; omega
        obtain rfl : l = yl := by omega
        clear g2 h2
        have h2 : l = l := rfl
        have HI3 : Hid ((out ++ [CT.mk (f) (l) (yh + 1)]) ++ hitA true f l (xs.drop (k + 1)) = hitA false f l xs) := by
          have h := HI2.out
          rw [hitA, if_neg (by dsimp only; simp; try omega), if_pos ⟨h1, h2⟩] at h
          show _ = _
          rw [← h]
          simp
        clear HI2
        have HOc : Hid ((wb.setCell ⟨R, 2, none⟩ (.int .i64 (yh + 1))).ownsRow w.heap.size 94 3 (.slice a1 out.length cap1) out.length (ctS out)) := ownsK_set HOb.out _ HR.out
        have HBc : Hid (Below w.heap.size w (wb.setCell ⟨R, 2, none⟩ (.int .i64 (yh + 1)))) := frS HBb.out hRw _
        go_upto_region 12 with fail
        have k0 : (wb.setCell ⟨R, 2, none⟩ (.int .i64 (yh + 1))).cell? ⟨R, 0, none⟩ = some (.int .i64 f) := by simp [go_sem, c0]
        have k1 : (wb.setCell ⟨R, 2, none⟩ (.int .i64 (yh + 1))).cell? ⟨R, 1, none⟩ = some (.int .i64 l) := by simp [go_sem, c1]
        have k2 : (wb.setCell ⟨R, 2, none⟩ (.int .i64 (yh + 1))).cell? ⟨R, 2, none⟩ = some (.int .i64 (yh + 1)) := by simp [go_sem, c2]
        generalize wb.setCell ⟨R, 2, none⟩ (.int .i64 (yh + 1)) = wc at *
        go_wp2_with (at_builtin; refine wpList_append_own_at _ rfl _ _ 27 rfl w.heap.size 94 i0 _ 3 24 Try.underlying27 hi0 hy0 hy1 hy2 rfl (by decide) (.slice a1 (out).length cap1) (out).length (ctS (out)) rfl (HOc.out.alloc _) ⟨wc.heap.size, 0, none⟩ 1 1 [.int .i64 (f), .int .i64 (l), .int .i64 (yh + 1)] rfl rfl (new_news _ #[.int .i64 (f), .int .i64 (l), .int .i64 (yh + 1)] _) (by simp [Value.oneCell']) (by unfold maxLen; omega) (by omega) (by have := HBc.out.size; simp; omega) ?_; intro v' w8 hown hgrow _ _; obtain ⟨a8, cap8, rfl⟩ := ownsK_form hown; have HO8 : Hid (w8.ownsRow w.heap.size 94 3 (.slice a8 ((out) ++ [CT.mk (f) (l) (yh + 1)]).length cap8) ((out) ++ [CT.mk (f) (l) (yh + 1)]).length (ctS ((out) ++ [CT.mk (f) (l) (yh + 1)]))) := own_add hown; have HB8 : Hid (Below w.heap.size w w8) := (HBc.out.alloc HBc.out.size _).grown hgrow (by have := HBc.out.size; simp; omega) (fun k e => (HOc.out.lt k e).1); clear hown hgrow)
        go_roundw
        case rel => exact ⟨k + 1, _, true, a8, cap8, by omega, by go_num, rfl, by simp, by simp; omega, HI3, HO8, HB8⟩
        case measure => simp [intOf]; omega
    · obtain rfl : k = xs.length := by omega
      have HI2 : Hid (out ++ (if put then [] else [CT.mk (f) (l) (1)]) = hitA false f l xs) := by have h := HI.out; rw [List.drop_length] at h; cases put <;> exact h
      clear HI
      cases put with
      | true =>
        have HI3 : Hid (out = hitA false f l xs) := by have h := HI2.out; rwa [if_pos rfl, List.append_nil] at h
        go_wp2_with fail
        go_ret
        exact ⟨⟨a1, cap1, by rw [← HI3.out]; rfl, by rw [← HI3.out]; exact HO.out⟩, HB.out⟩
      | false =>
        have HI3 : Hid (out ++ [CT.mk (f) (l) (1)] = hitA false f l xs) := by have h := HI2.out; rwa [if_neg (by simp)] at h
        go_wp2_with (at_builtin; refine wpList_append_own_at _ rfl _ _ 27 rfl w.heap.size 94 i0 _ 3 24 Try.underlying27 hi0 hy0 hy1 hy2 rfl (by decide) (.slice a1 (out).length cap1) (out).length (ctS (out)) rfl (HO.out.alloc _) ⟨wr.heap.size, 0, none⟩ 1 1 [.int .i64 (f), .int .i64 (l), .int .i64 (1)] rfl rfl (new_news _ #[.int .i64 (f), .int .i64 (l), .int .i64 (1)] _) (by simp [Value.oneCell']) (by unfold maxLen; omega) (by omega) (by have := HB.out.size; simp; omega) ?_; intro v' w8 hown hgrow _ _; obtain ⟨a8, cap8, rfl⟩ := ownsK_form hown; have HO8 : Hid (w8.ownsRow w.heap.size 94 3 (.slice a8 ((out) ++ [CT.mk (f) (l) (1)]).length cap8) ((out) ++ [CT.mk (f) (l) (1)]).length (ctS ((out) ++ [CT.mk (f) (l) (1)]))) := own_add hown; have HB8 : Hid (Below w.heap.size w w8) := (HB.out.alloc HB.out.size _).grown hgrow (by have := HB.out.size; simp; omega) (fun k e => (HO.out.lt k e).1); clear hown hgrow)
        go_ret
        exact ⟨⟨a8, cap8, by rw [← HI3.out]; simp, by rw [← HI3.out]; exact HO8.out⟩, HB8.out⟩
end Go.Proofs.Ytiidepafifodjaa
