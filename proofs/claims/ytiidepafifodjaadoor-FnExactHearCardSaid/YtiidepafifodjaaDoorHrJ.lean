import Derived.Test.YtiidepafifodjaaDoorHrI
/-! The program's reader: a list of records. -/
namespace Go.Proofs.YtiidepafifodjaaDoor
open Go.RowKit
attribute [local go_sem] run_store_float
attribute [local go_sem ↓] Go.wp_at_zero Go.wp_at_succ

def hrsS (xs : List RcD) : List Value := xs.flatMap fun s => [.int .i64 s.k, .int .i64 s.t, .int .i64 s.f, .int .i64 s.l, .string s.s]
theorem hrsS_add (xs : List RcD) (s : RcD) : hrsS (xs ++ [s]) = hrsS xs ++ [.int .i64 s.k, .int .i64 s.t, .int .i64 s.f, .int .i64 s.l, .string s.s] := by simp [hrsS]
abbrev hrsO (N : Nat) (w : World) (a : Option Addr) (cap : Nat) (xs : List RcD) : Prop := w.ownsRow N 49 5 (.slice a xs.length cap) xs.length (hrsS xs)
/-- what the list's reader leaves -/
def hrsP (H : Nat) (r : List UInt8) (f : Bool) (w : World) (e : Ending) (w' : World) : Prop := ∃ xs a cap ra' rc' r' f', e = .returned (.slice a (List.length xs) cap) ∧ HlIs recL okR r f xs r' f' ∧ hrsO w.heap.size w' a cap xs ∧ HrX H w' ra' rc' r' f' ∧ Gx (fun k => k = H) w w'
theorem hrsI : (Tryd.prog.info? 49).map (fun i => (i.zero, i.size, i.bytes)) = some (some (.agg #[.int .i64 0, .int .i64 0, .int .i64 0, .int .i64 0, .string ⟨#[]⟩]), 5, 48) := by kernel_rfl
set_option maxRecDepth 100000 in
set_option maxHeartbeats 8000000 in
theorem hrs_calls (H N0 : Nat) (ra : Option Addr) (rc : Nat) (r : List UInt8) (f : Bool) (w : World) (hl : r.length ≤ 1048576) (hN : N0 ≤ w.heap.size) (hH : N0 ≤ H) (hE : ∀ u, Below N0 w u → ErrP u) (hX : HrX H w ra rc r f) :
    Calls Tryd.prog 44 #[.pointer (some ⟨H, 0, none⟩), .func (.func 45) #[.pointer (some ⟨H, 0, none⟩)] #[]] w fun e w' => hrsP H r f w e w' := by
  have HX : Hid (HrX H w ra rc r f) := hX
  have HE : Hid (∀ u, Below N0 w u → ErrP u) := hE
  have HHw : Hid (H < w.heap.size) := hX.hlt
  clear hX hE
  obtain ⟨i0, hi0, hy0, hy1, hy2⟩ := info_parts hrsI
  go_enter Tryd.func44, Tryd.ntmps44
  go_wp2_with fail
  refine (number_calls H N0 ra rc r f _ hl hN HE.out HX.out).mono ?_
  rintro e w1 ⟨n, ra1, rc1, r1, f1, rfl, h1, hx, hg⟩
  have HI : Hid (LsI recL okR r f n [] r1 f1) := LsI.start h1
  replace HX : Hid (HrX H w1 ra1 rc1 r1 f1) := hx
  have HG : Hid (Gx (fun k => k = H) w w1) := hg
  have hni := h1.i
  unfold I64r at hni
  have HO : Hid (hrsO w.heap.size w1 none 0 []) := World.ownsRow_nil _ _ _ _
  clear h1 hx hg
  go_wp2_with fail
  go_loopw [5, 6] (fun lv mv wr => ∃ (xs : List RcD) (a : Option Addr) (cap : Nat) (k : Nat) (m : Int) (ra' : Option Addr) (rc' : Nat) (rk : List UInt8) (fk : Bool), lv = .slice a k cap ∧ mv = .int .i64 m ∧ Hid (xs.length = k) ∧ Hid (m = n - (xs.length : Int)) ∧ Hid (LsI recL okR r f n xs rk fk) ∧ Hid (hrsO w.heap.size wr a cap xs) ∧ Hid (HrX H wr ra' rc' rk fk) ∧ Hid (Gx (fun k => k = H) w wr)) (fun _ mv _ => (intOf mv).toNat)
  case atStart => exact ⟨[], none, 0, 0, n, ra1, rc1, r1, f1, rfl, rfl, rfl, by show _ = _; simp, HI, HO, HX, HG⟩
  case round =>
    clear HX HG HO HI
    obtain ⟨xs, a, cap, k, m, ra', rc', rk, fk, rfl, rfl, HK, HM, HI, HO, HX, HG⟩ := hrel
    have c1 := HX.out.c1
    have hm1 : m ≤ 9223372036854775807 := by rw [HM.out]; omega
    have hkr : k ≤ 1048576 := by have := HI.out.d; rw [HK.out] at this; omega
    by_cases h0 : 0 < m
    · cases fk
      · have hrk : rk.length ≤ 1048576 := Nat.le_trans HI.out.a hl
        go_wp2_with (first | (go_at_call 45; refine (rec_calls H N0 ra' rc' rk false _ hrk (by have := HG.out.size; omega) hH (Gx.err HE.out HG.out hN hH) HX.out).mono ?_; rintro e w2 ⟨s, ra2, rc2, r2, f2, rfl, he, hx2, hg2⟩; have HE2 : Hid (HeIs recL okR rk false s r2 f2) := he.he hrk; have HX2 : Hid (HrX H w2 ra2 rc2 r2 f2) := hx2; have HG2 : Hid (Gx (fun k => k = H) w w2) := HG.out.trans hg2 (fun _ _ h => h); have HO2 : Hid (hrsO w.heap.size w2 a cap xs) := ownsK_block HO.out (fun k e => hg2.block k (HO.out.lt k e).2 (by have := (HO.out.lt k e).1; have := HHw.out; omega)); clear he hx2 hg2 HO HX HG c1) | (at_builtin; refine wpList_append_own_at _ rfl _ _ 29 rfl w.heap.size 49 i0 _ 5 48 Tryd.underlying29 hi0 hy0 hy1 hy2 rfl (by decide) (.slice a k cap) k (hrsS xs) rfl (by have h := HO2.out.alloc (.cells #[.int .i64 s.k, .int .i64 s.t, .int .i64 s.f, .int .i64 s.l, .string s.s] 49); rw [HK.out] at h; exact h) ⟨w2.heap.size, 0, none⟩ 1 1 [.int .i64 s.k, .int .i64 s.t, .int .i64 s.f, .int .i64 s.l, .string s.s] rfl rfl (new_news _ #[.int .i64 s.k, .int .i64 s.t, .int .i64 s.f, .int .i64 s.l, .string s.s] _) (by simp [Value.oneCell']) (by unfold maxLen; omega) (by omega) (by have := HG2.out.size; simp; omega) ?_; intro v' w7 hown hgrow _ hblk; obtain ⟨a7, cap7, rfl⟩ := ownsK_form hown; have HO7 : Hid (hrsO w.heap.size w7 a7 cap7 (xs ++ [s])) := (by show World.ownsRow _ _ _ _ _ _ _; rw [hrsS_add, List.length_append, HK.out]; exact hown); have HG7 : Hid (Gx (fun k => k = H) w w7) := (HG2.out.trans (Gx.below _ (below_alloc w2 _)) (fun _ _ h => h)).trans (Gx.grown hgrow) (fun j hj e => absurd ((HO2.out.lt j (by rw [HK.out]; exact e)).1) (by omega)); have HX7 : Hid (HrX H w7 ra2 rc2 r2 f2) := HrX.grown (HX2.out.call (below_alloc _ _)) hgrow (fun j e => by have := (HO2.out.lt j (by rw [HK.out]; exact e)).1; have := HHw.out; omega); clear hown hgrow hblk HO2 HG2 HX2))
        go_roundw
        case rel => exact ⟨xs ++ [s], a7, cap7, k + 1, m - 1, ra2, rc2, r2, f2, rfl, by go_num, (by show _ = _; simp [HK.out]), (by show _ = _; rw [HM.out]; simp; omega), HI.out.next HE2.out (by rw [← HM.out]; exact h0), HO7, HX7, HG7⟩
        case measure => simp [intOf]; omega
      · have HD : Hid (HlIs recL okR r f xs rk true) := HI.out.done (.inl rfl)
        go_wp2_with fail
        go_ret
        unfold hrsP
        exact ⟨xs, a, cap, ra', rc', rk, true, (by rw [HK.out]; rfl), HD.out, HO.out, HX.out, HG.out⟩
    · have HD : Hid (HlIs recL okR r f xs rk fk) := HI.out.done (.inr (by rw [← HM.out]; exact h0))
      go_wp2_with fail
      go_ret
      unfold hrsP
      exact ⟨xs, a, cap, ra', rc', rk, fk, (by rw [HK.out]; rfl), HD.out, HO.out, HX.out, HG.out⟩
end Go.Proofs.YtiidepafifodjaaDoor
