import Derived.Test.YtiidepafifodjaaPrS
/-! The specification's Profile. -/
namespace Go.Proofs.Ytiidepafifodjaa
open Go.RowKit
attribute [local go_sem] run_store_float
attribute [local go_sem ↓] Go.wp_at_zero Go.wp_at_succ

theorem cntUp_le (q : Nat → Bool) (kf kl : Nat → Int) (f l : Int) : ∀ n, cntUp q kf kl f l n ≤ n
  | 0 => Nat.le_refl _
  | n + 1 => by
    have := cntUp_le q kf kl f l n
    unfold cntUp
    split <;> omega
/-- which records count, and where -/
def lnQ (d : RpD) (i : Nat) : Bool := decide ((d.rc i).k = 1)
def lnF (d : RpD) (i : Nat) : Int := (d.rc i).f
def lnL (d : RpD) (i : Nat) : Int := (d.rc i).l
theorem PfIs.small {q : Nat → Bool} {kf kl : Nat → Int} {n : Nat} {xs : List CT} (h : PfIs q kf kl n xs) (hn : n ≤ 1048576) : ∀ c ∈ xs, 0 ≤ c.h ∧ c.h ≤ 1048576 := fun c hc => by
  have h1 := (h.2 c).1 hc
  have h2 := cntUp_le q kf kl c.f c.l n
  omega
theorem ownsK_base {w : World} {N N' K : Nat} {t : TypeId} {v : Value} {n : Nat} {xs : List Value} (h : w.ownsRow N t K v n xs) (hb : N' ≤ N) : w.ownsRow N' t K v n xs := by
  refine ⟨h.1, ?_⟩
  rcases h.2 with hn | ⟨g, cap, cur, hv, hbg, rest⟩
  · exact .inl hn
  · exact .inr ⟨g, cap, cur, hv, Nat.le_trans hb hbg, rest⟩

set_option maxRecDepth 100000 in
set_option maxHeartbeats 4000000 in
theorem specProfile_calls (L : Nat) (d : RpD) (x : RpX) (w : World) (hs : d.sm) (hT : RpAt L w d x) :
    Calls Try.prog 13 #[rpV d x] w fun e w' => (∃ xs a' cap', e = .returned (.slice a' xs.length cap') ∧ PfIs (lnQ d) (lnF d) (lnL d) d.n xs ∧ xs.length ≤ d.n ∧ w'.ownsRow w.heap.size 94 3 (.slice a' xs.length cap') xs.length (ctS xs)) ∧ Below w.heap.size w w' := by
  have HT : Hid (RpAt L w d x) := hT
  have hn := hs.n
  clear hT hs
  go_enter Try.func13, Try.ntmps13
  go_wp2_with fail
  have HB0 : Hid (Below w.heap.size w (w.alloc (.cells (rpC d x) 31))) := below_alloc _ _
  go_loopw [3, 9] (fun o i wr => ∃ (k : Nat) (xs : List CT) (a1 : Option Addr) (cap1 : Nat), k ≤ d.n ∧ i = .int .i64 k ∧ o = .slice a1 xs.length cap1 ∧ xs.length ≤ k ∧ Hid (PfIs (lnQ d) (lnF d) (lnL d) k xs) ∧ Hid (wr.ownsRow w.heap.size 94 3 (.slice a1 xs.length cap1) xs.length (ctS xs)) ∧ Hid (Below w.heap.size w wr)) (fun _ i _ => d.n - (intOf i).toNat)
  case atStart => exact ⟨0, [], none, 0, Nat.zero_le _, rfl, rfl, by simp, PfIs.zero _ _ _, World.ownsRow_nil _ _ _ _, HB0.out⟩
  case round =>
    obtain ⟨k, xs, a1, cap1, hk, rfl, rfl, hlen, HP, HO, HB⟩ := hrel
    by_cases hkn : k < d.n
    · obtain ⟨b, off, hra, _, hb, d0, d1, d2, d3, d4⟩ := cellsR (RowN.below HT.out.1 HB.out) hkn
      rw [hra]
      go_upto_region 5 with fail
      obtain ⟨wb, hwb⟩ : ∃ wb, wb = wr.alloc (.cells (rcC (d.rc k)) 80) := ⟨_, rfl⟩
      have HX : Hid (Has wb wr.heap.size (rcC (d.rc k))) := by rw [hwb]; exact Has.new _ _ _
      have HOb : Hid (wb.ownsRow w.heap.size 94 3 (.slice a1 xs.length cap1) xs.length (ctS xs)) := by rw [hwb]; exact HO.out.alloc _
      have HBb : Hid (Below w.heap.size w wb) := by rw [hwb]; exact HB.out.alloc HB.out.size _
      rw [← hwb]
      clear hwb d0 d1 d2 d3 d4 HO HB
      have c0 : wb.cell? ⟨wr.heap.size, 0, none⟩ = some (.int .i64 (d.rc k).k) := HX.out.cell 0 rfl
      have c2 : wb.cell? ⟨wr.heap.size, 2, none⟩ = some (.int .i64 (d.rc k).f) := HX.out.cell 2 rfl
      have c3 : wb.cell? ⟨wr.heap.size, 3, none⟩ = some (.int .i64 (d.rc k).l) := HX.out.cell 3 rfl
      have HS : Hid (∀ c ∈ xs, 0 ≤ c.h ∧ c.h ≤ 1048576) := HP.out.small (by omega)
      have HC : Hid (CtAt w.heap.size wb a1 xs) := CtAt.own HOb.out
      have hRb : wr.heap.size < wb.heap.size := HX.out.lt
      generalize wr.heap.size = R at *
      by_cases hq : (d.rc k).k = 1
      · have HQ : Hid (lnQ d k = true) := by show _ = _; unfold lnQ; simpa using hq
        rw [hq] at c0
        go_wp2_with (go_at_call 49; refine (l5hit_calls _ _ _ xs _ _ _ (by omega) HS.out HC.out).mono ?_; rintro e w7 ⟨⟨a7, cap7, rfl, ho7⟩, hb7⟩; have HO7 : Hid (w7.ownsRow w.heap.size 94 3 (.slice a7 (hitA false (d.rc k).f (d.rc k).l xs).length cap7) (hitA false (d.rc k).f (d.rc k).l xs).length (ctS (hitA false (d.rc k).f (d.rc k).l xs))) := ownsK_base ho7 HBb.out.size; have HB7 : Hid (Below w.heap.size w w7) := below_call HBb.out hb7; clear ho7 hb7 c0 c2 c3)
        go_roundw
        case rel => exact ⟨k + 1, _, a7, cap7, by omega, by go_num, rfl, (by have := hitA_len (d.rc k).f (d.rc k).l xs false; simp at this; omega), HP.out.hit HQ.out, HO7, HB7⟩
        case measure => simp [intOf]; omega
      · have HQ : Hid (lnQ d k = false) := by show _ = _; unfold lnQ; simpa using hq
        have q : ((d.rc k).k == 1) = false := by simpa using hq
        go_wp2_with fail
        go_roundw
        case rel => exact ⟨k + 1, xs, a1, cap1, by omega, by go_num, rfl, by omega, HP.out.skip HQ.out, HOb, HBb⟩
        case measure => simp [intOf]; omega
    · obtain rfl : k = d.n := by omega
      go_wp2_with fail
      go_ret
      exact ⟨⟨xs, a1, cap1, rfl, HP.out, hlen, HO.out⟩, HB.out⟩
end Go.Proofs.Ytiidepafifodjaa
