import Derived.Test.YtdialodjllpgaaaGreatDoorCnH
import Derived.Test.YtdialodjllpgaaaGreatDoorSpU
/-! The program's run: a call of print. -/
namespace Go.Proofs.YtdialodjllpgaaaGreatDoor
open Go.RowKit
attribute [local go_sem] run_store_float
attribute [local go_sem ↓] Go.wp_at_zero Go.wp_at_succ

set_option maxRecDepth 100000 in
set_option maxHeartbeats 8000000 in
theorem builtin_calls (X : RX) (d : MD) (g c : Nat) (n : Int) (u : World) (h : St X d u) (hT : TabX X) (hn : I64r n) (hl : d.recs.length < 5000) (hg : Bc X d u g (inD n)) :
    Calls Tryz.prog 246 #[ptr X.M, .int .i64 0, .slice (some ⟨g, 0, none⟩) 1 c] u fun e w' => e = .returned (.slice none 0 0) ∧ To X d u (d.p.rcd ⟨6, 0, 0, d.line, bA (decB n)⟩) w' := by
  have HS : Hid (St X d u) := h
  have HT : Hid (TabX X) := hT
  have HG : Hid (Bc X d u g (inD n)) := hg
  clear h hT hg
  go_enter Tryz.func246, Tryz.ntmps246
  go_wp2_with fail
  refine (print_calls X d g c n _ HS.out HT.out hn hl HG.out).mono ?_
  rintro e w1 ⟨rfl, ht⟩
  have HF : Hid _ := ht
  clear ht
  go_wp2_with fail
  go_ret
  exact ⟨rfl, HF.out⟩

end Go.Proofs.YtdialodjllpgaaaGreatDoor

/-! The program's run: a call of print. -/
namespace Go.Proofs.YtdialodjllpgaaaGreatDoor
open Go.RowKit
attribute [local go_sem] run_store_float
attribute [local go_sem ↓] Go.wp_at_zero Go.wp_at_succ

set_option maxRecDepth 100000 in
set_option maxHeartbeats 8000000 in
theorem invoke_calls (X : RX) (d : MD) (g c : Nat) (n : Int) (u : World) (h : St X d u) (hT : TabX X) (hn : I64r n) (hl : d.recs.length < 5000) (ht : d.ti < 1000) (hg : Bc X d u g (inD n)) :
    Calls Tryz.prog 196 #[ptr X.M, prD.v, .slice (some ⟨g, 0, none⟩) 1 c] u fun e w' => e = .returned (.slice none 0 0) ∧ To X d u (d.p.tick.rcd ⟨6, 0, 0, d.line, bA (decB n)⟩) w' := by
  have HS : Hid (St X d u) := h
  have HT : Hid (TabX X) := hT
  have HG : Hid (Bc X d u g (inD n)) := hg
  clear h hT hg
  go_enter Tryz.func196, Tryz.ntmps196
  go_wp2_with fail
  obtain ⟨w1, hw1⟩ : ∃ w1, u.alloc (.cells (vA prD) 56) = w1 := ⟨_, rfl⟩
  obtain ⟨C, hC0⟩ : ∃ C, u.heap.size = C := ⟨_, rfl⟩
  have H1 : Hid (Sp X d u d w1) := by rw [← hw1]; exact (Sp.refl HS.out).alloc _
  have HC : Hid (Bx X d w1 C (vA prD)) := by rw [← hw1, ← hC0]; exact Bx.new HS.out _ _
  rw [show u.alloc (.cells #[.int .i64 8, .int .i64 0, .float .f64 0, .string ⟨#[]⟩, .int .i64 0] 56) = w1 from hw1, hC0]
  clear hw1 hC0
  go_loopw [2, 7] (fun a i wr => a = .slice (some ⟨g, 0, none⟩) 1 c ∧ i = .int .i64 0 ∧ wr = w1) (fun _ _ _ => 0)
  case atStart => exact ⟨rfl, rfl, rfl⟩
  case round =>
    obtain ⟨rfl, rfl, rfl⟩ := hrel
    go_wp2_with fail
    refine (tick_calls X d _ H1.out.s ht).mono ?_
    rintro e w2 ⟨rfl, d2, hs2, e2⟩
    have H2 : Hid (Sp X d u d2 w2 ∧ d2.p = d.p.tick) := ⟨H1.out.trans hs2, e2⟩
    have HC2 : Hid (Bx X d2 w2 C (vA prD)) := HC.out.step hs2
    have HG2 : Hid (Bc X d2 w2 g (inD n)) := HG.out.step H2.out.1
    clear hs2 e2 H1 HC
    have c0 := HC2.out.cell 0 rfl
    have c1 := HC2.out.cell 1 rfl
    have hl2 : d2.recs.length < 5000 := by have : d2.recs = d.recs := congrArg DP.recs H2.out.2; rw [this]; exact hl
    have hli : d2.line = d.line := congrArg DP.line H2.out.2
    go_wp2_with fail
    refine (builtin_calls X d2 g c n _ H2.out.1.s HT.out hn hl2 HG2.out).mono ?_
    rw [hli]
    rintro e w3 ⟨rfl, ht3⟩
    have HF : Hid (To X d u (d.p.tick.rcd ⟨6, 0, 0, d.line, bA (decB n)⟩) w3) := by rw [H2.out.2] at ht3; exact To.step H2.out.1 ht3
    clear ht3
    go_wp2_with fail
    go_ret
    exact ⟨rfl, HF.out⟩

end Go.Proofs.YtdialodjllpgaaaGreatDoor

/-! The specification's check of a unit: codes 4 and 5. -/
namespace Go.Proofs.YtdialodjllpgaaaGreatDoor
open Go.RowKit
attribute [local go_sem] run_store_float
attribute [local go_sem ↓] Go.wp_at_zero Go.wp_at_succ

/-- parents and depths, made -/
def GrowPost (d : FD) (w : World) (e : Ending) (w' : World) : Prop := ∃ P D, e = .returned (treeV P D d.nn) ∧ IntsAt 0 w' (some ⟨P, 0, none⟩) d.nn (parP d.nd d.nn) ∧ IntsAt 0 w' (some ⟨D, 0, none⟩) d.nn (depP (parP d.nd d.nn) d.nn (d.nn - 1)) ∧ Below w.heap.size w w'
def B45 (u : UD) (y : FT) : Prop := Bad4 u y ∨ Bad5 u y
def TreeBad (u : UD) (f n : Nat) : Prop := (n < (u.fn f).nn - 1 ∧ parP (u.fn f).nd (u.fn f).nn n < 0) ∨ (n = (u.fn f).nn - 1 ∧ ((u.fn f).nd n).k ≠ 1)
def NestBad (u : UD) (f n : Nat) : Prop := 100 < depP (parP (u.fn f).nd (u.fn f).nn) (u.fn f).nn ((u.fn f).nn - 1) n
end Go.Proofs.YtdialodjllpgaaaGreatDoor
