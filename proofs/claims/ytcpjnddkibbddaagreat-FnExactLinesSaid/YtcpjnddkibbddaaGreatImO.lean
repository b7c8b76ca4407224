import Derived.Test.YtcpjnddkibbddaaGreatImF
import Derived.Test.YtcpjnddkibbddaaGreatFiA
/-! The program's check of a unit: the forms by kind. -/
namespace Go.Proofs.YtcpjnddkibbddaaGreat
open Go.RowKit

/-- what a form's method says -/
def FoSays (F m : Nat) (nd : Nat → ND) (nas : Nat → NA) (w : World) (f : Nat) (b : Bool) : Prop := Calls Tryz.prog f #[.pointer (some ⟨F, 0, none⟩), nodeV (nd m) (nas m)] w fun e w' => e = .returned (.bool b) ∧ Below w.heap.size w w'
theorem FoSays.as {F m : Nat} {nd : Nat → ND} {nas : Nat → NA} {w : World} {f : Nat} {b c : Bool} (h : FoSays F m nd nas w f b) (e : b = c) : FoSays F m nd nas w f c := e ▸ h

set_option maxRecDepth 10000 in
theorem forms_calls (F m : Nat) (nd : Nat → ND) (nas : Nat → NA) (w : World) (hA : AH w F m nd nas) (hN : NodeAt 0 w (nd m) (nas m)) (hs : (nd m).sm) (hcap : (nd m).kn ≤ (nas m).kc) (k : Nat) (hk : (nd m).k = k) (hv : (1 ≤ k ∧ k ≤ 14) ∨ (20 ≤ k ∧ k ≤ 38)) :
    FoSays F m nd nas w (stN k) (fkB nd m) := by
  rcases (show k = 1 ∨ k = 2 ∨ k = 3 ∨ k = 4 ∨ k = 5 ∨ k = 6 ∨ k = 7 ∨ k = 8 ∨ k = 9 ∨ k = 10 ∨ k = 11 ∨ k = 12 ∨ k = 13 ∨ k = 14 ∨ k = 20 ∨ k = 21 ∨ k = 22 ∨ k = 23 ∨ k = 24 ∨ k = 25 ∨ k = 26 ∨ k = 27 ∨ k = 28 ∨ k = 29 ∨ k = 30 ∨ k = 31 ∨ k = 32 ∨ k = 33 ∨ k = 34 ∨ k = 35 ∨ k = 36 ∨ k = 37 ∨ k = 38 by omega) with rfl | rfl | rfl | rfl | rfl | rfl | rfl | rfl | rfl | rfl | rfl | rfl | rfl | rfl | rfl | rfl | rfl | rfl | rfl | rfl | rfl | rfl | rfl | rfl | rfl | rfl | rfl | rfl | rfl | rfl | rfl | rfl | rfl
  · exact FoSays.as (fo_block F m nd nas w hA hN hs hcap) (by unfold fkB; rw [hk]; first | (simp; done) | (simp [atS]; done) | (simp [Bool.and_assoc]; done) | (simp [atS, Bool.and_assoc]; done) | (simp [btB]; done) | (simp [btB, Bool.and_assoc]; done) | (simp [atS, btB]; done) | (simp [atS, btB, Bool.and_assoc]; done))
  · exact FoSays.as (fo_let F m nd nas w hA hN hs hcap) (by unfold fkB; rw [hk]; simp [Bool.and_assoc])
  · exact FoSays.as (fo_set F m nd nas w hA hN hs hcap) (by unfold fkB; rw [hk]; first | (simp; done) | (simp [atS]; done) | (simp [Bool.and_assoc]; done) | (simp [atS, Bool.and_assoc]; done) | (simp [btB]; done) | (simp [btB, Bool.and_assoc]; done) | (simp [atS, btB]; done) | (simp [atS, btB, Bool.and_assoc]; done))
  · exact FoSays.as (fo_oneCall F m nd nas w hA hN hs hcap) (by unfold fkB; rw [hk]; first | (simp; done) | (simp [atS]; done) | (simp [Bool.and_assoc]; done) | (simp [atS, Bool.and_assoc]; done) | (simp [btB]; done) | (simp [btB, Bool.and_assoc]; done) | (simp [atS, btB]; done) | (simp [atS, btB, Bool.and_assoc]; done))
  · exact FoSays.as (fo_choice F m nd nas w hA hN hs hcap) (by unfold fkB; rw [hk]; first | (simp; done) | (simp [atS]; done) | (simp [Bool.and_assoc]; done) | (simp [atS, Bool.and_assoc]; done) | (simp [btB]; done) | (simp [btB, Bool.and_assoc]; done) | (simp [atS, btB]; done) | (simp [atS, btB, Bool.and_assoc]; done))
  · exact FoSays.as (fo_while F m nd nas w hA hN hs hcap) (by unfold fkB; rw [hk]; first | (simp; done) | (simp [atS]; done) | (simp [Bool.and_assoc]; done) | (simp [atS, Bool.and_assoc]; done) | (simp [btB]; done) | (simp [btB, Bool.and_assoc]; done) | (simp [atS, btB]; done) | (simp [atS, btB, Bool.and_assoc]; done))
  · exact FoSays.as (fo_count F m nd nas w hA hN hs hcap) (by unfold fkB; rw [hk]; first | (simp; done) | (simp [atS]; done) | (simp [Bool.and_assoc]; done) | (simp [atS, Bool.and_assoc]; done) | (simp [btB]; done) | (simp [btB, Bool.and_assoc]; done) | (simp [atS, btB]; done) | (simp [atS, btB, Bool.and_assoc]; done))
  · exact FoSays.as (fo_each F m nd nas w hA hN hs hcap) (by unfold fkB; rw [hk]; first | (simp; done) | (simp [atS]; done) | (simp [Bool.and_assoc]; done) | (simp [atS, Bool.and_assoc]; done) | (simp [btB]; done) | (simp [btB, Bool.and_assoc]; done) | (simp [atS, btB]; done) | (simp [atS, btB, Bool.and_assoc]; done))
  · exact FoSays.as (fo_bare F m nd nas w hA hN hs hcap) (by unfold fkB; rw [hk]; first | (simp; done) | (simp [atS]; done) | (simp [Bool.and_assoc]; done) | (simp [atS, Bool.and_assoc]; done) | (simp [btB]; done) | (simp [btB, Bool.and_assoc]; done) | (simp [atS, btB]; done) | (simp [atS, btB, Bool.and_assoc]; done))
  · exact FoSays.as (fo_bare F m nd nas w hA hN hs hcap) (by unfold fkB; rw [hk]; first | (simp; done) | (simp [atS]; done) | (simp [Bool.and_assoc]; done) | (simp [atS, Bool.and_assoc]; done) | (simp [btB]; done) | (simp [btB, Bool.and_assoc]; done) | (simp [atS, btB]; done) | (simp [atS, btB, Bool.and_assoc]; done))
  · exact FoSays.as (fo_results F m nd nas w hA hN hs hcap) (by unfold fkB; rw [hk]; first | (simp; done) | (simp [atS]; done) | (simp [Bool.and_assoc]; done) | (simp [atS, Bool.and_assoc]; done) | (simp [btB]; done) | (simp [btB, Bool.and_assoc]; done) | (simp [atS, btB]; done) | (simp [atS, btB, Bool.and_assoc]; done))
  · exact FoSays.as (fo_try F m nd nas w hA hN hs hcap) (by unfold fkB; rw [hk]; first | (simp; done) | (simp [atS]; done) | (simp [Bool.and_assoc]; done) | (simp [atS, Bool.and_assoc]; done) | (simp [btB]; done) | (simp [btB, Bool.and_assoc]; done) | (simp [atS, btB]; done) | (simp [atS, btB, Bool.and_assoc]; done))
  · exact FoSays.as (fo_oneExpression F m nd nas w hA hN hs hcap) (by unfold fkB; rw [hk]; first | (simp; done) | (simp [atS]; done) | (simp [Bool.and_assoc]; done) | (simp [atS, Bool.and_assoc]; done) | (simp [btB]; done) | (simp [btB, Bool.and_assoc]; done) | (simp [atS, btB]; done) | (simp [atS, btB, Bool.and_assoc]; done))
  · exact FoSays.as (fo_oneCall F m nd nas w hA hN hs hcap) (by unfold fkB; rw [hk]; first | (simp; done) | (simp [atS]; done) | (simp [Bool.and_assoc]; done) | (simp [atS, Bool.and_assoc]; done) | (simp [btB]; done) | (simp [btB, Bool.and_assoc]; done) | (simp [atS, btB]; done) | (simp [atS, btB, Bool.and_assoc]; done))
  · exact FoSays.as (fo_bare F m nd nas w hA hN hs hcap) (by unfold fkB; rw [hk]; first | (simp; done) | (simp [atS]; done) | (simp [Bool.and_assoc]; done) | (simp [atS, Bool.and_assoc]; done) | (simp [btB]; done) | (simp [btB, Bool.and_assoc]; done) | (simp [atS, btB]; done) | (simp [atS, btB, Bool.and_assoc]; done))
  · exact FoSays.as (fo_bare F m nd nas w hA hN hs hcap) (by unfold fkB; rw [hk]; first | (simp; done) | (simp [atS]; done) | (simp [Bool.and_assoc]; done) | (simp [atS, Bool.and_assoc]; done) | (simp [btB]; done) | (simp [btB, Bool.and_assoc]; done) | (simp [atS, btB]; done) | (simp [atS, btB, Bool.and_assoc]; done))
  · exact FoSays.as (fo_bare F m nd nas w hA hN hs hcap) (by unfold fkB; rw [hk]; first | (simp; done) | (simp [atS]; done) | (simp [Bool.and_assoc]; done) | (simp [atS, Bool.and_assoc]; done) | (simp [btB]; done) | (simp [btB, Bool.and_assoc]; done) | (simp [atS, btB]; done) | (simp [atS, btB, Bool.and_assoc]; done))
  · exact FoSays.as (fo_integer F m nd nas w hA hN hs hcap) (by unfold fkB; rw [hk]; first | (simp; done) | (simp [atS]; done) | (simp [Bool.and_assoc]; done) | (simp [atS, Bool.and_assoc]; done) | (simp [btB]; done) | (simp [btB, Bool.and_assoc]; done) | (simp [atS, btB]; done) | (simp [atS, btB, Bool.and_assoc]; done))
  · exact FoSays.as (fo_fraction F m nd nas w hA hN hs hcap) (by unfold fkB; rw [hk]; first | (simp; done) | (simp [atS]; done) | (simp [Bool.and_assoc]; done) | (simp [atS, Bool.and_assoc]; done) | (simp [btB]; done) | (simp [btB, Bool.and_assoc]; done) | (simp [atS, btB]; done) | (simp [atS, btB, Bool.and_assoc]; done))
  · exact FoSays.as (fo_text F m nd nas w hA hN hs hcap) (by unfold fkB; rw [hk]; first | (simp; done) | (simp [atS]; done) | (simp [Bool.and_assoc]; done) | (simp [atS, Bool.and_assoc]; done) | (simp [btB]; done) | (simp [btB, Bool.and_assoc]; done) | (simp [atS, btB]; done) | (simp [atS, btB, Bool.and_assoc]; done))
  · exact FoSays.as (fo_oneRef F m nd nas w hA hN hs hcap) (by unfold fkB; rw [hk]; first | (simp; done) | (simp [atS]; done) | (simp [Bool.and_assoc]; done) | (simp [atS, Bool.and_assoc]; done) | (simp [btB]; done) | (simp [btB, Bool.and_assoc]; done) | (simp [atS, btB]; done) | (simp [atS, btB, Bool.and_assoc]; done))
  · exact FoSays.as (fo_oneRef F m nd nas w hA hN hs hcap) (by unfold fkB; rw [hk]; first | (simp; done) | (simp [atS]; done) | (simp [Bool.and_assoc]; done) | (simp [atS, Bool.and_assoc]; done) | (simp [btB]; done) | (simp [btB, Bool.and_assoc]; done) | (simp [atS, btB]; done) | (simp [atS, btB, Bool.and_assoc]; done))
  · exact FoSays.as (fo_builtin F m nd nas w hA hN hs hcap) (by unfold fkB; rw [hk]; simp [Bool.and_assoc])
  · exact FoSays.as (fo_twoExpressions F m nd nas w hA hN hs hcap) (by unfold fkB; rw [hk]; first | (simp; done) | (simp [atS]; done) | (simp [Bool.and_assoc]; done) | (simp [atS, Bool.and_assoc]; done) | (simp [btB]; done) | (simp [btB, Bool.and_assoc]; done) | (simp [atS, btB]; done) | (simp [atS, btB, Bool.and_assoc]; done))
  · exact FoSays.as (fo_twoExpressions F m nd nas w hA hN hs hcap) (by unfold fkB; rw [hk]; first | (simp; done) | (simp [atS]; done) | (simp [Bool.and_assoc]; done) | (simp [atS, Bool.and_assoc]; done) | (simp [btB]; done) | (simp [btB, Bool.and_assoc]; done) | (simp [atS, btB]; done) | (simp [atS, btB, Bool.and_assoc]; done))
  · exact FoSays.as (fo_unary F m nd nas w hA hN hs hcap) (by unfold fkB; rw [hk]; first | (simp; done) | (simp [atS]; done) | (simp [Bool.and_assoc]; done) | (simp [atS, Bool.and_assoc]; done) | (simp [btB]; done) | (simp [btB, Bool.and_assoc]; done) | (simp [atS, btB]; done) | (simp [atS, btB, Bool.and_assoc]; done))
  · exact FoSays.as (fo_binary F m nd nas w hA hN hs hcap) (by unfold fkB; rw [hk]; first | (simp; done) | (simp [atS]; done) | (simp [Bool.and_assoc]; done) | (simp [atS, Bool.and_assoc]; done) | (simp [btB]; done) | (simp [btB, Bool.and_assoc]; done) | (simp [atS, btB]; done) | (simp [atS, btB, Bool.and_assoc]; done))
  · exact FoSays.as (fo_twoExpressions F m nd nas w hA hN hs hcap) (by unfold fkB; rw [hk]; first | (simp; done) | (simp [atS]; done) | (simp [Bool.and_assoc]; done) | (simp [atS, Bool.and_assoc]; done) | (simp [btB]; done) | (simp [btB, Bool.and_assoc]; done) | (simp [atS, btB]; done) | (simp [atS, btB, Bool.and_assoc]; done))
  · exact FoSays.as (fo_call F m nd nas w hA hN hs hcap) (by unfold fkB; rw [hk]; simp [Bool.and_assoc])
  · exact FoSays.as (fo_table F m nd nas w hA hN hs hcap) (by unfold fkB; rw [hk]; first | (simp; done) | (simp [atS]; done) | (simp [Bool.and_assoc]; done) | (simp [atS, Bool.and_assoc]; done) | (simp [btB]; done) | (simp [btB, Bool.and_assoc]; done) | (simp [atS, btB]; done) | (simp [atS, btB, Bool.and_assoc]; done))
  · exact FoSays.as (fo_oneRef F m nd nas w hA hN hs hcap) (by unfold fkB; rw [hk]; first | (simp; done) | (simp [atS]; done) | (simp [Bool.and_assoc]; done) | (simp [atS, Bool.and_assoc]; done) | (simp [btB]; done) | (simp [btB, Bool.and_assoc]; done) | (simp [atS, btB]; done) | (simp [atS, btB, Bool.and_assoc]; done))
  · exact FoSays.as (fo_bare F m nd nas w hA hN hs hcap) (by unfold fkB; rw [hk]; first | (simp; done) | (simp [atS]; done) | (simp [Bool.and_assoc]; done) | (simp [atS, Bool.and_assoc]; done) | (simp [btB]; done) | (simp [btB, Bool.and_assoc]; done) | (simp [atS, btB]; done) | (simp [atS, btB, Bool.and_assoc]; done))
  · exact FoSays.as (fo_oneList F m nd nas w hA hN hs hcap) (by unfold fkB; rw [hk]; first | (simp; done) | (simp [atS]; done) | (simp [Bool.and_assoc]; done) | (simp [atS, Bool.and_assoc]; done) | (simp [btB]; done) | (simp [btB, Bool.and_assoc]; done) | (simp [atS, btB]; done) | (simp [atS, btB, Bool.and_assoc]; done))
end Go.Proofs.YtcpjnddkibbddaaGreat

/-! The specification's check of a unit: codes 4 and 5. -/
namespace Go.Proofs.YtcpjnddkibbddaaGreat
open Go.RowKit
attribute [local go_sem] run_store_float
attribute [local go_sem ↓] Go.wp_at_zero Go.wp_at_succ

theorem cell_in {w : World} {q : Addr} {v : Value} (h : w.cell? q = some v) : q.block < w.heap.size := by
  refine Nat.lt_of_not_le fun hle => ?_
  have : w.heap[q.block]? = none := Array.getElem?_eq_none hle
  simp [World.cell?, this] at h
theorem row_ints {w : World} {B n L : Nat} {t : TypeId} {r : Nat → Int} (h : w.rowIs B t n (fun i => .int .i64 (r i))) (hL : L ≤ B) : IntsAt L w (some ⟨B, 0, none⟩) n r := fun _ =>
  ⟨B, 0, rfl, hL, h.lt, fun i hi j hj => by
    obtain rfl : j = 0 := by omega
    have := h.cell hi
    simpa using this⟩
/-- parents and depths, made -/
def GrowPost (d : FD) (w : World) (e : Ending) (w' : World) : Prop := ∃ P D, e = .returned (treeV P D d.nn) ∧ IntsAt 0 w' (some ⟨P, 0, none⟩) d.nn (parP d.nd d.nn) ∧ IntsAt 0 w' (some ⟨D, 0, none⟩) d.nn (depP (parP d.nd d.nn) d.nn (d.nn - 1)) ∧ Below w.heap.size w w'
theorem grow_calls (L : Nat) (d : FD) (x : FA) (w : World) (hn : d.nn ≤ 3000) (h0 : 0 < d.nn) (hK : KidsIn d.nd d.nn) (hs : d.sm) (hT : FnAt L w d x) :
    Calls Tryz.prog 48 #[.slice x.na d.nn x.nc] w fun e w' => GrowPost d w e w' := by
  refine (l3grow_calls L d.nn d.nd x.na x.nc x.nas w hn h0 hK hs.nd hT.2.2).mono ?_
  rintro e w' ⟨⟨P, D, rfl, hP, hD, h1, h2⟩, hb⟩
  exact ⟨P, D, rfl, row_ints h1 (Nat.zero_le _), row_ints h2 (Nat.zero_le _), hb⟩

def B45 (u : UD) (y : FT) : Prop := Bad4 u y ∨ Bad5 u y
def TreeBad (u : UD) (f n : Nat) : Prop := (n < (u.fn f).nn - 1 ∧ parP (u.fn f).nd (u.fn f).nn n < 0) ∨ (n = (u.fn f).nn - 1 ∧ ((u.fn f).nd n).k ≠ 1)
def NestBad (u : UD) (f n : Nat) : Prop := 100 < depP (parP (u.fn f).nd (u.fn f).nn) (u.fn f).nn ((u.fn f).nn - 1) n
theorem b45_four {u : UD} {f n : Nat} (hf : f < u.n) (hn : n < (u.fn f).nn) (h3 : ∀ f', f' < f → ∀ n', n' < (u.fn f').nn → ¬ TreeBad u f' n') (h4 : ∀ n', n' < n → ¬ TreeBad u f n') (h5 : TreeBad u f n) : Least (B45 u) ⟨4, f, n⟩ :=
  Least.ahead (At2.least (by decide) h3 h4 hf hn h5) (by show (4 : Nat) ≠ 0; decide) fun y hy => by rw [hy.1]; show (4 : Nat) < 5; decide
theorem b45_five {u : UD} {f n : Nat} (hf : f < u.n) (hn : n < (u.fn f).nn) (h2 : ∀ f', f' < u.n → ∀ n', n' < (u.fn f').nn → ¬ TreeBad u f' n') (h3 : ∀ f', f' < f → ∀ n', n' < (u.fn f').nn → ¬ NestBad u f' n') (h4 : ∀ n', n' < n → ¬ NestBad u f n') (h5 : NestBad u f n) : Least (B45 u) ⟨5, f, n⟩ :=
  Least.behind (At2.none h2) (At2.least (by decide) h3 h4 hf hn h5)
theorem b45_none {u : UD} (h2 : ∀ f', f' < u.n → ∀ n', n' < (u.fn f').nn → ¬ TreeBad u f' n') (h3 : ∀ f', f' < u.n → ∀ n', n' < (u.fn f').nn → ¬ NestBad u f' n') : Least (B45 u) ft0 :=
  Least.zero fun y hy => hy.elim (At2.none h2 y) (At2.none h3 y)

set_option maxRecDepth 100000 in
set_option maxHeartbeats 4000000 in
theorem l3second_calls (L : Nat) (u : UD) (a : Option Addr) (cap : Nat) (fas : Nat → FA) (w : World) (hs : u.sm) (h3 : U3 u) (hT : FnsAt L w u.n u.fn a fas) :
    Calls Tryz.prog 26 #[unV u a cap] w fun e w' => FtPost (B45 u) w e w' := by
  have HT : Hid (FnsAt L w u.n u.fn a fas) := hT
  have HS : Hid u.sm := hs
  have H3 : Hid (U3 u) := h3
  have hun := h3.size.2.1
  obtain ⟨b, off, e0, _, hb, _⟩ := cells7 hT.1 (show 0 < u.n from h3.size.1)
  subst e0
  clear hT hs h3
  go_enter Tryz.func26, Tryz.ntmps26
  go_wp2_with fail
  go_loopw [14] (fun i wr => ∃ (k : Nat), k ≤ u.n ∧ i = .int .i64 k ∧ Hid (∀ f', f' < k → ∀ n', n' < (u.fn f').nn → ¬ TreeBad u f' n') ∧ Hid (Below (fxW w u (some ⟨b, off, none⟩) cap).heap.size (fxW w u (some ⟨b, off, none⟩) cap) wr)) (fun i _ => u.n - (intOf i).toNat)
  case atStart => exact ⟨0, Nat.zero_le _, rfl, fun f' hf' => by omega, Below.refl _ _⟩
  case round =>
    obtain ⟨k, hk, rfl, HF, HB⟩ := hrel
    have HTr : Hid (FnsAt L wr u.n u.fn (some ⟨b, off, none⟩) fas) := HT.out.below (fx_below HB.out)
    have f0 : wr.cell? ⟨w.heap.size, 0, none⟩ = some (.slice (some ⟨b, off, none⟩) u.n cap) := (fx_u HB.out).cell 0 rfl
    by_cases hkn : k < u.n
    · obtain ⟨b', off', e0, _, _, _, _, _, _, _, _, d6⟩ := cells7 HTr.out.1 hkn
      obtain ⟨rfl, rfl⟩ : b = b' ∧ off = off' := by simpa using e0
      clear e0
      have hnn := H3.out.nn hkn
      go_wp2_with (go_at_call 48; refine (grow_calls L (u.fn k) (fas k) _ hnn.1 hnn.2 (H3.out.kids hkn) (HS.out.fn k hkn) (HTr.out.2 k hkn)).mono ?_; rintro e w8 ⟨P, D, rfl, hP, hD, hb8⟩)
      clear f0 d6
      have HB1 : Hid (Below (fxW w u (some ⟨b, off, none⟩) cap).heap.size (fxW w u (some ⟨b, off, none⟩) cap) (w8.alloc (.cells (treeC P D (u.fn k).nn) 79))) := below_a' (below_call HB.out hb8) _
      have HP1 : Hid (IntsAt 0 (w8.alloc (.cells (treeC P D (u.fn k).nn) 79)) (some ⟨P, 0, none⟩) (u.fn k).nn (parP (u.fn k).nd (u.fn k).nn)) := RowN.alloc hP _
      have HH1 : Hid (Has (w8.alloc (.cells (treeC P D (u.fn k).nn) 79)) w8.heap.size (treeC P D (u.fn k).nn)) := Has.new _ _ _
      clear HB hb8 hP hD HTr
      go_loopw [27] (fun i wr => ∃ (m : Nat), m ≤ (u.fn k).nn ∧ i = .int .i64 m ∧ Hid (∀ n', n' < m → ¬ TreeBad u k n') ∧ Hid (Below (fxW w u (some ⟨b, off, none⟩) cap).heap.size (fxW w u (some ⟨b, off, none⟩) cap) wr) ∧ Hid (IntsAt 0 wr (some ⟨P, 0, none⟩) (u.fn k).nn (parP (u.fn k).nd (u.fn k).nn)) ∧ Hid (Has wr w8.heap.size (treeC P D (u.fn k).nn))) (fun i _ => (u.fn k).nn - (intOf i).toNat)
      case atStart => exact ⟨0, Nat.zero_le _, rfl, fun f' hf' => by omega, HB1, HP1, HH1⟩
      case round =>
        clear HB1 HP1 HH1
        obtain ⟨m, hm, rfl, HN, HB, HP, HH⟩ := hrel
        by_cases hmn : m < (u.fn k).nn
        · have HTr : Hid (FnsAt L wr u.n u.fn (some ⟨b, off, none⟩) fas) := HT.out.below (fx_below HB.out)
          have t0 : wr.cell? ⟨w8.heap.size, 0, none⟩ = some (.slice (some ⟨P, 0, none⟩) (u.fn k).nn (u.fn k).nn) := HH.out.cell 0 rfl
          have p0 := (IntsAt.at0 HP.out hmn).1
          obtain ⟨b2, o2, e2, _, hb2, g0, _, _, _, _, _, _, _⟩ := cells8 (HTr.out.2 k hkn).2.2.1 hmn
          rw [e2]
          clear e2
          by_cases hl : m = (u.fn k).nn - 1
          · have hr : parP (u.fn k).nd (u.fn k).nn m = -1 := by rw [hl, parP_eq (H3.out.kids hkn), if_pos rfl]
            rw [hr] at p0
            have q : ((m : Int) == ((u.fn k).nn : Int) - 1) = true := by simp; omega
            by_cases hk1 : ((u.fn k).nd m).k = 1
            · have hg : ¬ TreeBad u k m := by rintro (⟨h, _⟩ | ⟨_, h⟩); omega; exact h hk1
              have HG : Hid (¬ TreeBad u k m) := hg
              have q1 : (((u.fn k).nd m).k != 1) = false := by rw [hk1]; rfl
              clear hg hk1 hr hl
              go_wp2_with fail
              go_roundw
              case rel => exact ⟨m + 1, by omega, by go_num, fun j hj => by
                by_cases e : j = m
                · subst e; exact HG.out
                · exact HN.out j (by omega), HB, HP, HH⟩
              case measure => simp [intOf]; omega
            · have HL : Hid (Least (B45 u) ⟨4, k, m⟩) := b45_four hkn hmn HF.out HN.out (.inr ⟨hl, hk1⟩)
              have q1 : (((u.fn k).nd m).k != 1) = true := by simpa using hk1
              clear hk1 hr hl
              go_wp2_with ((go_at_call 45; refine (l3fault_calls _ _ _ _).mono ?_; rintro e w9 ⟨rfl, hb9⟩; have HB9 : Hid (Below (fxW w u (some ⟨b, off, none⟩) cap).heap.size (fxW w u (some ⟨b, off, none⟩) cap) w9) := below_call HB.out hb9; have s0 := (fx_row HB9.out).cell (i := 0) (by omega); have s1 := (fx_row HB9.out).cell (i := 1) (by omega); have s2 := (fx_row HB9.out).cell (i := 2) (by omega); have sz := (fx_row HB9.out).frozen))
              refine bodyPost_ret (v := ftV ⟨4, k, m⟩) (by simp [results, Tryz.results26, go_sem, s0, s1, s2]) rfl ?_
              exact FtPost.of HL.out (fx_out (fx_below HB9.out) _ _ _)
          · have q : ((m : Int) == ((u.fn k).nn : Int) - 1) = false := by simp; omega
            by_cases hp : parP (u.fn k).nd (u.fn k).nn m < 0
            · have HL : Hid (Least (B45 u) ⟨4, k, m⟩) := b45_four hkn hmn HF.out HN.out (.inl ⟨by omega, hp⟩)
              go_wp2_with ((go_at_call 45; refine (l3fault_calls _ _ _ _).mono ?_; rintro e w9 ⟨rfl, hb9⟩; have HB9 : Hid (Below (fxW w u (some ⟨b, off, none⟩) cap).heap.size (fxW w u (some ⟨b, off, none⟩) cap) w9) := below_call HB.out hb9; have s0 := (fx_row HB9.out).cell (i := 0) (by omega); have s1 := (fx_row HB9.out).cell (i := 1) (by omega); have s2 := (fx_row HB9.out).cell (i := 2) (by omega); have sz := (fx_row HB9.out).frozen))
              refine bodyPost_ret (v := ftV ⟨4, k, m⟩) (by simp [results, Tryz.results26, go_sem, s0, s1, s2]) rfl ?_
              exact FtPost.of HL.out (fx_out (fx_below HB9.out) _ _ _)
            · have hg : ¬ TreeBad u k m := by rintro (⟨_, h⟩ | ⟨h, _⟩); exact hp h; exact hl h
              have HG : Hid (¬ TreeBad u k m) := hg
              clear hg
              go_wp2_with fail
              go_roundw
              case rel => exact ⟨m + 1, by omega, by go_num, fun j hj => by
                by_cases e : j = m
                · subst e; exact HG.out
                · exact HN.out j (by omega), HB, HP, HH⟩
              case measure => simp [intOf]; omega
        · obtain rfl : m = (u.fn k).nn := by omega
          go_wp2_with fail
          go_roundw
          case rel => exact ⟨k + 1, by omega, by go_num, fun j hj => by
            by_cases e : j = k
            · subst e; exact HN.out
            · exact HF.out j (by omega), HB⟩
          case measure => simp [intOf]; omega
    · obtain rfl : k = u.n := by omega
      go_wp2_with fail
      clear f0 HTr hk hkn
      have HB1 : Hid (Below (fxW w u (some ⟨b, off, none⟩) cap).heap.size (fxW w u (some ⟨b, off, none⟩) cap) wr) := HB
      clear HB
      go_loopw [72] (fun i wr => ∃ (k : Nat), k ≤ u.n ∧ i = .int .i64 k ∧ Hid (∀ f', f' < k → ∀ n', n' < (u.fn f').nn → ¬ NestBad u f' n') ∧ Hid (Below (fxW w u (some ⟨b, off, none⟩) cap).heap.size (fxW w u (some ⟨b, off, none⟩) cap) wr)) (fun i _ => u.n - (intOf i).toNat)
      case atStart => exact ⟨0, Nat.zero_le _, rfl, fun f' hf' => by omega, HB1⟩
      case round =>
        clear HB1
        obtain ⟨k, hk, rfl, HE, HB⟩ := hrel
        have HTr : Hid (FnsAt L wr u.n u.fn (some ⟨b, off, none⟩) fas) := HT.out.below (fx_below HB.out)
        have f0 : wr.cell? ⟨w.heap.size, 0, none⟩ = some (.slice (some ⟨b, off, none⟩) u.n cap) := (fx_u HB.out).cell 0 rfl
        by_cases hkn : k < u.n
        · obtain ⟨b', off', e0, _, _, _, _, _, _, _, _, d6⟩ := cells7 HTr.out.1 hkn
          obtain ⟨rfl, rfl⟩ : b = b' ∧ off = off' := by simpa using e0
          clear e0
          have hnn := H3.out.nn hkn
          have hsz : w.heap.size < wr.heap.size := (fx_u HB.out).lt
          go_wp2_with (go_at_call 48; refine (grow_calls L (u.fn k) (fas k) _ hnn.1 hnn.2 (H3.out.kids hkn) (HS.out.fn k hkn) (HTr.out.2 k hkn)).mono ?_; rintro e w8 ⟨P, D, rfl, hP, hD, hb8⟩; have f00 : w8.cell? ⟨w.heap.size, 0, none⟩ = some (.slice (some ⟨b, off, none⟩) u.n cap) := cell_later hb8 f0; have d66 := cell_later hb8 d6; have hsz8 : w.heap.size < w8.heap.size := Nat.lt_of_lt_of_le hsz hb8.size; have hbz8 : b < w8.heap.size := cell_in d66)
          clear f0 d6 f00 d66
          have HB1 : Hid (Below (fxW w u (some ⟨b, off, none⟩) cap).heap.size (fxW w u (some ⟨b, off, none⟩) cap) (w8.alloc (.cells (treeC P D (u.fn k).nn) 79))) := below_a' (below_call HB.out hb8) _
          have HP1 : Hid (IntsAt 0 (w8.alloc (.cells (treeC P D (u.fn k).nn) 79)) (some ⟨D, 0, none⟩) (u.fn k).nn (depP (parP (u.fn k).nd (u.fn k).nn) (u.fn k).nn ((u.fn k).nn - 1))) := RowN.alloc hD _
          have HH1 : Hid (Has (w8.alloc (.cells (treeC P D (u.fn k).nn) 79)) w8.heap.size (treeC P D (u.fn k).nn)) := Has.new _ _ _
          clear HB hb8 hP hD HTr
          go_loopw [89] (fun i wr => ∃ (m : Nat), m ≤ (u.fn k).nn ∧ i = .int .i64 m ∧ Hid (∀ n', n' < m → ¬ NestBad u k n') ∧ Hid (Below (fxW w u (some ⟨b, off, none⟩) cap).heap.size (fxW w u (some ⟨b, off, none⟩) cap) wr) ∧ Hid (IntsAt 0 wr (some ⟨D, 0, none⟩) (u.fn k).nn (depP (parP (u.fn k).nd (u.fn k).nn) (u.fn k).nn ((u.fn k).nn - 1))) ∧ Hid (Has wr w8.heap.size (treeC P D (u.fn k).nn))) (fun i _ => (u.fn k).nn - (intOf i).toNat)
          case atStart => exact ⟨0, Nat.zero_le _, rfl, fun f' hf' => by omega, HB1, HP1, HH1⟩
          case round =>
            clear HB1 HP1 HH1
            obtain ⟨m, hm, rfl, HN, HB, HP, HH⟩ := hrel
            by_cases hmn : m < (u.fn k).nn
            · have t1 : wr.cell? ⟨w8.heap.size, 1, none⟩ = some (.slice (some ⟨D, 0, none⟩) (u.fn k).nn (u.fn k).nn) := HH.out.cell 1 rfl
              have p0 := (IntsAt.at0 HP.out hmn).1
              by_cases hp : 100 < depP (parP (u.fn k).nd (u.fn k).nn) (u.fn k).nn ((u.fn k).nn - 1) m
              · have HL : Hid (Least (B45 u) ⟨5, k, m⟩) := b45_five hkn hmn HF.out HE.out HN.out hp
                go_wp2_with ((go_at_call 45; refine (l3fault_calls _ _ _ _).mono ?_; rintro e w9 ⟨rfl, hb9⟩; have HB9 : Hid (Below (fxW w u (some ⟨b, off, none⟩) cap).heap.size (fxW w u (some ⟨b, off, none⟩) cap) w9) := below_call HB.out hb9; have s0 := (fx_row HB9.out).cell (i := 0) (by omega); have s1 := (fx_row HB9.out).cell (i := 1) (by omega); have s2 := (fx_row HB9.out).cell (i := 2) (by omega); have sz := (fx_row HB9.out).frozen))
                refine bodyPost_ret (v := ftV ⟨5, k, m⟩) (by simp [results, Tryz.results26, go_sem, s0, s1, s2]) rfl ?_
                exact FtPost.of HL.out (fx_out (fx_below HB9.out) _ _ _)
              · have HG : Hid (¬ NestBad u k m) := hp
                go_wp2_with fail
                go_roundw
                case rel => exact ⟨m + 1, by omega, by go_num, fun j hj => by
                  by_cases e : j = m
                  · subst e; exact HG.out
                  · exact HN.out j (by omega), HB, HP, HH⟩
                case measure => simp [intOf]; omega
            · obtain rfl : m = (u.fn k).nn := by omega
              go_wp2_with fail
              go_roundw
              case rel => exact ⟨k + 1, by omega, by go_num, fun j hj => by
                by_cases e : j = k
                · subst e; exact HN.out
                · exact HE.out j (by omega), HB⟩
              case measure => simp [intOf]; omega
        · obtain rfl : k = u.n := by omega
          have HL : Hid (Least (B45 u) ⟨0, 0, 0⟩) := b45_none HF.out HE.out
          have s0 := (fx_row HB.out).cell (i := 0) (by omega)
          have s1 := (fx_row HB.out).cell (i := 1) (by omega)
          have s2 := (fx_row HB.out).cell (i := 2) (by omega)
          have sz := (fx_row HB.out).frozen
          go_wp2_with fail
          refine bodyPost_ret (v := ftV ⟨0, 0, 0⟩) (by simp [results, Tryz.results26, go_sem, s0, s1, s2]) rfl ?_
          exact FtPost.of HL.out (fx_out (fx_below HB.out) _ _ _)
end Go.Proofs.YtcpjnddkibbddaaGreat
