import Derived.Test.YtjempigpjcnmhaaGreatSkP
import Derived.Test.YtjempigpjcnmhaaGreatImT
/-! The program's check of a unit: scopes, jumps, makers. -/
namespace Go.Proofs.YtjempigpjcnmhaaGreat
open Go.RowKit
attribute [local go_sem] run_store_float
attribute [local go_sem ↓] Go.wp_at_zero Go.wp_at_succ

/-- behind the boxes -/
abbrev sfW (w : World) (u : UD) (a : Option Addr) (cap : Nat) : World := ((w.alloc (.cells #[.slice a u.n cap] 31)).alloc (.cells #[.int .i64 0, .int .i64 0, .int .i64 0] 27)).alloc (.cells #[.int .i64 0, .int .i64 0, .int .i64 0] 27)
abbrev ftC (x : FT) : Array Value := #[.int .i64 (x.c : Int), .int .i64 (x.f : Int), .int .i64 (x.n : Int)]
theorem sf_below {w wr : World} {u : UD} {a : Option Addr} {cap : Nat} (h : Below (w.heap.size + 1 + 1) (sfW w u a cap) wr) : Below w.heap.size w wr := (below_alloc3 w _ _ _).trans (h.mono (by omega))
theorem sf_u {w wr : World} {u : UD} {a : Option Addr} {cap : Nat} (h : Below (w.heap.size + 1 + 1) (sfW w u a cap) wr) : wr.cell? ⟨w.heap.size, 0, none⟩ = some (.slice a u.n cap) := (h.cell (p := ⟨w.heap.size, 0, none⟩) (by show w.heap.size < _; omega)).trans (((Has.new w #[.slice a u.n cap] 31).alloc _).alloc _ |>.cell 0 rfl)
theorem sf_row {w wr : World} {u : UD} {a : Option Addr} {cap : Nat} (h : Below (w.heap.size + 1 + 1) (sfW w u a cap) wr) : wr.rowIs (w.heap.size + 1) 27 3 (fun _ => .int .i64 0) := by
  have h1 := (World.rowIs_alloc (w.alloc (.cells #[.slice a u.n cap] 31)) #[.int .i64 0, .int .i64 0, .int .i64 0] 27 (fun _ => .int .i64 0) (fun i hi => by
    have : i = 0 ∨ i = 1 ∨ i = 2 := by simp at hi; omega
    rcases this with rfl | rfl | rfl <;> rfl)).alloc (.cells #[.int .i64 0, .int .i64 0, .int .i64 0] 27)
  rw [show (w.alloc (.cells #[.slice a u.n cap] 31)).heap.size = w.heap.size + 1 by simp] at h1
  exact h1.of_block (h.block _ (by omega))
theorem sf_below_set {w wr : World} {u : UD} {a : Option Addr} {cap : Nat} (h : Below (w.heap.size + 1 + 1) (sfW w u a cap) wr) (v0 v1 v2 : Value) : Below w.heap.size w (((wr.setCell ⟨w.heap.size + 1, 0, none⟩ v0).setCell ⟨w.heap.size + 1, 1, none⟩ v1).setCell ⟨w.heap.size + 1, 2, none⟩ v2) := frS (frS (frS (sf_below h) (Nat.le_add_right _ _) _) (Nat.le_add_right _ _) _) (Nat.le_add_right _ _) _
theorem OwnB.call {w w' : World} {B : Nat} {A : Array Value} (h : OwnB w B A) (hb : Below w.heap.size w w') : OwnB w' B A := h.block hb.size (hb.block _ h.1.1)
theorem OwnB.ft {w : World} {B : Nat} {x : FT} (h : OwnB w B (ftC x)) (y : FT) : OwnB (((w.setCell ⟨B, 0, none⟩ (.int .i64 (y.c : Int))).setCell ⟨B, 1, none⟩ (.int .i64 (y.f : Int))).setCell ⟨B, 2, none⟩ (.int .i64 (y.n : Int))) B (ftC y) :=
  ((h.set (o := 0) (by show 0 < 3; omega) _).set (o := 1) (by show 1 < 3; omega) _).set (o := 2) (by show 2 < 3; omega) _
theorem note_upto (u : UD) (k : Nat) (y : FT) : ((∃ g, g < k ∧ NoteF u g y) ∨ NoteF u k y) ↔ ∃ g, g < k + 1 ∧ NoteF u g y := by
  constructor
  · rintro (⟨g, h1, h2⟩ | h)
    · exact ⟨g, by omega, h2⟩
    · exact ⟨k, by omega, h⟩
  · rintro ⟨g, h1, h2⟩
    by_cases e : g = k
    · subst e; exact .inr h2
    · exact .inl ⟨g, by omega, h2⟩
def ScopeSaysC : Prop := ∀ (L : Nat) (u : UD) (a : Option Addr) (cap : Nat) (fas : Nat → FA) (w : World), u.sm → U5 u → (∀ i, i < u.n → CapF (u.fn i) (fas i)) → FnsAt L w u.n u.fn a fas →
  Calls Tryz.prog 27 #[unV u a cap] w fun e w' => FtPost (BadS u) w e w'

set_option maxRecDepth 100000 in
set_option maxHeartbeats 4000000 in
theorem scopeFault_calls : ScopeSaysC := by
  intro L u a cap fas w hs h5 hcf hT
  have HT : Hid (FnsAt L w u.n u.fn a fas) := hT
  have HS : Hid u.sm := hs
  have H5 : Hid (U5 u) := h5
  have HCF : Hid (∀ i, i < u.n → CapF (u.fn i) (fas i)) := hcf
  have hun := h5.size.2.1
  clear hT hs h5 hcf
  go_enter Tryz.func27, Tryz.ntmps27
  go_wp2_with fail
  obtain ⟨w3, hw3⟩ : ∃ w3, w3 = sfW w u a cap := ⟨_, rfl⟩
  have HB3 : Hid (Below (w.heap.size + 1 + 1) (sfW w u a cap) w3) := by show Below _ _ _; rw [hw3]; exact Below.refl _ _
  have HO3 : Hid (OwnB w3 (w.heap.size + 1 + 1) (ftC ft0)) := by
    show OwnB _ _ _
    rw [hw3]
    have h := OwnB.new ((w.alloc (.cells #[.slice a u.n cap] 31)).alloc (.cells #[.int .i64 0, .int .i64 0, .int .i64 0] 27)) #[.int .i64 0, .int .i64 0, .int .i64 0] 27
    rw [show ((w.alloc (.cells #[.slice a u.n cap] 31)).alloc (.cells #[.int .i64 0, .int .i64 0, .int .i64 0] 27)).heap.size = w.heap.size + 1 + 1 by simp] at h
    exact h
  simp only [sfW] at hw3
  rw [← hw3]
  clear hw3
  go_loopw [9] (fun i wr => ∃ (k : Nat) (x : FT), k ≤ u.n ∧ i = .int .i64 k ∧ Hid (Least (fun y => ∃ g, g < k ∧ NoteF u g y) x) ∧ Hid (OwnB wr (w.heap.size + 1 + 1) (ftC x)) ∧ Hid (Below (w.heap.size + 1 + 1) (sfW w u a cap) wr)) (fun i _ => u.n - (intOf i).toNat)
  case atStart => exact ⟨0, ft0, Nat.zero_le _, rfl, Least.zero (fun y ⟨g, hg, _⟩ => by omega), HO3, HB3⟩
  case round =>
    clear HO3 HB3
    obtain ⟨k, x, hk, rfl, HL, HO, HB⟩ := hrel
    have u0 := sf_u HB.out
    have f0 := HO.out.1.cell 0 rfl
    have f1 := HO.out.1.cell 1 rfl
    have f2 := HO.out.1.cell 2 rfl
    have z := HO.out.2
    have hlt := HO.out.1.1
    have hl0 := HO.out.1.1
    have HTr : Hid (FnsAt L wr u.n u.fn a fas) := HT.out.below (sf_below HB.out)
    by_cases hkn : k < u.n
    · have hh := H5.out.toU3.head k hkn
      have HOKd : Hid (∀ (S T : Nat), CX.ok ⟨S, T, L, wr.drew, u, k, a, cap, fas⟩) := fun S T => ⟨H5.out, HS.out, hkn, HTr.out, HCF.out k hkn⟩
      go_upto_region 5 with fail
      go_region_with (first | (go_at_call 51; refine (newScopes_calls L u k a cap fas _ hkn hh.1.2.1 (by first | exact HTr.out | exact HTr.out)).mono ?_; rintro e w5 ⟨S, T, rfl, hs5⟩; have HB5 : Hid (Below (w.heap.size + 1 + 1) (sfW w u a cap) w5) := HB.out.trans ((show Below wr.heap.size wr w5 from (Below.refl _ _).drew.trans hs5.b).mono (by omega)); have HO5 : Hid (OwnB w5 (w.heap.size + 1 + 1) (ftC x)) := HO.out.call (show Below wr.heap.size wr w5 from (Below.refl _ _).drew.trans hs5.b); have hf5 := fun h1 h2 h3 => faults_calls _ h1 h2 h3 _ hs5; have HF5 : Hid (Calls Tryz.prog 52 #[.pointer (some ⟨S, 0, none⟩)] w5 fun e w' => FaultsPost ⟨S, T, L, wr.drew, u, k, a, cap, fas⟩ e w') := hf5 (HOKd.out S T) hh.1.2.1 hh.1.2.2.2; clear hs5 hf5; clear f0 f1 f2 z u0 hlt; have f0 := HO5.out.1.cell 0 rfl; have f1 := HO5.out.1.cell 1 rfl; have f2 := HO5.out.1.cell 2 rfl; have z := HO5.out.2; have hlt := HO5.out.1.1; have u0 := sf_u HB5.out) | (go_at_call 52; refine HF5.out.mono ?_; rintro e w6 ⟨x6, rfl, hl6, hb6⟩; have HL6 : Hid (Least (NoteF u k) x6) := hl6; have HB6 : Hid (Below (w.heap.size + 1 + 1) (sfW w u a cap) w6) := HB.out.trans ((show Below wr.heap.size wr w6 from (Below.refl _ _).drew.trans hb6).mono (by omega)); have HO6 : Hid (OwnB w6 (w.heap.size + 1 + 1) (ftC x)) := HO.out.call (show Below wr.heap.size wr w6 from (Below.refl _ _).drew.trans hb6); clear hl6 hb6; clear f0 f1 f2 z u0 hlt; have f0 := HO6.out.1.cell 0 rfl; have f1 := HO6.out.1.cell 1 rfl; have f2 := HO6.out.1.cell 2 rfl; have z := HO6.out.2; have hlt := HO6.out.1.1; have u0 := sf_u HB6.out) | (go_at_call 50; refine (firstOf_calls x x6 _).mono ?_; rintro e w7 ⟨rfl, hb7⟩; have HB7 : Hid (Below (w.heap.size + 1 + 1) (sfW w u a cap) w7) := HB6.out.trans (hb7.mono (by omega)); have HO7 : Hid (OwnB w7 (w.heap.size + 1 + 1) (ftC x)) := HO6.out.call hb7; clear hb7; clear f0 f1 f2 z u0 hlt; have f0 := HO7.out.1.cell 0 rfl; have f1 := HO7.out.1.cell 1 rfl; have f2 := HO7.out.1.cell 2 rfl; have z := HO7.out.2; have hlt := HO7.out.1.1; have u0 := sf_u HB7.out))
      all_goals go_wp2_with fail
      all_goals go_roundw
      all_goals first
        | exact ⟨k + 1, fstOf x x6, by omega, by go_num, (HL.out.first HL6.out).congr (note_upto u k), HO7.out.ft _, frS (frS (frS HB7.out (Nat.le_refl _) _) (Nat.le_refl _) _) (Nat.le_refl _) _⟩
        | (simp [intOf]; omega)
    · obtain rfl : k = u.n := by omega
      go_upto_region 7 with fail
      go_region_with (first | (go_at_call 53; refine (makerFault_calls L u a cap fas _ HS.out H5.out.toU3 (by first | exact HTr.out | exact HTr.out)).mono ?_; rintro e w6 ⟨x6, rfl, hl6, hb6⟩; have HL6 : Hid (Least (NoteM u) x6) := hl6; have HB6 : Hid (Below (w.heap.size + 1 + 1) (sfW w u a cap) w6) := HB.out.trans ((show Below wr.heap.size wr w6 from (Below.refl _ _).drew.trans hb6).mono (by omega)); have HO6 : Hid (OwnB w6 (w.heap.size + 1 + 1) (ftC x)) := HO.out.call (show Below wr.heap.size wr w6 from (Below.refl _ _).drew.trans hb6); clear hl6 hb6; clear f0 f1 f2 z u0 hlt; have f0 := HO6.out.1.cell 0 rfl; have f1 := HO6.out.1.cell 1 rfl; have f2 := HO6.out.1.cell 2 rfl; have z := HO6.out.2; have hlt := HO6.out.1.1; have u0 := sf_u HB6.out) | (go_at_call 50; refine (firstOf_calls x x6 _).mono ?_; rintro e w7 ⟨rfl, hb7⟩; have HB7 : Hid (Below (w.heap.size + 1 + 1) (sfW w u a cap) w7) := HB6.out.trans (hb7.mono (by omega)); have HO7 : Hid (OwnB w7 (w.heap.size + 1 + 1) (ftC x)) := HO6.out.call hb7; clear hb7; clear f0 f1 f2 z u0 hlt; have f0 := HO7.out.1.cell 0 rfl; have f1 := HO7.out.1.cell 1 rfl; have f2 := HO7.out.1.cell 2 rfl; have z := HO7.out.2; have hlt := HO7.out.1.1; have u0 := sf_u HB7.out; have s0 := World.rowIs.cell (sf_row HB7.out) (i := 0) (by omega); have s1 := World.rowIs.cell (sf_row HB7.out) (i := 1) (by omega); have s2 := World.rowIs.cell (sf_row HB7.out) (i := 2) (by omega); have sz := World.rowIs.frozen (sf_row HB7.out)))
      all_goals go_wp2_with fail
      all_goals refine bodyPost_ret (v := ftV (fstOf x x6)) (by simp [results, Tryz.results27, go_sem, s0, s1, s2]) rfl ?_
      all_goals exact FtPost.of ((HL.out.first HL6.out).congr fun y => notes_bad u y) (sf_below_set HB7.out _ _ _)
end Go.Proofs.YtjempigpjcnmhaaGreat
