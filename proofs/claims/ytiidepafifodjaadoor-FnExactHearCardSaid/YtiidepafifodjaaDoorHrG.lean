import Derived.Test.YtiidepafifodjaaDoorHrF
import Derived.Test.YtiidepafifodjaaDoorHrB
/-! The program's reader: a record. -/
namespace Go.Proofs.YtiidepafifodjaaDoor
open Go.RowKit
attribute [local go_sem] run_store_float
attribute [local go_sem ↓] Go.wp_at_zero Go.wp_at_succ

/-- what a record's reader answers -/
structure HcIs (r : List UInt8) (f : Bool) (d : RcD) (r' : List UInt8) (f' : Bool) : Prop where
  w : d.wf
  i : d.s.size ≤ r.length
  le : r'.length ≤ r.length
  b : f = true → f' = true
  st : f' = false → r'.length < r.length
  x : ∀ d0 t, r = recL d0 ++ t → d0.wf → d0.s.size ≤ 1048576 → f = false → d = d0 ∧ r' = t ∧ f' = f
theorem hc_is {r r1 r2 r3 r4 r5 : List UInt8} {f f1 f2 f3 f4 f5 : Bool} {k t c l : Int} {s : ByteArray} (h1 : HnIs r f k r1 f1) (h2 : HnIs r1 f1 t r2 f2) (h3 : HnIs r2 f2 c r3 f3) (h4 : HnIs r3 f3 l r4 f4) (h5 : HtIs r4 f4 s r5 f5) (hs : s.size ≤ maxLen) : HcIs r f ⟨k, t, c, l, s⟩ r5 f5 := by
  have l1 := h1.le
  have l2 := h2.le
  have l3 := h3.le
  have l4 := h4.le
  have l5 := h5.le
  refine ⟨⟨h1.i, h2.i, h3.i, h4.i, hs⟩, ?_, by omega, fun e => h5.b (h4.b (h3.b (h2.b (h1.b e)))), fun e => ?_, fun d0 u e hw hz hf => ?_⟩
  · show s.size ≤ _
    have := h5.i
    omega
  · have := h5.st e
    omega
  · unfold recL at e
    rw [List.append_assoc, List.append_assoc, List.append_assoc, List.append_assoc] at e
    obtain ⟨a1, b1, c1⟩ := h1.x _ _ e hw.k
    obtain ⟨a2, b2, c2⟩ := h2.x _ _ b1 hw.t
    obtain ⟨a3, b3, c3⟩ := h3.x _ _ b2 hw.f
    obtain ⟨a4, b4, c4⟩ := h4.x _ _ b3 hw.l
    obtain ⟨a5, b5, c5⟩ := h5.x _ _ b4 hz (by rw [c4, c3, c2, c1, hf])
    obtain ⟨k0, t0, c0, l0, s0⟩ := d0
    dsimp only at a1 a2 a3 a4 a5
    subst a1 a2 a3 a4 a5
    exact ⟨rfl, b5, by rw [c5, c4, c3, c2, c1]⟩
theorem Gx.err {H N0 : Nat} {w u : World} (hE : ∀ u, Below N0 w u → ErrP u) (hg : Gx (fun k => k = H) w u) (hN : N0 ≤ w.heap.size) (hH : N0 ≤ H) : ∀ v, Below N0 u v → ErrP v := fun v hv => hE v ((hg.to hN (fun k e => by omega)).trans hv)

/-- the reader at work, beside the box of an answer -/
structure HS (w : World) (H B : Nat) (A : Array Value) (t : TypeId) (u : World) (ra : Option Addr) (rc : Nat) (r : List UInt8) (f : Bool) : Prop where
  x : HrX H u ra rc r f
  g : Gx (fun k => k = H) w u
  z : u.heap[B]? = some (.cells A t (0, 0))
  n : H < w.heap.size
  b : w.heap.size ≤ B
theorem HS.start {w : World} {H rc : Nat} {ra : Option Addr} {r : List UInt8} {f : Bool} (h : HrX H w ra rc r f) (A : Array Value) (t : TypeId) : HS w H w.heap.size A t (w.alloc (.cells A t)) ra rc r f :=
  ⟨h.call (below_alloc _ _), Gx.below _ (below_alloc _ _), (MapKept.heap_alloc w (.cells A t)).1, h.hlt, Nat.le_refl _⟩
theorem HS.lt {w : World} {H B : Nat} {A : Array Value} {t : TypeId} {u : World} {ra : Option Addr} {rc : Nat} {r : List UInt8} {f : Bool} (h : HS w H B A t u ra rc r f) : B < u.heap.size := (Array.getElem?_eq_some_iff.1 h.z).1
theorem HS.call {w : World} {H B : Nat} {A : Array Value} {t : TypeId} {u u' : World} {ra ra' : Option Addr} {rc rc' : Nat} {r r' : List UInt8} {f f' : Bool} (h : HS w H B A t u ra rc r f) (hx : HrX H u' ra' rc' r' f') (hg : Gx (fun k => k = H) u u') : HS w H B A t u' ra' rc' r' f' :=
  ⟨hx, h.g.trans hg (fun _ _ h => h), (hg.block B h.lt (by have := h.n; have := h.b; omega)).trans h.z, h.n, h.b⟩
theorem HS.cell {w : World} {H B : Nat} {A : Array Value} {t : TypeId} {u : World} {ra : Option Addr} {rc : Nat} {r : List UInt8} {f : Bool} (h : HS w H B A t u ra rc r f) (o : Nat) : u.cell? ⟨B, o, none⟩ = A[o]? := by simp [World.cell?, h.z]
theorem HS.fz {w : World} {H B : Nat} {A : Array Value} {t : TypeId} {u : World} {ra : Option Addr} {rc : Nat} {r : List UInt8} {f : Bool} (h : HS w H B A t u ra rc r f) (o : Nat) : u.frozen? ⟨B, o, none⟩ = false := by simp [World.frozen?, h.z]
/-- the answer's box is written -/
theorem HS.out {w : World} {H B : Nat} {A : Array Value} {t : TypeId} {u u' : World} {ra : Option Addr} {rc : Nat} {r : List UInt8} {f : Bool} (h : HS w H B A t u ra rc r f) (hg : Gx (fun k => k = B) u u') : HrX H u' ra rc r f ∧ Gx (fun k => k = H) w u' :=
  ⟨⟨(hg.block H h.x.hlt (by have := h.n; have := h.b; omega)).trans h.x.bx, h.x.at_.below (fun b o e h0 i => World.cell?_of_block (a := ⟨b, i, none⟩) (hg.block b (by have := h.x.lt b o e h0; have := h.x.hlt; omega) (by have := h.x.lt b o e h0; have := h.n; have := h.b; omega))), h.x.lt⟩, h.g.trans hg (fun i hi e => by have := h.b; omega)⟩

set_option maxRecDepth 100000 in
set_option maxHeartbeats 8000000 in
theorem rec_calls (H N0 : Nat) (ra : Option Addr) (rc : Nat) (r : List UInt8) (f : Bool) (w : World) (hl : r.length ≤ 1048576) (hN : N0 ≤ w.heap.size) (hH : N0 ≤ H) (hE : ∀ u, Below N0 w u → ErrP u) (hX : HrX H w ra rc r f) :
    Calls Tryd.prog 45 #[.pointer (some ⟨H, 0, none⟩)] w fun e w' => ∃ d ra' rc' r' f', e = .returned (rcV d) ∧ HcIs r f d r' f' ∧ HrX H w' ra' rc' r' f' ∧ Gx (fun k => k = H) w w' := by
  have HX : Hid (HrX H w ra rc r f) := hX
  have HE : Hid (∀ u, Below N0 w u → ErrP u) := hE
  clear hX hE
  go_enter Tryd.func45, Tryd.ntmps45
  have HS0 := HS.start HX.out #[.int .i64 0, .int .i64 0, .int .i64 0, .int .i64 0, .string ⟨#[]⟩] 49
  have HS0 : Hid (HS w H w.heap.size #[.int .i64 0, .int .i64 0, .int .i64 0, .int .i64 0, .string ⟨#[]⟩] 49 _ ra rc r f) := HS0
  have HHw : Hid (H < w.heap.size) := HX.out.hlt
  go_wp2_with fail
  refine (number_calls H N0 ra rc r f _ hl (by simp; omega) (Gx.err HE.out HS0.out.g hN hH) HS0.out.x).mono ?_
  rintro e w1 ⟨k1, ra1, rc1, r1, f1, rfl, h1, hx, hg⟩
  have H1 : Hid (HnIs r f k1 r1 f1) := h1
  have HS1 := HS0.out.call hx hg
  have HS1 : Hid (HS w H w.heap.size _ _ w1 ra1 rc1 r1 f1) := HS1
  clear h1 hx hg HS0
  have hl1 : r1.length ≤ 1048576 := Nat.le_trans H1.out.le hl
  go_wp2_with fail
  refine (number_calls H N0 ra1 rc1 r1 f1 _ hl1 (by have := HS1.out.g.size; omega) (Gx.err HE.out HS1.out.g hN hH) HS1.out.x).mono ?_
  rintro e w2 ⟨k2, ra2, rc2, r2, f2, rfl, h2, hx, hg⟩
  have H2 : Hid (HnIs r1 f1 k2 r2 f2) := h2
  have HS2 := HS1.out.call hx hg
  have HS2 : Hid (HS w H w.heap.size _ _ w2 ra2 rc2 r2 f2) := HS2
  clear h2 hx hg HS1
  have hl2 : r2.length ≤ 1048576 := Nat.le_trans H2.out.le hl1
  go_wp2_with fail
  refine (number_calls H N0 ra2 rc2 r2 f2 _ hl2 (by have := HS2.out.g.size; omega) (Gx.err HE.out HS2.out.g hN hH) HS2.out.x).mono ?_
  rintro e w3 ⟨k3, ra3, rc3, r3, f3, rfl, h3, hx, hg⟩
  have H3 : Hid (HnIs r2 f2 k3 r3 f3) := h3
  have HS3 := HS2.out.call hx hg
  have HS3 : Hid (HS w H w.heap.size _ _ w3 ra3 rc3 r3 f3) := HS3
  clear h3 hx hg HS2
  have hl3 : r3.length ≤ 1048576 := Nat.le_trans H3.out.le hl2
  go_wp2_with fail
  refine (number_calls H N0 ra3 rc3 r3 f3 _ hl3 (by have := HS3.out.g.size; omega) (Gx.err HE.out HS3.out.g hN hH) HS3.out.x).mono ?_
  rintro e w4 ⟨k4, ra4, rc4, r4, f4, rfl, h4, hx, hg⟩
  have H4 : Hid (HnIs r3 f3 k4 r4 f4) := h4
  have HS4 := HS3.out.call hx hg
  have HS4 : Hid (HS w H w.heap.size _ _ w4 ra4 rc4 r4 f4) := HS4
  clear h4 hx hg HS3
  have hl4 : r4.length ≤ 1048576 := Nat.le_trans H4.out.le hl3
  go_wp2_with fail
  refine (htext_calls H N0 ra4 rc4 r4 f4 _ hl4 (by have := HS4.out.g.size; omega) (Gx.err HE.out HS4.out.g hN hH) HS4.out.x).mono ?_
  rintro e w5 ⟨s5, ra5, rc5, r5, f5, rfl, h5, hx, hg⟩
  have HZ : Hid (HcIs r f ⟨k1, k2, k3, k4, s5⟩ r5 f5) := hc_is H1.out H2.out H3.out H4.out h5 (by have := h5.i; unfold maxLen; omega)
  have HS5 := HS4.out.call hx hg
  have HS5 : Hid (HS w H w.heap.size #[.int .i64 0, .int .i64 0, .int .i64 0, .int .i64 0, .string ⟨#[]⟩] 49 w5 ra5 rc5 r5 f5) := HS5
  clear h5 hx hg HS4 H1 H2 H3 H4 hl1 hl2 hl3 hl4
  have z0 := HS5.out.cell 0
  have z1 := HS5.out.cell 1
  have z2 := HS5.out.cell 2
  have z3 := HS5.out.cell 3
  have z4 := HS5.out.cell 4
  have zf := HS5.out.fz
  have zb := HS5.out.lt
  go_wp2_with fail
  clear z0 z1 z2 z3 z4
  have HF : Hid (HrX H (((((w5.setCell ⟨w.heap.size, 0, none⟩ (.int .i64 k1)).setCell ⟨w.heap.size, 1, none⟩ (.int .i64 k2)).setCell ⟨w.heap.size, 2, none⟩ (.int .i64 k3)).setCell ⟨w.heap.size, 3, none⟩ (.int .i64 k4)).setCell ⟨w.heap.size, 4, none⟩ (.string s5)) ra5 rc5 r5 f5 ∧ Gx (fun k => k = H) w (((((w5.setCell ⟨w.heap.size, 0, none⟩ (.int .i64 k1)).setCell ⟨w.heap.size, 1, none⟩ (.int .i64 k2)).setCell ⟨w.heap.size, 2, none⟩ (.int .i64 k3)).setCell ⟨w.heap.size, 3, none⟩ (.int .i64 k4)).setCell ⟨w.heap.size, 4, none⟩ (.string s5))) := HS5.out.out (((((Gx.set _ _ _ _).sets _ _).sets _ _).sets _ _).sets _ _)
  have z0 := HS5.out.cell 0
  have z1 := HS5.out.cell 1
  have z2 := HS5.out.cell 2
  have z3 := HS5.out.cell 3
  have z4 := HS5.out.cell 4
  exact bodyPost_ret (v := rcV ⟨k1, k2, k3, k4, s5⟩) (by simp [results, Tryd.results45, go_sem, z0, z1, z2, z3, z4]) rfl ⟨⟨k1, k2, k3, k4, s5⟩, ra5, rc5, r5, f5, rfl, HZ.out, HF.out.1, HF.out.2⟩
end Go.Proofs.YtiidepafifodjaaDoor
