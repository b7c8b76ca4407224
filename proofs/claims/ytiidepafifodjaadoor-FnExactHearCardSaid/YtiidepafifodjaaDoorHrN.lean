import Derived.Test.YtiidepafifodjaaDoorHrM
import Derived.Test.YtiidepafifodjaaDoorTlG
import Derived.Test.YtiidepafifodjaaDoorTlH
/-! The program's Hear. -/
namespace Go.Proofs.YtiidepafifodjaaDoor
open Go.RowKit
attribute [local go_sem] run_store_float
attribute [local go_sem ↓] Go.wp_at_zero Go.wp_at_succ

theorem RpL.ok.wf {p : RpL} (h : p.ok) : p.d.wf := by
  have hm : 1048576 ≤ maxLen := by unfold maxLen; omega
  exact ⟨h.c, by have := h.xn; show p.xs.length ≤ _; omega, fun _ hi => (getD_ok h.x hi).1, by have := h.vn; show p.vs.length ≤ _; omega, fun _ hi => Nat.le_trans (show _ ≤ 1048576 from getD_ok (z := (⟨#[]⟩ : ByteArray)) h.v hi) hm, by have := h.e; show p.er.size ≤ _; omega, by have := h.t; show p.tr.size ≤ _; omega, h.i, h.m⟩
theorem hrsS_get : ∀ (xs : List RcD) (i j : Nat), i < xs.length → j < 5 → (hrsS xs)[i * 5 + j]? = (rcC (xs.getD i default))[j]?
  | [], i, _, h, _ => by simp at h
  | c :: r, 0, j, _, hj => by
    rcases (show j = 0 ∨ j = 1 ∨ j = 2 ∨ j = 3 ∨ j = 4 by omega) with rfl | rfl | rfl | rfl | rfl <;> rfl
  | c :: r, i + 1, j, h, hj => by
    have e : (i + 1) * 5 + j = (i * 5 + j) + 5 := by omega
    have := hrsS_get r i j (by simpa using h) hj
    rw [e]
    simpa [hrsS] using this
theorem hvsS_get : ∀ (xs : List ByteArray) (i : Nat), i < xs.length → (hvsS xs)[i]? = some (.string (xs.getD i ⟨#[]⟩))
  | [], i, h => by simp at h
  | c :: r, 0, _ => rfl
  | c :: r, i + 1, h => by
    have := hvsS_get r i (by simpa using h)
    simpa [hvsS] using this
theorem hrsS_len : ∀ xs : List RcD, (hrsS xs).length = xs.length * 5
  | [] => rfl
  | c :: r => by
    have := hrsS_len r
    simp only [hrsS] at this
    simp only [hrsS, List.flatMap_cons, List.length_append, this, List.length_cons, List.length_nil]
    omega
theorem RpO.at_ {N : Nat} {w : World} {p : RpL} {x : RpX} (h : RpO N w p x) : RpAt N w p.d x := by
  refine ⟨fun hn => ?_, fun hn => ?_⟩
  · rcases h.r.2 with ⟨_, h0⟩ | ⟨g, cap', cur, e, hb, hg, _⟩
    · exact absurd hn (by show ¬ 0 < p.xs.length; omega)
    · obtain ⟨ra, rc, va, vc⟩ := x
      cases e
      refine ⟨g, 0, rfl, hb, (Array.getElem?_eq_some_iff.1 hg).1, fun i hi j hj => ?_⟩
      have hi' : i < p.xs.length := hi
      rw [show 0 + i * 5 + j = i * 5 + j by omega, h.r.cellAt (i * 5 + j) (by omega), hrsS_get p.xs i j hi' hj]
      rfl
  · rcases h.v.2 with ⟨_, h0⟩ | ⟨g, cap', cur, e, hb, hg, _⟩
    · exact absurd hn (by show ¬ 0 < p.vs.length; omega)
    · obtain ⟨ra, rc, va, vc⟩ := x
      cases e
      refine ⟨g, 0, rfl, hb, (Array.getElem?_eq_some_iff.1 hg).1, fun i hi j hj => ?_⟩
      have hi' : i < p.vs.length := hi
      obtain rfl : j = 0 := by omega
      rw [show 0 + i * 1 + 0 = i by omega, h.v.cellAt i (by omega), hvsS_get p.vs i hi']
      rfl
theorem RsAt.own {N : Nat} {w : World} {a : Option Addr} {cap : Nat} {l : List UInt8} (h : OwB N w a cap l) : RsAt w a cap l := by
  rcases h.2 with ⟨e, h0⟩ | ⟨g, cap', cur, e, hb, hg, h1, _⟩
  · obtain ⟨rfl, _, rfl⟩ : a = none ∧ l.length = 0 ∧ cap = 0 := by simpa using e
    rw [List.eq_nil_of_length_eq_zero h0]
    exact RsAt.nil w
  · obtain ⟨rfl, rfl⟩ : a = some ⟨g, 0, none⟩ ∧ cap = cap' := by simpa using e
    exact RsAt.cells (fun i hi => by rw [Nat.zero_add, h.cellAt i (by omega), byS_get l i hi]) (by omega)
theorem RsAt.blk {w : World} {a : Option Addr} {c : Nat} {l : List UInt8} (h : RsAt w a c l) : ∀ b o, a = some ⟨b, o, none⟩ → 0 < l.length → b < w.heap.size := fun b o e h0 => by
  obtain ⟨_, ⟨h1, _⟩ | ⟨b', o', e', hc⟩⟩ := h
  · rw [h1] at e; cases e
  · rw [e'] at e
    cases e
    have := hc 0 h0
    refine Nat.lt_of_not_le fun hle => ?_
    have hn : w.heap[b]? = none := Array.getElem?_eq_none hle
    simp [World.cell?, hn] at this
theorem RsAt.up {w w' : World} {a : Option Addr} {c : Nat} {l : List UInt8} (h : RsAt w a c l) (hb : Below w.heap.size w w') : RsAt w' a c l := h.below fun b o e h0 i => hb.cell (p := ⟨b, i, none⟩) (h.blk b o e h0)
theorem wrote7 {B : Nat} {t : TypeId} {u : World} {y0 y1 y2 y3 y4 y5 y6 : Value} (hz : u.heap[B]? = some (.cells #[y0, y1, y2, y3, y4, y5, y6] t (0, 0))) (v0 v1 v2 v3 v4 v5 v6 : Value) (o : Nat) : (((((((u.setCell ⟨B, 0, none⟩ v0).setCell ⟨B, 1, none⟩ v1).setCell ⟨B, 2, none⟩ v2).setCell ⟨B, 3, none⟩ v3).setCell ⟨B, 4, none⟩ v4).setCell ⟨B, 5, none⟩ v5).setCell ⟨B, 6, none⟩ v6).cell? ⟨B, o, none⟩ = (#[v0, v1, v2, v3, v4, v5, v6] : Array Value)[o]? := by
  simp [World.cell?, World.setCell, Array.getElem?_modify, hz]
theorem RpL.zero_ok : RpL.zero.ok := ⟨by unfold I64r RpL.zero; simp, by unfold I64r RpL.zero; simp, by unfold I64r RpL.zero; simp, fun _ h => (by cases h), Nat.zero_le _, fun _ h => (by cases h), Nat.zero_le _, Nat.zero_le _, Nat.zero_le _⟩
/-- what Hear leaves -/
def hearP (l : List UInt8) (w : World) (e : Ending) (w' : World) : Prop := ∃ p x, e = .returned (rpV (RpL.d p) x) ∧ HearIs l p ∧ p.ok ∧ RpO w.heap.size w' p x ∧ Below w.heap.size w w'

set_option maxRecDepth 100000 in
set_option maxHeartbeats 8000000 in
theorem implHear_calls (a : Option Addr) (cap : Nat) (l : List UInt8) (w : World) (hl : l.length ≤ 1048576) (hE : ∀ u, Below w.heap.size w u → ErrP u) (hP : ∀ u, Below w.heap.size w u → TabP u) (hR : RsAt w a cap l) :
    Calls Tryd.prog 16 #[.slice a l.length cap] w fun e w' => hearP l w e w' := by
  have HR : Hid (RsAt w a cap l) := hR
  have HE : Hid (∀ u, Below w.heap.size w u → ErrP u) := hE
  have HP : Hid (∀ u, Below w.heap.size w u → TabP u) := hP
  clear hR hE hP
  go_enter Tryd.func16, Tryd.ntmps16
  have HX0 : Hid (HrX (w.heap.size + 1) ((w.alloc (.cells #[.int .i64 0, .slice none 0 0, .slice none 0 0, .string ⟨#[]⟩, .string ⟨#[]⟩, .int .i64 0, .int .i64 0] 31)).alloc (.cells #[.slice a l.length cap, .bool false] 60)) a cap l false) := by
    have hs : (w.alloc (.cells #[.int .i64 0, .slice none 0 0, .slice none 0 0, .string ⟨#[]⟩, .string ⟨#[]⟩, .int .i64 0, .int .i64 0] 31)).heap.size = w.heap.size + 1 := by simp
    have hb := (MapKept.heap_alloc (w.alloc (.cells #[.int .i64 0, .slice none 0 0, .slice none 0 0, .string ⟨#[]⟩, .string ⟨#[]⟩, .int .i64 0, .int .i64 0] 31)) (.cells #[.slice a l.length cap, .bool false] 60)).1
    rw [hs] at hb
    exact ⟨hb, HR.out.up (below_alloc2 _ _ _), fun b o e h0 => by have := HR.out.blk b o e h0; omega⟩
  have HZ0 : Hid (((w.alloc (.cells #[.int .i64 0, .slice none 0 0, .slice none 0 0, .string ⟨#[]⟩, .string ⟨#[]⟩, .int .i64 0, .int .i64 0] 31)).alloc (.cells #[.slice a l.length cap, .bool false] 60)).heap[w.heap.size]? = some (.cells #[.int .i64 0, .slice none 0 0, .slice none 0 0, .string ⟨#[]⟩, .string ⟨#[]⟩, .int .i64 0, .int .i64 0] 31 (0, 0))) := by
    have h1 := (MapKept.heap_alloc w (.cells #[.int .i64 0, .slice none 0 0, .slice none 0 0, .string ⟨#[]⟩, .string ⟨#[]⟩, .int .i64 0, .int .i64 0] 31)).1
    exact ((below_alloc (w.alloc (.cells #[.int .i64 0, .slice none 0 0, .slice none 0 0, .string ⟨#[]⟩, .string ⟨#[]⟩, .int .i64 0, .int .i64 0] 31)) (.cells #[.slice a l.length cap, .bool false] 60)).block w.heap.size (by simp)).trans h1
  have HB0 : Hid (Below w.heap.size w ((w.alloc (.cells #[.int .i64 0, .slice none 0 0, .slice none 0 0, .string ⟨#[]⟩, .string ⟨#[]⟩, .int .i64 0, .int .i64 0] 31)).alloc (.cells #[.slice a l.length cap, .bool false] 60))) := below_alloc2 _ _ _
  have hs0 : ((w.alloc (.cells #[.int .i64 0, .slice none 0 0, .slice none 0 0, .string ⟨#[]⟩, .string ⟨#[]⟩, .int .i64 0, .int .i64 0] 31)).alloc (.cells #[.slice a l.length cap, .bool false] 60)).heap.size = w.heap.size + 2 := by simp
  have HS0 : Hid (((w.alloc (.cells #[.int .i64 0, .slice none 0 0, .slice none 0 0, .string ⟨#[]⟩, .string ⟨#[]⟩, .int .i64 0, .int .i64 0] 31)).alloc (.cells #[.slice a l.length cap, .bool false] 60)).heap.size = w.heap.size + 2) := hs0
  clear hs0
  go_wp2_with fail
  generalize (w.alloc (.cells #[.int .i64 0, .slice none 0 0, .slice none 0 0, .string ⟨#[]⟩, .string ⟨#[]⟩, .int .i64 0, .int .i64 0] 31)).alloc (.cells #[.slice a l.length cap, .bool false] 60) = w1 at *
  refine (report_calls (w.heap.size + 1) w.heap.size a cap l w1 hl (by have := HS0.out; omega) (by omega) (fun u hu => HE.out u (HB0.out.trans hu)) HX0.out).mono ?_
  rintro e w2 ⟨p, x, rfl, hp, ho, hg⟩
  have HHp : Hid (HpIs l p) := hp
  have HO : Hid (RpO w1.heap.size w2 p x) := ho
  have HB2 : Hid (Below w.heap.size w w2) := HB0.out.trans (hg.to (by have := HS0.out; omega) (fun k (e : k = w.heap.size + 1) => by omega))
  have HZ2 : Hid (w2.heap[w.heap.size]? = some (.cells #[.int .i64 0, .slice none 0 0, .slice none 0 0, .string ⟨#[]⟩, .string ⟨#[]⟩, .int .i64 0, .int .i64 0] 31 (0, 0))) := (hg.block w.heap.size (by have := HS0.out; omega) (show ¬ w.heap.size = w.heap.size + 1 by omega)).trans HZ0.out
  have HS2 : Hid (w.heap.size + 2 ≤ w2.heap.size) := by have := HS0.out; have := hg.size; show _ ≤ _; omega
  clear hp ho hg HX0 HZ0
  go_wp2_with fail
  refine (implTell_calls _ p.d x _ HHp.out.k.wf HHp.out.k.sm (HO.out.at_.alloc _) (fun u hu => HP.out u (below_call (below_call HB2.out (below_alloc _ _)) hu))).mono ?_
  rintro e w3 ⟨⟨a3, cap3, L3, rfl, hL3, ho3⟩, hb3⟩
  have HL3 : Hid (L3 = toldL p.d) := hL3
  have HO3 : Hid (RsAt w3 a3 cap3 L3) := RsAt.own ho3
  have HBx : Hid (Below w2.heap.size w2 w3) := below_call (below_alloc _ _) hb3
  have HBw : Hid (Below w.heap.size w w3) := below_call HB2.out HBx.out
  have HHr : Hid (Has w3 w2.heap.size (rpC p.d x)) := Has.made hb3
  have HZ : Hid (w3.heap[w.heap.size]? = some (.cells #[.int .i64 0, .slice none 0 0, .slice none 0 0, .string ⟨#[]⟩, .string ⟨#[]⟩, .int .i64 0, .int .i64 0] 31 (0, 0))) := (HBx.out.block w.heap.size (by have := HS2.out; omega)).trans HZ2.out
  replace HO : Hid (RpO w1.heap.size w3 p x) := ⟨ownsK_below HO.out.r HBx.out, ownsK_below HO.out.v HBx.out, HO.out.d⟩
  clear hL3 ho3 hb3 HZ2
  go_wp2_with fail
  refine (eq_calls a3 a cap3 cap L3 l w3 HO3.out (HR.out.up HBw.out)).mono ?_
  rintro e w' ⟨rfl, rfl⟩
  have HH : Hid (HearIs l (if toldL p.d = l then p else RpL.zero)) := hear_of HHp.out
  have z0 : w'.cell? ⟨w.heap.size, 0, none⟩ = some (.int .i64 0) := by simp [World.cell?, HZ.out]
  have z1 : w'.cell? ⟨w.heap.size, 1, none⟩ = some (.slice none 0 0) := by simp [World.cell?, HZ.out]
  have z2 : w'.cell? ⟨w.heap.size, 2, none⟩ = some (.slice none 0 0) := by simp [World.cell?, HZ.out]
  have z3 : w'.cell? ⟨w.heap.size, 3, none⟩ = some (.string ⟨#[]⟩) := by simp [World.cell?, HZ.out]
  have z4 : w'.cell? ⟨w.heap.size, 4, none⟩ = some (.string ⟨#[]⟩) := by simp [World.cell?, HZ.out]
  have z5 : w'.cell? ⟨w.heap.size, 5, none⟩ = some (.int .i64 0) := by simp [World.cell?, HZ.out]
  have z6 : w'.cell? ⟨w.heap.size, 6, none⟩ = some (.int .i64 0) := by simp [World.cell?, HZ.out]
  have zf : ∀ o, w'.frozen? ⟨w.heap.size, o, none⟩ = false := fun o => by simp [World.frozen?, HZ.out]
  have r0 : w'.cell? ⟨w2.heap.size, 0, none⟩ = some (.int .i64 p.d.code) := HHr.out.cell 0 rfl
  have r1 : w'.cell? ⟨w2.heap.size, 1, none⟩ = some (.slice x.ra p.d.n x.rc) := HHr.out.cell 1 rfl
  have r2 : w'.cell? ⟨w2.heap.size, 2, none⟩ = some (.slice x.va p.d.m x.vc) := HHr.out.cell 2 rfl
  have r3 : w'.cell? ⟨w2.heap.size, 3, none⟩ = some (.string p.d.er) := HHr.out.cell 3 rfl
  have r4 : w'.cell? ⟨w2.heap.size, 4, none⟩ = some (.string p.d.tr) := HHr.out.cell 4 rfl
  have r5 : w'.cell? ⟨w2.heap.size, 5, none⟩ = some (.int .i64 p.d.ti) := HHr.out.cell 5 rfl
  have r6 : w'.cell? ⟨w2.heap.size, 6, none⟩ = some (.int .i64 p.d.ma) := HHr.out.cell 6 rfl
  by_cases c : toldL p.d = l
  · have hb : (L3 == l) = true := by rw [HL3.out]; simpa using c
    replace HH : Hid (HearIs l p) := by
      have h := HH.out
      rw [if_pos c] at h
      exact h
    clear c
    rw [hb]
    go_wp2_with fail
    clear r0 r1 r2 r3 r4 r5 r6
    obtain ⟨we, hwe⟩ : ∃ we, (((((((w'.setCell ⟨w.heap.size, 0, none⟩ (.int .i64 p.d.code)).setCell ⟨w.heap.size, 1, none⟩ (.slice x.ra p.d.n x.rc)).setCell ⟨w.heap.size, 2, none⟩ (.slice x.va p.d.m x.vc)).setCell ⟨w.heap.size, 3, none⟩ (.string p.d.er)).setCell ⟨w.heap.size, 4, none⟩ (.string p.d.tr)).setCell ⟨w.heap.size, 5, none⟩ (.int .i64 p.d.ti)).setCell ⟨w.heap.size, 6, none⟩ (.int .i64 p.d.ma)) = we := ⟨_, rfl⟩
    have HBe : Hid (Below w.heap.size w we) := by rw [← hwe]; exact ((((((HBw.out.setCell (Nat.le_refl _) _).setCell (Nat.le_refl _) _).setCell (Nat.le_refl _) _).setCell (Nat.le_refl _) _).setCell (Nat.le_refl _) _).setCell (Nat.le_refl _) _).setCell (Nat.le_refl _) _
    have HGe : Hid (Gx (fun k => k = w.heap.size) w' we) := by rw [← hwe]; exact ((((((Gx.set _ _ _ _).sets _ _).sets _ _).sets _ _).sets _ _).sets _ _).sets _ _
    have ec : ∀ o, we.cell? ⟨w.heap.size, o, none⟩ = (#[.int .i64 p.d.code, .slice x.ra p.d.n x.rc, .slice x.va p.d.m x.vc, .string p.d.er, .string p.d.tr, .int .i64 p.d.ti, .int .i64 p.d.ma] : Array Value)[o]? := by
      rw [← hwe]
      exact wrote7 HZ.out _ _ _ _ _ _ _
    rw [hwe]
    have e0 := ec 0
    have e1 := ec 1
    have e2 := ec 2
    have e3 := ec 3
    have e4 := ec 4
    have e5 := ec 5
    have e6 := ec 6
    clear z0 z1 z2 z3 z4 z5 z6 hwe ec
    refine bodyPost_ret (v := rpV (RpL.d p) x) (by simp [results, Tryd.results16, go_sem, e0, e1, e2, e3, e4, e5, e6]) rfl ?_
    unfold hearP
    exact ⟨p, x, rfl, HH.out, HHp.out.k, ⟨ownsK_base' (ownsK_block HO.out.r (fun k e => HGe.out.block k (HO.out.r.lt k e).2 (by have := (HO.out.r.lt k e).1; have := HS0.out; omega))) (by have := HS0.out; omega), ownsK_base' (ownsK_block HO.out.v (fun k e => HGe.out.block k (HO.out.v.lt k e).2 (by have := (HO.out.v.lt k e).1; have := HS0.out; omega))) (by have := HS0.out; omega), HO.out.d⟩, HBe.out⟩
  · have hb : (L3 == l) = false := by rw [HL3.out]; simpa using c
    replace HH : Hid (HearIs l RpL.zero) := by
      have h := HH.out
      rw [if_neg c] at h
      exact h
    clear c
    rw [hb]
    go_wp2_with fail
    clear r0 r1 r2 r3 r4 r5 r6
    obtain ⟨we, hwe⟩ : ∃ we, (((((((w'.setCell ⟨w.heap.size, 0, none⟩ (.int .i64 0)).setCell ⟨w.heap.size, 1, none⟩ (.slice none 0 0)).setCell ⟨w.heap.size, 2, none⟩ (.slice none 0 0)).setCell ⟨w.heap.size, 3, none⟩ (.string ⟨#[]⟩)).setCell ⟨w.heap.size, 4, none⟩ (.string ⟨#[]⟩)).setCell ⟨w.heap.size, 5, none⟩ (.int .i64 0)).setCell ⟨w.heap.size, 6, none⟩ (.int .i64 0)) = we := ⟨_, rfl⟩
    have HBe : Hid (Below w.heap.size w we) := by rw [← hwe]; exact ((((((HBw.out.setCell (Nat.le_refl _) _).setCell (Nat.le_refl _) _).setCell (Nat.le_refl _) _).setCell (Nat.le_refl _) _).setCell (Nat.le_refl _) _).setCell (Nat.le_refl _) _).setCell (Nat.le_refl _) _
    have HGe : Hid (Gx (fun k => k = w.heap.size) w' we) := by rw [← hwe]; exact ((((((Gx.set _ _ _ _).sets _ _).sets _ _).sets _ _).sets _ _).sets _ _).sets _ _
    have ec : ∀ o, we.cell? ⟨w.heap.size, o, none⟩ = (#[.int .i64 0, .slice none 0 0, .slice none 0 0, .string ⟨#[]⟩, .string ⟨#[]⟩, .int .i64 0, .int .i64 0] : Array Value)[o]? := by
      rw [← hwe]
      exact wrote7 HZ.out _ _ _ _ _ _ _
    rw [hwe]
    have e0 := ec 0
    have e1 := ec 1
    have e2 := ec 2
    have e3 := ec 3
    have e4 := ec 4
    have e5 := ec 5
    have e6 := ec 6
    clear z0 z1 z2 z3 z4 z5 z6 hwe ec
    refine bodyPost_ret (v := rpV (RpL.d RpL.zero) ⟨none, 0, none, 0⟩) (by simp [results, Tryd.results16, go_sem, e0, e1, e2, e3, e4, e5, e6]; exact ⟨rfl, rfl, rfl, rfl, rfl, rfl, rfl⟩) rfl ?_
    unfold hearP
    exact ⟨RpL.zero, ⟨none, 0, none, 0⟩, rfl, HH.out, RpL.zero_ok, ⟨World.ownsRow_nil _ _ _ _, World.ownsRow_nil _ _ _ _, fun _ _ h => by cases h⟩, HBe.out⟩
end Go.Proofs.YtiidepafifodjaaDoor
