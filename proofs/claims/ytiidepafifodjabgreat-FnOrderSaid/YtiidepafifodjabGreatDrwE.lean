import Derived.Test.YtiidepafifodjabGreatDrwD
import Derived.Test.YtiidepafifodjabGreatSmall
import Derived.Test.YtiidepafifodjabGreatOrdN
/-! The draws: values. -/
namespace Go.Proofs.YtiidepafifodjabGreat
open Go.RowKit

abbrev vC5 (y : VD) : Array Value := #[.int .i64 y.k, .int .i64 y.n, .float .f64 y.f, .string y.s, .int .i64 y.r]
/-- a local value of one's own -/
structure LB (R : Nat) (y : VD) (u : World) : Prop where
  h : Has u R (vC5 y)
  fr : ∀ o, u.frozen? ⟨R, o, none⟩ = false
theorem LB.block {R : Nat} {y : VD} {u w : World} (h : LB R y u) (hs : u.heap.size ≤ w.heap.size) (hk : w.heap[R]? = u.heap[R]?) : LB R y w := ⟨⟨Nat.lt_of_lt_of_le h.h.1 hs, fun o => (World.cell?_of_block (a := ⟨R, o, none⟩) hk).trans (h.h.2 o)⟩, fun o => (World.frozen?_of_block (a := ⟨R, o, none⟩) hk).trans (h.fr o)⟩
theorem LB.call {R : Nat} {y : VD} {u w : World} (h : LB R y u) (hb : Below u.heap.size u w) : LB R y w := h.block hb.size (hb.block R h.h.lt)
theorem LB.step {R : Nat} {y : VD} {u w : World} {B : Nat} (h : LB R y u) (hg : u.grownBy w (some B)) (hne : R ≠ B) : LB R y w := h.block hg.size (hg.block R h.h.lt (fun e => hne (Option.some.inj e)))
theorem LB.new (w : World) (y : VD) (t : TypeId) : LB w.heap.size y (w.alloc (.cells (vC5 y) t)) := ⟨Has.new _ _ _, fun o => by simp⟩
theorem LB.c {R : Nat} {y : VD} {u : World} (h : LB R y u) : u.cell? ⟨R, 0, none⟩ = some (.int .i64 y.k) ∧ u.cell? ⟨R, 1, none⟩ = some (.int .i64 y.n) ∧ u.cell? ⟨R, 2, none⟩ = some (.float .f64 y.f) ∧ u.cell? ⟨R, 3, none⟩ = some (.string y.s) ∧ u.cell? ⟨R, 4, none⟩ = some (.int .i64 y.r) := ⟨h.h.at 0, h.h.at 1, h.h.at 2, h.h.at 3, h.h.at 4⟩

/-- a draw under way: the cursor, the frame -/
structure DS (w : World) (B : Nat) (a : Option Addr) (len cap A : Nat) (u : World) : Prop where
  c : CU B a len cap A u
  g : w.grownBy u (some B)
  c0 : ∃ A0, CU B a len cap A0 w
theorem DS.ne {w : World} {B : Nat} {a : Option Addr} {len cap A : Nat} {u : World} (h : DS w B a len cap A u) : w.heap.size ≠ B := by
  obtain ⟨_, _, _, _, h0⟩ := h.c0
  have := h0.lt
  omega
theorem DS.new {w : World} {B : Nat} {a : Option Addr} {len cap A : Nat} (h : CU B a len cap A w) : DS w B a len cap A w := ⟨h, gby_refl _ _, ⟨A, h⟩⟩
theorem DS.step {w : World} {B : Nat} {a : Option Addr} {len cap A : Nat} {u : World} {A' : Nat} {u' : World} (h : DS w B a len cap A u) (hc : CU B a len cap A' u') (hg : u.grownBy u' (some B)) : DS w B a len cap A' u' := ⟨hc, gby_trans h.g hg, h.c0⟩
theorem DS.below {w : World} {B : Nat} {a : Option Addr} {len cap A : Nat} {u : World} {u' : World} (h : DS w B a len cap A u) (hb : Below u.heap.size u u') : DS w B a len cap A u' := ⟨h.c.call hb, gby_trans h.g (gby_below _ hb), h.c0⟩
theorem DS.alloc {w : World} {B : Nat} {a : Option Addr} {len cap A : Nat} {u : World} (h : DS w B a len cap A u) (o : Obj) : DS w B a len cap A (u.alloc o) := h.below (below_alloc u o)
theorem DS.drew {w : World} {B : Nat} {a : Option Addr} {len cap A : Nat} {u : World} (h : DS w B a len cap A u) : DS w B a len cap A u.drew := ⟨h.c.drew, gby_drew h.g, h.c0⟩
theorem DS.setR {w : World} {B : Nat} {a : Option Addr} {len cap A : Nat} {u : World} (h : DS w B a len cap A u) {R : Nat} (hR : w.heap.size ≤ R) (o : Nat) (v : Value) : DS w B a len cap A (u.setCell ⟨R, o, none⟩ v) := by
  obtain ⟨A0, t0, s0, _, hx0⟩ := h.c0
  obtain ⟨t, s, ht, hx⟩ := h.c
  have hg : w.grownBy (u.setCell ⟨R, o, none⟩ v) (some B) := ⟨h.g.os, h.g.tape, h.g.output, by have := h.g.size; simp; omega, fun k hk hr => (Below.heap_setCell u ⟨R, o, none⟩ v k (by show k ≠ R; omega)).trans (h.g.block k hk hr)⟩
  refine ⟨⟨t, s, ht, ?_⟩, hg, h.c0⟩
  have lt0 := hx0.lt
  have hB : (u.setCell ⟨R, o, none⟩ v).heap[B]? = u.heap[B]? := Below.heap_setCell u ⟨R, o, none⟩ v B (by show B ≠ R; omega)
  have e : ∀ o', (u.setCell ⟨R, o, none⟩ v).cell? ⟨B, o', none⟩ = u.cell? ⟨B, o', none⟩ := fun o' => World.cell?_of_block (a := ⟨B, o', none⟩) hB
  obtain ⟨c0, c1, c2⟩ := hx.c
  refine ⟨by have := hx.lt; simpa using this, ⟨(e 0).trans c0, (e 1).trans c1, (e 2).trans c2⟩, fun o' => (World.frozen?_of_block (a := ⟨B, o', none⟩) hB).trans (hx.fr o'), fun i hi => ?_⟩
  obtain ⟨b, off, z, h1, h2, h3, h4⟩ := hx0.row i hi
  refine ⟨b, off, z, h1, h2, ?_, h4⟩
  have hb : b < w.heap.size := by
    refine Nat.lt_of_not_le fun hle => ?_
    have : w.heap[b]? = none := Array.getElem?_eq_none hle
    simp [World.cell?, this] at h3
  exact (World.cell?_of_block (a := ⟨b, off + i, none⟩) (hg.block b hb (fun e => h2 (Option.some.inj e)))).trans h3
theorem DS.setR5 {w : World} {B : Nat} {a : Option Addr} {len cap A : Nat} {u : World} (h : DS w B a len cap A u) (v0 v1 v2 v3 v4 : Value) : DS w B a len cap A (((((u.setCell ⟨w.heap.size, 0, none⟩ v0).setCell ⟨w.heap.size, 1, none⟩ v1).setCell ⟨w.heap.size, 2, none⟩ v2).setCell ⟨w.heap.size, 3, none⟩ v3).setCell ⟨w.heap.size, 4, none⟩ v4) :=
  ((((h.setR (Nat.le_refl _) _ _).setR (Nat.le_refl _) _ _).setR (Nat.le_refl _) _ _).setR (Nat.le_refl _) _ _).setR (Nat.le_refl _) _ _

attribute [local go_sem] run_store_float
attribute [local go_sem ↓] Go.wp_at_zero Go.wp_at_succ
theorem l1fltD_calls (f : Nat) (w : World) : Calls Tryz.prog 118 #[.float .f64 f] w fun e w' => e = .returned (vOf 3 0 f ⟨#[]⟩ 0) ∧ Below w.heap.size w w' := by
  go_enter Tryz.func118, Tryz.ntmps118; go_wp2
  exact bodyPost_ret (v := vOf 3 0 f ⟨#[]⟩ 0) (by simp [results, Tryz.results118, go_sem]) rfl ⟨rfl, below_alloc _ _⟩
theorem l1strD_calls (s : ByteArray) (w : World) : Calls Tryz.prog 69 #[.string s] w fun e w' => e = .returned (vOf 4 0 0 s 0) ∧ Below w.heap.size w w' := by
  go_enter Tryz.func69, Tryz.ntmps69; go_wp2
  exact bodyPost_ret (v := vOf 4 0 0 s 0) (by simp [results, Tryz.results69, go_sem]) rfl ⟨rfl, below_alloc _ _⟩
theorem l1boolD_calls (b : Bool) (w : World) : Calls Tryz.prog 70 #[.bool b] w fun e w' => e = .returned (vOf 1 (if b then 1 else 0) 0 ⟨#[]⟩ 0) ∧ Below w.heap.size w w' := by
  cases b
  · go_enter Tryz.func70, Tryz.ntmps70; go_wp2
    exact bodyPost_ret (v := vOf 1 0 0 ⟨#[]⟩ 0) (by simp [results, Tryz.results70, go_sem]) rfl ⟨rfl, below_alloc _ _⟩
  · go_enter Tryz.func70, Tryz.ntmps70; go_wp2
    exact bodyPost_ret (v := vOf 1 1 0 ⟨#[]⟩ 0) (by simp [results, Tryz.results70, go_sem]) rfl ⟨rfl, below_alloc _ _⟩
theorem vw_of {k n r : Int} {f : Nat} {s : ByteArray} (hn : I64b n) (hf : f < 2 ^ 64) (hs : s.size ≤ 5000) : VW ⟨k, n, f, s, r⟩ := ⟨hn.1, hn.2, hf, Nat.le_trans hs (by unfold maxLen; omega)⟩
theorem i64s {n : Int} (h1 : -1000 ≤ n) (h2 : n ≤ 1000) : I64b n := by unfold I64b; omega

set_option maxRecDepth 100000 in
set_option maxHeartbeats 8000000 in
theorem value_calls (B : Nat) (a : Option Addr) (len cap A : Nat) (w : World) (hA : A < 500000) (h : CU B a len cap A w) :
    Calls Tryz.prog 102 #[.pointer (some ⟨B, 0, none⟩)] w fun e w' => (∃ y : VD, e = .returned y.v ∧ VW y) ∧ CU B a len cap (A + 60) w' ∧ w.grownBy w' (some B) := by
  have HD : Hid (DS w B a len cap A (w.alloc (.cells (vC5 vz) 44))) := (DS.new h).alloc _
  have HL : Hid (LB w.heap.size vz (w.alloc (.cells (vC5 vz) 44))) := LB.new w vz _
  clear h
  obtain ⟨z0, z1, z2, z3, z4⟩ := HL.out.c
  have zf := HL.out.fr
  go_enter Tryz.func102, Tryz.ntmps102
  go_upto_region 2 with (go_at_call 187; refine (pick_calls B a len cap _ _ _ (by omega) (by omega) (by omega) HD.out.c).mono ?_; rintro e w1 ⟨⟨v, rfl, v0, v1⟩, hc, hg⟩; have HD' : Hid (DS w B a len cap _ w1) := HD.out.step hc hg; have HL' : Hid (LB w.heap.size _ w1) := HL.out.step hg HD.out.ne; clear HD HL z0 z1 z2 z3 z4 zf; have HD : Hid (DS w B a len cap _ w1) := HD'.out; have HL : Hid (LB w.heap.size _ w1) := HL'.out; clear HD' HL'; obtain ⟨z0, z1, z2, z3, z4⟩ := HL.out.c; have zf := HL.out.fr; clear hc hg)
  rcases (show v = 0 ∨ v = 1 ∨ (v = 2 ∨ v = 3 ∨ v = 4) ∨ (v = 5 ∨ v = 6) ∨ v = 7 ∨ v = 8 ∨ v = 9 ∨ v = 10 by omega) with rfl | rfl | hv | hv | rfl | rfl | rfl | rfl
  · go_wp2_with fail
    all_goals exact bodyPost_ret (v := vOf 0 0 0 ⟨#[]⟩ 0) (by simp [results, Tryz.results102, go_sem, z0, z1, z2, z3, z4]) rfl ⟨⟨⟨0, 0, 0, ⟨#[]⟩, 0⟩, rfl, vw_of (i64s (by omega) (by omega)) (by decide) (by decide)⟩, (HD.out.setR5 _ _ _ _ _).c.mono (by omega), (HD.out.setR5 _ _ _ _ _).g⟩
  · go_wp2_with (first | (go_at_call 187; refine (pick_calls B a len cap _ _ _ (by omega) (by omega) (by omega) HD.out.c).mono ?_; rintro e w1 ⟨⟨v, rfl, v0, v1⟩, hc, hg⟩; have HD' : Hid (DS w B a len cap _ w1) := HD.out.step hc hg; have HL' : Hid (LB w.heap.size _ w1) := HL.out.step hg HD.out.ne; clear HD HL z0 z1 z2 z3 z4 zf; have HD : Hid (DS w B a len cap _ w1) := HD'.out; have HL : Hid (LB w.heap.size _ w1) := HL'.out; clear HD' HL'; obtain ⟨z0, z1, z2, z3, z4⟩ := HL.out.c; have zf := HL.out.fr; clear hc hg) | (go_at_call 70; refine (l1boolD_calls _ _).mono ?_; rintro e w2 ⟨rfl, hb⟩; have HD' : Hid (DS w B a len cap _ w2) := HD.out.below hb; have HL' : Hid (LB w.heap.size _ w2) := HL.out.call hb; clear HD HL z0 z1 z2 z3 z4 zf; have HD : Hid (DS w B a len cap _ w2) := HD'.out; have HL : Hid (LB w.heap.size _ w2) := HL'.out; clear HD' HL'; obtain ⟨z0, z1, z2, z3, z4⟩ := HL.out.c; have zf := HL.out.fr; clear hb))
    · exact bodyPost_ret (v := vOf 1 1 0 ⟨#[]⟩ 0) (by simp [results, Tryz.results102, go_sem, z0, z1, z2, z3, z4]) rfl ⟨⟨⟨1, 1, 0, ⟨#[]⟩, 0⟩, rfl, vw_of (i64s (by omega) (by omega)) (by decide) (by decide)⟩, (HD.out.setR5 _ _ _ _ _).c.mono (by omega), (HD.out.setR5 _ _ _ _ _).g⟩
    · exact bodyPost_ret (v := vOf 1 0 0 ⟨#[]⟩ 0) (by simp [results, Tryz.results102, go_sem, z0, z1, z2, z3, z4]) rfl ⟨⟨⟨1, 0, 0, ⟨#[]⟩, 0⟩, rfl, vw_of (i64s (by omega) (by omega)) (by decide) (by decide)⟩, (HD.out.setR5 _ _ _ _ _).c.mono (by omega), (HD.out.setR5 _ _ _ _ _).g⟩
  · go_upto_region 9 with fail
    go_wp2_with (first | (go_at_call 188; refine (whole_calls B a len cap _ _ (by omega) HD.out.c).mono ?_; rintro e w1 ⟨⟨n, rfl, hn⟩, hc, hg⟩; have HD' : Hid (DS w B a len cap _ w1) := HD.out.step hc hg; have HL' : Hid (LB w.heap.size _ w1) := HL.out.step hg HD.out.ne; clear HD HL z0 z1 z2 z3 z4 zf; have HD : Hid (DS w B a len cap _ w1) := HD'.out; have HL : Hid (LB w.heap.size _ w1) := HL'.out; clear HD' HL'; obtain ⟨z0, z1, z2, z3, z4⟩ := HL.out.c; have zf := HL.out.fr; clear hc hg) | (go_at_call 117; refine (l1int_calls _ _).mono ?_; rintro e w2 ⟨rfl, hb⟩; have HD' : Hid (DS w B a len cap _ w2) := HD.out.below hb; have HL' : Hid (LB w.heap.size _ w2) := HL.out.call hb; clear HD HL z0 z1 z2 z3 z4 zf; have HD : Hid (DS w B a len cap _ w2) := HD'.out; have HL : Hid (LB w.heap.size _ w2) := HL'.out; clear HD' HL'; obtain ⟨z0, z1, z2, z3, z4⟩ := HL.out.c; have zf := HL.out.fr; clear hb))
    all_goals exact bodyPost_ret (v := vOf 2 n 0 ⟨#[]⟩ 0) (by simp [results, Tryz.results102, go_sem, z0, z1, z2, z3, z4]) rfl ⟨⟨⟨2, n, 0, ⟨#[]⟩, 0⟩, rfl, vw_of hn (by decide) (by decide)⟩, (HD.out.setR5 _ _ _ _ _).c.mono (by omega), (HD.out.setR5 _ _ _ _ _).g⟩
  · go_upto_region 12 with fail
    go_wp2_with (first | (go_at_call 189; refine (real_calls B a len cap _ _ (by omega) HD.out.c).mono ?_; rintro e w1 ⟨⟨f, rfl, hf⟩, hc, hg⟩; have HD' : Hid (DS w B a len cap _ w1) := HD.out.step hc hg; have HL' : Hid (LB w.heap.size _ w1) := HL.out.step hg HD.out.ne; clear HD HL z0 z1 z2 z3 z4 zf; have HD : Hid (DS w B a len cap _ w1) := HD'.out; have HL : Hid (LB w.heap.size _ w1) := HL'.out; clear HD' HL'; obtain ⟨z0, z1, z2, z3, z4⟩ := HL.out.c; have zf := HL.out.fr; clear hc hg) | (go_at_call 118; refine (l1fltD_calls _ _).mono ?_; rintro e w2 ⟨rfl, hb⟩; have HD' : Hid (DS w B a len cap _ w2) := HD.out.below hb; have HL' : Hid (LB w.heap.size _ w2) := HL.out.call hb; clear HD HL z0 z1 z2 z3 z4 zf; have HD : Hid (DS w B a len cap _ w2) := HD'.out; have HL : Hid (LB w.heap.size _ w2) := HL'.out; clear HD' HL'; obtain ⟨z0, z1, z2, z3, z4⟩ := HL.out.c; have zf := HL.out.fr; clear hb))
    all_goals exact bodyPost_ret (v := vOf 3 0 f ⟨#[]⟩ 0) (by simp [results, Tryz.results102, go_sem, z0, z1, z2, z3, z4]) rfl ⟨⟨⟨3, 0, f, ⟨#[]⟩, 0⟩, rfl, vw_of (i64s (by omega) (by omega)) hf (by decide)⟩, (HD.out.setR5 _ _ _ _ _).c.mono (by omega), (HD.out.setR5 _ _ _ _ _).g⟩
  · go_wp2_with (first | (go_at_call 190; refine (words_calls B a len cap _ _ (by omega) HD.out.c).mono ?_; rintro e w1 ⟨⟨s, rfl, hs⟩, hc, hg⟩; have HD' : Hid (DS w B a len cap _ w1) := HD.out.step hc hg; have HL' : Hid (LB w.heap.size _ w1) := HL.out.step hg HD.out.ne; clear HD HL z0 z1 z2 z3 z4 zf; have HD : Hid (DS w B a len cap _ w1) := HD'.out; have HL : Hid (LB w.heap.size _ w1) := HL'.out; clear HD' HL'; obtain ⟨z0, z1, z2, z3, z4⟩ := HL.out.c; have zf := HL.out.fr; clear hc hg) | (go_at_call 69; refine (l1strD_calls _ _).mono ?_; rintro e w2 ⟨rfl, hb⟩; have HD' : Hid (DS w B a len cap _ w2) := HD.out.below hb; have HL' : Hid (LB w.heap.size _ w2) := HL.out.call hb; clear HD HL z0 z1 z2 z3 z4 zf; have HD : Hid (DS w B a len cap _ w2) := HD'.out; have HL : Hid (LB w.heap.size _ w2) := HL'.out; clear HD' HL'; obtain ⟨z0, z1, z2, z3, z4⟩ := HL.out.c; have zf := HL.out.fr; clear hb))
    all_goals exact bodyPost_ret (v := vOf 4 0 0 s 0) (by simp [results, Tryz.results102, go_sem, z0, z1, z2, z3, z4]) rfl ⟨⟨⟨4, 0, 0, s, 0⟩, rfl, vw_of (i64s (by omega) (by omega)) (by decide) hs⟩, (HD.out.setR5 _ _ _ _ _).c.mono (by omega), (HD.out.setR5 _ _ _ _ _).g⟩
  · go_wp2_with (first | (have hq : vb = vb := rfl; clear hq; go_at_call 187; refine (pick_calls B a len cap _ _ _ (by omega) (by omega) (by omega) HD.out.c).mono ?_; rintro e w1 ⟨⟨vc, rfl, vc0, vc1⟩, hc, hg⟩; have HD' : Hid (DS w B a len cap _ w1) := HD.out.step hc hg; have HL' : Hid (LB w.heap.size _ w1) := HL.out.step hg HD.out.ne; clear HD HL z0 z1 z2 z3 z4 zf; have HD : Hid (DS w B a len cap _ w1) := HD'.out; have HL : Hid (LB w.heap.size _ w1) := HL'.out; clear HD' HL'; obtain ⟨z0, z1, z2, z3, z4⟩ := HL.out.c; have zf := HL.out.fr; clear hc hg) | (have hq : va = va := rfl; clear hq; go_at_call 187; refine (pick_calls B a len cap _ _ _ (by omega) (by omega) (by omega) HD.out.c).mono ?_; rintro e w1 ⟨⟨vb, rfl, vb0, vb1⟩, hc, hg⟩; have HD' : Hid (DS w B a len cap _ w1) := HD.out.step hc hg; have HL' : Hid (LB w.heap.size _ w1) := HL.out.step hg HD.out.ne; clear HD HL z0 z1 z2 z3 z4 zf; have HD : Hid (DS w B a len cap _ w1) := HD'.out; have HL : Hid (LB w.heap.size _ w1) := HL'.out; clear HD' HL'; obtain ⟨z0, z1, z2, z3, z4⟩ := HL.out.c; have zf := HL.out.fr; clear hc hg) | (go_at_call 187; refine (pick_calls B a len cap _ _ _ (by omega) (by omega) (by omega) HD.out.c).mono ?_; rintro e w1 ⟨⟨va, rfl, va0, va1⟩, hc, hg⟩; have HD' : Hid (DS w B a len cap _ w1) := HD.out.step hc hg; have HL' : Hid (LB w.heap.size _ w1) := HL.out.step hg HD.out.ne; clear HD HL z0 z1 z2 z3 z4 zf; have HD : Hid (DS w B a len cap _ w1) := HD'.out; have HL : Hid (LB w.heap.size _ w1) := HL'.out; clear HD' HL'; obtain ⟨z0, z1, z2, z3, z4⟩ := HL.out.c; have zf := HL.out.fr; clear hc hg))
    all_goals exact bodyPost_ret (v := vOf (5 + va) 0 0 ⟨#[]⟩ vb) (by simp [results, Tryz.results102, go_sem, z0, z1, z2, z3, z4]) rfl ⟨⟨⟨(5 + va), 0, 0, ⟨#[]⟩, vb⟩, rfl, vw_of (i64s (by omega) (by omega)) (by decide) (by decide)⟩, (HD.out.setR5 _ _ _ _ _).c.mono (by omega), (HD.out.setR5 _ _ _ _ _).g⟩
  · go_wp2_with (go_at_call 187; refine (pick_calls B a len cap _ _ _ (by omega) (by omega) (by omega) HD.out.c).mono ?_; rintro e w1 ⟨⟨v, rfl, v0, v1⟩, hc, hg⟩; have HD' : Hid (DS w B a len cap _ w1) := HD.out.step hc hg; have HL' : Hid (LB w.heap.size _ w1) := HL.out.step hg HD.out.ne; clear HD HL z0 z1 z2 z3 z4 zf; have HD : Hid (DS w B a len cap _ w1) := HD'.out; have HL : Hid (LB w.heap.size _ w1) := HL'.out; clear HD' HL'; obtain ⟨z0, z1, z2, z3, z4⟩ := HL.out.c; have zf := HL.out.fr; clear hc hg)
    all_goals exact bodyPost_ret (v := vOf 8 v 0 ⟨#[]⟩ 0) (by simp [results, Tryz.results102, go_sem, z0, z1, z2, z3, z4]) rfl ⟨⟨⟨8, v, 0, ⟨#[]⟩, 0⟩, rfl, vw_of (i64s (by omega) (by omega)) (by decide) (by decide)⟩, (HD.out.setR5 _ _ _ _ _).c.mono (by omega), (HD.out.setR5 _ _ _ _ _).g⟩
  · go_wp2_with (first | (have hq : vb = vb := rfl; clear hq; go_at_call 187; refine (pick_calls B a len cap _ _ _ (by omega) (by omega) (by omega) HD.out.c).mono ?_; rintro e w1 ⟨⟨vc, rfl, vc0, vc1⟩, hc, hg⟩; have HD' : Hid (DS w B a len cap _ w1) := HD.out.step hc hg; have HL' : Hid (LB w.heap.size _ w1) := HL.out.step hg HD.out.ne; clear HD HL z0 z1 z2 z3 z4 zf; have HD : Hid (DS w B a len cap _ w1) := HD'.out; have HL : Hid (LB w.heap.size _ w1) := HL'.out; clear HD' HL'; obtain ⟨z0, z1, z2, z3, z4⟩ := HL.out.c; have zf := HL.out.fr; clear hc hg) | (have hq : va = va := rfl; clear hq; go_at_call 187; refine (pick_calls B a len cap _ _ _ (by omega) (by omega) (by omega) HD.out.c).mono ?_; rintro e w1 ⟨⟨vb, rfl, vb0, vb1⟩, hc, hg⟩; have HD' : Hid (DS w B a len cap _ w1) := HD.out.step hc hg; have HL' : Hid (LB w.heap.size _ w1) := HL.out.step hg HD.out.ne; clear HD HL z0 z1 z2 z3 z4 zf; have HD : Hid (DS w B a len cap _ w1) := HD'.out; have HL : Hid (LB w.heap.size _ w1) := HL'.out; clear HD' HL'; obtain ⟨z0, z1, z2, z3, z4⟩ := HL.out.c; have zf := HL.out.fr; clear hc hg) | (go_at_call 187; refine (pick_calls B a len cap _ _ _ (by omega) (by omega) (by omega) HD.out.c).mono ?_; rintro e w1 ⟨⟨va, rfl, va0, va1⟩, hc, hg⟩; have HD' : Hid (DS w B a len cap _ w1) := HD.out.step hc hg; have HL' : Hid (LB w.heap.size _ w1) := HL.out.step hg HD.out.ne; clear HD HL z0 z1 z2 z3 z4 zf; have HD : Hid (DS w B a len cap _ w1) := HD'.out; have HL : Hid (LB w.heap.size _ w1) := HL'.out; clear HD' HL'; obtain ⟨z0, z1, z2, z3, z4⟩ := HL.out.c; have zf := HL.out.fr; clear hc hg))
    have hlt : w.heap.size < w1.heap.size ∧ B < w1.heap.size := ⟨HL.out.h.lt, by obtain ⟨_, _, _, hh⟩ := HD.out.c; exact hh.lt⟩
    have HS : Hid (LB w1.heap.size ⟨va - 1, vb - 1, 0, ⟨#[]⟩, vc - 1⟩ (w1.alloc (.cells (vC5 ⟨va - 1, vb - 1, 0, ⟨#[]⟩, vc - 1⟩) 44))) := LB.new w1 _ _
    refine (pick_calls B a len cap _ 3 _ (by omega) (by omega) (by omega) (HD.out.alloc _).c).mono ?_
    rintro e w3 ⟨⟨x, rfl, x0, x1⟩, hc, hg⟩
    have HD3 : Hid (DS w B a len cap _ w3) := (HD.out.alloc _).step hc hg
    have HL3 : Hid (LB w.heap.size vz w3) := (HL.out.call (below_alloc _ _)).step hg HD.out.ne
    have HS3 : Hid (LB w1.heap.size ⟨va - 1, vb - 1, 0, ⟨#[]⟩, vc - 1⟩ w3) := HS.out.step hg (by omega)
    clear hc hg HS z0 z1 z2 z3 z4 zf HL HD
    obtain ⟨z0, z1, z2, z3, z4⟩ := HL3.out.c
    have zf := HL3.out.fr
    obtain ⟨s0, s1, s2, s3, s4⟩ := HS3.out.c
    have sf := HS3.out.fr
    simp only at s0 s1 s2 s3 s4
    have hne : w1.heap.size ≠ w.heap.size := by omega
    have hle : w.heap.size ≤ w1.heap.size := by omega
    generalize w1.heap.size = S at *
    by_cases hx : x = 0
    · subst hx
      go_wp2_with fail
      exact bodyPost_ret (v := vOf (va - 1) (vb - 1) 0 ⟨#[120]⟩ (vc - 1)) (by simp [results, Tryz.results102, go_sem, z0, z1, z2, z3, z4]) rfl ⟨⟨⟨va - 1, vb - 1, 0, ⟨#[120]⟩, vc - 1⟩, rfl, vw_of (i64s (by omega) (by omega)) (by decide) (by decide)⟩, ((HD3.out.setR hle 3 _).setR5 _ _ _ _ _).c.mono (by omega), ((HD3.out.setR hle 3 _).setR5 _ _ _ _ _).g⟩
    · have hxe : (x == 0) = false := by simpa using hx
      go_wp2_with fail
      exact bodyPost_ret (v := vOf (va - 1) (vb - 1) 0 ⟨#[]⟩ (vc - 1)) (by simp [results, Tryz.results102, go_sem, z0, z1, z2, z3, z4]) rfl ⟨⟨⟨va - 1, vb - 1, 0, ⟨#[]⟩, vc - 1⟩, rfl, vw_of (i64s (by omega) (by omega)) (by decide) (by decide)⟩, (HD3.out.setR5 _ _ _ _ _).c.mono (by omega), (HD3.out.setR5 _ _ _ _ _).g⟩
end Go.Proofs.YtiidepafifodjabGreat
