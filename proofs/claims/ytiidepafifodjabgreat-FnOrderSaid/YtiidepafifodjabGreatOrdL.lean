import Derived.Test.YtiidepafifodjabGreatDrwG
import Derived.Test.YtiidepafifodjabGreatOrdB
import Derived.Test.YtiidepafifodjabGreatOrdK
import Derived.Test.YtiidepafifodjabGreatValueOk
import Derived.Laws.StructEq
/-! FnOrder: the walk. -/
namespace Go.Proofs.YtiidepafifodjabGreat
open Go.RowKit
theorem oq_any {P : Program} (w : World) (d : Nat) (t : TypeId) (k k' : FloatKind) (a b : Nat) (h : P.underlying t = some (.float k')) : (Op.equalIn (d + 1) t (.float k a) (.float k b)).run P w = .ok (Op.floatEq k a b) w := by
  simp [Op.equalIn, run_underlying h]
theorem oq9 (w : World) : (Op.equalIn 9999 42 (.float .f64 0) (.float .f64 0)).run Tryz.prog w = .ok true w := by
  rw [oq_any w 9998 _ .f64 .f64 0 0 Tryz.underlying42]
  simp [Op.floatEq, order00]
theorem oq8 (w : World) : (Op.equalIn 9998 42 (.float .f64 0) (.float .f64 0)).run Tryz.prog w = .ok true w := by
  rw [oq_any w 9997 _ .f64 .f64 0 0 Tryz.underlying42]
  simp [Op.floatEq, order00]
theorem ofield_code (c k n : Int) (f : Nat) (s : ByteArray) (r : Int) (w : World) : (Instr.field 50 (gV c k n f s r) 0).run Tryz.prog w = .ok (.int .i64 c) w := by kernel_rfl
attribute [local go_sem] run_store_float oq9 oq8 ofield_code
attribute [local go_sem ↓] Go.wp_at_zero Go.wp_at_succ

/-- the law under way: three values in locals -/
structure OB (w : World) (x y z : VD) (B5 B6 B7 : Nat) (u : World) : Prop where
  h5 : LB B5 x u
  h6 : LB B6 y u
  h7 : LB B7 z u
  b : Below w.heap.size w u
theorem OB.call {w : World} {x y z : VD} {B5 B6 B7 : Nat} {u u' : World} (h : OB w x y z B5 B6 B7 u) (hb : Below u.heap.size u u') : OB w x y z B5 B6 B7 u' := ⟨h.h5.call hb, h.h6.call hb, h.h7.call hb, below_call h.b hb⟩
theorem OB.drew {w : World} {x y z : VD} {B5 B6 B7 : Nat} {u : World} (h : OB w x y z B5 B6 B7 u) : OB w x y z B5 B6 B7 u.drew := ⟨h.h5.drew, h.h6.drew, h.h7.drew, h.b.drew⟩
theorem OB.alloc {w : World} {x y z : VD} {B5 B6 B7 : Nat} {u : World} (h : OB w x y z B5 B6 B7 u) (o : Obj) : OB w x y z B5 B6 B7 (u.alloc o) := h.call (below_alloc u o)
theorem OB.c {w : World} {x y z : VD} {B5 B6 B7 : Nat} {u : World} (h : OB w x y z B5 B6 B7 u) : (u.cell? ⟨B5, 0, none⟩ = some (.int .i64 x.k) ∧ u.cell? ⟨B5, 1, none⟩ = some (.int .i64 x.n) ∧ u.cell? ⟨B5, 2, none⟩ = some (.float .f64 x.f) ∧ u.cell? ⟨B5, 3, none⟩ = some (.string x.s) ∧ u.cell? ⟨B5, 4, none⟩ = some (.int .i64 x.r)) ∧ (u.cell? ⟨B6, 0, none⟩ = some (.int .i64 y.k) ∧ u.cell? ⟨B6, 1, none⟩ = some (.int .i64 y.n) ∧ u.cell? ⟨B6, 2, none⟩ = some (.float .f64 y.f) ∧ u.cell? ⟨B6, 3, none⟩ = some (.string y.s) ∧ u.cell? ⟨B6, 4, none⟩ = some (.int .i64 y.r)) ∧ (u.cell? ⟨B7, 0, none⟩ = some (.int .i64 z.k) ∧ u.cell? ⟨B7, 1, none⟩ = some (.int .i64 z.n) ∧ u.cell? ⟨B7, 2, none⟩ = some (.float .f64 z.f) ∧ u.cell? ⟨B7, 3, none⟩ = some (.string z.s) ∧ u.cell? ⟨B7, 4, none⟩ = some (.int .i64 z.r)) := ⟨h.h5.c, h.h6.c, h.h7.c⟩

set_option maxRecDepth 100000 in
set_option maxHeartbeats 16000000 in
theorem order_walk (a : Option Addr) (len cap : Nat) (zs : List Int) (a' : Option Addr) (len' cap' : Nat) (zs' : List Int) (w : World) (hr : IsRow w a len cap zs) (hr' : IsRow w a' len' cap' zs') :
    Calls Tryz.prog 5 #[.slice a len cap, .slice a' len' cap'] w fun e w' => e = .returned (.bool true) ∧ Below w.heap.size w w' := by
  have HR : Hid (IsRow w a len cap zs) := hr
  have HR' : Hid (IsRow w a' len' cap' zs') := hr'
  clear hr hr'
  by_cases hbig : 1048576 < len
  · go_enter Tryz.func5, Tryz.ntmps5
    go_wp2_with fail
    go_ret
    exact ⟨rfl, Below.refl _ _⟩
  by_cases hbig' : 1048576 < len'
  · go_enter Tryz.func5, Tryz.ntmps5
    go_wp2_with fail
    go_ret
    exact ⟨rfl, Below.refl _ _⟩
  go_enter Tryz.func5, Tryz.ntmps5
  go_wp2_with fail
  refine (drawSame_calls a len cap zs w HR.out).mono ?_
  rintro e w1 ⟨⟨x, y, rfl, hx, hy⟩, hb1⟩
  have HR1 : Hid (IsRow ((w1.alloc (.cells (vC5 x) 44)).alloc (.cells (vC5 y) 44)) a' len' cap' zs') := isRow_below (isRow_below HR'.out hb1) (below_call (below_alloc _ _) (below_alloc _ _))
  have HB1 : Hid (Below w.heap.size w ((w1.alloc (.cells (vC5 x) 44)).alloc (.cells (vC5 y) 44))) := below_call hb1 (below_call (below_alloc _ _) (below_alloc _ _))
  clear hb1 HR HR'
  go_wp2_with fail
  refine (drawSame_calls a' len' cap' zs' _ HR1.out).mono ?_
  rintro e w2 ⟨⟨z, z', rfl, hz, hz'⟩, hb2⟩
  have H5 : Hid (LB w1.heap.size x w2) := ((LB.new w1 x 44).call (below_alloc _ _)).call hb2
  have H6 : Hid (LB (w1.heap.size + 1) y w2) := by
    have := LB.new (w1.alloc (.cells (vC5 x) 44)) y 44
    rw [World.size_alloc] at this
    exact this.call hb2
  have HO : Hid (OB w x y z w1.heap.size (w1.heap.size + 1) w2.heap.size ((w2.alloc (.cells (vC5 z) 44)).alloc (.cells (vC5 z') 44))) := ⟨(H5.out.call (below_alloc _ _)).call (below_alloc _ _), (H6.out.call (below_alloc _ _)).call (below_alloc _ _), (LB.new w2 z 44).call (below_alloc _ _), below_call (below_call HB1.out hb2) (below_call (below_alloc _ _) (below_alloc _ _))⟩
  clear H5 H6 HB1 HR1 hb2 hz'
  go_upto_region 5 with fail
  obtain ⟨U, hU⟩ : ∃ U, (w2.alloc (.cells (vC5 z) 44)).alloc (.cells (vC5 z') 44) = U := ⟨_, rfl⟩
  rw [hU] at HO ⊢
  clear hU
  generalize w2.heap.size = B7 at *
  generalize w1.heap.size + 1 = B6 at *
  generalize w1.heap.size = B5 at *
  have fx := hx.f
  have fy := hy.f
  have fz := hz.f
  have sx := hx.s
  have sy := hy.s
  obtain ⟨ab, hab⟩ : ∃ ab, x.cm y = ab := ⟨_, rfl⟩
  obtain ⟨ba, hba⟩ : ∃ ba, y.cm x = ba := ⟨_, rfl⟩
  obtain ⟨bc, hbc⟩ : ∃ bc, y.cm z = bc := ⟨_, rfl⟩
  obtain ⟨ac, hac⟩ : ∃ ac, x.cm z = ac := ⟨_, rfl⟩
  have Hab : Hid (cmG x.k x.n x.f x.s x.r y.k y.n y.f y.s y.r = ab) := hab
  have Hba : Hid (cmG y.k y.n y.f y.s y.r x.k x.n x.f x.s x.r = ba) := hba
  have Hbc : Hid (cmG y.k y.n y.f y.s y.r z.k z.n z.f z.s z.r = bc) := hbc
  have Hac : Hid (cmG x.k x.n x.f x.s x.r z.k z.n z.f z.s z.r = ac) := hac
  have Hw : Hid (VW x ∧ VW y ∧ VW z) := ⟨hx, hy, hz⟩
  clear hab hba hbc hac hx hy hz
  go_cut [41] (fun s wc => s = .bool false ∧ OB w x y z B5 B6 B7 wc)
  case first =>
    as_aux_lemma =>
      go_region_held3 (fun w' => (w'.cell? ⟨B5, 0, none⟩ = some (.int .i64 x.k) ∧ w'.cell? ⟨B5, 1, none⟩ = some (.int .i64 x.n) ∧ w'.cell? ⟨B5, 2, none⟩ = some (.float .f64 x.f) ∧ w'.cell? ⟨B5, 3, none⟩ = some (.string x.s) ∧ w'.cell? ⟨B5, 4, none⟩ = some (.int .i64 x.r)) ∧ (w'.cell? ⟨B6, 0, none⟩ = some (.int .i64 y.k) ∧ w'.cell? ⟨B6, 1, none⟩ = some (.int .i64 y.n) ∧ w'.cell? ⟨B6, 2, none⟩ = some (.float .f64 y.f) ∧ w'.cell? ⟨B6, 3, none⟩ = some (.string y.s) ∧ w'.cell? ⟨B6, 4, none⟩ = some (.int .i64 y.r)) ∧ (w'.cell? ⟨B7, 0, none⟩ = some (.int .i64 z.k) ∧ w'.cell? ⟨B7, 1, none⟩ = some (.int .i64 z.n) ∧ w'.cell? ⟨B7, 2, none⟩ = some (.float .f64 z.f) ∧ w'.cell? ⟨B7, 3, none⟩ = some (.string z.s) ∧ w'.cell? ⟨B7, 4, none⟩ = some (.int .i64 z.r))) (first | (with_reducible exact HO.out.c) | (with_reducible exact HO.out.drew.c)) (first | (go_at_call 20; refine (implOk_calls _ _ _ _ _ _).mono ?_; rintro e w1 ⟨rfl, hb1⟩; replace HO : Hid (OB w x y z B5 B6 B7 w1) := (by first | exact HO.out.call hb1 | exact HO.out.drew.call hb1); clear hb1) | (go_at_call 21; refine (specOk_calls _ _ _ _ _ _).mono ?_; rintro e w1 ⟨rfl, hb1⟩; replace HO : Hid (OB w x y z B5 B6 B7 w1) := (by first | exact HO.out.call hb1 | exact HO.out.drew.call hb1); clear hb1))
      all_goals go_wp2_with fail
      all_goals go_meet
      all_goals exact ⟨by simp, HO.out⟩
  case rest =>
    obtain ⟨rfl, ho⟩ := hcut
    replace HO : Hid (OB w x y z B5 B6 B7 wc) := ho
    clear ho
    obtain ⟨⟨c50, c51, c52, c53, c54⟩, ⟨c60, c61, c62, c63, c64⟩, c70, c71, c72, c73, c74⟩ := HO.out.c
    obtain ⟨xo, hxo⟩ : ∃ b, okB x.k x.n x.f x.s x.r = b := ⟨_, rfl⟩
    obtain ⟨yo, hyo⟩ : ∃ b, okB y.k y.n y.f y.s y.r = b := ⟨_, rfl⟩
    obtain ⟨zo, hzo⟩ : ∃ b, okB z.k z.n z.f z.s z.r = b := ⟨_, rfl⟩
    have Hxo : Hid (okB x.k x.n x.f x.s x.r = xo) := hxo
    have Hyo : Hid (okB y.k y.n y.f y.s y.r = yo) := hyo
    have Hzo : Hid (okB z.k z.n z.f z.s z.r = zo) := hzo
    clear hxo hyo hzo
    cases xo
    · as_aux_lemma =>
        go_upto_region 8 with (go_at_call 21; refine (specOk_calls _ _ _ _ _ _).mono ?_; rintro e w1 ⟨rfl, hb1⟩; (first | rw [Hxo.out] | rw [Hyo.out] | rw [Hzo.out]); clear c50 c51 c52 c53 c54 c60 c61 c62 c63 c64 c70 c71 c72 c73 c74; replace HO : Hid (OB w x y z B5 B6 B7 w1) := (by first | exact HO.out.call hb1 | exact HO.out.drew.call hb1); clear hb1; obtain ⟨⟨c50, c51, c52, c53, c54⟩, ⟨c60, c61, c62, c63, c64⟩, c70, c71, c72, c73, c74⟩ := HO.out.c)
        go_region_held3 (fun w' => (w'.cell? ⟨B5, 0, none⟩ = some (.int .i64 x.k) ∧ w'.cell? ⟨B5, 1, none⟩ = some (.int .i64 x.n) ∧ w'.cell? ⟨B5, 2, none⟩ = some (.float .f64 x.f) ∧ w'.cell? ⟨B5, 3, none⟩ = some (.string x.s) ∧ w'.cell? ⟨B5, 4, none⟩ = some (.int .i64 x.r)) ∧ (w'.cell? ⟨B6, 0, none⟩ = some (.int .i64 y.k) ∧ w'.cell? ⟨B6, 1, none⟩ = some (.int .i64 y.n) ∧ w'.cell? ⟨B6, 2, none⟩ = some (.float .f64 y.f) ∧ w'.cell? ⟨B6, 3, none⟩ = some (.string y.s) ∧ w'.cell? ⟨B6, 4, none⟩ = some (.int .i64 y.r)) ∧ (w'.cell? ⟨B7, 0, none⟩ = some (.int .i64 z.k) ∧ w'.cell? ⟨B7, 1, none⟩ = some (.int .i64 z.n) ∧ w'.cell? ⟨B7, 2, none⟩ = some (.float .f64 z.f) ∧ w'.cell? ⟨B7, 3, none⟩ = some (.string z.s) ∧ w'.cell? ⟨B7, 4, none⟩ = some (.int .i64 z.r))) (first | (with_reducible exact HO.out.c) | (with_reducible exact HO.out.drew.c)) (first | (go_at_call 22; refine (implCompare_calls _ _ _ _ _ _ _ _ _ _ (by assumption) (by assumption) _).mono ?_; rintro e w1 ⟨rfl, hb1⟩; (first | rw [Hab.out] | rw [Hba.out] | rw [Hbc.out] | rw [Hac.out]); replace HO : Hid (OB w x y z B5 B6 B7 w1) := (by first | exact HO.out.call hb1 | exact HO.out.drew.call hb1); clear hb1) | (go_at_call 23; refine (specCompare_calls _ _ _ _ _ _ _ _ _ _ (by assumption) (by assumption) (by assumption) (by assumption) _).mono ?_; rintro e w1 ⟨rfl, hb1⟩; (first | rw [Hab.out] | rw [Hba.out] | rw [Hbc.out] | rw [Hac.out]); replace HO : Hid (OB w x y z B5 B6 B7 w1) := (by first | exact HO.out.call hb1 | exact HO.out.drew.call hb1); clear hb1))
        all_goals go_wp2_with fail
        all_goals go_ret
        all_goals exact ⟨by simp, HO.out.b⟩
    cases yo
    · as_aux_lemma =>
        go_upto_region 8 with (go_at_call 21; refine (specOk_calls _ _ _ _ _ _).mono ?_; rintro e w1 ⟨rfl, hb1⟩; (first | rw [Hxo.out] | rw [Hyo.out] | rw [Hzo.out]); clear c50 c51 c52 c53 c54 c60 c61 c62 c63 c64 c70 c71 c72 c73 c74; replace HO : Hid (OB w x y z B5 B6 B7 w1) := (by first | exact HO.out.call hb1 | exact HO.out.drew.call hb1); clear hb1; obtain ⟨⟨c50, c51, c52, c53, c54⟩, ⟨c60, c61, c62, c63, c64⟩, c70, c71, c72, c73, c74⟩ := HO.out.c)
        go_region_held3 (fun w' => (w'.cell? ⟨B5, 0, none⟩ = some (.int .i64 x.k) ∧ w'.cell? ⟨B5, 1, none⟩ = some (.int .i64 x.n) ∧ w'.cell? ⟨B5, 2, none⟩ = some (.float .f64 x.f) ∧ w'.cell? ⟨B5, 3, none⟩ = some (.string x.s) ∧ w'.cell? ⟨B5, 4, none⟩ = some (.int .i64 x.r)) ∧ (w'.cell? ⟨B6, 0, none⟩ = some (.int .i64 y.k) ∧ w'.cell? ⟨B6, 1, none⟩ = some (.int .i64 y.n) ∧ w'.cell? ⟨B6, 2, none⟩ = some (.float .f64 y.f) ∧ w'.cell? ⟨B6, 3, none⟩ = some (.string y.s) ∧ w'.cell? ⟨B6, 4, none⟩ = some (.int .i64 y.r)) ∧ (w'.cell? ⟨B7, 0, none⟩ = some (.int .i64 z.k) ∧ w'.cell? ⟨B7, 1, none⟩ = some (.int .i64 z.n) ∧ w'.cell? ⟨B7, 2, none⟩ = some (.float .f64 z.f) ∧ w'.cell? ⟨B7, 3, none⟩ = some (.string z.s) ∧ w'.cell? ⟨B7, 4, none⟩ = some (.int .i64 z.r))) (first | (with_reducible exact HO.out.c) | (with_reducible exact HO.out.drew.c)) (first | (go_at_call 22; refine (implCompare_calls _ _ _ _ _ _ _ _ _ _ (by assumption) (by assumption) _).mono ?_; rintro e w1 ⟨rfl, hb1⟩; (first | rw [Hab.out] | rw [Hba.out] | rw [Hbc.out] | rw [Hac.out]); replace HO : Hid (OB w x y z B5 B6 B7 w1) := (by first | exact HO.out.call hb1 | exact HO.out.drew.call hb1); clear hb1) | (go_at_call 23; refine (specCompare_calls _ _ _ _ _ _ _ _ _ _ (by assumption) (by assumption) (by assumption) (by assumption) _).mono ?_; rintro e w1 ⟨rfl, hb1⟩; (first | rw [Hab.out] | rw [Hba.out] | rw [Hbc.out] | rw [Hac.out]); replace HO : Hid (OB w x y z B5 B6 B7 w1) := (by first | exact HO.out.call hb1 | exact HO.out.drew.call hb1); clear hb1))
        all_goals go_wp2_with fail
        all_goals go_ret
        all_goals exact ⟨by simp, HO.out.b⟩
    cases zo
    · as_aux_lemma =>
        go_upto_region 8 with (go_at_call 21; refine (specOk_calls _ _ _ _ _ _).mono ?_; rintro e w1 ⟨rfl, hb1⟩; (first | rw [Hxo.out] | rw [Hyo.out] | rw [Hzo.out]); clear c50 c51 c52 c53 c54 c60 c61 c62 c63 c64 c70 c71 c72 c73 c74; replace HO : Hid (OB w x y z B5 B6 B7 w1) := (by first | exact HO.out.call hb1 | exact HO.out.drew.call hb1); clear hb1; obtain ⟨⟨c50, c51, c52, c53, c54⟩, ⟨c60, c61, c62, c63, c64⟩, c70, c71, c72, c73, c74⟩ := HO.out.c)
        go_region_held3 (fun w' => (w'.cell? ⟨B5, 0, none⟩ = some (.int .i64 x.k) ∧ w'.cell? ⟨B5, 1, none⟩ = some (.int .i64 x.n) ∧ w'.cell? ⟨B5, 2, none⟩ = some (.float .f64 x.f) ∧ w'.cell? ⟨B5, 3, none⟩ = some (.string x.s) ∧ w'.cell? ⟨B5, 4, none⟩ = some (.int .i64 x.r)) ∧ (w'.cell? ⟨B6, 0, none⟩ = some (.int .i64 y.k) ∧ w'.cell? ⟨B6, 1, none⟩ = some (.int .i64 y.n) ∧ w'.cell? ⟨B6, 2, none⟩ = some (.float .f64 y.f) ∧ w'.cell? ⟨B6, 3, none⟩ = some (.string y.s) ∧ w'.cell? ⟨B6, 4, none⟩ = some (.int .i64 y.r)) ∧ (w'.cell? ⟨B7, 0, none⟩ = some (.int .i64 z.k) ∧ w'.cell? ⟨B7, 1, none⟩ = some (.int .i64 z.n) ∧ w'.cell? ⟨B7, 2, none⟩ = some (.float .f64 z.f) ∧ w'.cell? ⟨B7, 3, none⟩ = some (.string z.s) ∧ w'.cell? ⟨B7, 4, none⟩ = some (.int .i64 z.r))) (first | (with_reducible exact HO.out.c) | (with_reducible exact HO.out.drew.c)) (first | (go_at_call 22; refine (implCompare_calls _ _ _ _ _ _ _ _ _ _ (by assumption) (by assumption) _).mono ?_; rintro e w1 ⟨rfl, hb1⟩; (first | rw [Hab.out] | rw [Hba.out] | rw [Hbc.out] | rw [Hac.out]); replace HO : Hid (OB w x y z B5 B6 B7 w1) := (by first | exact HO.out.call hb1 | exact HO.out.drew.call hb1); clear hb1) | (go_at_call 23; refine (specCompare_calls _ _ _ _ _ _ _ _ _ _ (by assumption) (by assumption) (by assumption) (by assumption) _).mono ?_; rintro e w1 ⟨rfl, hb1⟩; (first | rw [Hab.out] | rw [Hba.out] | rw [Hbc.out] | rw [Hac.out]); replace HO : Hid (OB w x y z B5 B6 B7 w1) := (by first | exact HO.out.call hb1 | exact HO.out.drew.call hb1); clear hb1))
        all_goals go_wp2_with fail
        all_goals go_ret
        all_goals exact ⟨by simp, HO.out.b⟩
    go_upto_region 13 with (first | (go_at_call 21; refine (specOk_calls _ _ _ _ _ _).mono ?_; rintro e w1 ⟨rfl, hb1⟩; (first | rw [Hxo.out] | rw [Hyo.out] | rw [Hzo.out]); clear c50 c51 c52 c53 c54 c60 c61 c62 c63 c64 c70 c71 c72 c73 c74; replace HO : Hid (OB w x y z B5 B6 B7 w1) := (by first | exact HO.out.call hb1 | exact HO.out.drew.call hb1); clear hb1; obtain ⟨⟨c50, c51, c52, c53, c54⟩, ⟨c60, c61, c62, c63, c64⟩, c70, c71, c72, c73, c74⟩ := HO.out.c) | (go_at_call 22; refine (implCompare_calls _ _ _ _ _ _ _ _ _ _ (by assumption) (by assumption) _).mono ?_; rintro e w1 ⟨rfl, hb1⟩; (first | rw [Hab.out] | rw [Hba.out] | rw [Hbc.out] | rw [Hac.out]); clear c50 c51 c52 c53 c54 c60 c61 c62 c63 c64 c70 c71 c72 c73 c74; replace HO : Hid (OB w x y z B5 B6 B7 w1) := (by first | exact HO.out.call hb1 | exact HO.out.drew.call hb1); clear hb1; obtain ⟨⟨c50, c51, c52, c53, c54⟩, ⟨c60, c61, c62, c63, c64⟩, c70, c71, c72, c73, c74⟩ := HO.out.c))
    have hrg := cm_rng (x := x) (y := y) Hxo.out Hyo.out Hw.out.1 Hw.out.2.1
    have htn := cm_turn (x := x) (y := y) Hxo.out Hyo.out Hw.out.1 Hw.out.2.1
    have hls := cm_less (x := x) (y := y) (z := z) Hxo.out Hyo.out Hzo.out Hw.out.1 Hw.out.2.1 Hw.out.2.2
    have heq := cm_equal (x := x) (y := y) (z := z) Hxo.out Hyo.out Hzo.out Hw.out.1 Hw.out.2.1 Hw.out.2.2
    rw [show x.cm y = ab from Hab.out] at hrg htn hls heq
    rw [show y.cm x = ba from Hba.out] at htn
    rw [show y.cm z = bc from Hbc.out, show x.cm z = ac from Hac.out] at hls heq
    have hrg' : ab = -1 ∨ ab = 0 ∨ ab = 1 ∨ ab = 2 ∨ ab = 3 := by omega
    have Hrg : Hid (ab = -1 ∨ ab = 0 ∨ ab = 1 ∨ ab = 2 ∨ ab = 3) := hrg'
    clear hrg'
    have Htn : Hid ((ab < 2 → ba = -ab) ∧ (2 ≤ ab → ba = ab)) := htn
    have Hls : Hid (ab = -1 → bc = -1 → ac = -1) := hls
    have Heq : Hid (ab = 0 → bc < 2 → ac = bc) := heq
    clear hrg htn hls heq
    go_cut [97] (fun s wd => s = .bool false ∧ OB w x y z B5 B6 B7 wd)
    case first =>
      as_aux_lemma =>
        rcases Hrg.out with rfl | rfl | rfl | rfl | rfl
        · obtain rfl : ba = 1 := by have := Htn.out; omega
          go_wp2_with (go_at_call 23; refine (specCompare_calls _ _ _ _ _ _ _ _ _ _ (by assumption) (by assumption) (by assumption) (by assumption) _).mono ?_; rintro e w1 ⟨rfl, hb1⟩; (first | rw [Hab.out] | rw [Hba.out] | rw [Hbc.out] | rw [Hac.out]); clear c50 c51 c52 c53 c54 c60 c61 c62 c63 c64 c70 c71 c72 c73 c74; replace HO : Hid (OB w x y z B5 B6 B7 w1) := (by first | exact HO.out.call hb1 | exact HO.out.drew.call hb1); clear hb1; obtain ⟨⟨c50, c51, c52, c53, c54⟩, ⟨c60, c61, c62, c63, c64⟩, c70, c71, c72, c73, c74⟩ := HO.out.c)
          go_meet
          exact ⟨rfl, HO.out⟩
        · obtain rfl : ba = 0 := by have := Htn.out; omega
          go_wp2_with (go_at_call 23; refine (specCompare_calls _ _ _ _ _ _ _ _ _ _ (by assumption) (by assumption) (by assumption) (by assumption) _).mono ?_; rintro e w1 ⟨rfl, hb1⟩; (first | rw [Hab.out] | rw [Hba.out] | rw [Hbc.out] | rw [Hac.out]); clear c50 c51 c52 c53 c54 c60 c61 c62 c63 c64 c70 c71 c72 c73 c74; replace HO : Hid (OB w x y z B5 B6 B7 w1) := (by first | exact HO.out.call hb1 | exact HO.out.drew.call hb1); clear hb1; obtain ⟨⟨c50, c51, c52, c53, c54⟩, ⟨c60, c61, c62, c63, c64⟩, c70, c71, c72, c73, c74⟩ := HO.out.c)
          go_meet
          exact ⟨rfl, HO.out⟩
        · obtain rfl : ba = -1 := by have := Htn.out; omega
          go_wp2_with (go_at_call 23; refine (specCompare_calls _ _ _ _ _ _ _ _ _ _ (by assumption) (by assumption) (by assumption) (by assumption) _).mono ?_; rintro e w1 ⟨rfl, hb1⟩; (first | rw [Hab.out] | rw [Hba.out] | rw [Hbc.out] | rw [Hac.out]); clear c50 c51 c52 c53 c54 c60 c61 c62 c63 c64 c70 c71 c72 c73 c74; replace HO : Hid (OB w x y z B5 B6 B7 w1) := (by first | exact HO.out.call hb1 | exact HO.out.drew.call hb1); clear hb1; obtain ⟨⟨c50, c51, c52, c53, c54⟩, ⟨c60, c61, c62, c63, c64⟩, c70, c71, c72, c73, c74⟩ := HO.out.c)
          go_meet
          exact ⟨rfl, HO.out⟩
        · obtain rfl : ba = 2 := by have := Htn.out; omega
          go_wp2_with (go_at_call 23; refine (specCompare_calls _ _ _ _ _ _ _ _ _ _ (by assumption) (by assumption) (by assumption) (by assumption) _).mono ?_; rintro e w1 ⟨rfl, hb1⟩; (first | rw [Hab.out] | rw [Hba.out] | rw [Hbc.out] | rw [Hac.out]); clear c50 c51 c52 c53 c54 c60 c61 c62 c63 c64 c70 c71 c72 c73 c74; replace HO : Hid (OB w x y z B5 B6 B7 w1) := (by first | exact HO.out.call hb1 | exact HO.out.drew.call hb1); clear hb1; obtain ⟨⟨c50, c51, c52, c53, c54⟩, ⟨c60, c61, c62, c63, c64⟩, c70, c71, c72, c73, c74⟩ := HO.out.c)
          go_meet
          exact ⟨rfl, HO.out⟩
        · obtain rfl : ba = 3 := by have := Htn.out; omega
          go_wp2_with (go_at_call 23; refine (specCompare_calls _ _ _ _ _ _ _ _ _ _ (by assumption) (by assumption) (by assumption) (by assumption) _).mono ?_; rintro e w1 ⟨rfl, hb1⟩; (first | rw [Hab.out] | rw [Hba.out] | rw [Hbc.out] | rw [Hac.out]); clear c50 c51 c52 c53 c54 c60 c61 c62 c63 c64 c70 c71 c72 c73 c74; replace HO : Hid (OB w x y z B5 B6 B7 w1) := (by first | exact HO.out.call hb1 | exact HO.out.drew.call hb1); clear hb1; obtain ⟨⟨c50, c51, c52, c53, c54⟩, ⟨c60, c61, c62, c63, c64⟩, c70, c71, c72, c73, c74⟩ := HO.out.c)
          go_meet
          exact ⟨rfl, HO.out⟩
    case rest =>
      clear c50 c51 c52 c53 c54 c60 c61 c62 c63 c64 c70 c71 c72 c73 c74
      obtain ⟨rfl, ho⟩ := hcut
      replace HO : Hid (OB w x y z B5 B6 B7 wc) := ho
      clear ho
      go_upto_region 15 with fail
      go_cut [120] (fun s wd => s = .bool false ∧ OB w x y z B5 B6 B7 wd)
      case first =>
        as_aux_lemma =>
          by_cases h1 : ab = -1
          · subst h1
            by_cases h2 : bc = -1
            · subst h2
              obtain rfl : ac = -1 := Hls.out rfl rfl
              go_wp2_with fail
              go_meet
              exact ⟨rfl, HO.out⟩
            · have h2' : (bc == -1) = false := by simpa using h2
              go_wp2_with fail
              go_meet
              exact ⟨rfl, HO.out⟩
          · have h1' : (ab == -1) = false := by simpa using h1
            by_cases h0 : ab = 0
            · subst h0
              by_cases h2 : bc < 2
              · obtain rfl : ac = bc := Heq.out rfl h2
                go_wp2_with fail
                go_meet
                exact ⟨by simp, HO.out⟩
              · go_wp2_with fail
                go_meet
                exact ⟨rfl, HO.out⟩
            · have h0' : (ab == 0) = false := by simpa using h0
              go_wp2_with fail
              go_meet
              exact ⟨rfl, HO.out⟩
      case rest =>
        obtain ⟨rfl, ho⟩ := hcut
        replace HO : Hid (OB w x y z B5 B6 B7 wc) := ho
        clear ho
        have Hb17 : Hid (∀ w, Calls Tryz.prog 24 #[.int .i64 17, x.v, y.v] w fun e w' => e = .returned (gV (ovc ab) (ovk ab) (ovn 17 ab) 0 ⟨#[]⟩ 0) ∧ Below w.heap.size w w') := fun w => by
          have h := bin_calls 17 (by omega) x y Hxo.out Hyo.out Hw.out.1 Hw.out.2.1 w
          rw [show x.cm y = ab from Hab.out] at h
          exact h
        have Hb18 : Hid (∀ w, Calls Tryz.prog 24 #[.int .i64 18, x.v, y.v] w fun e w' => e = .returned (gV (ovc ab) (ovk ab) (ovn 18 ab) 0 ⟨#[]⟩ 0) ∧ Below w.heap.size w w') := fun w => by
          have h := bin_calls 18 (by omega) x y Hxo.out Hyo.out Hw.out.1 Hw.out.2.1 w
          rw [show x.cm y = ab from Hab.out] at h
          exact h
        obtain ⟨e1, e2, e3, e4⟩ : ovc ba = ovc ab ∧ ovk ba = ovk ab ∧ ovn 15 ba = ovn 17 ab ∧ ovn 16 ba = ovn 18 ab := by
          rcases Hrg.out with rfl | rfl | rfl | rfl | rfl
          · obtain rfl : ba = 1 := by have := Htn.out; omega
            decide
          · obtain rfl : ba = 0 := by have := Htn.out; omega
            decide
          · obtain rfl : ba = -1 := by have := Htn.out; omega
            decide
          · obtain rfl : ba = 2 := by have := Htn.out; omega
            decide
          · obtain rfl : ba = 3 := by have := Htn.out; omega
            decide
        have Hb15 : Hid (∀ w, Calls Tryz.prog 24 #[.int .i64 15, y.v, x.v] w fun e w' => e = .returned (gV (ovc ab) (ovk ab) (ovn 17 ab) 0 ⟨#[]⟩ 0) ∧ Below w.heap.size w w') := fun w => by
          have h := bin_calls 15 (by omega) y x Hyo.out Hxo.out Hw.out.2.1 Hw.out.1 w
          rw [show y.cm x = ba from Hba.out] at h
          unfold ovV at h
          rw [e1, e2, e3] at h
          exact h
        have Hb16 : Hid (∀ w, Calls Tryz.prog 24 #[.int .i64 16, y.v, x.v] w fun e w' => e = .returned (gV (ovc ab) (ovk ab) (ovn 18 ab) 0 ⟨#[]⟩ 0) ∧ Below w.heap.size w w') := fun w => by
          have h := bin_calls 16 (by omega) y x Hyo.out Hxo.out Hw.out.2.1 Hw.out.1 w
          rw [show y.cm x = ba from Hba.out] at h
          unfold ovV at h
          rw [e1, e2, e4] at h
          exact h
        have HC : Hid ((ab = 3 ∧ ovc ab = 1) ∨ (ab ≠ 3 ∧ ovc ab = 0)) := by
          by_cases h : ab = 3
          · exact .inl ⟨h, by unfold ovc; rw [if_pos h]⟩
          · exact .inr ⟨h, by unfold ovc; rw [if_neg h]⟩
        clear e1 e2 e3 e4
        generalize ovc ab = C at *
        generalize ovk ab = K at *
        generalize ovn 17 ab = M at *
        generalize ovn 18 ab = M2 at *
        obtain ⟨⟨c50, c51, c52, c53, c54⟩, ⟨c60, c61, c62, c63, c64⟩, c70, c71, c72, c73, c74⟩ := HO.out.c
        go_upto_region 18 with (go_at_call 24; refine (Hb17.out _).mono ?_; rintro e w1 ⟨rfl, hb1⟩; clear c50 c51 c52 c53 c54 c60 c61 c62 c63 c64 c70 c71 c72 c73 c74; have HbX : Hid (Below _ _ w1) := hb1; clear hb1)
        have G13 : Hid (Has (w1.alloc (.cells #[.int .i64 C, .int .i64 K, .int .i64 M, .float .f64 0, .string ⟨#[]⟩, .int .i64 0] 50)) w1.heap.size #[.int .i64 C, .int .i64 K, .int .i64 M, .float .f64 0, .string ⟨#[]⟩, .int .i64 0]) := Has.new _ _ _
        replace HO : Hid (OB w x y z B5 B6 B7 (w1.alloc (.cells #[.int .i64 C, .int .i64 K, .int .i64 M, .float .f64 0, .string ⟨#[]⟩, .int .i64 0] 50))) := (HO.out.call HbX.out).alloc _
        obtain ⟨VG13, hV⟩ : ∃ V, (w1.alloc (.cells #[.int .i64 C, .int .i64 K, .int .i64 M, .float .f64 0, .string ⟨#[]⟩, .int .i64 0] 50)) = V := ⟨_, rfl⟩
        rw [hV] at HO G13  ⊢
        clear hV HbX
        generalize w1.heap.size = S13 at *
        obtain ⟨⟨c50, c51, c52, c53, c54⟩, ⟨c60, c61, c62, c63, c64⟩, c70, c71, c72, c73, c74⟩ := HO.out.c
        go_upto_region 19 with (go_at_call 24; refine (Hb15.out _).mono ?_; rintro e w1 ⟨rfl, hb1⟩; clear c50 c51 c52 c53 c54 c60 c61 c62 c63 c64 c70 c71 c72 c73 c74; have HbX : Hid (Below _ _ w1) := hb1; clear hb1)
        replace G13 : Hid (Has (w1.alloc (.cells #[.int .i64 C, .int .i64 K, .int .i64 M, .float .f64 0, .string ⟨#[]⟩, .int .i64 0] 50)) S13 #[.int .i64 C, .int .i64 K, .int .i64 M, .float .f64 0, .string ⟨#[]⟩, .int .i64 0]) := (G13.out.call HbX.out).alloc _
        have G14 : Hid (Has (w1.alloc (.cells #[.int .i64 C, .int .i64 K, .int .i64 M, .float .f64 0, .string ⟨#[]⟩, .int .i64 0] 50)) w1.heap.size #[.int .i64 C, .int .i64 K, .int .i64 M, .float .f64 0, .string ⟨#[]⟩, .int .i64 0]) := Has.new _ _ _
        replace HO : Hid (OB w x y z B5 B6 B7 (w1.alloc (.cells #[.int .i64 C, .int .i64 K, .int .i64 M, .float .f64 0, .string ⟨#[]⟩, .int .i64 0] 50))) := (HO.out.call HbX.out).alloc _
        obtain ⟨VG14, hV⟩ : ∃ V, (w1.alloc (.cells #[.int .i64 C, .int .i64 K, .int .i64 M, .float .f64 0, .string ⟨#[]⟩, .int .i64 0] 50)) = V := ⟨_, rfl⟩
        rw [hV] at HO G14 G13 ⊢
        clear hV HbX
        generalize w1.heap.size = S14 at *
        obtain ⟨⟨c50, c51, c52, c53, c54⟩, ⟨c60, c61, c62, c63, c64⟩, c70, c71, c72, c73, c74⟩ := HO.out.c
        go_upto_region 20 with (go_at_call 24; refine (Hb18.out _).mono ?_; rintro e w1 ⟨rfl, hb1⟩; clear c50 c51 c52 c53 c54 c60 c61 c62 c63 c64 c70 c71 c72 c73 c74; have HbX : Hid (Below _ _ w1) := hb1; clear hb1)
        replace G13 : Hid (Has (w1.alloc (.cells #[.int .i64 C, .int .i64 K, .int .i64 M2, .float .f64 0, .string ⟨#[]⟩, .int .i64 0] 50)) S13 #[.int .i64 C, .int .i64 K, .int .i64 M, .float .f64 0, .string ⟨#[]⟩, .int .i64 0]) := (G13.out.call HbX.out).alloc _
        replace G14 : Hid (Has (w1.alloc (.cells #[.int .i64 C, .int .i64 K, .int .i64 M2, .float .f64 0, .string ⟨#[]⟩, .int .i64 0] 50)) S14 #[.int .i64 C, .int .i64 K, .int .i64 M, .float .f64 0, .string ⟨#[]⟩, .int .i64 0]) := (G14.out.call HbX.out).alloc _
        have G15 : Hid (Has (w1.alloc (.cells #[.int .i64 C, .int .i64 K, .int .i64 M2, .float .f64 0, .string ⟨#[]⟩, .int .i64 0] 50)) w1.heap.size #[.int .i64 C, .int .i64 K, .int .i64 M2, .float .f64 0, .string ⟨#[]⟩, .int .i64 0]) := Has.new _ _ _
        replace HO : Hid (OB w x y z B5 B6 B7 (w1.alloc (.cells #[.int .i64 C, .int .i64 K, .int .i64 M2, .float .f64 0, .string ⟨#[]⟩, .int .i64 0] 50))) := (HO.out.call HbX.out).alloc _
        obtain ⟨VG15, hV⟩ : ∃ V, (w1.alloc (.cells #[.int .i64 C, .int .i64 K, .int .i64 M2, .float .f64 0, .string ⟨#[]⟩, .int .i64 0] 50)) = V := ⟨_, rfl⟩
        rw [hV] at HO G15 G13 G14 ⊢
        clear hV HbX
        generalize w1.heap.size = S15 at *
        obtain ⟨⟨c50, c51, c52, c53, c54⟩, ⟨c60, c61, c62, c63, c64⟩, c70, c71, c72, c73, c74⟩ := HO.out.c
        go_upto_region 21 with (go_at_call 24; refine (Hb16.out _).mono ?_; rintro e w1 ⟨rfl, hb1⟩; clear c50 c51 c52 c53 c54 c60 c61 c62 c63 c64 c70 c71 c72 c73 c74; have HbX : Hid (Below _ _ w1) := hb1; clear hb1)
        replace G13 : Hid (Has (w1.alloc (.cells #[.int .i64 C, .int .i64 K, .int .i64 M2, .float .f64 0, .string ⟨#[]⟩, .int .i64 0] 50)) S13 #[.int .i64 C, .int .i64 K, .int .i64 M, .float .f64 0, .string ⟨#[]⟩, .int .i64 0]) := (G13.out.call HbX.out).alloc _
        replace G14 : Hid (Has (w1.alloc (.cells #[.int .i64 C, .int .i64 K, .int .i64 M2, .float .f64 0, .string ⟨#[]⟩, .int .i64 0] 50)) S14 #[.int .i64 C, .int .i64 K, .int .i64 M, .float .f64 0, .string ⟨#[]⟩, .int .i64 0]) := (G14.out.call HbX.out).alloc _
        replace G15 : Hid (Has (w1.alloc (.cells #[.int .i64 C, .int .i64 K, .int .i64 M2, .float .f64 0, .string ⟨#[]⟩, .int .i64 0] 50)) S15 #[.int .i64 C, .int .i64 K, .int .i64 M2, .float .f64 0, .string ⟨#[]⟩, .int .i64 0]) := (G15.out.call HbX.out).alloc _
        have G16 : Hid (Has (w1.alloc (.cells #[.int .i64 C, .int .i64 K, .int .i64 M2, .float .f64 0, .string ⟨#[]⟩, .int .i64 0] 50)) w1.heap.size #[.int .i64 C, .int .i64 K, .int .i64 M2, .float .f64 0, .string ⟨#[]⟩, .int .i64 0]) := Has.new _ _ _
        replace HO : Hid (OB w x y z B5 B6 B7 (w1.alloc (.cells #[.int .i64 C, .int .i64 K, .int .i64 M2, .float .f64 0, .string ⟨#[]⟩, .int .i64 0] 50))) := (HO.out.call HbX.out).alloc _
        obtain ⟨VG16, hV⟩ : ∃ V, (w1.alloc (.cells #[.int .i64 C, .int .i64 K, .int .i64 M2, .float .f64 0, .string ⟨#[]⟩, .int .i64 0] 50)) = V := ⟨_, rfl⟩
        rw [hV] at HO G16 G13 G14 G15 ⊢
        clear hV HbX
        generalize w1.heap.size = S16 at *
        go_cut [148] (fun s wd => s = .bool false ∧ OB w x y z B5 B6 B7 wd)
        case first =>
          as_aux_lemma =>
            have q13 := G13.out.at
            have q14 := G14.out.at
            have q15 := G15.out.at
            have q16 := G16.out.at
            rcases HC.out with ⟨rfl, rfl⟩ | ⟨h3, rfl⟩
            · go_wp2_with fail
              go_meet
              exact ⟨by simp, HO.out⟩
            · have h3' : (ab == 3) = false := by simpa using h3
              go_wp2_with fail
              go_meet
              exact ⟨by simp [h3], HO.out⟩
        case rest =>
          obtain ⟨rfl, ho⟩ := hcut
          replace HO : Hid (OB w x y z B5 B6 B7 wc) := ho
          clear ho G13 G14 G15 G16 Hb15 Hb16 Hb17 Hb18 HC
          have hxk : kc x = 0 → kc (kv x) = 0 ∧ (kv x).same x = true := fun h => key_own Hxo.out Hw.out.1 h
          have hsame : x.same y = true → kc x = kc y ∧ (kc x = 0 → (kv x).same (kv y) = true) := fun h => key_same Hxo.out Hyo.out Hw.out.1 Hw.out.2.1 h
          have vx := kv_w Hxo.out Hw.out.1
          have vy := kv_w Hyo.out Hw.out.2.1
          have HKx : Hid (∀ w, Calls Tryz.prog 25 #[x.v] w fun e w' => e = .returned (kgV (kc x) (kv x)) ∧ Below w.heap.size w w') := fun w => by rw [← kyG_kv]; exact implKey_calls _ _ _ _ _ fx w
          have HKy : Hid (∀ w, Calls Tryz.prog 25 #[y.v] w fun e w' => e = .returned (kgV (kc y) (kv y)) ∧ Below w.heap.size w w') := fun w => by rw [← kyG_kv]; exact implKey_calls _ _ _ _ _ fy w
          have HKk : Hid (∀ w, Calls Tryz.prog 25 #[(kv x).v] w fun e w' => e = .returned (kgV (kc (kv x)) (kv (kv x))) ∧ Below w.heap.size w w') := fun w => by rw [← kyG_kv]; exact implKey_calls _ _ _ _ _ vx.f w
          have HS : Hid (∀ w, Calls Tryz.prog 26 #[x.v, y.v] w fun e w' => e = .returned (.bool (x.same y)) ∧ Below w.heap.size w w') := fun w => implSame_calls _ _ _ _ _ _ _ _ _ _ fx fy w
          have HSk : Hid (∀ w, Calls Tryz.prog 26 #[(kv x).v, (kv y).v] w fun e w' => e = .returned (.bool ((kv x).same (kv y))) ∧ Below w.heap.size w w') := fun w => implSame_calls _ _ _ _ _ _ _ _ _ _ vx.f vy.f w
          have HSo : Hid (∀ w, Calls Tryz.prog 26 #[(kv x).v, x.v] w fun e w' => e = .returned (.bool ((kv x).same x)) ∧ Below w.heap.size w w') := fun w => implSame_calls _ _ _ _ _ _ _ _ _ _ vx.f fx w
          generalize x.same y = sm at *
          generalize (kv x).same (kv y) = sk at *
          generalize (kv x).same x = so at *
          generalize kc (kv x) = ck at *
          generalize kv (kv x) = kk at *
          generalize kv x = kx at *
          generalize kv y = ky at *
          generalize kc x = cx at *
          generalize kc y = cy at *
          clear vx vy
          cases sm
          · clear hsame HSk
            by_cases hc : cx = 0
            · subst hc
              obtain ⟨rfl, rfl⟩ := hxk rfl
              clear hxk
              obtain ⟨⟨c50, c51, c52, c53, c54⟩, ⟨c60, c61, c62, c63, c64⟩, c70, c71, c72, c73, c74⟩ := HO.out.c
              go_upto_region 24 with (go_at_call 25; refine (HKx.out _).mono ?_; rintro e w1 ⟨rfl, hb1⟩; clear c50 c51 c52 c53 c54 c60 c61 c62 c63 c64 c70 c71 c72 c73 c74; have HbX : Hid (Below _ _ w1) := hb1; clear hb1)
              have G17 : Hid (Has (w1.alloc (.cells #[.int .i64 0, .int .i64 kx.k, .int .i64 kx.n, .float .f64 kx.f, .string kx.s, .int .i64 kx.r] 50)) w1.heap.size #[.int .i64 0, .int .i64 kx.k, .int .i64 kx.n, .float .f64 kx.f, .string kx.s, .int .i64 kx.r]) := Has.new _ _ _
              replace HO : Hid (OB w x y z B5 B6 B7 (w1.alloc (.cells #[.int .i64 0, .int .i64 kx.k, .int .i64 kx.n, .float .f64 kx.f, .string kx.s, .int .i64 kx.r] 50))) := (HO.out.call HbX.out).alloc _
              obtain ⟨V17, hV⟩ : ∃ V, (w1.alloc (.cells #[.int .i64 0, .int .i64 kx.k, .int .i64 kx.n, .float .f64 kx.f, .string kx.s, .int .i64 kx.r] 50)) = V := ⟨_, rfl⟩
              rw [hV] at HO G17 ⊢
              clear hV HbX
              generalize w1.heap.size = S17 at *
              obtain ⟨⟨c50, c51, c52, c53, c54⟩, ⟨c60, c61, c62, c63, c64⟩, c70, c71, c72, c73, c74⟩ := HO.out.c
              go_upto_region 25 with (go_at_call 25; refine (HKy.out _).mono ?_; rintro e w1 ⟨rfl, hb1⟩; clear c50 c51 c52 c53 c54 c60 c61 c62 c63 c64 c70 c71 c72 c73 c74; have HbX : Hid (Below _ _ w1) := hb1; clear hb1)
              replace G17 : Hid (Has (w1.alloc (.cells #[.int .i64 cy, .int .i64 ky.k, .int .i64 ky.n, .float .f64 ky.f, .string ky.s, .int .i64 ky.r] 50)) S17 #[.int .i64 0, .int .i64 kx.k, .int .i64 kx.n, .float .f64 kx.f, .string kx.s, .int .i64 kx.r]) := (G17.out.call HbX.out).alloc _
              have G18 : Hid (Has (w1.alloc (.cells #[.int .i64 cy, .int .i64 ky.k, .int .i64 ky.n, .float .f64 ky.f, .string ky.s, .int .i64 ky.r] 50)) w1.heap.size #[.int .i64 cy, .int .i64 ky.k, .int .i64 ky.n, .float .f64 ky.f, .string ky.s, .int .i64 ky.r]) := Has.new _ _ _
              replace HO : Hid (OB w x y z B5 B6 B7 (w1.alloc (.cells #[.int .i64 cy, .int .i64 ky.k, .int .i64 ky.n, .float .f64 ky.f, .string ky.s, .int .i64 ky.r] 50))) := (HO.out.call HbX.out).alloc _
              obtain ⟨V18, hV⟩ : ∃ V, (w1.alloc (.cells #[.int .i64 cy, .int .i64 ky.k, .int .i64 ky.n, .float .f64 ky.f, .string ky.s, .int .i64 ky.r] 50)) = V := ⟨_, rfl⟩
              rw [hV] at HO G17 G18 ⊢
              clear hV HbX
              generalize w1.heap.size = S18 at *
              obtain ⟨⟨c50, c51, c52, c53, c54⟩, ⟨c60, c61, c62, c63, c64⟩, c70, c71, c72, c73, c74⟩ := HO.out.c
              have q17 := G17.out.at
              have q18 := G18.out.at
              go_upto_region 28 with (go_at_call 26; refine (HS.out _).mono ?_; rintro e w1 ⟨rfl, hb1⟩; clear q17 q18; replace G17 : Hid (Has w1 S17 #[.int .i64 0, .int .i64 kx.k, .int .i64 kx.n, .float .f64 kx.f, .string kx.s, .int .i64 kx.r]) := G17.out.call hb1; replace G18 : Hid (Has w1 S18 #[.int .i64 cy, .int .i64 ky.k, .int .i64 ky.n, .float .f64 ky.f, .string ky.s, .int .i64 ky.r]) := G18.out.call hb1; clear c50 c51 c52 c53 c54 c60 c61 c62 c63 c64 c70 c71 c72 c73 c74; replace HO : Hid (OB w x y z B5 B6 B7 w1) := (by first | exact HO.out.call hb1 | exact HO.out.drew.call hb1); clear hb1; obtain ⟨⟨c50, c51, c52, c53, c54⟩, ⟨c60, c61, c62, c63, c64⟩, c70, c71, c72, c73, c74⟩ := HO.out.c; have q17 := G17.out.at; have q18 := G18.out.at)
              go_wp2_with (first | (go_at_call 25; refine (HKk.out _).mono ?_; rintro e w1 ⟨rfl, hb1⟩; clear q17 q18; replace G17 : Hid (Has w1 S17 #[.int .i64 0, .int .i64 kx.k, .int .i64 kx.n, .float .f64 kx.f, .string kx.s, .int .i64 kx.r]) := G17.out.call hb1; replace G18 : Hid (Has w1 S18 #[.int .i64 cy, .int .i64 ky.k, .int .i64 ky.n, .float .f64 ky.f, .string ky.s, .int .i64 ky.r]) := G18.out.call hb1; clear c50 c51 c52 c53 c54 c60 c61 c62 c63 c64 c70 c71 c72 c73 c74; replace HO : Hid (OB w x y z B5 B6 B7 w1) := (by first | exact HO.out.call hb1 | exact HO.out.drew.call hb1); clear hb1; obtain ⟨⟨c50, c51, c52, c53, c54⟩, ⟨c60, c61, c62, c63, c64⟩, c70, c71, c72, c73, c74⟩ := HO.out.c; have q17 := G17.out.at; have q18 := G18.out.at) | (go_at_call 26; refine (HSo.out _).mono ?_; rintro e w1 ⟨rfl, hb1⟩; clear q17 q18; replace G17 : Hid (Has w1 S17 #[.int .i64 0, .int .i64 kx.k, .int .i64 kx.n, .float .f64 kx.f, .string kx.s, .int .i64 kx.r]) := G17.out.call hb1; replace G18 : Hid (Has w1 S18 #[.int .i64 cy, .int .i64 ky.k, .int .i64 ky.n, .float .f64 ky.f, .string ky.s, .int .i64 ky.r]) := G18.out.call hb1; clear c50 c51 c52 c53 c54 c60 c61 c62 c63 c64 c70 c71 c72 c73 c74; replace HO : Hid (OB w x y z B5 B6 B7 w1) := (by first | exact HO.out.call hb1 | exact HO.out.drew.call hb1); clear hb1; obtain ⟨⟨c50, c51, c52, c53, c54⟩, ⟨c60, c61, c62, c63, c64⟩, c70, c71, c72, c73, c74⟩ := HO.out.c; have q17 := G17.out.at; have q18 := G18.out.at))
              go_ret
              exact ⟨by simp, HO.out.b⟩
            · have hc' : (cx == 0) = false := by simpa using hc
              clear hxk HKk HSo
              obtain ⟨⟨c50, c51, c52, c53, c54⟩, ⟨c60, c61, c62, c63, c64⟩, c70, c71, c72, c73, c74⟩ := HO.out.c
              go_upto_region 24 with (go_at_call 25; refine (HKx.out _).mono ?_; rintro e w1 ⟨rfl, hb1⟩; clear c50 c51 c52 c53 c54 c60 c61 c62 c63 c64 c70 c71 c72 c73 c74; have HbX : Hid (Below _ _ w1) := hb1; clear hb1)
              have G17 : Hid (Has (w1.alloc (.cells #[.int .i64 cx, .int .i64 kx.k, .int .i64 kx.n, .float .f64 kx.f, .string kx.s, .int .i64 kx.r] 50)) w1.heap.size #[.int .i64 cx, .int .i64 kx.k, .int .i64 kx.n, .float .f64 kx.f, .string kx.s, .int .i64 kx.r]) := Has.new _ _ _
              replace HO : Hid (OB w x y z B5 B6 B7 (w1.alloc (.cells #[.int .i64 cx, .int .i64 kx.k, .int .i64 kx.n, .float .f64 kx.f, .string kx.s, .int .i64 kx.r] 50))) := (HO.out.call HbX.out).alloc _
              obtain ⟨V17, hV⟩ : ∃ V, (w1.alloc (.cells #[.int .i64 cx, .int .i64 kx.k, .int .i64 kx.n, .float .f64 kx.f, .string kx.s, .int .i64 kx.r] 50)) = V := ⟨_, rfl⟩
              rw [hV] at HO G17 ⊢
              clear hV HbX
              generalize w1.heap.size = S17 at *
              obtain ⟨⟨c50, c51, c52, c53, c54⟩, ⟨c60, c61, c62, c63, c64⟩, c70, c71, c72, c73, c74⟩ := HO.out.c
              go_upto_region 25 with (go_at_call 25; refine (HKy.out _).mono ?_; rintro e w1 ⟨rfl, hb1⟩; clear c50 c51 c52 c53 c54 c60 c61 c62 c63 c64 c70 c71 c72 c73 c74; have HbX : Hid (Below _ _ w1) := hb1; clear hb1)
              replace G17 : Hid (Has (w1.alloc (.cells #[.int .i64 cy, .int .i64 ky.k, .int .i64 ky.n, .float .f64 ky.f, .string ky.s, .int .i64 ky.r] 50)) S17 #[.int .i64 cx, .int .i64 kx.k, .int .i64 kx.n, .float .f64 kx.f, .string kx.s, .int .i64 kx.r]) := (G17.out.call HbX.out).alloc _
              have G18 : Hid (Has (w1.alloc (.cells #[.int .i64 cy, .int .i64 ky.k, .int .i64 ky.n, .float .f64 ky.f, .string ky.s, .int .i64 ky.r] 50)) w1.heap.size #[.int .i64 cy, .int .i64 ky.k, .int .i64 ky.n, .float .f64 ky.f, .string ky.s, .int .i64 ky.r]) := Has.new _ _ _
              replace HO : Hid (OB w x y z B5 B6 B7 (w1.alloc (.cells #[.int .i64 cy, .int .i64 ky.k, .int .i64 ky.n, .float .f64 ky.f, .string ky.s, .int .i64 ky.r] 50))) := (HO.out.call HbX.out).alloc _
              obtain ⟨V18, hV⟩ : ∃ V, (w1.alloc (.cells #[.int .i64 cy, .int .i64 ky.k, .int .i64 ky.n, .float .f64 ky.f, .string ky.s, .int .i64 ky.r] 50)) = V := ⟨_, rfl⟩
              rw [hV] at HO G17 G18 ⊢
              clear hV HbX
              generalize w1.heap.size = S18 at *
              obtain ⟨⟨c50, c51, c52, c53, c54⟩, ⟨c60, c61, c62, c63, c64⟩, c70, c71, c72, c73, c74⟩ := HO.out.c
              have q17 := G17.out.at
              have q18 := G18.out.at
              go_upto_region 28 with (go_at_call 26; refine (HS.out _).mono ?_; rintro e w1 ⟨rfl, hb1⟩; clear q17 q18; replace G17 : Hid (Has w1 S17 #[.int .i64 cx, .int .i64 kx.k, .int .i64 kx.n, .float .f64 kx.f, .string kx.s, .int .i64 kx.r]) := G17.out.call hb1; replace G18 : Hid (Has w1 S18 #[.int .i64 cy, .int .i64 ky.k, .int .i64 ky.n, .float .f64 ky.f, .string ky.s, .int .i64 ky.r]) := G18.out.call hb1; clear c50 c51 c52 c53 c54 c60 c61 c62 c63 c64 c70 c71 c72 c73 c74; replace HO : Hid (OB w x y z B5 B6 B7 w1) := (by first | exact HO.out.call hb1 | exact HO.out.drew.call hb1); clear hb1; obtain ⟨⟨c50, c51, c52, c53, c54⟩, ⟨c60, c61, c62, c63, c64⟩, c70, c71, c72, c73, c74⟩ := HO.out.c; have q17 := G17.out.at; have q18 := G18.out.at)
              go_wp2_with fail
              go_ret
              exact ⟨by simp, HO.out.b⟩
          · obtain ⟨rfl, hsk⟩ := hsame rfl
            by_cases hc : cx = 0
            · subst hc
              obtain ⟨rfl, rfl⟩ := hxk rfl
              obtain rfl := hsk rfl
              clear hxk hsame hsk
              obtain ⟨⟨c50, c51, c52, c53, c54⟩, ⟨c60, c61, c62, c63, c64⟩, c70, c71, c72, c73, c74⟩ := HO.out.c
              go_upto_region 24 with (go_at_call 25; refine (HKx.out _).mono ?_; rintro e w1 ⟨rfl, hb1⟩; clear c50 c51 c52 c53 c54 c60 c61 c62 c63 c64 c70 c71 c72 c73 c74; have HbX : Hid (Below _ _ w1) := hb1; clear hb1)
              have G17 : Hid (Has (w1.alloc (.cells #[.int .i64 0, .int .i64 kx.k, .int .i64 kx.n, .float .f64 kx.f, .string kx.s, .int .i64 kx.r] 50)) w1.heap.size #[.int .i64 0, .int .i64 kx.k, .int .i64 kx.n, .float .f64 kx.f, .string kx.s, .int .i64 kx.r]) := Has.new _ _ _
              replace HO : Hid (OB w x y z B5 B6 B7 (w1.alloc (.cells #[.int .i64 0, .int .i64 kx.k, .int .i64 kx.n, .float .f64 kx.f, .string kx.s, .int .i64 kx.r] 50))) := (HO.out.call HbX.out).alloc _
              obtain ⟨V17, hV⟩ : ∃ V, (w1.alloc (.cells #[.int .i64 0, .int .i64 kx.k, .int .i64 kx.n, .float .f64 kx.f, .string kx.s, .int .i64 kx.r] 50)) = V := ⟨_, rfl⟩
              rw [hV] at HO G17 ⊢
              clear hV HbX
              generalize w1.heap.size = S17 at *
              obtain ⟨⟨c50, c51, c52, c53, c54⟩, ⟨c60, c61, c62, c63, c64⟩, c70, c71, c72, c73, c74⟩ := HO.out.c
              go_upto_region 25 with (go_at_call 25; refine (HKy.out _).mono ?_; rintro e w1 ⟨rfl, hb1⟩; clear c50 c51 c52 c53 c54 c60 c61 c62 c63 c64 c70 c71 c72 c73 c74; have HbX : Hid (Below _ _ w1) := hb1; clear hb1)
              replace G17 : Hid (Has (w1.alloc (.cells #[.int .i64 0, .int .i64 ky.k, .int .i64 ky.n, .float .f64 ky.f, .string ky.s, .int .i64 ky.r] 50)) S17 #[.int .i64 0, .int .i64 kx.k, .int .i64 kx.n, .float .f64 kx.f, .string kx.s, .int .i64 kx.r]) := (G17.out.call HbX.out).alloc _
              have G18 : Hid (Has (w1.alloc (.cells #[.int .i64 0, .int .i64 ky.k, .int .i64 ky.n, .float .f64 ky.f, .string ky.s, .int .i64 ky.r] 50)) w1.heap.size #[.int .i64 0, .int .i64 ky.k, .int .i64 ky.n, .float .f64 ky.f, .string ky.s, .int .i64 ky.r]) := Has.new _ _ _
              replace HO : Hid (OB w x y z B5 B6 B7 (w1.alloc (.cells #[.int .i64 0, .int .i64 ky.k, .int .i64 ky.n, .float .f64 ky.f, .string ky.s, .int .i64 ky.r] 50))) := (HO.out.call HbX.out).alloc _
              obtain ⟨V18, hV⟩ : ∃ V, (w1.alloc (.cells #[.int .i64 0, .int .i64 ky.k, .int .i64 ky.n, .float .f64 ky.f, .string ky.s, .int .i64 ky.r] 50)) = V := ⟨_, rfl⟩
              rw [hV] at HO G17 G18 ⊢
              clear hV HbX
              generalize w1.heap.size = S18 at *
              obtain ⟨⟨c50, c51, c52, c53, c54⟩, ⟨c60, c61, c62, c63, c64⟩, c70, c71, c72, c73, c74⟩ := HO.out.c
              have q17 := G17.out.at
              have q18 := G18.out.at
              go_upto_region 26 with (go_at_call 26; refine (HS.out _).mono ?_; rintro e w1 ⟨rfl, hb1⟩; clear q17 q18; replace G17 : Hid (Has w1 S17 #[.int .i64 0, .int .i64 kx.k, .int .i64 kx.n, .float .f64 kx.f, .string kx.s, .int .i64 kx.r]) := G17.out.call hb1; replace G18 : Hid (Has w1 S18 #[.int .i64 0, .int .i64 ky.k, .int .i64 ky.n, .float .f64 ky.f, .string ky.s, .int .i64 ky.r]) := G18.out.call hb1; clear c50 c51 c52 c53 c54 c60 c61 c62 c63 c64 c70 c71 c72 c73 c74; replace HO : Hid (OB w x y z B5 B6 B7 w1) := (by first | exact HO.out.call hb1 | exact HO.out.drew.call hb1); clear hb1; obtain ⟨⟨c50, c51, c52, c53, c54⟩, ⟨c60, c61, c62, c63, c64⟩, c70, c71, c72, c73, c74⟩ := HO.out.c; have q17 := G17.out.at; have q18 := G18.out.at)
              go_upto_region 28 with (go_at_call 26; refine (HSk.out _).mono ?_; rintro e w1 ⟨rfl, hb1⟩; clear q17 q18; replace G17 : Hid (Has w1 S17 #[.int .i64 0, .int .i64 kx.k, .int .i64 kx.n, .float .f64 kx.f, .string kx.s, .int .i64 kx.r]) := G17.out.call hb1; replace G18 : Hid (Has w1 S18 #[.int .i64 0, .int .i64 ky.k, .int .i64 ky.n, .float .f64 ky.f, .string ky.s, .int .i64 ky.r]) := G18.out.call hb1; clear c50 c51 c52 c53 c54 c60 c61 c62 c63 c64 c70 c71 c72 c73 c74; replace HO : Hid (OB w x y z B5 B6 B7 w1) := (by first | exact HO.out.call hb1 | exact HO.out.drew.call hb1); clear hb1; obtain ⟨⟨c50, c51, c52, c53, c54⟩, ⟨c60, c61, c62, c63, c64⟩, c70, c71, c72, c73, c74⟩ := HO.out.c; have q17 := G17.out.at; have q18 := G18.out.at)
              go_wp2_with (first | (go_at_call 25; refine (HKk.out _).mono ?_; rintro e w1 ⟨rfl, hb1⟩; clear q17 q18; replace G17 : Hid (Has w1 S17 #[.int .i64 0, .int .i64 kx.k, .int .i64 kx.n, .float .f64 kx.f, .string kx.s, .int .i64 kx.r]) := G17.out.call hb1; replace G18 : Hid (Has w1 S18 #[.int .i64 0, .int .i64 ky.k, .int .i64 ky.n, .float .f64 ky.f, .string ky.s, .int .i64 ky.r]) := G18.out.call hb1; clear c50 c51 c52 c53 c54 c60 c61 c62 c63 c64 c70 c71 c72 c73 c74; replace HO : Hid (OB w x y z B5 B6 B7 w1) := (by first | exact HO.out.call hb1 | exact HO.out.drew.call hb1); clear hb1; obtain ⟨⟨c50, c51, c52, c53, c54⟩, ⟨c60, c61, c62, c63, c64⟩, c70, c71, c72, c73, c74⟩ := HO.out.c; have q17 := G17.out.at; have q18 := G18.out.at) | (go_at_call 26; refine (HSo.out _).mono ?_; rintro e w1 ⟨rfl, hb1⟩; clear q17 q18; replace G17 : Hid (Has w1 S17 #[.int .i64 0, .int .i64 kx.k, .int .i64 kx.n, .float .f64 kx.f, .string kx.s, .int .i64 kx.r]) := G17.out.call hb1; replace G18 : Hid (Has w1 S18 #[.int .i64 0, .int .i64 ky.k, .int .i64 ky.n, .float .f64 ky.f, .string ky.s, .int .i64 ky.r]) := G18.out.call hb1; clear c50 c51 c52 c53 c54 c60 c61 c62 c63 c64 c70 c71 c72 c73 c74; replace HO : Hid (OB w x y z B5 B6 B7 w1) := (by first | exact HO.out.call hb1 | exact HO.out.drew.call hb1); clear hb1; obtain ⟨⟨c50, c51, c52, c53, c54⟩, ⟨c60, c61, c62, c63, c64⟩, c70, c71, c72, c73, c74⟩ := HO.out.c; have q17 := G17.out.at; have q18 := G18.out.at))
              go_ret
              exact ⟨by simp, HO.out.b⟩
            · have hc' : (cx == 0) = false := by simpa using hc
              clear hxk HKk HSo hsk hsame HSk
              obtain ⟨⟨c50, c51, c52, c53, c54⟩, ⟨c60, c61, c62, c63, c64⟩, c70, c71, c72, c73, c74⟩ := HO.out.c
              go_upto_region 24 with (go_at_call 25; refine (HKx.out _).mono ?_; rintro e w1 ⟨rfl, hb1⟩; clear c50 c51 c52 c53 c54 c60 c61 c62 c63 c64 c70 c71 c72 c73 c74; have HbX : Hid (Below _ _ w1) := hb1; clear hb1)
              have G17 : Hid (Has (w1.alloc (.cells #[.int .i64 cx, .int .i64 kx.k, .int .i64 kx.n, .float .f64 kx.f, .string kx.s, .int .i64 kx.r] 50)) w1.heap.size #[.int .i64 cx, .int .i64 kx.k, .int .i64 kx.n, .float .f64 kx.f, .string kx.s, .int .i64 kx.r]) := Has.new _ _ _
              replace HO : Hid (OB w x y z B5 B6 B7 (w1.alloc (.cells #[.int .i64 cx, .int .i64 kx.k, .int .i64 kx.n, .float .f64 kx.f, .string kx.s, .int .i64 kx.r] 50))) := (HO.out.call HbX.out).alloc _
              obtain ⟨V17, hV⟩ : ∃ V, (w1.alloc (.cells #[.int .i64 cx, .int .i64 kx.k, .int .i64 kx.n, .float .f64 kx.f, .string kx.s, .int .i64 kx.r] 50)) = V := ⟨_, rfl⟩
              rw [hV] at HO G17 ⊢
              clear hV HbX
              generalize w1.heap.size = S17 at *
              obtain ⟨⟨c50, c51, c52, c53, c54⟩, ⟨c60, c61, c62, c63, c64⟩, c70, c71, c72, c73, c74⟩ := HO.out.c
              go_upto_region 25 with (go_at_call 25; refine (HKy.out _).mono ?_; rintro e w1 ⟨rfl, hb1⟩; clear c50 c51 c52 c53 c54 c60 c61 c62 c63 c64 c70 c71 c72 c73 c74; have HbX : Hid (Below _ _ w1) := hb1; clear hb1)
              replace G17 : Hid (Has (w1.alloc (.cells #[.int .i64 cx, .int .i64 ky.k, .int .i64 ky.n, .float .f64 ky.f, .string ky.s, .int .i64 ky.r] 50)) S17 #[.int .i64 cx, .int .i64 kx.k, .int .i64 kx.n, .float .f64 kx.f, .string kx.s, .int .i64 kx.r]) := (G17.out.call HbX.out).alloc _
              have G18 : Hid (Has (w1.alloc (.cells #[.int .i64 cx, .int .i64 ky.k, .int .i64 ky.n, .float .f64 ky.f, .string ky.s, .int .i64 ky.r] 50)) w1.heap.size #[.int .i64 cx, .int .i64 ky.k, .int .i64 ky.n, .float .f64 ky.f, .string ky.s, .int .i64 ky.r]) := Has.new _ _ _
              replace HO : Hid (OB w x y z B5 B6 B7 (w1.alloc (.cells #[.int .i64 cx, .int .i64 ky.k, .int .i64 ky.n, .float .f64 ky.f, .string ky.s, .int .i64 ky.r] 50))) := (HO.out.call HbX.out).alloc _
              obtain ⟨V18, hV⟩ : ∃ V, (w1.alloc (.cells #[.int .i64 cx, .int .i64 ky.k, .int .i64 ky.n, .float .f64 ky.f, .string ky.s, .int .i64 ky.r] 50)) = V := ⟨_, rfl⟩
              rw [hV] at HO G17 G18 ⊢
              clear hV HbX
              generalize w1.heap.size = S18 at *
              obtain ⟨⟨c50, c51, c52, c53, c54⟩, ⟨c60, c61, c62, c63, c64⟩, c70, c71, c72, c73, c74⟩ := HO.out.c
              have q17 := G17.out.at
              have q18 := G18.out.at
              go_upto_region 26 with (go_at_call 26; refine (HS.out _).mono ?_; rintro e w1 ⟨rfl, hb1⟩; clear q17 q18; replace G17 : Hid (Has w1 S17 #[.int .i64 cx, .int .i64 kx.k, .int .i64 kx.n, .float .f64 kx.f, .string kx.s, .int .i64 kx.r]) := G17.out.call hb1; replace G18 : Hid (Has w1 S18 #[.int .i64 cx, .int .i64 ky.k, .int .i64 ky.n, .float .f64 ky.f, .string ky.s, .int .i64 ky.r]) := G18.out.call hb1; clear c50 c51 c52 c53 c54 c60 c61 c62 c63 c64 c70 c71 c72 c73 c74; replace HO : Hid (OB w x y z B5 B6 B7 w1) := (by first | exact HO.out.call hb1 | exact HO.out.drew.call hb1); clear hb1; obtain ⟨⟨c50, c51, c52, c53, c54⟩, ⟨c60, c61, c62, c63, c64⟩, c70, c71, c72, c73, c74⟩ := HO.out.c; have q17 := G17.out.at; have q18 := G18.out.at)
              go_upto_region 28 with fail
              go_wp2_with fail
              go_ret
              exact ⟨by simp, HO.out.b⟩
end Go.Proofs.YtiidepafifodjabGreat
