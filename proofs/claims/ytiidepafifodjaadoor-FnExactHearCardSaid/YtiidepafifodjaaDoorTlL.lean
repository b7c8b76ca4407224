import Derived.Test.YtiidepafifodjaaDoorRpC
import Derived.Test.YtiidepafifodjaaDoorTlG
import Derived.Test.YtiidepafifodjaaDoorTlH
/-! FnExactTell: the walk. -/
namespace Go.Proofs.YtiidepafifodjaaDoor
open Go.RowKit
attribute [local go_sem] run_store_float
attribute [local go_sem ↓] Go.wp_at_zero Go.wp_at_succ

theorem toldL_len (d : RpD) : (toldL d).length ≤ 1000000 := by
  unfold toldL
  split
  · simp
  · omega
/-- the argument's box -/
structure LwA (w : World) (d : RpD) (x : RpX) (u : World) : Prop where
  b : Below w.heap.size w u
  h : Has u w.heap.size (rpC d x)
theorem LwA.call {w u u' : World} {d : RpD} {x : RpX} (h : LwA w d x u) (hb : Below u.heap.size u u') : LwA w d x u' := ⟨below_call h.b hb, h.h.call hb⟩
theorem Has.keepL {u w' : World} {L B : Nat} {A : Array Value} (h : Has u B A) (hb : Below L u w') (hB : B < L) : Has w' B A := ⟨Nat.lt_of_lt_of_le h.1 hb.size, fun o => (hb.cell (p := ⟨B, o, none⟩) hB).trans (h.2 o)⟩
theorem LwA.mkd {w u u' : World} {d : RpD} {x : RpX} {L H : Nat} (h : LwA w d x u) (hm : Mk L H u u') (hL : w.heap.size < L) : LwA w d x u' := ⟨h.b.trans (hm.b.mono (by omega)), h.h.keepL hm.b hL⟩
theorem LwA.grown {w u u' : World} {d : RpD} {x : RpX} {r : Option Nat} (h : LwA w d x u) (hg : u.grownBy u' r) (hr : ∀ k, r = some k → w.heap.size < k) : LwA w d x u' := ⟨h.b.grown hg h.b.size (fun k e => Nat.le_of_lt (hr k e)), has_grownK h.h hg (fun e => by have := hr _ e.symm; omega)⟩
/-- the copy, in blocks from L to H, its box at BX -/
structure LwC (L H BX : Nat) (d : RpD) (x4 : RpX) (u : World) : Prop where
  hx : Has u BX (rpC d x4)
  at_ : RpAt L u d x4
  lf : ∃ b1 b2, x4.ra = some ⟨b1, 0, none⟩ ∧ x4.va = some ⟨b2, 0, none⟩ ∧ LfR 5 L H u b1 d.n ∧ LfR 1 L H u b2 d.m
  hL : L ≤ u.heap.size
theorem LwC.call {L H BX : Nat} {d : RpD} {x4 : RpX} {u u' : World} (h : LwC L H BX d x4 u) (hb : Below u.heap.size u u') : LwC L H BX d x4 u' := by
  obtain ⟨b1, b2, e1, e2, l1, l2⟩ := h.lf
  have hm : Mk L H u u' := (Mk.refl _ _ _).below hb h.hL
  exact ⟨h.hx.call hb, h.at_.below hb, ⟨b1, b2, e1, e2, l1.mk hm, l2.mk hm⟩, Nat.le_trans h.hL hb.size⟩
/-- the specification's bytes -/
structure LwB (w3 : World) (a3 : Option Addr) (xs : List UInt8) (u : World) : Prop where
  ct : ByAt 0 w3 a3 xs
  b : Below w3.heap.size w3 u
theorem LwB.call {w3 u u' : World} {a3 : Option Addr} {xs : List UInt8} (h : LwB w3 a3 xs u) (hb : Below u.heap.size u u') : LwB w3 a3 xs u' := ⟨h.ct, below_call h.b hb⟩
theorem LwB.at_ {w3 u : World} {a3 : Option Addr} {xs : List UInt8} (h : LwB w3 a3 xs u) : ByAt 0 u a3 xs := RowN.below h.ct h.b
theorem LwB.mkd {w3 u u' : World} {a3 : Option Addr} {xs : List UInt8} {L H : Nat} (h : LwB w3 a3 xs u) (hm : Mk L H u u') (hL : w3.heap.size ≤ L) : LwB w3 a3 xs u' := ⟨h.ct, h.b.trans (hm.b.mono hL)⟩
theorem LwB.grown {w3 u u' : World} {a3 : Option Addr} {xs : List UInt8} {r : Option Nat} (h : LwB w3 a3 xs u) (hg : u.grownBy u' r) (hr : ∀ k, r = some k → w3.heap.size ≤ k) : LwB w3 a3 xs u' := ⟨h.ct, h.b.grown hg h.b.size hr⟩
theorem ownsK_mk {u w : World} {L H N K n : Nat} {t : TypeId} {v : Value} {xs : List Value} (h : u.ownsRow N t K v n xs) (hm : Mk L H u w) (hN : H ≤ N) : w.ownsRow N t K v n xs :=
  ownsK_block h fun k e => hm.hi k (Nat.le_trans hN (h.lt k e).1) (h.lt k e).2
theorem bkO_own (a : Option Addr) (n cap : Nat) : (Value.slice a n cap).ownBlock = bkO a := by cases a <;> rfl

set_option maxRecDepth 100000 in
set_option maxHeartbeats 8000000 in
theorem tell_walk (d : RpD) (x : RpX) (w : World) (hd : d.wf) (hT : RpAt 0 w d x) (hP : ∀ u, Below w.heap.size w u → TabP u) :
    Calls Tryd.prog 3 #[rpV d x] w fun e w' => e = .returned (.bool true) ∧ Below w.heap.size w w' := by
  have HW : Hid d.wf := hd
  have HT : Hid (RpAt 0 w d x) := hT
  have HP : Hid (∀ u, Below w.heap.size w u → TabP u) := hP
  clear hd hT hP
  go_enter Tryd.func3, Tryd.ntmps3
  go_wp2_with fail
  refine (szReport_calls 0 d x 1048576 _ (by omega) (by omega) HW.out (HT.out.alloc _)).mono ?_
  rintro e w1 ⟨⟨v, rfl, hv⟩, hb1⟩
  have HA : Hid (LwA w d x w1) := ⟨below_call (below_alloc _ _) hb1, Has.made hb1⟩
  clear hb1
  rcases hv with rfl | ⟨v0, v1, v2⟩
  · go_wp2_with fail
    go_ret
    exact ⟨rfl, HA.out.b⟩
  have HS : Hid d.sm := v2
  clear v2
  have c0 : w1.cell? ⟨w.heap.size, 0, none⟩ = some (.int .i64 d.code) := HA.out.h.cell 0 rfl
  have c1 : w1.cell? ⟨w.heap.size, 1, none⟩ = some (.slice x.ra d.n x.rc) := HA.out.h.cell 1 rfl
  have c2 : w1.cell? ⟨w.heap.size, 2, none⟩ = some (.slice x.va d.m x.vc) := HA.out.h.cell 2 rfl
  have c3 : w1.cell? ⟨w.heap.size, 3, none⟩ = some (.string d.er) := HA.out.h.cell 3 rfl
  have c4 : w1.cell? ⟨w.heap.size, 4, none⟩ = some (.string d.tr) := HA.out.h.cell 4 rfl
  have c5 : w1.cell? ⟨w.heap.size, 5, none⟩ = some (.int .i64 d.ti) := HA.out.h.cell 5 rfl
  have c6 : w1.cell? ⟨w.heap.size, 6, none⟩ = some (.int .i64 d.ma) := HA.out.h.cell 6 rfl
  go_wp2_with fail
  clear c0 c1 c2 c3 c4 c5 c6 v0 v1
  refine (toReport_calls 0 d x _ HS.out (HT.out.below HA.out.b)).mono ?_
  rintro e w2 ⟨⟨x2, rfl, hT2, _⟩, hb2⟩
  have HT2 : Hid (RpAt w1.heap.size w2 d x2) := hT2
  replace HA : Hid (LwA w d x w2) := HA.out.call hb2
  clear hb2 hT2
  go_wp2_with fail
  refine (specTell_calls _ d x2 _ HW.out HS.out HT2.out).mono ?_
  rintro e w3 ⟨⟨a3, cap3, xs, rfl, hp3, ho3⟩, hb3⟩
  have HP3 : Hid (xs = toldL d) := hp3
  have hxl : xs.length ≤ 1000000 := by rw [hp3]; exact toldL_len d
  have HB : Hid (LwB w3 a3 xs w3) := ⟨RowN.less (ByAt.own ho3) (Nat.zero_le _), Below.refl _ _⟩
  replace HA : Hid (LwA w d x w3) := HA.out.call hb3
  have hW3 : w.heap.size < w3.heap.size := HA.out.h.lt
  clear hb3 hp3 ho3 HT2
  have c0 : w3.cell? ⟨w.heap.size, 0, none⟩ = some (.int .i64 d.code) := HA.out.h.cell 0 rfl
  have c1 : w3.cell? ⟨w.heap.size, 1, none⟩ = some (.slice x.ra d.n x.rc) := HA.out.h.cell 1 rfl
  have c2 : w3.cell? ⟨w.heap.size, 2, none⟩ = some (.slice x.va d.m x.vc) := HA.out.h.cell 2 rfl
  have c3 : w3.cell? ⟨w.heap.size, 3, none⟩ = some (.string d.er) := HA.out.h.cell 3 rfl
  have c4 : w3.cell? ⟨w.heap.size, 4, none⟩ = some (.string d.tr) := HA.out.h.cell 4 rfl
  have c5 : w3.cell? ⟨w.heap.size, 5, none⟩ = some (.int .i64 d.ti) := HA.out.h.cell 5 rfl
  have c6 : w3.cell? ⟨w.heap.size, 6, none⟩ = some (.int .i64 d.ma) := HA.out.h.cell 6 rfl
  go_wp2_with fail
  clear c0 c1 c2 c3 c4 c5 c6
  refine (toReport_calls 0 d x _ HS.out (HT.out.below HA.out.b)).mono ?_
  rintro e w4 ⟨⟨x4, rfl, hT4, hz4⟩, hb4⟩
  have HC : Hid (LwC w3.heap.size w4.heap.size w4.heap.size d x4 (w4.alloc (.cells (rpC d x4) 31))) := by
    obtain ⟨b1, b2, e1, e2, l1, l2⟩ := hz4.lf hT4
    have hm : Mk w3.heap.size w4.heap.size w4 (w4.alloc (.cells (rpC d x4) 31)) := (Mk.refl _ _ _).below (below_alloc _ _) hb4.size
    exact ⟨Has.new _ _ _, hT4.alloc _, ⟨b1, b2, e1, e2, l1.mk hm, l2.mk hm⟩, by have := hb4.size; simp; omega⟩
  have hW4 : w3.heap.size ≤ w4.heap.size := hb4.size
  replace HA : Hid (LwA w d x (w4.alloc (.cells (rpC d x4) 31))) := (HA.out.call hb4).call (below_alloc _ _)
  replace HB : Hid (LwB w3 a3 xs (w4.alloc (.cells (rpC d x4) 31))) := (HB.out.call hb4).call (below_alloc _ _)
  obtain ⟨wx, hwx⟩ : ∃ wx, w4.alloc (.cells (rpC d x4) 31) = wx := ⟨_, rfl⟩
  obtain ⟨BX, hBX⟩ : ∃ BX, w4.heap.size = BX := ⟨_, rfl⟩
  have hxs : wx.heap.size = BX + 1 := by rw [← hwx, ← hBX]; simp
  rw [hwx, hBX] at HC
  rw [hwx] at HA HB
  rw [hBX] at hW4
  clear hb4 hT4 hz4
  go_upto_region 7 with fail
  clear hwx hBX
  have r0 : wx.cell? ⟨BX, 0, none⟩ = some (.int .i64 d.code) := HC.out.hx.cell 0 rfl
  have r1 : wx.cell? ⟨BX, 1, none⟩ = some (.slice x4.ra d.n x4.rc) := HC.out.hx.cell 1 rfl
  have r2 : wx.cell? ⟨BX, 2, none⟩ = some (.slice x4.va d.m x4.vc) := HC.out.hx.cell 2 rfl
  have r3 : wx.cell? ⟨BX, 3, none⟩ = some (.string d.er) := HC.out.hx.cell 3 rfl
  have r4 : wx.cell? ⟨BX, 4, none⟩ = some (.string d.tr) := HC.out.hx.cell 4 rfl
  have r5 : wx.cell? ⟨BX, 5, none⟩ = some (.int .i64 d.ti) := HC.out.hx.cell 5 rfl
  have r6 : wx.cell? ⟨BX, 6, none⟩ = some (.int .i64 d.ma) := HC.out.hx.cell 6 rfl
  go_wp2_with fail
  clear r0 r1 r2 r3 r4 r5 r6
  refine (implTell_calls _ d x4 _ HW.out HS.out HC.out.at_ (fun u hu => HP.out u (below_call HA.out.b hu))).mono ?_
  rintro e w5 ⟨⟨a5, cap5, xs5, rfl, hp5, ho5⟩, hb5⟩
  obtain rfl : xs5 = xs := hp5.trans HP3.out.symm
  have HO : Hid (OwB wx.heap.size w5 a5 cap5 xs5) := ho5
  replace HA : Hid (LwA w d x w5) := HA.out.call hb5
  replace HB : Hid (LwB w3 a3 xs5 w5) := HB.out.call hb5
  replace HC : Hid (LwC w3.heap.size BX BX d x4 w5) := HC.out.call hb5
  clear hb5 ho5 hp5
  obtain ⟨N, hN⟩ : ∃ N, wx.heap.size = N := ⟨_, rfl⟩
  rw [hN] at HO hxs
  clear hN
  go_wp2_with (go_at_call 9; refine (eqByteS_calls _ _ _ _ _ _ _ _ _ (by omega) (ByAt.own HO.out) HB.out.at_).mono ?_; rintro e w6 ⟨rfl, hb6⟩; replace HO : Hid (OwB N w6 a5 cap5 xs5) := ownsK_below HO.out hb6; replace HA : Hid (LwA w d x w6) := HA.out.call hb6; replace HB : Hid (LwB w3 a3 xs5 w6) := HB.out.call hb6; replace HC : Hid (LwC w3.heap.size BX BX d x4 w6) := HC.out.call hb6; clear hb6)
  have HSs : Hid (∀ w', Below w6.heap.size w6 w' → w'.cell? ⟨w.heap.size, 0, none⟩ = some (.int .i64 d.code) ∧ w'.cell? ⟨w.heap.size, 1, none⟩ = some (.slice x.ra d.n x.rc) ∧ w'.cell? ⟨w.heap.size, 2, none⟩ = some (.slice x.va d.m x.vc) ∧ w'.cell? ⟨w.heap.size, 3, none⟩ = some (.string d.er) ∧ w'.cell? ⟨w.heap.size, 4, none⟩ = some (.string d.tr) ∧ w'.cell? ⟨w.heap.size, 5, none⟩ = some (.int .i64 d.ti) ∧ w'.cell? ⟨w.heap.size, 6, none⟩ = some (.int .i64 d.ma) ∧ w'.cell? ⟨BX, 0, none⟩ = some (.int .i64 d.code) ∧ w'.cell? ⟨BX, 1, none⟩ = some (.slice x4.ra d.n x4.rc) ∧ w'.cell? ⟨BX, 2, none⟩ = some (.slice x4.va d.m x4.vc) ∧ w'.cell? ⟨BX, 3, none⟩ = some (.string d.er) ∧ w'.cell? ⟨BX, 4, none⟩ = some (.string d.tr) ∧ w'.cell? ⟨BX, 5, none⟩ = some (.int .i64 d.ti) ∧ w'.cell? ⟨BX, 6, none⟩ = some (.int .i64 d.ma)) := fun w' hw => by
    have h1 := HA.out.h.call hw
    have h2 := HC.out.hx.call hw
    exact ⟨h1.cell 0 rfl, h1.cell 1 rfl, h1.cell 2 rfl, h1.cell 3 rfl, h1.cell 4 rfl, h1.cell 5 rfl, h1.cell 6 rfl, h2.cell 0 rfl, h2.cell 1 rfl, h2.cell 2 rfl, h2.cell 3 rfl, h2.cell 4 rfl, h2.cell 5 rfl, h2.cell 6 rfl⟩
  go_region_held3 (fun w' => w'.cell? ⟨w.heap.size, 0, none⟩ = some (.int .i64 d.code) ∧ w'.cell? ⟨w.heap.size, 1, none⟩ = some (.slice x.ra d.n x.rc) ∧ w'.cell? ⟨w.heap.size, 2, none⟩ = some (.slice x.va d.m x.vc) ∧ w'.cell? ⟨w.heap.size, 3, none⟩ = some (.string d.er) ∧ w'.cell? ⟨w.heap.size, 4, none⟩ = some (.string d.tr) ∧ w'.cell? ⟨w.heap.size, 5, none⟩ = some (.int .i64 d.ti) ∧ w'.cell? ⟨w.heap.size, 6, none⟩ = some (.int .i64 d.ma) ∧ w'.cell? ⟨BX, 0, none⟩ = some (.int .i64 d.code) ∧ w'.cell? ⟨BX, 1, none⟩ = some (.slice x4.ra d.n x4.rc) ∧ w'.cell? ⟨BX, 2, none⟩ = some (.slice x4.va d.m x4.vc) ∧ w'.cell? ⟨BX, 3, none⟩ = some (.string d.er) ∧ w'.cell? ⟨BX, 4, none⟩ = some (.string d.tr) ∧ w'.cell? ⟨BX, 5, none⟩ = some (.int .i64 d.ti) ∧ w'.cell? ⟨BX, 6, none⟩ = some (.int .i64 d.ma)) (first | (with_reducible exact HSs.out _ HB9.out) | (with_reducible exact HSs.out _ HB8.out) | (with_reducible exact HSs.out _ (Below.refl _ _).drew)) (first | (go_at_call 7; refine (toReport_calls 0 d x _ HS.out (HT.out.below HA.out.b.drew)).mono ?_; rintro e w8 ⟨⟨x8, rfl, hT8, _⟩, hb8⟩; have HB8 : Hid (Below w6.heap.size w6 w8) := (Below.refl _ _).drew.trans hb8; have HT8 : Hid (RpAt 0 w8 d x8) := hT8.less (Nat.zero_le _); clear hb8 hT8) | (go_at_call 10; refine (eqReport_calls _ _ d x4 x8 _ HS.out (HC.out.at_.below HB8.out) HT8.out).mono ?_; rintro e w9 ⟨rfl, hb9⟩; have HB9 : Hid (Below w6.heap.size w6 w9) := below_call HB8.out hb9; clear hb9))
  replace HO : Hid (OwB N w9 a5 cap5 xs5) := ownsK_below HO.out HB9.out
  replace HA : Hid (LwA w d x w9) := HA.out.call HB9.out
  replace HB : Hid (LwB w3 a3 xs5 w9) := HB.out.call HB9.out
  replace HC : Hid (LwC w3.heap.size BX BX d x4 w9) := HC.out.call HB9.out
  clear HB9 HB8 HT8 HSs
  obtain ⟨b1, b2, hb1, hb2, hl1, hl2⟩ := HC.out.lf
  obtain ⟨xa, xc, xv, xd⟩ := x4
  dsimp only at hb1 hb2
  subst hb1 hb2
  have HL1 : Hid (LfR 5 w3.heap.size BX w9 b1 d.n) := hl1
  have HL2 : Hid (LfR 1 w3.heap.size BX w9 b2 d.m) := hl2
  have hLs := HC.out.hL
  clear hl1 hl2
  have r0 : w9.cell? ⟨BX, 0, none⟩ = some (.int .i64 d.code) := HC.out.hx.cell 0 rfl
  have r1 : w9.cell? ⟨BX, 1, none⟩ = some (.slice (some ⟨b1, 0, none⟩) d.n xc) := HC.out.hx.cell 1 rfl
  have r2 : w9.cell? ⟨BX, 2, none⟩ = some (.slice (some ⟨b2, 0, none⟩) d.m xd) := HC.out.hx.cell 2 rfl
  have r3 : w9.cell? ⟨BX, 3, none⟩ = some (.string d.er) := HC.out.hx.cell 3 rfl
  have r4 : w9.cell? ⟨BX, 4, none⟩ = some (.string d.tr) := HC.out.hx.cell 4 rfl
  have r5 : w9.cell? ⟨BX, 5, none⟩ = some (.int .i64 d.ti) := HC.out.hx.cell 5 rfl
  have r6 : w9.cell? ⟨BX, 6, none⟩ = some (.int .i64 d.ma) := HC.out.hx.cell 6 rfl
  go_wp2_with (first | (go_at_call 11; refine (markReport_calls w3.heap.size BX b1 b2 d xc xd _ _ HS.out (by omega) (by omega) hLs HL1.out HL2.out).mono ?_; rintro e wm ⟨⟨km, rfl, hkm⟩, hm⟩; clear r0 r1 r2 r3 r4 r5 r6 HC HL1 HL2; replace HO : Hid (OwB N wm a5 cap5 xs5) := ownsK_mk HO.out hm (by omega); replace HA : Hid (LwA w d x wm) := HA.out.mkd hm hW3; replace HB : Hid (LwB w3 a3 xs5 wm) := HB.out.mkd hm (Nat.le_refl _); clear hm) | (go_at_call 9; refine (eqByteS_calls _ _ _ _ _ _ _ _ _ (by omega) (ByAt.own HO.out) HB.out.at_).mono ?_; rintro e w10 ⟨rfl, hb10⟩; replace HO : Hid (OwB N w10 a5 cap5 xs5) := ownsK_below HO.out hb10; replace HA : Hid (LwA w d x w10) := HA.out.call hb10; replace HB : Hid (LwB w3 a3 xs5 w10) := HB.out.call hb10; clear hb10))
  go_wp2_with (first | (go_at_call 12; refine (markByteS_calls N _ _ xs5 1 _ (by omega) (by omega) (by omega) HO.out).mono ?_; rintro e w11 ⟨rfl, hk11, hg11, hN11⟩; replace HA : Hid (LwA w d x w11) := HA.out.grown hg11 (fun k e => by have := hN11 k e; omega); replace HB : Hid (LwB w3 a3 xs5 w11) := HB.out.grown hg11 (fun k e => by have := hN11 k e; omega); have HK : Hid (MkdB w11 a5 xs5.length 1) := hk11; clear hk11 hg11 hN11 HO; have c0 : w11.cell? ⟨w.heap.size, 0, none⟩ = some (.int .i64 d.code) := HA.out.h.cell 0 rfl; have c1 : w11.cell? ⟨w.heap.size, 1, none⟩ = some (.slice x.ra d.n x.rc) := HA.out.h.cell 1 rfl; have c2 : w11.cell? ⟨w.heap.size, 2, none⟩ = some (.slice x.va d.m x.vc) := HA.out.h.cell 2 rfl; have c3 : w11.cell? ⟨w.heap.size, 3, none⟩ = some (.string d.er) := HA.out.h.cell 3 rfl; have c4 : w11.cell? ⟨w.heap.size, 4, none⟩ = some (.string d.tr) := HA.out.h.cell 4 rfl; have c5 : w11.cell? ⟨w.heap.size, 5, none⟩ = some (.int .i64 d.ti) := HA.out.h.cell 5 rfl; have c6 : w11.cell? ⟨w.heap.size, 6, none⟩ = some (.int .i64 d.ma) := HA.out.h.cell 6 rfl; skip) | (go_at_call 13; refine (heldByteS_calls _ _ _ 1 _ (by omega) (by omega) (by omega) HK.out).mono ?_; rintro e w' ⟨rfl, rfl⟩) | (go_at_call 7; refine (toReport_calls 0 d x _ HS.out (HT.out.below HA.out.b)).mono ?_; rintro e w12 ⟨⟨x12, rfl, hT12, _⟩, hb12⟩; have HT12 : Hid (RpAt 0 w12 d x12) := hT12.less (Nat.zero_le _); clear c0 c1 c2 c3 c4 c5 c6; replace HA : Hid (LwA w d x w12) := HA.out.call hb12; replace HB : Hid (LwB w3 a3 xs5 w12) := HB.out.call hb12; replace HK : Hid (MkdB w12 a5 xs5.length 1) := HK.out.below hb12; clear hb12 hT12) | (go_at_call 8; refine (implTell_calls _ d x12 _ HW.out HS.out HT12.out (fun u hu => HP.out u (below_call HA.out.b hu))).mono ?_; rintro e w13 ⟨⟨a13, cap13, xs13, rfl, hp13, ho13⟩, hb13⟩; obtain rfl : xs13 = xs5 := hp13.trans HP3.out.symm; have HLh : Hid (ByAt 0 w13 a13 xs13) := RowN.less (ByAt.own ho13) (Nat.zero_le _); replace HA : Hid (LwA w d x w13) := HA.out.call hb13; replace HB : Hid (LwB w3 a3 xs13 w13) := HB.out.call hb13; replace HK : Hid (MkdB w13 a5 xs13.length 1) := HK.out.below hb13; clear hb13 hp13 ho13 HT12) | (go_at_call 9; refine (eqByteS_calls _ _ _ _ _ _ _ _ _ (by omega) HLh.out HB.out.at_).mono ?_; rintro e w14 ⟨rfl, hb14⟩; replace HA : Hid (LwA w d x w14) := HA.out.call hb14; replace HB : Hid (LwB w3 a3 xs13 w14) := HB.out.call hb14; replace HK : Hid (MkdB w14 a5 xs13.length 1) := HK.out.below hb14; clear hb14 HLh))
  go_ret
  exact ⟨rfl, HA.out.b⟩
end Go.Proofs.YtiidepafifodjaaDoor
