import Derived.Test.YtdialodjllpgaaaGreatDoorBdI
import Derived.Laws.BytesArg
/-! The specification makes units: a node is put behind the others. -/
namespace Go.Proofs.YtdialodjllpgaaaGreatDoor
open Go.RowKit
attribute [local go_sem] run_store_float
attribute [local go_sem ↓] Go.wp_at_zero Go.wp_at_succ

set_option maxRecDepth 100000 in
set_option maxHeartbeats 4000000 in
theorem lbAt_calls (I : LBI) (S : LBS) (u : World) (h : LB I S u) :
    Calls Tryz.prog 66 #[ptr I.B] u fun e w' => e = .returned (ptr I.K) ∧ Below u.heap.size u w' := by
  have b2 := h.b.1.cell 2 rfl
  have hbl := h.b.1.1
  clear h
  go_enter Tryz.func66, Tryz.ntmps66
  go_upto_region 1 with fail
  go_region_with fail
  all_goals
    go_wp2_with fail
    go_ret
    first
    | exact ⟨rfl, (Below.refl _ _).drew⟩
    | exact ⟨rfl, Below.refl _ _⟩
set_option maxRecDepth 100000 in
set_option maxHeartbeats 4000000 in
theorem lbFn_calls (I : LBI) (S : LBS) (u : World) (h : LB I S u) :
    Calls Tryz.prog 26 #[ptr I.B] u fun e w' => e = .returned (ptr I.F) ∧ Below u.heap.size u w' := by
  have HL : Hid (LB I S u) := h
  have b1 := h.b.1.cell 1 rfl
  have hbl := h.b.1.1
  have HC : Hid (∀ w, Below u.heap.size u w → w.cell? ⟨I.B, 1, none⟩ = some (.slice (some ⟨I.F, 0, none⟩) 1 I.fc) ∧ w.cell? ⟨I.K, 0, none⟩ = some (.int .i64 0)) := fun w hw => ⟨(h.b.call hw).1.cell 1 rfl, (h.call hw).k.cell.1⟩
  clear h
  go_enter Tryz.func26, Tryz.ntmps26
  go_upto_region 1 with fail
  go_region_held3 (fun w => w.cell? ⟨I.B, 1, none⟩ = some (.slice (some ⟨I.F, 0, none⟩) 1 I.fc) ∧ w.cell? ⟨I.K, 0, none⟩ = some (.int .i64 0)) (first | (refine HC.out _ ?_; (repeat (first | exact HB1.out | exact bl_refl _ | refine bl_drew ?_)); done))
    (first | (go_at_call 66; refine (lbAt_calls I S _ ?_).mono ?_; (first | exact HL.out | exact HL.out.drew); rintro e w1 ⟨rfl, hb⟩; have HB1 : Hid (Below u.heap.size u w1) := below_call (bl_drew (bl_refl u)) hb; clear hb))
  all_goals
    go_wp2_with fail
    go_ret
    exact ⟨rfl, HB1.out⟩
theorem infoNodeL : (Tryz.prog.info? 95).map (fun i => (i.zero, i.size, i.bytes)) = some (some (.agg #[.int .i64 0, .int .i64 0, .int .i64 0, .int .i64 0, .float .f64 0, .string ⟨#[]⟩, .slice none 0 0, .slice none 0 0]), 8, 104) := by kernel_rfl
theorem n8_one (p : ND × NA) : ∀ y ∈ n8 p, y.oneCell' = true := by simp [n8, Value.oneCell']
theorem LB.left {I : LBI} {S : LBS} {u : World} (h : LB I S u) (z : Int) : Lx I S u { S with lf := z } (u.setCell ⟨I.B, 3, none⟩ (.int .i64 z)) := by
  have hi := h.i
  have hB : ∀ k, I.N ≤ k → k ≠ I.B := fun k hk e => by have := hi.b; omega
  have g : Gx (fun k => k = I.B) u (u.setCell ⟨I.B, 3, none⟩ (.int .i64 z)) := Gx.set u I.B 3 _
  refine ⟨⟨hi, h.b.set (o := 3) (by show 3 < 4; omega) _, ?_, h.f.other hi.bf.symm, h.k.other hi.bk.symm, ownsK_set h.r _ fun k e => hB k (own_ge h.r ((own_bk _ _ _).symm.trans e)).1, ownsK_set h.v _ fun k e => hB k (own_ge h.v ((own_bk _ _ _).symm.trans e)).1, fun p hp => ?_, by simpa using h.n⟩, g.mono (fun k e => .inl (by subst e; exact ⟨hi.b, .inl rfl⟩)), fun _ _ => ⟨fun e => e, fun e => e⟩⟩
  · obtain ⟨t, s, h1, h2⟩ := h.c
    have hk : (u.setCell ⟨I.B, 3, none⟩ (.int .i64 z)).heap[I.C]? = u.heap[I.C]? := Below.heap_setCell _ _ _ _ hi.bc.symm
    exact ⟨t, s, h1, by simpa using h2.lt, ⟨(World.cell?_of_block (a := ⟨I.C, 0, none⟩) hk).trans h2.c.1, (World.cell?_of_block (a := ⟨I.C, 1, none⟩) hk).trans h2.c.2.1, (World.cell?_of_block (a := ⟨I.C, 2, none⟩) hk).trans h2.c.2.2⟩, fun o => (World.frozen?_of_block (a := ⟨I.C, o, none⟩) hk).trans (h2.fr o), fun i hi => absurd hi (Nat.not_lt_zero _)⟩
  · obtain ⟨x1, x2, x3⟩ := h.x p hp
    have hq : ∀ {a : Option Addr} {n : Nat} {q : Nat → Int}, rOk I S u a n q → rOk I { S with lf := z } (u.setCell ⟨I.B, 3, none⟩ (.int .i64 z)) a n q := fun r => r.gx g (fun k e => .inl (by subst e; exact hi.b)) (fun _ _ => ⟨fun e => e, fun e => e⟩)
    exact ⟨hq x1, hq x2, x3⟩
/-- a node more -/
def LBS.add (S : LBS) (p : ND × NA) (na : Option Addr) (nc : Nat) : LBS := { S with l := S.l ++ [p], na := na, nc := nc }
theorem LB.push {I : LBI} {S : LBS} {u w7 : World} (h : LB I S u) (d : ND) (x : NA) (hr : rOk I S u x.ra d.rn d.r) (hk : rOk I S u x.ka d.kn d.c) (hc : d.kn ≤ x.kc) {v' : Value} (ho : w7.ownsRow I.N 95 8 v' (S.l.length + 1) (nLs S.l ++ n8 (d, x))) (hg : u.grownBy w7 (Value.slice S.na S.l.length S.nc).ownBlock) (hat : v'.ownBlock = (Value.slice S.na S.l.length S.nc).ownBlock ∨ v'.ownBlock = some u.heap.size) :
    ∃ na nc, v' = .slice na (S.l.length + 1) nc ∧ Lx I S u (S.add (d, x) na nc) (w7.setCell ⟨I.F, 6, none⟩ v') := by
  obtain ⟨na, nc, rfl⟩ := ownsK_form ho
  rw [own_bk] at hg
  rw [own_bk, own_bk] at hat
  have hi := h.i
  have hgx : Gx (fun k => bkOf S.na = some k) u w7 := Gx.grown hg
  have hN : ∀ k, bkOf S.na = some k → I.N ≤ k := fun k e => (own_ge h.r e).1
  have g : Gx (fun k => k = I.F ∨ bkOf S.na = some k) u (w7.setCell ⟨I.F, 6, none⟩ (.slice na (S.l.length + 1) nc)) := (hgx.mono (fun k e => .inr e)).trans (Gx.set w7 I.F 6 _) (fun _ _ e => .inl e)
  have hm : ∀ k, k < u.heap.size → (bkOf na = some k → bkOf S.na = some k) := fun k hk e => by
    rcases hat with c | c
    · exact c.symm.trans e
    · rw [c] at e; have := Option.some.inj e; omega
  have hb : ∀ k, k < I.N → w7.heap[k]? = u.heap[k]? := fun k hk => hgx.block k (by have := h.n; omega) (fun e => by have := hN k e; omega)
  have hq : ∀ {a : Option Addr} {n : Nat} {q : Nat → Int}, rOk I S u a n q → rOk I (S.add (d, x) na nc) (w7.setCell ⟨I.F, 6, none⟩ (.slice na (S.l.length + 1) nc)) a n q := fun r => r.gx g (fun k e => by
    rcases e with e | e
    · exact .inl (e ▸ hi.f)
    · exact .inr (.inl e)) (fun k hk => ⟨hm k hk, fun e => e⟩)
  have hF : ∀ k, I.N ≤ k → k ≠ I.F := fun k hk e => by have := hi.f; omega
  refine ⟨na, nc, rfl, ⟨hi, own_other (h.b.block hgx.size (hb _ hi.b)) hi.bf, ?_, ?_, (h.k.block hgx.size (hb _ hi.k)).other hi.fk.symm, ?_, ?_, fun p hp => ?_, by have := hgx.size; have := h.n; simp; omega⟩, g.mono (fun k e => ?_), fun k hk => ⟨hm k hk, fun e => e⟩⟩
  · obtain ⟨t, s, h1, h2⟩ := h.c
    have hk : (w7.setCell ⟨I.F, 6, none⟩ (.slice na (S.l.length + 1) nc)).heap[I.C]? = u.heap[I.C]? := (Below.heap_setCell _ _ _ _ hi.cf).trans (hb _ hi.c)
    exact ⟨t, s, h1, by have := hgx.size; have := h2.lt; simp; omega, ⟨(World.cell?_of_block (a := ⟨I.C, 0, none⟩) hk).trans h2.c.1, (World.cell?_of_block (a := ⟨I.C, 1, none⟩) hk).trans h2.c.2.1, (World.cell?_of_block (a := ⟨I.C, 2, none⟩) hk).trans h2.c.2.2⟩, fun o => (World.frozen?_of_block (a := ⟨I.C, o, none⟩) hk).trans (h2.fr o), fun i hi => absurd hi (Nat.not_lt_zero _)⟩
  · have := (h.f.block hgx.size (hb _ hi.f)).set6 (v := .slice na (S.l.length + 1) nc)
    show FnB _ _ _ (.slice na (S.l ++ [(d, x)]).length nc)
    rw [List.length_append]
    exact this
  · show World.ownsRow _ _ _ _ (.slice na (S.l ++ [(d, x)]).length nc) (S.l ++ [(d, x)]).length (nLs (S.l ++ [(d, x)]))
    rw [List.length_append, show nLs (S.l ++ [(d, x)]) = nLs S.l ++ n8 (d, x) by simp [nLs]]
    exact ownsK_set ho _ fun k e => hF k (own_ge ho ((own_bk _ _ _).symm.trans e)).1
  · refine ownsK_set ?_ _ fun k e => hF k (own_ge h.v ((own_bk _ _ _).symm.trans e)).1
    refine ownsK_block h.v fun k e => ?_
    have e' := (own_bk _ _ _).symm.trans e
    exact hgx.block k (own_ge h.v e').2 (fun c => own_ty h.v h.r (by decide) e' c)
  · rcases List.mem_append.1 hp with hp | hp
    · obtain ⟨x1, x2, x3⟩ := h.x p hp
      exact ⟨hq x1, hq x2, x3⟩
    · obtain rfl : p = (d, x) := by simpa using hp
      exact ⟨hq hr, hq hk, hc⟩
  · rcases e with e | e
    · exact .inl ⟨e ▸ hi.f, .inr (.inr (.inl e))⟩
    · exact .inr (.inl e)
set_option maxRecDepth 100000 in
set_option maxHeartbeats 8000000 in
theorem lbNode_calls (I : LBI) (S : LBS) (d : ND) (x : NA) (u : World) (h : LB I S u) (hr : rOk I S u x.ra d.rn d.r) (hk : rOk I S u x.ka d.kn d.c) (hc : d.kn ≤ x.kc) (hl : S.l.length ≤ 100) (hf1 : 1000 ≤ S.lf) (hf2 : S.lf ≤ 100000) :
    Calls Tryz.prog 25 #[ptr I.B, nodeV d x] u fun e w' => e = .returned (.int .i64 (S.l.length : Int)) ∧ ∃ na nc, Lx I S u ({ S with lf := S.lf - 1 }.add (d, x) na nc) w' := by
  have HL : Hid (LB I S u ∧ rOk I S u x.ra d.rn d.r ∧ rOk I S u x.ka d.kn d.c) := ⟨h, hr, hk⟩
  have b3 := h.b.1.cell 3 rfl
  have bz := h.b.2
  have hbl := h.b.1.1
  have hw : IntKind.i64.wrap (S.lf - 1) = S.lf - 1 := by simp [IntKind.wrap, IntKind.bits, IntKind.signed]; omega
  show Calls Tryz.prog 25 #[ptr I.B, .agg #[.int .i64 d.k, .int .i64 d.l, .int .i64 d.o, .int .i64 d.n, .float .f64 d.f, .string d.s, .slice x.ra d.rn x.rc, .slice x.ka d.kn x.kc]] u fun e w' => e = .returned (.int .i64 (S.l.length : Int)) ∧ ∃ na nc, Lx I S u ({ S with lf := S.lf - 1 }.add (d, x) na nc) w'
  clear h hr hk
  go_enter Tryz.func25, Tryz.ntmps25
  go_wp2_with fail
  have H1 : Hid (Lx I S u { S with lf := S.lf - 1 } ((u.setCell ⟨I.B, 3, none⟩ (.int .i64 (S.lf - 1))).alloc (.cells #[.int .i64 d.k, .int .i64 d.l, .int .i64 d.o, .int .i64 d.n, .float .f64 d.f, .string d.s, .slice x.ra d.rn x.rc, .slice x.ka d.kn x.kc] 95))) := (HL.out.1.left (S.lf - 1)).trans (Lx.below (HL.out.1.left (S.lf - 1)).s (below_alloc _ _))
  refine (lbFn_calls I _ _ H1.out.s).mono ?_
  rintro e w1 ⟨rfl, hb1⟩
  have H2 : Hid (Lx I S u { S with lf := S.lf - 1 } w1 ∧ Has w1 u.heap.size (nodeC d x)) := by
    refine ⟨H1.out.trans (Lx.below H1.out.s hb1), ?_⟩
    have h9 := (Has.new (u.setCell ⟨I.B, 3, none⟩ (.int .i64 (S.lf - 1))) (nodeC d x) 95).call hb1
    rw [World.size_setCell] at h9
    exact h9
  clear hb1 b3 bz hbl hw H1
  have f6 := H2.out.1.s.f.cell.2.1
  have fz := H2.out.1.s.f.cell.2.2.1
  have hfl := H2.out.1.s.f.cell.2.2.2
  have n0 := H2.out.2.cell 0 rfl
  have n1 := H2.out.2.cell 1 rfl
  have n2 := H2.out.2.cell 2 rfl
  have n3 := H2.out.2.cell 3 rfl
  have n4 := H2.out.2.cell 4 rfl
  have n5 := H2.out.2.cell 5 rfl
  have n6 := H2.out.2.cell 6 rfl
  have n7 := H2.out.2.cell 7 rfl
  have hul : u.heap.size < w1.heap.size := H2.out.2.1
  obtain ⟨S1, hS1⟩ : ∃ S1, S1 = { S with lf := S.lf - 1 } := ⟨_, rfl⟩
  obtain ⟨i0, hi0, hy0, hy1, hy2⟩ := info_parts infoNodeL
  have HD : Hid (LB I { S with lf := S.lf - 1 } (w1.alloc (.cells (nodeC d x) 95)).drew) := (H2.out.1.s.alloc _).drew
  obtain ⟨v', w7, happ, hown, hgrow, _, hat⟩ := run_append_own_at (P := Tryz.prog) (w1.alloc (.cells (nodeC d x) 95)).drew I.N 88 88 95 i0 _ 8 104 Tryz.underlying88 hi0 hy0 hy1 hy2 rfl (by decide) (.slice S.na S.l.length S.nc) S.l.length (nLs S.l) HD.out.r ⟨w1.heap.size, 0, none⟩ 1 1 (n8 (d, x)) rfl (new_news w1 (nodeC d x) _) (n8_one _) (by unfold maxLen; omega) (by omega) (by have := HD.out.n; exact this)
  have hrk : rOk I { S with lf := S.lf - 1 } (w1.alloc (.cells (nodeC d x) 95)).drew x.ra d.rn d.r ∧ rOk I { S with lf := S.lf - 1 } (w1.alloc (.cells (nodeC d x) 95)).drew x.ka d.kn d.c := ⟨((H2.out.1.row HL.out.2.1).call (below_alloc _ _)).call (bl_drew (bl_refl _)), ((H2.out.1.row HL.out.2.2).call (below_alloc _ _)).call (bl_drew (bl_refl _))⟩
  obtain ⟨na, nc, rfl, hpush⟩ := HD.out.push d x hrk.1 hrk.2 hc hown hgrow hat
  have HN : Hid (Lx I S u ({ S with lf := S.lf - 1 }.add (d, x) na nc) (w7.setCell ⟨I.F, 6, none⟩ (.slice na (S.l.length + 1) nc))) := (H2.out.1.trans (Lx.below H2.out.1.s ((below_alloc _ _).drew))).trans hpush
  have f7 : w7.cell? ⟨I.F, 6, none⟩ = some (.slice S.na S.l.length S.nc) := by
    have hn : bkOf S.na ≠ some I.F := fun e => by have h1 := (own_ge HD.out.r e).1; have h2 := HD.out.i.f; omega
    rw [own_bk] at hgrow
    exact (World.cell?_of_block (a := ⟨I.F, 6, none⟩) (hgrow.block I.F (by simp; omega) (fun e => hn e.symm))).trans HD.out.f.cell.2.1
  have f7z : ∀ o, w7.frozen? ⟨I.F, o, none⟩ = false := fun o => by
    have hn : bkOf S.na ≠ some I.F := fun e => by have h1 := (own_ge HD.out.r e).1; have h2 := HD.out.i.f; omega
    rw [own_bk] at hgrow
    exact (World.frozen?_of_block (a := ⟨I.F, o, none⟩) (hgrow.block I.F (by simp; omega) (fun e => hn e.symm))).trans (HD.out.f.cell.2.2.1 o)
  have hF7 : I.F < w7.heap.size := by have h1 := hgrow.size; simp at h1; omega
  clear hown hgrow hat hpush hrk HD H2 hi0 hy0 hy1 hy2 HL hS1
  go_upto_region 3 with fail
  go_region_law (first
    | (refine step_app (by rfl) _ _ _ _ (by rfl) (.slice S.na S.l.length S.nc) (.slice (some ⟨w1.heap.size, 0, none⟩) 1 1) _ _ (by rfl) (by rfl) happ ?_))
  all_goals
    have f8 : (w7.setCell ⟨I.F, 6, none⟩ (.slice na (S.l.length + 1) nc)).cell? ⟨I.F, 6, none⟩ = some (.slice na (S.l.length + 1) nc) := by
      have := HN.out.s.f.cell.2.1
      simpa [LBS.add] using this
    generalize w7.setCell ⟨I.F, 6, none⟩ (.slice na (S.l.length + 1) nc) = w8 at *
    clear happ f7 f7z hF7
    go_wp2_with fail
    go_ret
    refine ⟨?_, na, nc, HN.out⟩
    first
    | rfl
    | (congr 2; go_num)
    | (congr 2; omega)
end Go.Proofs.YtdialodjllpgaaaGreatDoor

/-! The specification makes units: lines, statements. -/
namespace Go.Proofs.YtdialodjllpgaaaGreatDoor
open Go.RowKit
attribute [local go_sem] run_store_float
attribute [local go_sem ↓] Go.wp_at_zero Go.wp_at_succ

theorem wrap_small {z : Int} (h1 : -1000000 ≤ z) (h2 : z ≤ 1000000) : IntKind.i64.wrap z = z := by
  simp [IntKind.wrap, IntKind.bits, IntKind.signed]; omega
theorem LB.pick {I : LBI} {S : LBS} {u u' : World} (h : LB I S u) (hc : CU I.C none 0 0 (S.A + 2) u') (hg : u.grownBy u' (some I.C)) : Lx I S u { S with A := S.A + 2 } u' := by
  have hi := h.i
  have g : Gx (fun k => k = I.C) u u' := (Gx.grown hg).mono (fun k e => (Option.some.inj e).symm)
  have hb : ∀ k, k < u.heap.size → k ≠ I.C → u'.heap[k]? = u.heap[k]? := fun k hk e => g.block k hk e
  have hq : ∀ {a : Option Addr} {n : Nat} {q : Nat → Int}, rOk I S u a n q → rOk I { S with A := S.A + 2 } u' a n q := fun r => r.gx g (fun k e => .inl (e ▸ hi.c)) (fun _ _ => ⟨fun e => e, fun e => e⟩)
  have hn := h.n
  have h1 := hi.b
  have h2 := hi.c
  have h3 := hi.f
  have h4 := hi.k
  exact ⟨⟨hi, h.b.block g.size (hb _ (by omega) hi.bc), hc, h.f.block g.size (hb _ (by omega) hi.cf.symm), h.k.block g.size (hb _ (by omega) hi.ck.symm), ownsK_block h.r (fun k e => by
    have := own_ge h.r ((own_bk _ _ _).symm.trans e)
    exact hb k this.2 (by omega)), ownsK_block h.v (fun k e => by
    have := own_ge h.v ((own_bk _ _ _).symm.trans e)
    exact hb k this.2 (by omega)), fun p hp => ⟨hq (h.x p hp).1, hq (h.x p hp).2.1, (h.x p hp).2.2⟩, Nat.le_trans hn g.size⟩, g.mono (fun k e => .inl (by subst e; exact ⟨hi.c, .inr (.inl rfl)⟩)), fun _ _ => ⟨fun e => e, fun e => e⟩⟩
theorem LB.lineS {I : LBI} {S : LBS} {u : World} (h : LB I S u) (z : Int) : Lx I S u { S with ln := z } (u.setCell ⟨I.K, 4, none⟩ (.int .i64 z)) := by
  have hi := h.i
  have hB : ∀ k, I.N ≤ k → k ≠ I.K := fun k hk e => by have := hi.k; omega
  have g : Gx (fun k => k = I.K) u (u.setCell ⟨I.K, 4, none⟩ (.int .i64 z)) := Gx.set u I.K 4 _
  refine ⟨⟨hi, own_other h.b hi.bk, ?_, h.f.other hi.fk, h.k.set, ownsK_set h.r _ fun k e => hB k (own_ge h.r ((own_bk _ _ _).symm.trans e)).1, ownsK_set h.v _ fun k e => hB k (own_ge h.v ((own_bk _ _ _).symm.trans e)).1, fun p hp => ?_, by simpa using h.n⟩, g.mono (fun k e => .inl (by subst e; exact ⟨hi.k, .inr (.inr (.inr rfl))⟩)), fun _ _ => ⟨fun e => e, fun e => e⟩⟩
  · obtain ⟨t, s, h1, h2⟩ := h.c
    have hk : (u.setCell ⟨I.K, 4, none⟩ (.int .i64 z)).heap[I.C]? = u.heap[I.C]? := Below.heap_setCell _ _ _ _ hi.ck
    exact ⟨t, s, h1, by simpa using h2.lt, ⟨(World.cell?_of_block (a := ⟨I.C, 0, none⟩) hk).trans h2.c.1, (World.cell?_of_block (a := ⟨I.C, 1, none⟩) hk).trans h2.c.2.1, (World.cell?_of_block (a := ⟨I.C, 2, none⟩) hk).trans h2.c.2.2⟩, fun o => (World.frozen?_of_block (a := ⟨I.C, o, none⟩) hk).trans (h2.fr o), fun i hi => absurd hi (Nat.not_lt_zero _)⟩
  · obtain ⟨x1, x2, x3⟩ := h.x p hp
    have hq : ∀ {a : Option Addr} {n : Nat} {q : Nat → Int}, rOk I S u a n q → rOk I { S with ln := z } (u.setCell ⟨I.K, 4, none⟩ (.int .i64 z)) a n q := fun r => r.gx g (fun k e => .inl (by subst e; exact hi.k)) (fun _ _ => ⟨fun e => e, fun e => e⟩)
    exact ⟨hq x1, hq x2, x3⟩
/-- behind a line was drawn -/
abbrev LBS.lined (S : LBS) (v : Int) : LBS := { S with A := S.A + 2, ln := S.ln + v }
set_option maxRecDepth 100000 in
set_option maxHeartbeats 8000000 in
theorem lbLine_calls (I : LBI) (S : LBS) (u : World) (h : LB I S u) (hA : S.A < 100) (h1 : 0 ≤ S.ln) (h2 : S.ln ≤ 1000) :
    Calls Tryz.prog 29 #[ptr I.B] u fun e w' => ∃ v : Int, 0 ≤ v ∧ v ≤ 2 ∧ e = .returned (.int .i64 (1 + (S.ln + v))) ∧ Lx I S u (S.lined v) w' := by
  have HL : Hid (LB I S u) := h
  clear h
  go_enter Tryz.func29, Tryz.ntmps29
  go_upto_region 1 with fail
  have hb0 := HL.out.b.1.cell 0 rfl
  have hk0 := HL.out.k.cell.2.1
  go_region_with
    (first
     | (go_at_call 66; refine (lbAt_calls I S _ ?_).mono ?_; (first | exact HL.out | exact HL.out.drew); rintro e w1 ⟨rfl, hb⟩; have HB1 : Hid (Below u.heap.size u w1) := below_call (bl_drew (bl_refl u)) hb; have hk1 := (HL.out.call HB1.out).k.cell.2.1; have hb1 := (HL.out.call HB1.out).b.1.cell 0 rfl; clear hb)
     | (go_at_call 68; refine (pick_calls I.C none 0 0 S.A 3 _ (by omega) (by omega) (by omega) ?_).mono ?_; exact (HL.out.call HB1.out).c; rintro e w2 ⟨⟨v, rfl, hv1, hv2⟩, hc, hg⟩; have H2 : Hid (Lx I S u { S with A := S.A + 2 } w2) := (Lx.below HL.out HB1.out).trans ((HL.out.call HB1.out).pick hc hg); have hwv : IntKind.i64.wrap (S.ln + v) = S.ln + v := wrap_small (by omega) (by omega); have hb2 := H2.out.s.b.1.cell 0 rfl; have kz := H2.out.s.k.cell.2.2.1; have kc := H2.out.s.k.cell.2.1; have kl := H2.out.s.k.cell.2.2.2; clear hc hg))
  all_goals
    have H3 : Hid (Lx I S u (S.lined v) (w2.setCell ⟨I.K, 4, none⟩ (.int .i64 (S.ln + v)))) := H2.out.trans (H2.out.s.lineS (S.ln + v))
    generalize w2.setCell ⟨I.K, 4, none⟩ (.int .i64 (S.ln + v)) = w3 at *
    clear hk0 hb0 kz kc kl hb2 hwv
    go_wp2_with fail
    refine (lbAt_calls I _ _ H3.out.s).mono ?_
    rintro e w4 ⟨rfl, hb4⟩
    have H4 : Hid (Lx I S u (S.lined v) w4) := H3.out.trans (Lx.below H3.out.s hb4)
    have k4 := H4.out.s.k.cell.2.1
    have hw4 : IntKind.i64.wrap (1 + (S.ln + v)) = 1 + (S.ln + v) := wrap_small (by omega) (by omega)
    clear hb4
    go_wp2_with fail
    go_ret
    exact ⟨v, hv1, by omega, rfl, H4.out⟩
end Go.Proofs.YtdialodjllpgaaaGreatDoor

/-! The specification makes units: statements and expressions. -/
namespace Go.Proofs.YtdialodjllpgaaaGreatDoor
open Go.RowKit
attribute [local go_sem] run_store_float
attribute [local go_sem ↓] Go.wp_at_zero Go.wp_at_succ

/-- a list of ints in memory -/
structure IL where
  a : Option Addr
  n : Nat
  c : Nat
  q : Nat → Int
abbrev ilV (r : IL) : Value := .slice r.a r.n r.c
abbrev il0 : IL := ⟨none, 0, 0, fun _ => 0⟩
abbrev ndR (k l n : Int) (r c : IL) : ND := ⟨k, l, 0, n, 0, ⟨#[]⟩, r.n, r.q, c.n, c.q⟩
abbrev naR (r c : IL) : NA := ⟨r.a, r.c, c.a, c.c⟩
theorem rOk0 (I : LBI) (S : LBS) (u : World) : rOk I S u none 0 (fun _ => 0) := ⟨fun h => absurd h (Nat.not_lt_zero _), fun _ e => nomatch e⟩
/-- the builder can go on -/
structure Gd (S : LBS) (n : Nat) : Prop where
  l : S.l.length ≤ n
  f1 : 2000 ≤ S.lf + n
  f2 : S.lf ≤ 100000
  A : S.A ≤ 2 * n
  n1 : 0 ≤ S.ln
  n2 : S.ln ≤ 2 * n
/-- a node was put behind -/
structure Ad (I : LBI) (S : LBS) (u : World) (d : ND) (x : NA) (S' : LBS) (w' : World) : Prop where
  lx : Lx I S u S' w'
  l : S'.l = S.l ++ [(d, x)]
  va : S'.va = S.va ∧ S'.vc = S.vc ∧ S'.vl = S.vl
theorem Gd.lf {S : LBS} {n : Nat} (h : Gd S n) (hn : n ≤ 40) : 1000 ≤ S.lf := by have := h.f1; omega
set_option maxRecDepth 100000 in
set_option maxHeartbeats 8000000 in
theorem lbStat_calls (I : LBI) (S : LBS) (k : Int) (r c : IL) (n : Nat) (u : World) (h : LB I S u) (hg : Gd S n) (hn : n ≤ 40) (hr : rOk I S u r.a r.n r.q) (hc : rOk I S u c.a c.n c.q) (hcc : c.n ≤ c.c) :
    Calls Tryz.prog 17 #[ptr I.B, .int .i64 k, ilV r, ilV c] u fun e w' => e = .returned (.int .i64 (S.l.length : Int)) ∧ ∃ (l : Int) (S' : LBS), 1 ≤ l ∧ l ≤ 1000 ∧ Ad I S u (ndR k l 0 r c) (naR r c) S' w' ∧ Gd S' (n + 1) := by
  have HL : Hid (LB I S u ∧ Gd S n ∧ rOk I S u r.a r.n r.q ∧ rOk I S u c.a c.n c.q) := ⟨h, hg, hr, hc⟩
  clear h hg hr hc
  go_enter Tryz.func17, Tryz.ntmps17
  go_wp2_with fail
  refine (lbLine_calls I S _ HL.out.1 (by have := HL.out.2.1.A; omega) HL.out.2.1.n1 (by have := HL.out.2.1.n2; omega)).mono ?_
  rintro e w1 ⟨v, hv1, hv2, rfl, hx⟩
  have HX : Hid (Lx I S u (S.lined v) w1) := hx
  clear hx
  go_wp2_with fail
  have hN := lbNode_calls I (S.lined v) (ndR k (1 + (S.ln + v)) 0 r c) (naR r c) w1 HX.out.s (HX.out.row HL.out.2.2.1) (HX.out.row HL.out.2.2.2) hcc (by have := HL.out.2.1.l; show S.l.length ≤ 100; omega) (HL.out.2.1.lf hn) HL.out.2.1.f2
  refine hN.mono ?_
  clear hN
  rintro e w2 ⟨rfl, na, nc, hy⟩
  have HY : Hid _ := HX.out.trans hy
  clear hy
  go_wp2_with fail
  go_ret
  have g := HL.out.2.1
  have g1 := g.l; have g2 := g.f1; have g3 := g.f2; have g4 := g.A; have g5 := g.n1; have g6 := g.n2
  refine ⟨rfl, 1 + (S.ln + v), _, by omega, by omega, ⟨HY.out, rfl, rfl, rfl, rfl⟩, ⟨?_, ?_, ?_, ?_, ?_, ?_⟩⟩
  · show (S.l ++ [_]).length ≤ n + 1
    simp; omega
  · show 2000 ≤ S.lf - 1 + (n + 1 : Nat)
    omega
  · show S.lf - 1 ≤ 100000
    omega
  · show S.A + 2 ≤ 2 * (n + 1)
    omega
  · show 0 ≤ S.ln + v
    omega
  · show S.ln + v ≤ 2 * (n + 1 : Nat)
    omega
theorem Gd.add {S : LBS} {n : Nat} (g : Gd S n) (p : ND × NA) (na : Option Addr) (nc : Nat) : Gd ({ S with lf := S.lf - 1 }.add p na nc) (n + 1) := by
  have g1 := g.l; have g2 := g.f1; have g3 := g.f2; have g4 := g.A; have g5 := g.n1; have g6 := g.n2
  refine ⟨?_, ?_, ?_, ?_, ?_, ?_⟩
  · show (S.l ++ [_]).length ≤ n + 1
    simp; omega
  · show 2000 ≤ S.lf - 1 + (n + 1 : Nat)
    omega
  · show S.lf - 1 ≤ 100000
    omega
  · show S.A ≤ 2 * (n + 1)
    omega
  · exact g5
  · show S.ln ≤ 2 * (n + 1 : Nat)
    omega
/-- a node more, without a line -/
def AdP (I : LBI) (S : LBS) (u : World) (d : ND) (x : NA) (n : Nat) (e : Ending) (w' : World) : Prop := e = .returned (.int .i64 (S.l.length : Int)) ∧ ∃ S', Ad I S u d x S' w' ∧ Gd S' (n + 1)
theorem node_adp (I : LBI) (S : LBS) (d : ND) (x : NA) (n : Nat) (u : World) (h : LB I S u) (hg : Gd S n) (hn : n ≤ 40) (hr : rOk I S u x.ra d.rn d.r) (hk : rOk I S u x.ka d.kn d.c) (hc : d.kn ≤ x.kc) : Calls Tryz.prog 25 #[ptr I.B, nodeV d x] u fun e w' => AdP I S u d x n e w' :=
  (lbNode_calls I S d x u h hr hk hc (by have := hg.l; omega) (hg.lf hn) hg.f2).mono (by
    rintro e w' ⟨rfl, na, nc, hx⟩
    exact ⟨rfl, _, ⟨hx, rfl, rfl, rfl, rfl⟩, hg.add _ na nc⟩)
theorem AdP.first {I : LBI} {S : LBS} {u u1 : World} {d : ND} {x : NA} {n : Nat} {e : Ending} {w' : World} (h : LB I S u) (hb : Below u.heap.size u u1) (k : AdP I S u1 d x n e w') : AdP I S u d x n e w' := by
  obtain ⟨rfl, S', ha, hg⟩ := k
  exact ⟨rfl, S', ⟨(Lx.below h hb).trans ha.lx, ha.l, ha.va⟩, hg⟩
set_option maxRecDepth 100000 in
set_option maxHeartbeats 8000000 in
theorem lbLit_calls (I : LBI) (S : LBS) (z : Int) (n : Nat) (u : World) (h : LB I S u) (hg : Gd S n) (hn : n ≤ 40) :
    Calls Tryz.prog 13 #[ptr I.B, .float .f64 0, .bool true, .int .i64 z] u fun e w' => AdP I S u (ndR 23 0 z il0 il0) (naR il0 il0) n e w' := by
  have HN : Hid _ := node_adp I S (ndR 23 0 z il0 il0) (naR il0 il0) n u h hg hn (rOk0 _ _ _) (rOk0 _ _ _) (Nat.le_refl _)
  clear h hg
  go_enter Tryz.func13, Tryz.ntmps13
  go_wp2_with fail
  refine Calls.mono HN.out ?_
  rintro e w1 ⟨rfl, hx⟩
  have HX : Hid _ := hx
  clear hx HN
  go_wp2_with fail
  go_ret
  exact ⟨rfl, HX.out⟩
set_option maxRecDepth 100000 in
set_option maxHeartbeats 8000000 in
theorem lbBuiltin_calls (I : LBI) (S : LBS) (n : Nat) (u : World) (h : LB I S u) (hg : Gd S n) (hn : n ≤ 40) :
    Calls Tryz.prog 27 #[ptr I.B, .int .i64 0] u fun e w' => AdP I S u (ndR 28 0 0 il0 il0) (naR il0 il0) n e w' := by
  have HN : Hid _ := node_adp I S (ndR 28 0 0 il0 il0) (naR il0 il0) n u h hg hn (rOk0 _ _ _) (rOk0 _ _ _) (Nat.le_refl _)
  clear h hg
  go_enter Tryz.func27, Tryz.ntmps27
  go_wp2_with fail
  refine Calls.mono HN.out ?_
  rintro e w1 ⟨rfl, hx⟩
  have HX : Hid _ := hx
  clear hx HN
  go_wp2_with fail
  go_ret
  exact ⟨rfl, HX.out⟩
set_option maxRecDepth 100000 in
set_option maxHeartbeats 8000000 in
theorem lbKids_calls (I : LBI) (S : LBS) (k : Int) (c : IL) (n : Nat) (u : World) (h : LB I S u) (hg : Gd S n) (hn : n ≤ 40) (hc : rOk I S u c.a c.n c.q) (hcc : c.n ≤ c.c) :
    Calls Tryz.prog 67 #[ptr I.B, .int .i64 k, ilV c] u fun e w' => AdP I S u (ndR k 0 0 il0 c) (naR il0 c) n e w' := by
  have HN : Hid _ := node_adp I S (ndR k 0 0 il0 c) (naR il0 c) n u h hg hn (rOk0 _ _ _) hc hcc
  clear h hg hc
  go_enter Tryz.func67, Tryz.ntmps67
  go_wp2_with fail
  refine Calls.mono HN.out ?_
  rintro e w1 ⟨rfl, hx⟩
  have HX : Hid _ := hx
  clear hx HN
  go_wp2_with fail
  go_ret
  exact ⟨rfl, HX.out⟩
set_option maxRecDepth 100000 in
set_option maxHeartbeats 8000000 in
theorem lbCall_calls (I : LBI) (S : LBS) (c : IL) (n : Nat) (u : World) (h : LB I S u) (hg : Gd S n) (hn : n ≤ 40) (hc : rOk I S u c.a c.n c.q) (hcc : c.n ≤ c.c) :
    Calls Tryz.prog 28 #[ptr I.B, ilV c] u fun e w' => AdP I S u (ndR 34 0 0 il0 c) (naR il0 c) n e w' := by
  have HN : Hid _ := lbKids_calls I S 34 c n u h hg hn hc hcc
  clear h hg hc
  go_enter Tryz.func28, Tryz.ntmps28
  go_wp2_with fail
  refine Calls.mono HN.out ?_
  rintro e w1 ⟨rfl, hx⟩
  have HX : Hid _ := hx
  clear hx HN
  go_wp2_with fail
  go_ret
  exact ⟨rfl, HX.out⟩
/-- a new row of ints lies apart -/
theorem rOk_new {I : LBI} {S : LBS} {u : World} (h : LB I S u) (z : Int) (t : TypeId) : rOk I S (u.alloc (.cells #[.int .i64 z] t)) (some ⟨u.heap.size, 0, none⟩) 1 (fun _ => z) := by
  refine ⟨fun _ => ⟨u.heap.size, 0, rfl, Nat.zero_le _, by simp, fun i hi j hj => ?_⟩, fun b e => ?_⟩
  · obtain rfl : i = 0 := by omega
    obtain rfl : j = 0 := by omega
    exact (Has.new u #[.int .i64 z] t).2 0
  · cases e
    exact ⟨h.n, by simp, fun e => Nat.lt_irrefl _ (own_ge h.r e).2, fun e => Nat.lt_irrefl _ (own_ge h.v e).2⟩
set_option maxRecDepth 100000 in
set_option maxHeartbeats 8000000 in
theorem lbVariable_calls (I : LBI) (S : LBS) (n : Nat) (u : World) (h : LB I S u) (hg : Gd S n) (hn : n ≤ 40) :
    Calls Tryz.prog 15 #[ptr I.B, .int .i64 0] u fun e w' => AdP I S u (ndR 26 0 0 ⟨some ⟨u.heap.size, 0, none⟩, 1, 1, fun _ => 0⟩ il0) (naR ⟨some ⟨u.heap.size, 0, none⟩, 1, 1, fun _ => 0⟩ il0) n e w' := by
  have HL : Hid (LB I S u) := h
  have HN : Hid _ := node_adp I S (ndR 26 0 0 ⟨some ⟨u.heap.size, 0, none⟩, 1, 1, fun _ => 0⟩ il0) (naR ⟨some ⟨u.heap.size, 0, none⟩, 1, 1, fun _ => 0⟩ il0) n (u.alloc (.cells #[.int .i64 0] 3)) (h.alloc _) hg hn (rOk_new h 0 _) (rOk0 _ _ _) (Nat.le_refl _)
  clear h hg
  go_enter Tryz.func15, Tryz.ntmps15
  go_wp2_with fail
  refine Calls.mono HN.out ?_
  intro e w1 hx
  have HX := AdP.first HL.out (below_alloc _ _) hx
  obtain ⟨rfl, hy⟩ := HX
  have HY : Hid _ := hy
  clear hx HN hy
  go_wp2_with fail
  go_ret
  exact ⟨rfl, HY.out⟩
end Go.Proofs.YtdialodjllpgaaaGreatDoor

/-! The specification makes units: a variable. -/
namespace Go.Proofs.YtdialodjllpgaaaGreatDoor
open Go.RowKit
attribute [local go_sem] run_store_float
attribute [local go_sem ↓] Go.wp_at_zero Go.wp_at_succ

theorem conv_a (w : World) : (convert 22 9 (.slice (some ⟨w.heap.size, 0, none⟩) 1 1)).run Tryz.prog (w.alloc (.cells #[.int .u8 97] 5)) = .ok (.string ⟨#[97]⟩) (w.alloc (.cells #[.int .u8 97] 5)) := by
  have h := run_convert_bytes_arg (P := Tryz.prog) (w := w.alloc (.cells #[.int .u8 97] 5)) 22 5 Tryz.underlying22 Tryz.underlying5 w.heap.size 0 1 1 [97] rfl (fun i hi => by
    obtain rfl : i = 0 := by omega
    exact World.cell?_alloc_new w #[.int .u8 97] 5 0) 9 Tryz.underlying9
  rw [show strOfNums [97] = ⟨#[97]⟩ by rfl] at h
  exact h
theorem conv_ad (w : World) : (convert 22 9 (.slice (some ⟨w.heap.size, 0, none⟩) 1 1)).run Tryz.prog (w.alloc (.cells #[.int .u8 97] 5)).drew = .ok (.string ⟨#[97]⟩) (w.alloc (.cells #[.int .u8 97] 5)).drew := by
  have h := run_convert_bytes_arg (P := Tryz.prog) (w := (w.alloc (.cells #[.int .u8 97] 5)).drew) 22 5 Tryz.underlying22 Tryz.underlying5 w.heap.size 0 1 1 [97] rfl (fun i hi => by
    obtain rfl : i = 0 := by omega
    exact World.cell?_alloc_new w #[.int .u8 97] 5 0) 9 Tryz.underlying9
  rw [show strOfNums [97] = ⟨#[97]⟩ by rfl] at h
  exact h
theorem LB.pushV {I : LBI} {S : LBS} {u w7 : World} (h : LB I S u) {v' : Value} (ho : w7.ownsRow I.N 9 1 v' 1 [.string ⟨#[97]⟩]) (hg : u.grownBy w7 none) (hat : v'.ownBlock = none ∨ v'.ownBlock = some u.heap.size) :
    ∃ va vc, v' = .slice va 1 vc ∧ Lx I S u { S with va := va, vc := vc, vl := [.string ⟨#[97]⟩] } (w7.setCell ⟨I.F, 4, none⟩ v') := by
  obtain ⟨va, vc, rfl⟩ := ownsK_form ho
  rw [own_bk] at hat
  have hi := h.i
  have hgx : Gx (fun _ => False) u w7 := (Gx.grown hg).mono (fun k e => by cases e)
  have hb : ∀ k, k < u.heap.size → w7.heap[k]? = u.heap[k]? := fun k hk => hgx.block k hk (fun e => e)
  have g : Gx (fun k => k = I.F) u (w7.setCell ⟨I.F, 4, none⟩ (.slice va 1 vc)) := (hgx.mono (fun k e => e.elim)).trans (Gx.set w7 I.F 4 _) (fun _ _ e => e)
  have hm : ∀ k, k < u.heap.size → (bkOf va = some k → bkOf S.va = some k) := fun k hk e => by
    rcases hat with c | c
    · rw [c] at e; cases e
    · rw [c] at e; have := Option.some.inj e; omega
  have hn := h.n
  have h1 := hi.b
  have h2 := hi.c
  have h3 := hi.f
  have h4 := hi.k
  have hq : ∀ {a : Option Addr} {n : Nat} {q : Nat → Int}, rOk I S u a n q → rOk I { S with va := va, vc := vc, vl := [.string ⟨#[97]⟩] } (w7.setCell ⟨I.F, 4, none⟩ (.slice va 1 vc)) a n q := fun r => r.gx g (fun k e => .inl (e ▸ hi.f)) (fun k hk => ⟨fun e => e, hm k hk⟩)
  have hF : ∀ k, I.N ≤ k → k ≠ I.F := fun k hk e => by omega
  refine ⟨va, vc, rfl, ⟨hi, own_other (h.b.block hgx.size (hb _ (by omega))) hi.bf, ?_, ?_, (h.k.block hgx.size (hb _ (by omega))).other hi.fk.symm, ?_, ?_, fun p hp => ⟨hq (h.x p hp).1, hq (h.x p hp).2.1, (h.x p hp).2.2⟩, by have := hgx.size; simp; omega⟩, g.mono (fun k e => .inl (by subst e; exact ⟨hi.f, .inr (.inr (.inl rfl))⟩)), fun k hk => ⟨fun e => e, hm k hk⟩⟩
  · obtain ⟨t, s, h1, h2⟩ := h.c
    have hk : (w7.setCell ⟨I.F, 4, none⟩ (.slice va 1 vc)).heap[I.C]? = u.heap[I.C]? := (Below.heap_setCell _ _ _ _ hi.cf).trans (hb _ (by omega))
    exact ⟨t, s, h1, by have := hgx.size; have := h2.lt; simp; omega, ⟨(World.cell?_of_block (a := ⟨I.C, 0, none⟩) hk).trans h2.c.1, (World.cell?_of_block (a := ⟨I.C, 1, none⟩) hk).trans h2.c.2.1, (World.cell?_of_block (a := ⟨I.C, 2, none⟩) hk).trans h2.c.2.2⟩, fun o => (World.frozen?_of_block (a := ⟨I.C, o, none⟩) hk).trans (h2.fr o), fun i hi => absurd hi (Nat.not_lt_zero _)⟩
  · exact (h.f.block hgx.size (hb _ (by omega))).set4 (v := .slice va 1 vc)
  · refine ownsK_set ?_ _ fun k e => hF k (own_ge h.r ((own_bk _ _ _).symm.trans e)).1
    exact ownsK_block h.r fun k e => hb k (own_ge h.r ((own_bk _ _ _).symm.trans e)).2
  · exact ownsK_set ho _ fun k e => hF k (own_ge ho ((own_bk _ _ _).symm.trans e)).1
set_option maxRecDepth 100000 in
set_option maxHeartbeats 8000000 in
theorem lbFresh_calls (I : LBI) (S : LBS) (n : Nat) (u : World) (h : LB I S u) (hg : Gd S n) (hv : S.vl = []) (hva : S.va = none) (hvc : S.vc = 0) :
    Calls Tryz.prog 14 #[ptr I.B] u fun e w' => e = .returned (.int .i64 0) ∧ ∃ S', Lx I S u S' w' ∧ S'.l = S.l ∧ S'.vl = [.string ⟨#[97]⟩] ∧ Gd S' n := by
  have HL : Hid (LB I S u ∧ Gd S n) := ⟨h, hg⟩
  clear h hg
  go_enter Tryz.func14, Tryz.ntmps14
  go_wp2_with fail
  refine (lbFn_calls I S _ HL.out.1).mono ?_
  rintro e w1 ⟨rfl, hb1⟩
  have H2 : Hid (Lx I S u S w1) := Lx.below HL.out.1 hb1
  have f4 := H2.out.s.f.cell.1
  have fz := H2.out.s.f.cell.2.2.1
  have hfl := H2.out.s.f.cell.2.2.2
  rw [hva, hv, hvc] at f4
  clear hb1
  obtain ⟨i0, hi0, hy0, hy1, hy2⟩ := info_parts infoStr'
  obtain ⟨ta, hta⟩ : ∃ ta : Option Addr, Hid (ta = none) := ⟨_, rfl⟩
  have htv : Hid (Value.slice none 0 0 = .slice ta 0 0) := by rw [hta.out]; exact rfl
  have hca := conv_a
  have hcd := conv_ad
  have hw1 : IntKind.i64.wrap 97 = 97 := by decide
  have hw2 : IntKind.u8.wrap 97 = 97 := by decide
  have HD : Hid (LB I S ((w1.alloc (.cells #[.int .u8 97] 5)).alloc (.cells #[.string ⟨#[97]⟩] 9)).drew) := ((H2.out.s.alloc _).alloc _).drew
  obtain ⟨v', w7, happ, hown, hgrow, _, hat⟩ := run_append_own_at (P := Tryz.prog) ((w1.alloc (.cells #[.int .u8 97] 5)).alloc (.cells #[.string ⟨#[97]⟩] 9)).drew I.N 25 25 9 i0 _ 1 16 Tryz.underlying25 hi0 hy0 hy1 hy2 rfl (by decide) (.slice none 0 0) 0 [] (World.ownsRow_nil _ _ _ _) ⟨w1.heap.size + 1, 0, none⟩ 1 1 [.string ⟨#[97]⟩] rfl (fun j v e => by
    have hn := new_news (w1.alloc (.cells #[.int .u8 97] 5)) #[.string ⟨#[97]⟩] 9 j v e
    rw [World.size_alloc] at hn
    exact hn) (by simp [Value.oneCell']) (by unfold maxLen; omega) (by omega) (by have := HD.out.n; exact this)
  obtain ⟨va, vc, rfl, hpush⟩ := HD.out.pushV hown hgrow hat
  have HN : Hid (Lx I S u { S with va := va, vc := vc, vl := [.string ⟨#[97]⟩] } (w7.setCell ⟨I.F, 4, none⟩ (.slice va 1 vc))) := (H2.out.trans (Lx.below H2.out.s ((below_alloc2 _ _ _).drew))).trans hpush
  have f7 : w7.cell? ⟨I.F, 4, none⟩ = some (.slice ta 0 0) := by
    have hx := (World.cell?_of_block (a := ⟨I.F, 4, none⟩) (hgrow.block I.F (by simp; omega) (by simp [Value.ownBlock]))).trans HD.out.f.cell.1
    rw [hva, hv, hvc] at hx
    rw [← htv.out]
    exact hx
  have f7z : ∀ o, w7.frozen? ⟨I.F, o, none⟩ = false := fun o => (World.frozen?_of_block (a := ⟨I.F, o, none⟩) (hgrow.block I.F (by simp; omega) (by simp [Value.ownBlock]))).trans (HD.out.f.cell.2.2.1 o)
  have hF7 : I.F < w7.heap.size := by have h1 := hgrow.size; simp at h1; omega
  rw [htv.out] at happ
  replace f4 : w1.cell? ⟨I.F, 4, none⟩ = some (.slice ta 0 0) := by rw [← htv.out]; exact f4
  clear hown hgrow hat hpush HD H2 hi0 hy0 hy1 hy2 htv
  go_upto_region 2 with fail
  go_region_law (first
    | (refine step_app (by rfl) _ _ _ _ (by rfl) (.slice ta 0 0) (.slice (some ⟨w1.heap.size + 1, 0, none⟩) 1 1) _ _ (by rfl) (by rfl) happ ?_))
  all_goals
    have f8 : (w7.setCell ⟨I.F, 4, none⟩ (.slice va 1 vc)).cell? ⟨I.F, 4, none⟩ = some (.slice va 1 vc) := HN.out.s.f.cell.1
    generalize w7.setCell ⟨I.F, 4, none⟩ (.slice va 1 vc) = w8 at *
    clear happ f7 f7z hF7
    go_wp2_with fail
    go_ret
    have g := HL.out.2
    exact ⟨rfl, _, HN.out, rfl, rfl, ⟨g.l, g.f1, g.f2, g.A, g.n1, g.n2⟩⟩
end Go.Proofs.YtdialodjllpgaaaGreatDoor

/-! The specification makes units: a print. -/
namespace Go.Proofs.YtdialodjllpgaaaGreatDoor
open Go.RowKit
attribute [local go_sem] run_store_float
attribute [local go_sem ↓] Go.wp_at_zero Go.wp_at_succ

theorem lb_heap_new (v : World) (o : Obj) : (v.alloc o).heap[v.heap.size]? = some o := by
  show (v.heap.push o)[v.heap.size]? = some o
  exact Array.getElem?_push_size
theorem own_new_int {I : LBI} {S : LBS} {u : World} (h : LB I S u) (z : Int) : (u.alloc (.cells #[.int .i64 z] 3)).ownsRow I.N 3 1 (.slice (some ⟨u.heap.size, 0, none⟩) 1 1) 1 [.int .i64 z] :=
  ⟨rfl, .inr ⟨u.heap.size, 1, #[.int .i64 z], rfl, h.n, lb_heap_new u _, Nat.le_refl _, by unfold maxLen; omega, rfl, rfl⟩⟩
/-- the row of a call that prints -/
theorem rOk_two {I : LBI} {S : LBS} {u w7 : World} (h : LB I S u) {g c : Nat} {x y : Int} (ho : w7.ownsRow I.N 3 1 (.slice (some ⟨g, 0, none⟩) 2 c) 2 [.int .i64 x, .int .i64 y]) (hg : u.heap.size ≤ g) : rOk I S w7 (some ⟨g, 0, none⟩) 2 (fun j => if j = 0 then x else y) := by
  refine ⟨fun _ => ⟨g, 0, rfl, Nat.zero_le _, (own_ge ho rfl).2, fun i hi j hj => ?_⟩, fun b e => ?_⟩
  · obtain rfl : j = 0 := by omega
    rcases (show i = 0 ∨ i = 1 by omega) with rfl | rfl
    · have := ho.cells (g := g) rfl 0 (.int .i64 x) rfl
      simpa [Addr.add] using this
    · have := ho.cells (g := g) rfl 1 (.int .i64 y) rfl
      simpa [Addr.add] using this
  · cases e
    exact ⟨by have := h.n; show I.N ≤ g; omega, (own_ge ho rfl).2, fun e => by have h1 := (own_ge h.r e).2; replace h1 : g < u.heap.size := h1; omega, fun e => by have h1 := (own_ge h.v e).2; replace h1 : g < u.heap.size := h1; omega⟩
/-- a print was put behind -/
structure PrS (I : LBI) (S : LBS) (u : World) (z : Int) (n : Nat) (l : Int) (r2 r3 : IL) (S' : LBS) (w' : World) : Prop where
  lx : Lx I S u S' w'
  ll : S'.l = S.l ++ [(ndR 28 0 0 il0 il0, naR il0 il0), (ndR 34 0 0 il0 r2, naR il0 r2), (ndR 4 l 0 il0 r3, naR il0 r3)]
  va : S'.vl = S.vl
  g : Gd S' (n + 3)
  l1 : 1 ≤ l
  l2 : l ≤ 1000
  r2n : r2.n = 2
  r2q : r2.q = fun j => if j = 0 then (S.l.length : Int) else z
  r2c : 2 ≤ r2.c
  r3n : r3.n = 1
  r3q : r3.q = fun _ => (S.l.length : Int) + 1
  r3c : 1 ≤ r3.c
def PrP (I : LBI) (S : LBS) (u : World) (z : Int) (n : Nat) (e : Ending) (w' : World) : Prop := e = .returned (.int .i64 ((S.l.length : Int) + 2)) ∧ ∃ l r2 r3 S', PrS I S u z n l r2 r3 S' w'
set_option maxRecDepth 100000 in
set_option maxHeartbeats 8000000 in
theorem lbPrint_calls (I : LBI) (S : LBS) (kb : Nat) (z : Int) (n : Nat) (u : World) (h : LB I S u) (hg : Gd S n) (hn : n ≤ 30) (hc : rOk I S u (some ⟨kb, 0, none⟩) 1 (fun _ => z)) :
    Calls Tryz.prog 16 #[ptr I.B, .slice (some ⟨kb, 0, none⟩) 1 1] u fun e w' => PrP I S u z n e w' := by
  have HL : Hid (LB I S u ∧ Gd S n ∧ rOk I S u (some ⟨kb, 0, none⟩) 1 (fun _ => z)) := ⟨h, hg, hc⟩
  clear h hg hc
  go_enter Tryz.func16, Tryz.ntmps16
  go_wp2_with fail
  refine (lbBuiltin_calls I S n _ HL.out.1 HL.out.2.1 (by omega)).mono ?_
  rintro e w1 ⟨rfl, S1, ha, hg1⟩
  have H1 : Hid (Ad I S u (ndR 28 0 0 il0 il0) (naR il0 il0) S1 w1 ∧ Gd S1 (n + 1) ∧ rOk I S1 w1 (some ⟨kb, 0, none⟩) 1 (fun _ => z)) := ⟨ha, hg1, ha.lx.row HL.out.2.2⟩
  clear ha hg1
  have hkl : kb < w1.heap.size := (H1.out.2.2.2 _ rfl).2.1
  have kc0 : w1.cell? ⟨kb, 0, none⟩ = some (.int .i64 z) := by
    obtain ⟨b, off, e, _, _, h3⟩ := H1.out.2.2.1 (by omega)
    cases e
    exact h3 0 (by omega) 0 (by omega)
  obtain ⟨f, hf⟩ : ∃ f : Int, (S.l.length : Int) = f := ⟨_, rfl⟩
  rw [hf]
  have HF : Hid ((S.l.length : Int) = f) := hf
  clear hf
  go_wp2_with fail
  go_loopw [6, 16] (fun v i wr => (v = .slice (some ⟨w1.heap.size, 0, none⟩) 1 1 ∧ i = .int .i64 0 ∧ wr = w1.alloc (.cells #[.int .i64 f] 3)) ∨ (∃ g c, v = .slice (some ⟨g, 0, none⟩) 2 c ∧ i = .int .i64 1 ∧ Hid (Below w1.heap.size w1 wr ∧ rOk I S1 wr (some ⟨g, 0, none⟩) 2 (fun j => if j = 0 then f else z) ∧ 2 ≤ c))) (fun _ i _ => 1 - (intOf i).toNat)
  case atStart => exact .inl ⟨rfl, rfl, rfl⟩
  case round =>
    rcases hrel with ⟨rfl, rfl, rfl⟩ | ⟨g, c, rfl, rfl, HR⟩
    · obtain ⟨i0, hi0, hy0, hy1, hy2⟩ := info_parts infoI'
      have hs := H1.out.1.lx.s
      obtain ⟨v', w7, happ, hown, hgrow, _, hat⟩ := run_append_own_at (P := Tryz.prog) ((w1.alloc (.cells #[.int .i64 f] 3)).alloc (.cells #[.int .i64 z] 3)) I.N 49 49 3 i0 _ 1 8 Tryz.underlying49 hi0 hy0 hy1 hy2 rfl (by decide) (.slice (some ⟨w1.heap.size, 0, none⟩) 1 1) 1 [.int .i64 f] (ownsK_below (own_new_int hs f) (below_alloc _ _)) ⟨w1.heap.size + 1, 0, none⟩ 1 1 [.int .i64 z] rfl (fun j v e => by
        have hn := new_news (w1.alloc (.cells #[.int .i64 f] 3)) #[.int .i64 z] 3 j v e
        rw [World.size_alloc] at hn
        exact hn) (by simp [Value.oneCell']) (by unfold maxLen; omega) (by omega) (by have := hs.n; simp; omega)
      obtain ⟨g, c, rfl⟩ : ∃ g c, v' = .slice (some ⟨g, 0, none⟩) 2 c := by
        rcases hown.2 with ⟨_, e⟩ | ⟨g, c, cur, e, _⟩
        · omega
        · exact ⟨g, c, e⟩
      have hgl : w1.heap.size ≤ g := by
        rcases hat with e | e
        · have := Option.some.inj e
          replace this : g = w1.heap.size := this
          omega
        · have := Option.some.inj e
          simp at this
          omega
      have hb7 : Below w1.heap.size w1 w7 := (below_alloc2 w1 _ _).grown hgrow (by simp; omega) (fun k e => by have := Option.some.inj e; replace this : w1.heap.size = k := this; omega)
      have HN : Hid (Below w1.heap.size w1 w7 ∧ rOk I S1 w7 (some ⟨g, 0, none⟩) 2 (fun j => if j = 0 then f else z) ∧ 2 ≤ c) := ⟨hb7, rOk_two hs hown hgl, by
        rcases hown.2 with ⟨_, e⟩ | ⟨g, c, cur, e, _, _, hc, _⟩
        · omega
        · cases e; exact hc⟩
      clear hown hgrow hat hgl hb7 hi0 hy0 hy1 hy2 hs
      go_wp2_with (at_builtin; refine wpList_app (by rfl) _ _ _ _ (by rfl) (.slice (some ⟨w1.heap.size, 0, none⟩) 1 1) (.slice (some ⟨w1.heap.size + 1, 0, none⟩) 1 1) _ _ (by rfl) (by rfl) happ ?_)
      go_roundw
      case rel => exact .inr ⟨g, c, rfl, rfl, HN⟩
      case measure => simp [intOf]
    · have H2 : Hid (Lx I S1 w1 S1 wr) := Lx.below H1.out.1.lx.s HR.out.1
      clear kc0
      go_wp2_with fail
      refine (lbCall_calls I S1 ⟨some ⟨g, 0, none⟩, 2, c, fun j => if j = 0 then f else z⟩ (n + 1) _ H2.out.s H1.out.2.1 (by omega) HR.out.2.1 HR.out.2.2).mono ?_
      rintro e w3 ⟨rfl, S2, ha2, hg2⟩
      have H3 : Hid (Ad I S1 wr (ndR 34 0 0 il0 ⟨some ⟨g, 0, none⟩, 2, c, fun j => if j = 0 then f else z⟩) (naR il0 ⟨some ⟨g, 0, none⟩, 2, c, fun j => if j = 0 then f else z⟩) S2 w3 ∧ Gd S2 (n + 1 + 1)) := ⟨ha2, hg2⟩
      clear ha2 hg2
      go_wp2_with fail
      have hst := lbStat_calls I S2 4 il0 ⟨some ⟨w3.heap.size, 0, none⟩, 1, 1, fun _ => (S1.l.length : Int)⟩ (n + 1 + 1) (w3.alloc (.cells #[.int .i64 (S1.l.length : Int)] 3)) (H3.out.1.lx.s.alloc _) H3.out.2 (by omega) (rOk0 _ _ _) (rOk_new H3.out.1.lx.s _ _) (Nat.le_refl _)
      refine hst.mono ?_
      clear hst
      rintro e w4 ⟨rfl, l, S3, hl1, hl2, ha3, hg3⟩
      have H4 : Hid (Ad I S2 (w3.alloc (.cells #[.int .i64 (S1.l.length : Int)] 3)) (ndR 4 l 0 il0 ⟨some ⟨w3.heap.size, 0, none⟩, 1, 1, fun _ => (S1.l.length : Int)⟩) (naR il0 ⟨some ⟨w3.heap.size, 0, none⟩, 1, 1, fun _ => (S1.l.length : Int)⟩) S3 w4 ∧ Gd S3 (n + 1 + 1 + 1)) := ⟨ha3, hg3⟩
      clear ha3 hg3
      go_wp2_with fail
      go_ret
      have e1 := H1.out.1.l
      have e2 := H3.out.1.l
      have e3 := H4.out.1.l
      have n1 : (S1.l.length : Int) = (S.l.length : Int) + 1 := by rw [e1]; simp
      have n2 : (S2.l.length : Int) = (S.l.length : Int) + 2 := by rw [e2, e1]; simp
      refine ⟨by rw [← n2]; rfl, l, ⟨some ⟨g, 0, none⟩, 2, c, fun j => if j = 0 then f else z⟩, ⟨some ⟨w3.heap.size, 0, none⟩, 1, 1, fun _ => (S1.l.length : Int)⟩, S3, ⟨((H1.out.1.lx.trans H2.out).trans H3.out.1.lx).trans ((Lx.below H3.out.1.lx.s (below_alloc _ _)).trans H4.out.1.lx), ?_, ?_, H4.out.2, hl1, hl2, rfl, ?_, HR.out.2.2, rfl, by rw [n1], Nat.le_refl _⟩⟩
      · rw [e3, e2, e1]
        simp
      · rw [H4.out.1.va.2.2, H3.out.1.va.2.2, H1.out.1.va.2.2]
      · rw [HF.out]
end Go.Proofs.YtdialodjllpgaaaGreatDoor
