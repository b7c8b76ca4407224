import Derived.Test.YtdialodjllpgaaaGreatDoorCnV
import Derived.Test.YtdialodjllpgaaaGreatDoorBdJ
/-! The program's run: the machine is made. -/
namespace Go.Proofs.YtdialodjllpgaaaGreatDoor
open Go.RowKit
attribute [local go_sem] run_store_float
attribute [local go_sem ↓] Go.wp_at_zero Go.wp_at_succ
attribute [local go_sem] run_store_fn run_store_chan

theorem step_call1 {P : Program} {ops : Array Oper} {o : Oper} {a : Act} {w : World} {K : Act → World → Prop} {Q : Exit → Act → World → Prop} {E : Prop} (hgd : o.guard = none) (f : Nat) (x : Operand) (t : TypeId) (ho : o.op = .call { callee := .value (.func f), args := #[x], argTypes := #[t] }) (vx : Value) (hx : a.eval x = vx)
    (eg : ∀ args w, (callFunc f args).run P w = .ok (.enter f args) w) (R : Ending → World → Prop) (hc : Calls P f #[vx] w R) (h : ∀ e w', R e w' → ∃ v, e = .returned v ∧ K (a.put o.dst v) w') :
    if Region.wanted o (yielded ops a.tmps) = true then Oper.wp P o a w K Q else E := by
  have hw : Region.wanted o (yielded ops a.tmps) = true := by simp [Region.wanted, hgd]
  rw [if_pos hw]
  have e1 : (execOp a.eval o).run P w = .ok (.enter f #[vx]) w := by
    unfold execOp
    simp [ho, resolve, invoke, eg, go_sem]
    simpa [Act.eval] using hx
  unfold Oper.wp
  rw [e1, Oper.upon_enter]
  refine hc.mono ?_
  intro e w' hr
  obtain ⟨v, rfl, hk⟩ := h e w' hr
  exact hk
set_option maxRecDepth 100000 in
set_option maxHeartbeats 8000000 in
theorem newBuilder_calls (M ub uo uc : Nat) (d : FD) (x : FA) (w : World) (m0 : w.cell? ⟨M, 0, none⟩ = some (.slice (some ⟨ub, uo, none⟩) 1 uc)) (u6 : w.cell? ⟨ub, uo + 6, none⟩ = some (.slice x.na d.nn x.nc)) (hN : NodesAt 0 w d.nn d.nd x.na x.nas) :
    Calls Tryz.prog 43 #[ptr M, .int .i64 0] w fun e w' => ∃ bb, e = .returned (ptr bb) ∧ w.heap.size ≤ bb ∧ BB M bb d x w' ∧ Below w.heap.size w w' := by
  have HN : Hid (NodesAt 0 w d.nn d.nd x.na x.nas) := hN
  clear hN
  go_enter Tryz.func43, Tryz.ntmps43
  go_wp2_with fail
  go_ret
  exact ⟨w.heap.size, rfl, Nat.le_refl _, ⟨Has.new _ _ _, HN.out.alloc _⟩, below_alloc _ _⟩
theorem TsN.gx {w u u' : World} {M bb C : Nat} {d : FD} {A A8 : Array Value} {P : PX} {L : LX} {Z : MX} (h : TsN w M bb d A A8 P L Z u) (hC : C < w.heap.size) (g : Gx (fun k => k = C) u u') : TsN w M bb d A A8 P L Z u' := ⟨h.c.gx hC g, h.nA, h.s1.gx (Nat.le_refl _) hC g, h.s2.gx (Nat.le_refl _) hC g, h.s3.gx (Nat.le_refl _) hC g, h.k1.gx (Nat.le_refl _) hC g, h.ka, Nat.lt_of_lt_of_le h.kl g.size, (World.cell?_of_block (a := ⟨Z.ka, 0, none⟩) (g.block Z.ka h.kl (fun e => by have := h.ka; omega))).trans h.kv⟩
/-- the unit's one fn in memory -/
structure U1x (w : World) (d : FD) (x : FA) (ub uo : Nat) : Prop where
  lt : ub < w.heap.size
  c2 : w.cell? ⟨ub, uo + 2, none⟩ = some (.int .i64 0)
  c3 : w.cell? ⟨ub, uo + 3, none⟩ = some (.bool true)
  c4 : w.cell? ⟨ub, uo + 4, none⟩ = some (.slice x.va 1 x.vc)
  c6 : w.cell? ⟨ub, uo + 6, none⟩ = some (.slice x.na d.nn x.nc)
  n : NodesAt 0 w d.nn d.nd x.na x.nas
theorem U1x.call {w u : World} {d : FD} {x : FA} {ub uo : Nat} (h : U1x w d x ub uo) (hb : Below w.heap.size w u) : U1x u d x ub uo := ⟨Nat.lt_of_lt_of_le h.lt hb.size, (hb.cell (p := ⟨ub, uo + 2, none⟩) h.lt).trans h.c2, (hb.cell (p := ⟨ub, uo + 3, none⟩) h.lt).trans h.c3, (hb.cell (p := ⟨ub, uo + 4, none⟩) h.lt).trans h.c4, (hb.cell (p := ⟨ub, uo + 6, none⟩) h.lt).trans h.c6, h.n.below hb⟩
/-- the machine, ahead of its bodies -/
structure MkA (w : World) (fns : Value) (M E : Nat) (u : World) : Prop where
  k : Below w.heap.size w u
  m : OwnB u M (mY fns (.slice none 0 0) (.chan (some E)) (.slice none 0 0) (.pointer none))
  mw : w.heap.size ≤ M
  e : u.heap[E]? = some (.chan 0 #[] false 0 0 false)
  ew : w.heap.size ≤ E
  em : E ≠ M
/-- the machine with its bodies -/
structure MkB (w : World) (fns : Value) (d : FD) (x : FA) (M E bb : Nat) (A A8 : Array Value) (P : PX) (L : LX) (Z : MX) (u0 u : World) : Prop where
  k : Below w.heap.size w u
  m : OwnB u M (mY fns (.slice (some ⟨Z.bo, 0, none⟩) 1 Z.bc) (.chan (some E)) (.slice none 0 0) (.pointer none))
  mw : w.heap.size ≤ M
  e : u.heap[E]? = some (.chan 0 #[] false 0 0 false)
  ew : w.heap.size ≤ E
  em : E ≠ M
  mu : M < u0.heap.size
  t : TsN u0 M bb d A A8 P L Z u
  b : Has u bb #[ptr M, .slice x.na d.nn x.nc]
  bu : bb ≠ M
  bo : Z.bo < u.heap.size ∧ Z.bo ≠ M ∧ u.cell? ⟨Z.bo, 0, none⟩ = some (bkV Z.k1)
theorem MkA.drew {w : World} {fns : Value} {M E : Nat} {u : World} (h : MkA w fns M E u) : MkA w fns M E u.drew := ⟨h.k.drew, h.m.drew, h.mw, h.e, h.ew, h.em⟩
theorem heap_new (v : World) (o : Obj) : (v.alloc o).heap[v.heap.size]? = some o := by
  show (v.heap.push o)[v.heap.size]? = some o
  exact Array.getElem?_push_size
theorem mkA_new (w : World) (fns : Value) (B : Array Value) (t1 t2 t3 : TypeId) : MkA w fns (w.heap.size + 1 + 1 + 1) (w.heap.size + 1 + 1) ((((w.alloc (.cells #[fns] t1)).alloc (.cells B t2)).alloc (.chan 0 #[] false 0 0 false)).alloc (.cells (mY fns (.slice none 0 0) (.chan (some (w.heap.size + 1 + 1))) (.slice none 0 0) (.pointer none)) t3)) ∧ Has ((((w.alloc (.cells #[fns] t1)).alloc (.cells B t2)).alloc (.chan 0 #[] false 0 0 false)).alloc (.cells (mY fns (.slice none 0 0) (.chan (some (w.heap.size + 1 + 1))) (.slice none 0 0) (.pointer none)) t3)) w.heap.size #[fns] := by
  refine ⟨⟨bl_alloc (bl_alloc (bl_alloc (below_alloc _ _) _) _) _, ?_, by omega, ?_, by omega, by omega⟩, (((Has.new w _ _).alloc _).alloc _).alloc _⟩
  · have h := own_new1 ((w.alloc (.cells #[fns] t1)).alloc (.cells B t2)) (.chan 0 #[] false 0 0 false) (mY fns (.slice none 0 0) (.chan (some (w.heap.size + 1 + 1))) (.slice none 0 0) (.pointer none)) t3
    rw [World.size_alloc, World.size_alloc] at h
    exact h
  · rw [Below.heap_alloc _ _ _ (by simp)]
    have h := heap_new ((w.alloc (.cells #[fns] t1)).alloc (.cells B t2)) (.chan 0 #[] false 0 0 false)
    rw [World.size_alloc, World.size_alloc] at h
    exact h
theorem TsN.re {w u : World} {M bb : Nat} {d : FD} {A A8 : Array Value} {P : PX} {L : LX} {Z : MX} (h : TsN w M bb d A A8 P L Z u) (bo bc : Nat) : TsN w M bb d A A8 P L { Z with bo := bo, bc := bc } u := ⟨h.c, h.nA, h.s1, h.s2, h.s3, h.k1, h.ka, h.kl, h.kv⟩
/-- the machine and its first task -/
structure NM (w : World) (fns : Value) (d : FD) (x : FA) (A A8 : Array Value) (X : RX) (E bb : Nat) (P : PX) (L : LX) (Z : MX) (u0 u : World) : Prop where
  pm : Pm X u
  fn1 : X.fns = fns
  bod : X.bod = .slice (some ⟨Z.bo, 0, none⟩) 1 Z.bc
  en : X.en = .chan (some E)
  b : MkB w fns d x X.M E bb A A8 P L Z u0 X.W
  k : Below w.heap.size w u
  e : u.heap[E]? = some (.chan 0 #[] false 0 0 false)
theorem below_call' {w u v : World} (h : Below w.heap.size w u) (k : Below w.heap.size u v) : Below w.heap.size w v := h.trans k
set_option maxRecDepth 100000 in
set_option maxHeartbeats 16000000 in
theorem newMachine_calls (ub uo uc : Nat) (d : FD) (x : FA) (m t s n i j : Nat) (w : World) (hU : U1x w d x ub uo) (hp : TxN d x w 9 m t s n i j) :
    Calls Tryz.prog 22 #[.agg #[.slice (some ⟨ub, uo, none⟩) 1 uc], .agg #[.slice none 0 0, .slice none 0 0, .int .i64 1000, .int .i64 2, .int .i64 0], wchV] w fun e w' => ∃ X E bb P L Z u0, e = .returned (ptr X.M) ∧ NM w (.slice (some ⟨ub, uo, none⟩) 1 uc) d x (nodeC (d.nd s) (x.nas s)) (nodeC (d.nd m) (x.nas m)) X E bb P L Z u0 w' := by
  have HU : Hid (U1x w d x ub uo) := hU
  have HP : Hid (TxN d x w 9 m t s n i j) := hp
  have hmf := mkFunc'
  have c2 := fun v => (mkChan v).2.1
  clear hU hp
  obtain ⟨A, hA⟩ : ∃ A, nodeC (d.nd s) (x.nas s) = A := ⟨_, rfl⟩
  obtain ⟨A8, hA8⟩ : ∃ A8, nodeC (d.nd m) (x.nas m) = A8 := ⟨_, rfl⟩
  rw [hA, hA8]
  have HAA : Hid (nodeC (d.nd s) (x.nas s) = A ∧ nodeC (d.nd m) (x.nas m) = A8) := ⟨hA, hA8⟩
  clear hA hA8
  go_enter Tryz.func22, Tryz.ntmps22
  go_upto_region 1 with fail
  go_cut [7] from 9 to 14 (fun v wc => ∃ M E, v = ptr M ∧ Hid (MkA w (.slice (some ⟨ub, uo, none⟩) 1 uc) M E wc ∧ Has wc w.heap.size #[.slice (some ⟨ub, uo, none⟩) 1 uc]))
  case first =>
    go_region_with fail
    all_goals
      have HN := mkA_new w (.slice (some ⟨ub, uo, none⟩) 1 uc) #[.slice none 0 0, .slice none 0 0, .int .i64 1000, .int .i64 2, .int .i64 0] 31 34 80
      go_wp2_with fail
      go_meet
      first
      | exact ⟨w.heap.size + 1 + 1 + 1, w.heap.size + 1 + 1, rfl, HN⟩
      | exact ⟨w.heap.size + 1 + 1 + 1, w.heap.size + 1 + 1, rfl, HN.1.drew, HN.2.drew⟩
  case rest =>
    obtain ⟨M, E, rfl, H1⟩ := hcut
    have e0 := H1.out.2.cell 0 rfl
    clear c2
    go_wp2_with fail
    go_loopw [18] (fun i wr => (i = .int .i64 0 ∧ wr = wc) ∨ (i = .int .i64 1 ∧ Hid (∃ bb P L Z u0, MkB w (.slice (some ⟨ub, uo, none⟩) 1 uc) d x M E bb A A8 P L Z u0 wr))) (fun i _ => 1 - (intOf i).toNat)
    case atStart => exact .inl ⟨rfl, rfl⟩
    case round =>
      rcases hrel with ⟨rfl, rfl⟩ | ⟨rfl, HF⟩
      · obtain ⟨ta, hta⟩ : ∃ ta : Option Addr, Hid (ta = none) := ⟨_, rfl⟩
        obtain ⟨tn, htn⟩ : ∃ tn : Nat, Hid (tn = 0) := ⟨_, rfl⟩
        obtain ⟨tc, htc⟩ : ∃ tc : Nat, Hid (tc = 0) := ⟨_, rfl⟩
        have htv : Hid (Value.slice none 0 0 = .slice ta tn tc) := by rw [hta.out, htn.out, htc.out]; exact rfl
        have m7 : wr.cell? ⟨M, 7, none⟩ = some (.slice none 0 0) := H1.out.1.m.1.cell 7 rfl
        have mz := H1.out.1.m.2
        have hMl := H1.out.1.m.1.1
        rw [htv.out] at m7
        go_upto_region 5 with fail
        obtain ⟨i0, hi0, hy0, hy1, hy2⟩ := info_parts infoActing
        have heg1 := enters_of Tryz.func43 (by kernel_rfl) rfl
        have heg2 := enters_of Tryz.func44 (by kernel_rfl) rfl
        have HBw : Hid (Below w.heap.size w wr.drew) := H1.out.1.k.drew
        have HUw : Hid (U1x wr.drew d x ub uo) := HU.out.call HBw.out
        have HMw : Hid (OwnB wr.drew M (mY (.slice (some ⟨ub, uo, none⟩) 1 uc) (.slice none 0 0) (.chan (some E)) (.slice none 0 0) (.pointer none))) := H1.out.1.m.drew
        go_region_law (first
          | (refine step_call2 (by rfl) 43 _ _ _ _ (by rfl) (ptr M) (.int .i64 0) (by rfl) (by rfl) heg1 _ (newBuilder_calls M ub uo uc d x wr.drew (HMw.out.1.cell 0 rfl) HUw.out.c6 HUw.out.n) ?_; rintro e w1 ⟨bb, rfl, hbb, hBB, hb1⟩; refine ⟨_, rfl, ?_⟩; have HB1 : Hid (BB M bb d x w1 ∧ wr.heap.size ≤ bb ∧ OwnB w1 M (mY (.slice (some ⟨ub, uo, none⟩) 1 uc) (.slice none 0 0) (.chan (some E)) (.slice none 0 0) (.pointer none)) ∧ Below wr.drew.heap.size wr.drew w1 ∧ TxN d x w1 9 m t s n i j) := ⟨hBB, hbb, HMw.out.call hb1, hb1, HP.out.call (below_call HBw.out hb1)⟩; have m7a : w1.cell? ⟨M, 7, none⟩ = some (.slice none 0 0) := HB1.out.2.2.1.1.cell 7 rfl; rw [htv.out] at m7a; have mz1 := HB1.out.2.2.1.2; have hMl1 := HB1.out.2.2.1.1.1; clear hbb hBB hb1)
          | (refine step_call1 (by rfl) 44 _ _ (by rfl) (ptr bb) (by rfl) heg2 _ (bodyB_calls M bb d x m t s n i j w1 HB1.out.1 HB1.out.2.2.2.2) ?_; rintro e w2 ⟨P, L, Z, rfl, hT, hb2⟩; refine ⟨_, rfl, ?_⟩; rw [HAA.out.1, HAA.out.2] at hT; obtain ⟨v', w7, happ, hown, hgrow, _, hat⟩ := run_append_own_at (P := Tryz.prog) (w2.alloc (.cells #[bkV Z.k1] 108)) w.heap.size 63 63 108 i0 _ 1 8 Tryz.underlying63 hi0 hy0 hy1 hy2 rfl (by decide) (.slice none 0 0) 0 [] (World.ownsRow_nil _ _ _ _) ⟨w2.heap.size, 0, none⟩ 1 1 [bkV Z.k1] rfl (cell_one_new _ _ _) (by simp [Value.oneCell']) (by unfold maxLen; omega) (by omega) (by have h8 := hb2.size; have h9 := HB1.out.2.2.2.1.size; have h10 := HBw.out.size; simp at h9 h10 ⊢; omega); obtain ⟨g, cap, rfl, hgb, hgl, hgv⟩ : ∃ g cap, v' = .slice (some ⟨g, 0, none⟩) 1 cap ∧ w2.heap.size < g ∧ g < w7.heap.size ∧ w7.cell? ⟨g, 0, none⟩ = some (bkV Z.k1) := (by
              rcases hown.2 with ⟨_, d⟩ | ⟨g, cap, cur, e, hb, hg, h1, h2, h3, h4⟩
              · omega
              · refine ⟨g, cap, e, ?_, (Array.getElem?_eq_some_iff.1 hg).1, ?_⟩
                · rw [e] at hat
                  rcases hat with e | e
                  · cases e
                  · have := Option.some.inj e; simp at this; omega
                · subst e
                  have := hown.cells (g := g) rfl 0 (bkV Z.k1) rfl
                  simpa [Addr.add] using this); have hk7 : ∀ k, k < w2.heap.size → w7.heap[k]? = w2.heap[k]? := (fun k hk => (hgrow.block k (by simp; omega) (by simp [Value.ownBlock])).trans (Below.block (below_alloc _ _) _ hk)); have hs7 : w2.heap.size ≤ w7.heap.size := (by have h8 := hgrow.size; simp at h8; omega); have hM2 : OwnB w2 M (mY (.slice (some ⟨ub, uo, none⟩) 1 uc) (.slice none 0 0) (.chan (some E)) (.slice none 0 0) (.pointer none)) := HB1.out.2.2.1.call hb2; have hM7 : OwnB w7 M (mY (.slice (some ⟨ub, uo, none⟩) 1 uc) (.slice none 0 0) (.chan (some E)) (.slice none 0 0) (.pointer none)) := hM2.block hs7 (hk7 _ hM2.1.1); have HN : Hid (∃ bb P L Z u0, MkB w (.slice (some ⟨ub, uo, none⟩) 1 uc) d x M E bb A A8 P L Z u0 (w7.setCell ⟨M, 7, none⟩ (.slice (some ⟨g, 0, none⟩) 1 cap))) := (by
              have h10 : wr.heap.size ≤ w1.heap.size := HB1.out.2.2.2.1.size
              have h11 := hb2.size
              have h12 := H1.out.1.k.size
              have hEl : E < wr.heap.size := (Array.getElem?_eq_some_iff.1 H1.out.1.e).1
              have hE1 : w1.heap[E]? = wr.heap[E]? := HB1.out.2.2.2.1.block E hEl
              have hE2 : w2.heap[E]? = w1.heap[E]? := hb2.block E (by omega)
              have hg7 : Gx (fun k => k = M) w2 (w7.setCell ⟨M, 7, none⟩ (.slice (some ⟨g, 0, none⟩) 1 cap)) := ((Gx.below _ (below_alloc _ _)).trans (Gx.grown hgrow) (fun k _ e => by cases e)).trans (Gx.set w7 M 7 _) (fun _ _ e => e)
              have hbbl : bb < w2.heap.size := (HB1.out.1.b.call hb2).1
              refine ⟨bb, P, L, { Z with bo := g, bc := cap }, w1, ⟨?_, hM7.set (o := 7) (by show 7 < 27; omega) _, H1.out.1.mw, ?_, H1.out.1.ew, H1.out.1.em, by omega, (hT.gx (by omega) hg7).re g cap, hg7.has (HB1.out.1.b.call hb2) (by have := HB1.out.2.1; omega), by have := HB1.out.2.1; omega, by simpa using hgl, by show g ≠ M; omega, ?_⟩⟩
              · exact bl_set (((below_call (below_call HBw.out HB1.out.2.2.2.1) hb2).alloc (by omega) _).grown hgrow (by simp; omega) (fun k e => by cases e)) _ H1.out.1.mw
              · rw [Below.heap_setCell _ _ _ _ H1.out.1.em, hk7 E (by omega), hE2, hE1]
                exact H1.out.1.e
              · exact (World.cell?_setCell_far w7 ⟨M, 7, none⟩ ⟨g, 0, none⟩ _ (by show M ≠ g; omega)).trans hgv); rw [htv.out] at happ; have m7b : w2.cell? ⟨M, 7, none⟩ = some (.slice none 0 0) := hM2.1.cell 7 rfl; rw [htv.out] at m7b; have mz2 := hM2.2; have hMl2 := hM2.1.1; have m7c : (w2.alloc (.cells #[bkV Z.k1] 108)).cell? ⟨M, 7, none⟩ = some (.slice none 0 0) := (hM2.alloc (.cells #[bkV Z.k1] 108)).1.cell 7 rfl; rw [htv.out] at m7c; have m77 : w7.cell? ⟨M, 7, none⟩ = some (.slice none 0 0) := hM7.1.cell 7 rfl; rw [htv.out] at m77; have mz7 := hM7.2; have hMl7 := hM7.1.1; clear hown hgrow hat hT hb2 hM2 hM7 hgb hgl hgv hk7 hs7)
          | (refine step_app (by rfl) _ _ _ _ (by rfl) (.slice ta tn tc) (.slice (some ⟨w2.heap.size, 0, none⟩) 1 1) _ _ (by rfl) (by rfl) happ ?_))
        all_goals
          clear HB1 happ
          go_wp2_with fail
          go_roundw
          case rel => exact .inr ⟨rfl, HN⟩
          case measure => simp [intOf]
      · obtain ⟨bb, P, L, Z, u0, hB⟩ := HF.out
        have HB : Hid (MkB w (.slice (some ⟨ub, uo, none⟩) 1 uc) d x M E bb A A8 P L Z u0 wr) := hB
        have hN := fun (v : World) (h : wr = v) => newTask_calls M (.slice (some ⟨ub, uo, none⟩) 1 uc) (.slice (some ⟨Z.bo, 0, none⟩) 1 Z.bc) (.chan (some E)) wr hB.m
        have HNT : Hid _ := hN wr rfl
        clear HF e0 H1 hB hN
        go_wp2_with fail
        refine Calls.mono HNT.out ?_
        rintro e w3 ⟨T, rfl, tks, c1, c2, c3, hM3, hT3, hg3, hTl, hTl2⟩
        have HT3 : Hid (OwnB w3 M (mY (.slice (some ⟨ub, uo, none⟩) 1 uc) (.slice (some ⟨Z.bo, 0, none⟩) 1 Z.bc) (.chan (some E)) tks (.pointer none)) ∧ OwnB w3 T (tY 0 c1 c2 c3) ∧ Gx (fun k => k = M) wr w3 ∧ wr.heap.size ≤ T ∧ T < w3.heap.size) := ⟨hM3, hT3, hg3, hTl, hTl2⟩
        have hMr := HB.out.m.1.1
        have hne : T ≠ M := by omega
        have hne' : M ≠ T := by omega
        have m23 := hM3.1.cell 23 rfl
        have mz := hM3.2
        have t1 := hT3.1.cell 1 rfl
        have tz := hT3.2
        clear HNT hM3 hT3 hg3 hTl hMr
        go_wp2_with fail
        obtain ⟨q1, q2, q3, q4, q5⟩ := HT3.out
        have hB := HB.out
        have hbs := hB.k.size
        have hMr := hB.m.1.1
        have hmw := hB.mw
        have g1 : Gx (fun k => k = M ∨ wr.heap.size ≤ k) wr ((w3.setCell ⟨M, 23, none⟩ (ptr T)).setCell ⟨T, 1, none⟩ (.int .i64 2)) := ((q3.mono (fun k e => .inl e)).trans (Gx.set w3 M 23 _) (fun _ _ e => .inl e)).trans (Gx.set _ T 1 _) (fun k _ e => .inr (by omega))
        have hEl : E < wr.heap.size := (Array.getElem?_eq_some_iff.1 hB.e).1
        refine bodyPost_ret (v := ptr M) (by simp [results, Tryz.results22, go_sem]) rfl ⟨⟨M, T, 0, 0, 0, 0, wr, .slice (some ⟨ub, uo, none⟩) 1 uc, .slice (some ⟨Z.bo, 0, none⟩) 1 Z.bc, tks, .chan (some E), c1, c2, c3, 0, #[]⟩, E, bb, P, L, Z, u0, rfl, ⟨⟨?_, ?_, g1, hMr, q4⟩, rfl, rfl, rfl, hB, ?_, ?_⟩⟩
        · exact ownB_other (q1.set (o := 23) (by show 23 < 27; omega) _) hne'
        · exact (ownB_other q2 hne).set (o := 1) (by show 1 < 17; omega) _
        · exact below_call' hB.k (g1.to (N := w.heap.size) (by omega) (fun k e => by rcases e with e | e <;> omega))
        · rw [g1.block E hEl (fun e => by rcases e with e | e; exact hB.em e; omega)]
          exact hB.e
end Go.Proofs.YtdialodjllpgaaaGreatDoor

/-! The program's run: what the machine was made of is what the text's run stands on. -/
namespace Go.Proofs.YtdialodjllpgaaaGreatDoor
open Go.RowKit

/-- what is known of the loop's nodes -/
structure NdX (d : FD) (x : FA) (m s : Nat) (a b st : Int) (rb ro : Nat) (v : World) : Prop where
  n : NodesAt 0 v d.nn d.nd x.na x.nas
  lm : m < d.nn
  l0 : litD (d.nd 0) = inD a
  l1 : litD (d.nd 1) = inD b
  l2 : litD (d.nd 2) = inD st
  rn : (d.nd m).rn = 1
  r0 : (d.nd m).r 0 = 0
  ra : (x.nas m).ra = some ⟨rb, ro, none⟩
  rl : rb < v.heap.size
abbrev pxR (P : PX) (bb : Nat) (nd : Value) (nA : Array Value) (line : Int) : PX := { P with bb := bb, nd := nd, nA := nA, line := line }
abbrev lxR (L : LX) (rb ro rc : Nat) : LX := { L with rb := rb, ro := ro, rc := rc }
abbrev mxR (Z : MX) (nA : Array Value) (line : Int) : MX := { Z with nA := nA, line := line }
theorem tx_of {v v' : World} {fns : Value} {d : FD} {x : FA} {m s : Nat} {X : RX} {E bb : Nat} {P : PX} {L : LX} {Z : MX} {u0 : World} {a b st : Int} {rb ro N : Nat}
    (h : NM v fns d x (nodeC (d.nd s) (x.nas s)) (nodeC (d.nd m) (x.nas m)) X E bb P L Z u0 v') (hd : NdX d x m s a b st rb ro v) (hT : TabP v) (hc : CB a b st N) (h1 : -20 ≤ st) (h2 : st ≤ 20) (hN : N ≤ 100) (F V R N' frc : Nat) (rA : Array Value) :
    TX (xF X F V R N' frc rA) (pxR P bb (.slice x.na d.nn x.nc) (nodeC (d.nd s) (x.nas s)) (d.nd s).l) (lxR L rb ro (x.nas m).rc) (mxR Z (nodeC (d.nd m) (x.nas m)) (d.nd m).l) a b st N := by
  have hB := h.b
  have hmu := hB.mu
  have hvs := hB.k.size
  have ho : ∀ {B : Nat} {A : Array Value}, Nw u0 X.W B A → Od (xF X F V R N' frc rA) B A := fun q => ⟨q.h, by show _ ≠ X.M; have := q.n; omega⟩
  have hn := (hd.n.2 m hd.lm).1
  have t := hB.t
  have c := t.c
  have e := c.e
  refine ⟨?_, ?_, ?_, ?_, hc, h1, h2, hN⟩
  · intro u hu
    have hg : Below v.heap.size X.W u := hu.to (by exact hvs) (fun k e => by
      rcases e with e | e
      · replace e : k = X.M := e
        have := hB.mw; omega
      · replace e : X.W.heap.size ≤ k := e
        omega)
    exact TabP.keep hT (hB.k.trans hg) (Nat.le_refl _)
  · exact ⟨⟨hB.b, hB.bu⟩, ho e.o, ho e.l1, ho e.l2, ho e.v1, ho e.v2, ho e.c, ho e.p1, ho e.p2, ho e.a1, ho e.a2, ho e.d1, ho e.s1, ho e.s2, rfl, ho e.s3, ho e.k1, ⟨⟨e.kl, e.kv⟩, by show P.ka ≠ X.M; have := e.ka; omega⟩⟩
  · refine ⟨ho c.c1, ho c.c2, ho c.on.o3, ⟨RowN.less c.on.row (Nat.zero_le _), fun b hb => ?_, fun i hi => ?_⟩, ho c.c3, ?_, ?_, by show rb ≠ X.M; have := hB.mw; have := hd.rl; omega, ho c.c4⟩
    · obtain ⟨b', off, e1, e2, _⟩ := c.on.row (by omega)
      replace hb : L.oa = some b := hb
      rw [hb] at e1
      cases e1
      show b' ≠ X.M
      omega
    · have q := c.on.bs i hi
      refine ⟨?_, by show L.Bs i ≠ X.M; have := q.n; omega⟩
      have hl : litD (d.nd i) = v3 a b st i := by
        rcases (show i = 0 ∨ i = 1 ∨ i = 2 by omega) with rfl | rfl | rfl
        · exact hd.l0
        · exact hd.l1
        · exact hd.l2
      rw [← hl]
      exact q.h
    · show L.nA[6]? = _
      rw [t.nA]
      show some (Value.slice (x.nas m).ra (d.nd m).rn (x.nas m).rc) = _
      rw [hd.ra, hd.rn]
    · intro _
      obtain ⟨b', off, e1, _, e2, e3⟩ := hn (by rw [hd.rn]; omega)
      rw [hd.ra] at e1
      cases e1
      refine ⟨rb, ro, rfl, Nat.zero_le _, by show rb < X.W.heap.size; have := hd.rl; omega, fun i hi j hj => ?_⟩
      have h0 := e3 i (by rw [hd.rn]; exact hi) j hj
      have hi0 : i = 0 := by omega
      subst hi0
      rw [show (fun i => #[Value.int .i64 ((d.nd m).r i)]) 0 = #[.int .i64 0] by show #[Value.int .i64 ((d.nd m).r 0)] = _; rw [hd.r0]] at h0
      exact (hB.k.cell (p := ⟨rb, ro + 0 * 1 + j, none⟩) hd.rl).trans h0
  · exact ⟨ho t.s1, ho t.s2, rfl, ho t.s3, ho t.k1, ⟨⟨t.kl, t.kv⟩, by show Z.ka ≠ X.M; have := t.ka; omega⟩, h.bod, ⟨⟨hB.bo.1, hB.bo.2.2⟩, hB.bo.2.1⟩⟩
theorem ux_of {v v' : World} {d : FD} {x : FA} {A A8 : Array Value} {X : RX} {E bb : Nat} {P : PX} {L : LX} {Z : MX} {u0 : World} {ub uo uc : Nat}
    (h : NM v (.slice (some ⟨ub, uo, none⟩) 1 uc) d x A A8 X E bb P L Z u0 v') (hU : U1x v d x ub uo) : Ux.ok ⟨ub, uo, uc, x.va, x.vc⟩ X := by
  have hU' := hU.call h.b.k
  exact ⟨h.fn1, hU'.lt, by show ub ≠ X.M; have := hU.lt; have := h.b.mw; omega, hU'.c2, hU'.c3, hU'.c4⟩
end Go.Proofs.YtdialodjllpgaaaGreatDoor

/-! The program's run: the report of a text that has ended. -/
namespace Go.Proofs.YtdialodjllpgaaaGreatDoor
open Go.RowKit

/-- the report stands in the machine -/
structure RepAt (M E : Nat) (c : Int) (er tr : ByteArray) (ti md : Int) (ra : Option Addr) (n rc : Nat) (q : Nat → RcD) (va : Option Addr) (vn vc : Nat) (w : World) : Prop where
  lt : M < w.heap.size
  c8 : w.cell? ⟨M, 8, none⟩ = some (.int .i64 c)
  c9 : w.cell? ⟨M, 9, none⟩ = some (.slice ra n rc)
  c10 : w.cell? ⟨M, 10, none⟩ = some (.slice va vn vc)
  c11 : w.cell? ⟨M, 11, none⟩ = some (.string er)
  c12 : w.cell? ⟨M, 12, none⟩ = some (.string tr)
  c13 : w.cell? ⟨M, 13, none⟩ = some (.int .i64 ti)
  c14 : w.cell? ⟨M, 14, none⟩ = some (.int .i64 md)
  c24 : w.cell? ⟨M, 24, none⟩ = some (.chan (some E))
  c25 : w.cell? ⟨M, 25, none⟩ = some (.int .u64 0)
  r : RcsAt 0 w ra n q
  e : w.heap[E]? = some (.chan 0 #[] false 0 0 false)
/-- what a run gives -/
def RpP (c : Int) (er : ByteArray) (n : Nat) (q : Nat → RcD) (w : World) (e : Ending) (w' : World) : Prop := ∃ tr ti md ra rc va vn vc, e = .returned (.agg #[.int .i64 c, .slice ra n rc, .slice va vn vc, .string er, .string tr, .int .i64 ti, .int .i64 md]) ∧ RcsAt 0 w' ra n q ∧ Below w.heap.size w w'
theorem RcsAt.gx {S : Nat → Prop} {w w' : World} {n : Nat} {a : Option Addr} {q : Nat → RcD} (h : RcsAt 0 w a n q) (g : Gx S w w') (hS : ∀ b, a = some b → 0 < n → ¬ S b.block) : RcsAt 0 w' a n q := fun h0 => by
  obtain ⟨b, off, e, h1, h2, h3⟩ := h h0
  exact ⟨b, off, e, h1, Nat.lt_of_lt_of_le h2 g.size, fun i hi j hj => (World.cell?_of_block (a := ⟨b, off + i * 5 + j, none⟩) (g.block b h2 (hS _ e h0))).trans (h3 i hi j hj)⟩
theorem RcsAt.other {w : World} {n E : Nat} {a : Option Addr} {q : Nat → RcD} (h : RcsAt 0 w a n q) (he : w.heap[E]? = some (.chan 0 #[] false 0 0 false)) : ∀ b, a = some b → 0 < n → b.block ≠ E := fun b e h0 c => by
  obtain ⟨b', off, e', h1, h2, h3⟩ := h h0
  rw [e] at e'
  cases e'
  have := h3 0 h0 0 (by omega)
  subst c
  simp [World.cell?, he] at this
theorem rL_get : ∀ (l : List RcD) (i j : Nat), i < l.length → j < 5 → (rL l)[i * 5 + j]? = (rcC (l.getD i ⟨0, 0, 0, 0, ⟨#[]⟩⟩))[j]?
  | [], i, j, h, _ => absurd h (by simp)
  | x :: l, 0, j, _, hj => by
    show (r5 x ++ rL l)[0 * 5 + j]? = _
    rw [List.getElem?_append_left (by simp [r5]; omega)]
    rcases (show j = 0 ∨ j = 1 ∨ j = 2 ∨ j = 3 ∨ j = 4 by omega) with rfl | rfl | rfl | rfl | rfl <;> rfl
  | x :: l, i + 1, j, h, hj => by
    have ih := rL_get l i j (by simpa using h) hj
    show (r5 x ++ rL l)[(i + 1) * 5 + j]? = _
    rw [List.getElem?_append_right (by simp [r5]; omega), show (i + 1) * 5 + j - (r5 x).length = i * 5 + j by simp [r5]; omega, ih]
    rfl
theorem rcs_of {N : Nat} {w : World} {d : MD} (h : OwR N w d) : RcsAt 0 w d.ra d.recs.length (fun i => d.recs.getD i ⟨0, 0, 0, 0, ⟨#[]⟩⟩) := fun h0 => by
  rcases h.2 with ⟨c, e⟩ | ⟨g, c, cur, e, h1, h2, _⟩
  · rw [e] at h0
    omega
  · have e1 : d.ra = some ⟨g, 0, none⟩ := by injection e
    refine ⟨g, 0, e1, Nat.zero_le _, (Array.getElem?_eq_some_iff.1 h2).1, fun i hi j hj => ?_⟩
    have hx := rL_get d.recs i j hi hj
    have hs : j < (rcC (d.recs.getD i ⟨0, 0, 0, 0, ⟨#[]⟩⟩)).size := hj
    rw [Array.getElem?_eq_getElem hs] at hx ⊢
    have := h.cells (g := g) (by rw [e1]; rfl) (i * 5 + j) _ hx
    rw [show 0 + i * 5 + j = i * 5 + j by omega]
    generalize i * 5 + j = k at *
    cases k <;> simpa [Addr.add] using this
theorem rt_of {v v' : World} {d : FD} {x : FA} {m s : Nat} {X : RX} {E bb : Nat} {P : PX} {L : LX} {Z : MX} {u0 : World} {a b st : Int} {rb ro N ub uo uc : Nat}
    (h : NM v (.slice (some ⟨ub, uo, none⟩) 1 uc) d x (nodeC (d.nd s) (x.nas s)) (nodeC (d.nd m) (x.nas m)) X E bb P L Z u0 v') (hU : U1x v d x ub uo) (hd : NdX d x m s a b st rb ro v) (hT : TabP v) (hc : CB a b st N) (h1 : -20 ≤ st) (h2 : st ≤ 20) (hN : N ≤ 100) :
    Calls Tryz.prog 23 #[ptr X.M] v' fun e v'' => e = .returned (.tuple #[]) ∧ Below v.heap.size v v'' ∧ ∃ tr ti md ra rc va vn vc, RepAt X.M E 0 ⟨#[]⟩ tr ti md ra (dZ.p.all (d.nd m).l (d.nd s).l a st N).recs.length rc (fun i => (dZ.p.all (d.nd m).l (d.nd s).l a st N).recs.getD i ⟨0, 0, 0, 0, ⟨#[]⟩⟩) va vn vc v'' := by
  refine (runText_calls X _ _ _ _ a b st N v' h.pm (ux_of h hU) (fun F V R N' frc rA => tx_of h hd hT hc h1 h2 hN F V R N' frc rA)).mono ?_
  rintro e w' ⟨rfl, F, V, R, N', frc, rA, z, d', hS, hp, hg⟩
  have hB := h.b
  have hEl : E < X.W.heap.size := (Array.getElem?_eq_some_iff.1 hB.e).1
  have hWs := h.pm.k.size
  have hlt := h.pm.lt
  have hr : d'.recs = (dZ.p.all (d.nd m).l (d.nd s).l a st N).recs := congrArg DP.recs hp
  have hvW := hB.k.size
  have hmw := hB.mw
  refine ⟨rfl, ?_, ⟨#[]⟩, d'.ti, 0, d'.ra, d'.rc, none, 0, 0, ?_⟩
  · exact h.k.trans (hg.to (by have := h.k.size; omega) (fun k e => by rcases e with e | e <;> omega))
  · have hm := hS.m.1
    have hrs := rcs_of hS.rr
    rw [hr] at hrs
    refine ⟨hm.1, hm.cell 8 rfl, ?_, hm.cell 10 rfl, hm.cell 11 rfl, hm.cell 12 rfl, hm.cell 13 rfl, hm.cell 14 rfl, ?_, hm.cell 25 rfl, hrs, ?_⟩
    · have := hm.cell 9 rfl
      rw [← hr]
      exact this
    · rw [← h.en]
      exact hm.cell 24 rfl
    · rw [hg.block E (by omega) (fun e => by rcases e with e | e; exact hB.em e; omega)]
      exact h.e
end Go.Proofs.YtdialodjllpgaaaGreatDoor
