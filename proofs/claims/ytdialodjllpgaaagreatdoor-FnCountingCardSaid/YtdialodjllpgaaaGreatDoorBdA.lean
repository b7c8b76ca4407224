import Derived.Test.YtdialodjllpgaaaGreatDoorCnH
import Derived.Test.YtdialodjllpgaaaGreatDoorSet
import Derived.Deep.Cut
import Derived.Shelf.Abstract
import Derived.Deep.DeepCutAuto
import Derived.Test.YtdialodjllpgaaaGreatDoorCnK
import Derived.Test.YtdialodjllpgaaaGreatDoorVdP
import Derived.Test.YtdialodjllpgaaaGreatDoorImA
/-! The program makes closures of nodes: expressions. -/
namespace Go.Proofs.YtdialodjllpgaaaGreatDoor
open Go.RowKit
attribute [local go_sem] run_store_float
attribute [local go_sem ↓] Go.wp_at_zero Go.wp_at_succ

/-- a builder over the nodes of a fn -/
structure BB (M bb : Nat) (d : FD) (x : FA) (w : World) : Prop where
  b : Has w bb #[ptr M, .slice x.na d.nn x.nc]
  n : NodesAt 0 w d.nn d.nd x.na x.nas
theorem BB.call {M bb : Nat} {d : FD} {x : FA} {w w' : World} (h : BB M bb d x w) (hb : Below w.heap.size w w') : BB M bb d x w' := ⟨h.b.call hb, ⟨RowN.below h.n.1 hb, fun i hi => (h.n.2 i hi).below hb⟩⟩
theorem BB.alloc {M bb : Nat} {d : FD} {x : FA} {w : World} (h : BB M bb d x w) (o : Obj) : BB M bb d x (w.alloc o) := h.call (below_alloc _ _)
/-- a node's cells -/
theorem BB.node {M bb : Nat} {d : FD} {x : FA} {w : World} (h : BB M bb d x w) {i : Nat} (hi : i < d.nn) : ∃ b off, x.na = some ⟨b, off, none⟩ ∧ b < w.heap.size ∧ w.cell? ⟨b, off + i * 8, none⟩ = some (.int .i64 (d.nd i).k) ∧ w.cell? ⟨b, off + i * 8 + 1, none⟩ = some (.int .i64 (d.nd i).l) ∧ w.cell? ⟨b, off + i * 8 + 2, none⟩ = some (.int .i64 (d.nd i).o) ∧ w.cell? ⟨b, off + i * 8 + 3, none⟩ = some (.int .i64 (d.nd i).n) ∧ w.cell? ⟨b, off + i * 8 + 4, none⟩ = some (.float .f64 (d.nd i).f) ∧ w.cell? ⟨b, off + i * 8 + 5, none⟩ = some (.string (d.nd i).s) ∧ w.cell? ⟨b, off + i * 8 + 6, none⟩ = some (.slice (x.nas i).ra (d.nd i).rn (x.nas i).rc) ∧ w.cell? ⟨b, off + i * 8 + 7, none⟩ = some (.slice (x.nas i).ka (d.nd i).kn (x.nas i).kc) := by
  obtain ⟨b, off, e, _, h1, h2⟩ := h.n.1 (by omega)
  have hc := h2 i hi
  exact ⟨b, off, e, h1, hc 0 (by omega), hc 1 (by omega), hc 2 (by omega), hc 3 (by omega), hc 4 (by omega), hc 5 (by omega), hc 6 (by omega), hc 7 (by omega)⟩
theorem ownB_two {w w1 : World} {A B : Array Value} {s t : TypeId} (hb : Below ((w.alloc (.cells A s)).alloc (.cells B t)).heap.size ((w.alloc (.cells A s)).alloc (.cells B t)) w1) : OwnB w1 (w.heap.size + 1) B := by
  have h := OwnB.new (w.alloc (.cells A s)) B t
  rw [World.size_alloc] at h
  exact h.block hb.size (hb.block _ (by simp))
theorem mkFunc' (fn : Fn) (first cap : Array Value) (w : World) : (Instr.makeFunc fn first cap).run Tryz.prog w = .ok (.func fn first cap) w := rfl
/-- what a literal is -/
def litD (d : ND) : VD := if d.k = 23 then inD d.n else ⟨8, d.n, 0, ⟨#[]⟩, 0⟩
set_option maxRecDepth 100000 in
set_option maxHeartbeats 4000000 in
theorem bval_calls (n : Int) (w : World) : Calls Tryz.prog 283 #[.int .i64 n] w fun e w' => e = .returned (VD.v ⟨8, n, 0, ⟨#[]⟩, 0⟩) ∧ Below w.heap.size w w' := by
  go_enter Tryz.func283, Tryz.ntmps283
  go_wp2_with fail
  exact bodyPost_ret (v := vOf 8 n 0 ⟨#[]⟩ 0) (by simp [results, Tryz.results283, go_sem]) rfl ⟨rfl, below_alloc _ _⟩
set_option maxRecDepth 100000 in
set_option maxHeartbeats 4000000 in
theorem literal_calls (d : ND) (x : NA) (w : World) (hk : d.k = 23 ∨ d.k = 28) : Calls Tryz.prog 229 #[nodeV d x] w fun e w' => e = .returned (litD d).v ∧ Below w.heap.size w w' := by
  obtain ⟨k, hd⟩ : ∃ k, d.k = k := ⟨_, rfl⟩
  unfold litD
  rw [hd] at hk ⊢
  rcases hk with rfl | rfl
  · rw [if_pos rfl]
    go_enter Tryz.func229, Tryz.ntmps229
    go_wp2_with fail
    refine (value_whole d.n _).mono ?_
    rintro e w1 ⟨rfl, hb⟩
    have hO := ownB_two hb
    have r0 := hO.1.cell 0 rfl
    have r1 := hO.1.cell 1 rfl
    have r2 := hO.1.cell 2 rfl
    have r3 := hO.1.cell 3 rfl
    have r4 := hO.1.cell 4 rfl
    have rz := hO.2
    have HB : Hid (Below w.heap.size w w1) := below_call (below_alloc2 _ _ _) hb
    clear hb hO
    go_wp2_with fail
    exact bodyPost_ret (v := vOf 2 d.n 0 ⟨#[]⟩ 0) (by simp [results, Tryz.results229, go_sem, r0, r1, r2, r3, r4]) rfl ⟨rfl, set5 HB.out (Nat.le_succ _) _ _ _ _ _⟩
  · rw [if_neg (by omega)]
    go_enter Tryz.func229, Tryz.ntmps229
    go_wp2_with fail
    refine (bval_calls d.n _).mono ?_
    rintro e w1 ⟨rfl, hb⟩
    have hO := ownB_two hb
    have r0 := hO.1.cell 0 rfl
    have r1 := hO.1.cell 1 rfl
    have r2 := hO.1.cell 2 rfl
    have r3 := hO.1.cell 3 rfl
    have r4 := hO.1.cell 4 rfl
    have rz := hO.2
    have HB : Hid (Below w.heap.size w w1) := below_call (below_alloc2 _ _ _) hb
    clear hb hO
    go_wp2_with fail
    exact bodyPost_ret (v := vOf 8 d.n 0 ⟨#[]⟩ 0) (by simp [results, Tryz.results229, go_sem, r0, r1, r2, r3, r4]) rfl ⟨rfl, set5 HB.out (Nat.le_succ _) _ _ _ _ _⟩

set_option maxRecDepth 100000 in
set_option maxHeartbeats 8000000 in
theorem exprLit_calls (M bb : Nat) (d : FD) (x : FA) (i : Nat) (w : World) (h : BB M bb d x w) (hi : i < d.nn) (hk : (d.nd i).k = 23 ∨ (d.nd i).k = 28) :
    Calls Tryz.prog 179 #[ptr bb, .int .i64 (i : Int)] w fun e w' => (∃ B, e = .returned (litV B) ∧ w.heap.size ≤ B ∧ Has w' B (vA (litD (d.nd i)))) ∧ Below w.heap.size w w' := by
  have HB : Hid (BB M bb d x w) := h
  have b1 := h.b.cell 1 rfl
  have hbl := h.b.1
  obtain ⟨b, off, e1, hb, c0, c1, c2, c3, c4, c5, c6, c7⟩ := h.node hi
  rw [e1] at b1
  have HK : Hid ((d.nd i).k = 23 ∨ (d.nd i).k = 28) := hk
  clear h
  obtain ⟨k, hd⟩ : ∃ k, (d.nd i).k = k := ⟨_, rfl⟩
  rw [hd] at c0 hk
  have hmf := mkFunc'
  rcases hk with rfl | rfl
  all_goals
    have hl := fun W => literal_calls (d.nd i) (x.nas i) W HK.out
    simp only [nodeV, hd] at hl
    go_enter Tryz.func179, Tryz.ntmps179
    go_wp2_with fail
    refine (hl _).mono ?_
    rintro e w1 ⟨rfl, hb1⟩
    have HW : Hid (Below w.heap.size w w1) := below_call (below_alloc2 _ _ _) hb1
    clear hb1 hl c0 c1 c2 c3 c4 c5 c6 c7 b1 hbl
    go_wp2_with fail
    go_ret
    exact ⟨⟨w1.heap.size, rfl, HW.out.size, Has.new _ _ _⟩, HW.out.alloc HW.out.size _⟩

set_option maxRecDepth 100000 in
set_option maxHeartbeats 8000000 in
theorem exprVar_calls (M bb : Nat) (d : FD) (x : FA) (i : Nat) (w : World) (h : BB M bb d x w) (hi : i < d.nn) (hk : (d.nd i).k = 26) (hr : 0 < (d.nd i).rn) (hr0 : (d.nd i).r 0 = 0) :
    Calls Tryz.prog 179 #[ptr bb, .int .i64 (i : Int)] w fun e w' => (∃ B, e = .returned (varV B) ∧ w.heap.size ≤ B ∧ Has w' B #[.int .i64 0]) ∧ Below w.heap.size w w' := by
  have b1 := h.b.cell 1 rfl
  have hbl := h.b.1
  obtain ⟨b, off, e1, hb, c0, c1, c2, c3, c4, c5, c6, c7⟩ := h.node hi
  obtain ⟨rb, ro, e2, _, hrb, d0⟩ := cells1 (h.n.2 i hi).1 hr
  rw [hr0] at d0
  simp only [Nat.add_zero] at d0
  rw [e1] at b1
  rw [e2] at c6
  rw [hk] at c0
  clear h
  have hmf := mkFunc'
  go_enter Tryz.func179, Tryz.ntmps179
  go_wp2_with fail
  go_ret
  refine ⟨⟨w.heap.size + 1 + 1, rfl, by omega, ?_⟩, below_alloc3 _ _ _ _⟩
  have h3 := Has.new ((w.alloc (.cells #[ptr bb] 109)).alloc (.cells #[.int .i64 26, .int .i64 (d.nd i).l, .int .i64 (d.nd i).o, .int .i64 (d.nd i).n, .float .f64 (d.nd i).f, .string (d.nd i).s, .slice (some ⟨rb, ro, none⟩) (d.nd i).rn (x.nas i).rc, .slice (x.nas i).ka (d.nd i).kn (x.nas i).kc] 95)) #[.int .i64 0] 3
  rw [World.size_alloc, World.size_alloc] at h3
  exact h3
end Go.Proofs.YtdialodjllpgaaaGreatDoor

/-! The program makes closures of nodes: several literals. -/
namespace Go.Proofs.YtdialodjllpgaaaGreatDoor
open Go.RowKit
attribute [local go_sem] run_store_float
attribute [local go_sem ↓] Go.wp_at_zero Go.wp_at_succ

theorem infoValuing : (Tryz.prog.info? 271).map (fun i => (i.zero, i.size, i.bytes)) = some (some .nilFunc, 1, 8) := by kernel_rfl
theorem run_store_fn (P : Program) (w : World) (a : Addr) (m : Mode) (f : Fn) (x y : Array Value) : (store a (.func f x y) m).run P w = stored P w a (.func f x y) m := run_store P w a _ m rfl
attribute [local go_sem] run_store_fn
theorem step_call2 {P : Program} {ops : Array Oper} {o : Oper} {a : Act} {w : World} {K : Act → World → Prop} {Q : Exit → Act → World → Prop} {E : Prop} (hgd : o.guard = none) (f : Nat) (x y : Operand) (t u : TypeId) (ho : o.op = .call { callee := .value (.func f), args := #[x, y], argTypes := #[t, u] }) (vx vy : Value) (hx : a.eval x = vx) (hy : a.eval y = vy)
    (eg : ∀ args w, (callFunc f args).run P w = .ok (.enter f args) w) (R : Ending → World → Prop) (hc : Calls P f #[vx, vy] w R) (h : ∀ e w', R e w' → ∃ v, e = .returned v ∧ K (a.put o.dst v) w') :
    if Region.wanted o (yielded ops a.tmps) = true then Oper.wp P o a w K Q else E := by
  have hw : Region.wanted o (yielded ops a.tmps) = true := by simp [Region.wanted, hgd]
  rw [if_pos hw]
  have e1 : (execOp a.eval o).run P w = .ok (.enter f #[vx, vy]) w := by
    unfold execOp
    simp [ho, resolve, invoke, eg, go_sem]
    exact ⟨by simpa [Act.eval] using hx, by simpa [Act.eval] using hy⟩
  unfold Oper.wp
  rw [e1, Oper.upon_enter]
  refine hc.mono ?_
  intro e w' hr
  obtain ⟨v, rfl, hk⟩ := h e w' hr
  exact hk
/-- the row of literals' closures while it is made -/
structure OnS (w : World) (d : FD) (B : Nat) (ks : Nat → Nat) (k : Nat) (oa : Option Addr) (oc : Nat) (Bs : Nat → Nat) (u : World) : Prop where
  b : OwnB u B #[.slice oa k oc]
  r : u.ownsRow (w.heap.size + 1) 271 1 (.slice oa k oc) k ((List.range k).map fun j => litV (Bs j))
  l : ∀ j, j < k → w.heap.size ≤ Bs j ∧ Has u (Bs j) (vA (litD (d.nd (ks j)))) ∧ Bs j ≠ B ∧ bkOf oa ≠ some (Bs j)
  z : k = 0 → oa = none ∧ oc = 0
  k : Below w.heap.size w u
theorem OnS.call {w : World} {d : FD} {B : Nat} {ks : Nat → Nat} {k : Nat} {oa : Option Addr} {oc : Nat} {Bs : Nat → Nat} {u u' : World} (h : OnS w d B ks k oa oc Bs u) (hb : Below u.heap.size u u') : OnS w d B ks k oa oc Bs u' :=
  ⟨h.b.block hb.size (hb.block _ h.b.1.1), ownsK_below h.r hb, fun j hj => ⟨(h.l j hj).1, (h.l j hj).2.1.call hb, (h.l j hj).2.2⟩, h.z, below_call h.k hb⟩
theorem OnS.mid {w : World} {d : FD} {B : Nat} {ks : Nat → Nat} {k : Nat} {oa : Option Addr} {oc : Nat} {Bs : Nat → Nat} {u w7 : World} (h : OnS w d B ks k oa oc Bs u) (hB : w.heap.size = B) (hg : u.grownBy w7 (Value.slice oa k oc).ownBlock) : OwnB w7 B #[.slice oa k oc] := by
  rw [own_bk] at hg
  exact h.b.block hg.size (hg.block _ h.b.1.1 (fun e => by have := (own_ge h.r e.symm).1; omega))
theorem OnS.push {w : World} {d : FD} {B : Nat} {ks : Nat → Nat} {k : Nat} {oa : Option Addr} {oc : Nat} {Bs : Nat → Nat} {u w7 : World} (h : OnS w d B ks k oa oc Bs u) (hB : w.heap.size = B) {Bn : Nat} {v' : Value} (hn1 : w.heap.size ≤ Bn) (hn2 : Has u Bn (vA (litD (d.nd (ks k))))) (hn3 : Bn ≠ B) (hn4 : bkOf oa ≠ some Bn)
    (ho : w7.ownsRow (w.heap.size + 1) 271 1 v' (k + 1) (((List.range k).map fun j => litV (Bs j)) ++ [litV Bn])) (hg : u.grownBy w7 (Value.slice oa k oc).ownBlock) (hat : v'.ownBlock = (Value.slice oa k oc).ownBlock ∨ v'.ownBlock = some u.heap.size) :
    ∃ oa' oc', v' = .slice oa' (k + 1) oc' ∧ OnS w d B ks (k + 1) oa' oc' (fun j => if j = k then Bn else Bs j) (w7.setCell ⟨B, 0, none⟩ v') := by
  obtain ⟨oa', oc', rfl⟩ := ownsK_form ho
  rw [own_bk] at hg
  rw [own_bk, own_bk] at hat
  have hne : ∀ q, bkOf oa' = some q → q ≠ B := fun q e => by have := (own_ge ho e).1; omega
  have hneo : bkOf oa ≠ some B := fun e => by have := (own_ge h.r e).1; omega
  have hk : ∀ q, q < u.heap.size → bkOf oa ≠ some q → q ≠ B → (w7.setCell ⟨B, 0, none⟩ (.slice oa' (k + 1) oc')).heap[q]? = u.heap[q]? := fun q h1 h2 h3 => (Below.heap_setCell _ ⟨B, 0, none⟩ _ q h3).trans (hg.block q h1 (fun e => h2 e.symm))
  have hnx : ∀ q, q < u.heap.size → bkOf oa ≠ some q → bkOf oa' ≠ some q := fun q h1 h2 e => by
    rcases hat with c | c
    · exact h2 (c.symm.trans e)
    · rw [c] at e; have := Option.some.inj e; omega
  have hmv : ∀ {q : Nat} {A : Array Value}, Has u q A → bkOf oa ≠ some q → q ≠ B → Has (w7.setCell ⟨B, 0, none⟩ (.slice oa' (k + 1) oc')) q A := fun hh h2 h3 => ⟨by have := hh.1; have := hg.size; simp; omega, fun o => (World.cell?_of_block (a := ⟨_, o, none⟩) (hk _ hh.1 h2 h3)).trans (hh.2 o)⟩
  refine ⟨oa', oc', rfl, ?_, ?_, fun j hj => ?_, fun e => absurd e (by omega), ?_⟩
  · have h1 : OwnB w7 B #[.slice oa k oc] := h.b.block hg.size (hg.block _ h.b.1.1 (fun e => hneo e.symm))
    exact h1.set (o := 0) (by show 0 < 1; omega) _
  · refine ownsK_set ?_ _ (fun q e => hne q ((own_bk _ _ _).symm.trans e))
    have e : ((List.range (k + 1)).map fun j => litV (if j = k then Bn else Bs j)) = ((List.range k).map fun j => litV (Bs j)) ++ [litV Bn] := by
      rw [List.range_succ, List.map_append]
      congr 1
      · refine List.map_congr_left fun j hj => ?_
        have : j < k := by simpa using hj
        rw [if_neg (by omega)]
      · simp
    rw [e]
    exact ho
  · by_cases c : j = k
    · subst c
      rw [if_pos rfl]
      exact ⟨hn1, hmv hn2 hn4 hn3, hn3, hnx _ hn2.1 hn4⟩
    · rw [if_neg c]
      obtain ⟨l1, l2, l3, l4⟩ := h.l j (by omega)
      exact ⟨l1, hmv l2 l4 l3, l3, hnx _ l2.1 l4⟩
  · exact (h.k.grown hg h.k.size (fun q e => by have := (own_ge h.r e).1; omega)).setCell (by show w.heap.size ≤ B; omega) _
set_option maxRecDepth 100000 in
set_option maxHeartbeats 8000000 in
theorem onesB_calls (M bb : Nat) (d : FD) (x : FA) (a : Option Addr) (n cap : Nat) (ks : Nat → Nat) (w : World) (h : BB M bb d x w) (hn : n ≤ 200) (hk : ∀ j, j < n → ks j < d.nn ∧ ((d.nd (ks j)).k = 23 ∨ (d.nd (ks j)).k = 28)) (hR : RowN 1 0 w a n fun j => #[.int .i64 (ks j : Int)]) :
    Calls Tryz.prog 204 #[ptr bb, .slice a n cap] w fun e w' => (∃ (B : Nat) (oa : Option Addr) (oc : Nat) (Bs : Nat → Nat), e = .returned (onesV B) ∧ w.heap.size ≤ B ∧ Has w' B #[.slice oa n oc] ∧ RowN 1 (w.heap.size + 1) w' oa n (fun j => #[litV (Bs j)]) ∧ (∀ j, j < n → w.heap.size ≤ Bs j ∧ Has w' (Bs j) (vA (litD (d.nd (ks j))))) ∧ (n = 0 → oa = none ∧ oc = 0)) ∧ Below w.heap.size w w' := by
  have HB : Hid (BB M bb d x w) := h
  have HK : Hid (∀ j, j < n → ks j < d.nn ∧ ((d.nd (ks j)).k = 23 ∨ (d.nd (ks j)).k = 28)) := hk
  have HR : Hid (RowN 1 0 w a n fun j => #[.int .i64 (ks j : Int)]) := hR
  have hmf := mkFunc'
  clear h hk hR
  go_enter Tryz.func204, Tryz.ntmps204
  go_wp2_with fail
  obtain ⟨B, hB⟩ : ∃ B, w.heap.size = B := ⟨_, rfl⟩
  have H0 : Hid (OnS w d B ks 0 none 0 (fun _ => 0) (w.alloc (.cells #[.slice none 0 0] 334))) := by
    rw [← hB]
    exact ⟨OwnB.new _ _ _, World.ownsRow_nil _ _ _ _, fun j hj => by omega, fun _ => ⟨rfl, rfl⟩, below_alloc _ _⟩
  have HBe : Hid (w.heap.size = B) := hB
  rw [hB]
  clear hB
  go_loopw [10] (fun i wr => ∃ (k : Nat) (oa : Option Addr) (oc : Nat) (Bs : Nat → Nat), k ≤ n ∧ i = .int .i64 k ∧ Hid (OnS w d B ks k oa oc Bs wr)) (fun i _ => n - (intOf i).toNat)
  case atStart => exact ⟨0, none, 0, fun _ => 0, Nat.zero_le _, rfl, H0⟩
  case round =>
    clear H0
    obtain ⟨k, oa, oc, Bs, hk, rfl, HO⟩ := hrel
    by_cases hkn : k < n
    · obtain ⟨rb, ro, e2, _, hrb, d0⟩ := cells1 (RowN.below HR.out HO.out.k) hkn
      rw [e2]
      have b0 := HO.out.b.1.cell 0 rfl
      have bz := HO.out.b.2
      have hBl := HO.out.b.1.1
      go_upto_region 5 with fail
      have hkk := HK.out k hkn
      have HBw : Hid (BB M bb d x wr.drew) := (HB.out.call (HO.out.k.mono (Nat.le_refl _))).call (Below.refl _ _).drew
      obtain ⟨i0, hi0, hy0, hy1, hy2⟩ := info_parts infoValuing
      have heg := enters_of Tryz.func179 (by kernel_rfl) rfl
      go_region_law (first
        | (refine step_call2 (by rfl) 179 _ _ _ _ (by rfl) (ptr bb) (.int .i64 (ks k : Int)) (by rfl) (by rfl) heg _ (exprLit_calls M bb d x (ks k) _ HBw.out hkk.1 hkk.2) ?_; rintro e w1 ⟨⟨Bn, rfl, hn1, hn2⟩, hb1⟩; refine ⟨_, rfl, ?_⟩; have HO1 : Hid (OnS w d B ks k oa oc Bs (w1.alloc (.cells #[litV Bn] 271))) := ((HO.out.call (Below.refl _ _).drew).call hb1).call (below_alloc _ _); obtain ⟨v', w7, happ, hown, hgrow, _, hat⟩ := run_append_own_at (P := Tryz.prog) (w1.alloc (.cells #[litV Bn] 271)) (w.heap.size + 1) 334 334 271 i0 _ 1 8 Tryz.underlying334 hi0 hy0 hy1 hy2 rfl (by decide) (.slice oa k oc) k ((List.range k).map fun j => litV (Bs j)) HO1.out.r ⟨w1.heap.size, 0, none⟩ 1 1 [litV Bn] rfl (cell_one_new _ _ _) (by simp [Value.oneCell']) (by unfold maxLen; omega) (by omega) (by have := HO1.out.b.1.1; have := HBe.out; omega); obtain ⟨oa', oc', rfl, hp⟩ := HO1.out.push HBe.out (Nat.le_trans HO.out.k.size hn1) (hn2.alloc _) (by have := HO.out.b.1.1; have h8 : wr.heap.size ≤ Bn := hn1; omega) (fun e => by have := (own_ge HO.out.r e).2; have h8 : wr.heap.size ≤ Bn := hn1; omega) hown hgrow hat; have HN : Hid (OnS w d B ks (k + 1) oa' oc' (fun j => if j = k then Bn else Bs j) (w7.setCell ⟨B, 0, none⟩ (.slice oa' (k + 1) oc'))) := hp; have b01 := ((HO.out.call (Below.refl _ _).drew).call hb1).b.1.cell 0 rfl; have hl01 := ((HO.out.call (Below.refl _ _).drew).call hb1).b.1.1; have b0' := HO1.out.b.1.cell 0 rfl; have hm7 := HO1.out.mid HBe.out hgrow; have b7 := hm7.1.cell 0 rfl; have z7 := hm7.2; clear hown hgrow hat hp hn1 hn2 hb1 hm7)
        | (refine step_app (by rfl) _ _ _ _ (by rfl) (.slice oa k oc) (.slice (some ⟨w1.heap.size, 0, none⟩) 1 1) _ _ (by rfl) (by rfl) happ ?_))
      all_goals
        clear HO HO1
        go_wp2_with fail
        go_roundw
        case rel => exact ⟨k + 1, oa', oc', _, by omega, by go_num, HN⟩
        case measure => simp [intOf]; omega
    · obtain rfl : k = n := by omega
      go_wp2_with fail
      go_ret
      refine ⟨⟨B, oa, oc, Bs, rfl, Nat.le_of_eq HBe.out, HO.out.b.1, fun h0 => ?_, fun j hj => ⟨(HO.out.l j hj).1, (HO.out.l j hj).2.1⟩, HO.out.z⟩, HO.out.k⟩
      rcases HO.out.r.2 with ⟨_, h1⟩ | ⟨g, c, cur, e, h1, h2, _⟩
      · omega
      · cases e
        refine ⟨g, 0, rfl, h1, (Array.getElem?_eq_some_iff.1 h2).1, fun i hi j hj => ?_⟩
        obtain rfl : j = 0 := by omega
        have := HO.out.r.cells (g := g) rfl i (litV (Bs i)) (by simp [hi])
        rw [show 0 + i * 1 + 0 = i by omega]
        cases i <;> simpa [Addr.add] using this
end Go.Proofs.YtdialodjllpgaaaGreatDoor

/-! The program's check of a unit: how often each is a kid. -/
namespace Go.Proofs.YtdialodjllpgaaaGreatDoor
open Go.RowKit
attribute [local go_sem] run_store_float
attribute [local go_sem ↓] Go.wp_at_zero Go.wp_at_succ

theorem nodesC_rng {nd : Nat → ND} {n : Nat} (h : ∀ i, i < n → (nd i).kn ≤ 200) : ∀ i, i ≤ n → ∀ x, 0 ≤ nodesC nd i x ∧ nodesC nd i x ≤ (i : Int) * 200
  | 0, _ => fun x => by unfold nodesC; omega
  | i + 1, hi => fun x => by
    have := kidsC_rng nd i (nodesC_rng h i (by omega)) (nd i).kn x
    have h2 := h i (by omega)
    show 0 ≤ kidsC nd i (nodesC nd i) (nd i).kn x ∧ kidsC nd i (nodesC nd i) (nd i).kn x ≤ _
    omega

/-- the row of counts -/
def CRow (w : World) (B n : Nat) (c : Nat → Int) : Prop := w.rowIs B 3 n (fun i => .int .i64 (c i))

set_option maxRecDepth 100000 in
set_option maxHeartbeats 4000000 in
theorem parentsOf_calls (L : Nat) (d : FD) (x : FA) (w : World) (hn : d.nn ≤ 3000) (hK : KidsIn d.nd d.nn) (hk2 : ∀ i, i < d.nn → (d.nd i).kn ≤ 200) (hT : FnAt L w d x) :
    Calls Tryz.prog 75 #[fnV d x] w fun e w' => (∃ B, e = .returned (.slice (some ⟨B, 0, none⟩) d.nn d.nn) ∧ w.heap.size ≤ B ∧ CRow w' B d.nn (nodesC d.nd d.nn)) ∧ Below w.heap.size w w' := by
  have HT : Hid (FnAt L w d x) := hT
  have HK : Hid (KidsIn d.nd d.nn) := hK
  have HK2 : Hid (∀ i, i < d.nn → (d.nd i).kn ≤ 200) := hk2
  clear hT hK hk2
  have hmk := fun v => run_make_row' (P := Tryz.prog) 49 3 (.int .i64 0) 8 Tryz.underlying49 infoInt rfl .i64 .i64 d.nn (by omega) (by omega) v
  go_enter Tryz.func75, Tryz.ntmps75
  go_wp2_with fail
  clear hmk
  obtain ⟨w1, hw1⟩ : ∃ w1, w1 = (w.alloc (.cells (fnC d x) 90)).alloc (.cells (madeCells #[.int .i64 0] d.nn) 3) := ⟨_, rfl⟩
  have HB1 : Hid (Below w.heap.size w w1) := by show Below _ _ _; rw [hw1]; exact below_alloc2 _ _ _
  have HR1 : Hid (CRow w1 (w.heap.size + 1) d.nn (nodesC d.nd 0)) := by
    show World.rowIs _ _ _ _ _
    rw [hw1]
    exact rowMade _ _ _ (by simp)
  have hz1 : w.heap.size + 1 < w1.heap.size := World.rowIs.lt HR1.out
  rw [← hw1]
  clear hw1
  go_loopw [15] (fun i wr => ∃ (k : Nat), k ≤ d.nn ∧ i = .int .i64 k ∧ Hid (Below (w.heap.size + 1) w1 wr) ∧ Hid (CRow wr (w.heap.size + 1) d.nn (nodesC d.nd k))) (fun i _ => d.nn - (intOf i).toNat)
  case atStart => exact ⟨0, Nat.zero_le _, rfl, Below.refl _ _, HR1⟩
  case round =>
    clear HR1
    obtain ⟨k, hk, rfl, HW, HR⟩ := hrel
    have HBw : Hid (Below w.heap.size w wr) := HB1.out.trans (HW.out.mono (by omega))
    by_cases hkn : k < d.nn
    · obtain ⟨b, off, e0, _, hb, d0, d1, d2, d3, d4, d5, d6, d7⟩ := cells8 (HT.out.below HBw.out).2.2.1 hkn
      rw [e0]
      clear e0
      have hkk := HK2.out k hkn
      go_wp2_with fail
      clear d0 d1 d2 d3 d4 d5 d6 d7
      rename World => wa
      have HW0 : Hid (Below (w.heap.size + 1) w1 (wa.alloc (.cells (nodeC (d.nd k) (x.nas k)) 95))) := HW.out.alloc (Nat.le_of_lt (Nat.lt_of_lt_of_le hz1 HW.out.size)) _
      have HR0 : Hid (CRow (wa.alloc (.cells (nodeC (d.nd k) (x.nas k)) 95)) (w.heap.size + 1) d.nn (kidsC d.nd k (nodesC d.nd k) 0)) := World.rowIs.alloc HR.out _
      clear HW HR
      go_loopw [22] (fun i wr => ∃ (j : Nat), j ≤ (d.nd k).kn ∧ i = .int .i64 j ∧ Hid (Below (w.heap.size + 1) w1 wr) ∧ Hid (CRow wr (w.heap.size + 1) d.nn (kidsC d.nd k (nodesC d.nd k) j))) (fun i _ => (d.nd k).kn - (intOf i).toNat)
      case atStart => exact ⟨0, Nat.zero_le _, rfl, HW0, HR0⟩
      case round =>
        clear HW0 HR0
        obtain ⟨j, hj, rfl, HW, HR⟩ := hrel
        have HBw2 : Hid (Below w.heap.size w wr) := HB1.out.trans (HW.out.mono (by omega))
        by_cases hjn : j < (d.nd k).kn
        · obtain ⟨b2, o2, e2, _, hb2, g0⟩ := cells1 ((HT.out.below HBw2.out).2.2.2 k hkn).2 hjn
          rw [e2]
          clear e2
          have hc := HK.out k hkn j hjn
          obtain ⟨y, hy⟩ : ∃ y : Nat, (d.nd k).c j = y := ⟨((d.nd k).c j).toNat, by omega⟩
          rw [hy] at g0 hc
          have hyn : y < d.nn := by omega
          have r0 := World.rowIs.cell HR.out (i := y) hyn
          have rz := World.rowIs.frozen HR.out
          have hrg := kidsC_rng d.nd k (nodesC_rng HK2.out k hk) j y
          have HN : Hid (CRow (wr.setCell ⟨w.heap.size + 1, y, none⟩ (.int .i64 (kidsC d.nd k (nodesC d.nd k) j y + 1))) (w.heap.size + 1) d.nn (kidsC d.nd k (nodesC d.nd k) (j + 1))) := (World.rowIs.set HR.out y _).congr fun i _ => by
            show _ = Value.int .i64 (stepC (kidsC d.nd k (nodesC d.nd k) j) ((d.nd k).c j).toNat i)
            unfold stepC
            rw [hy, Int.toNat_natCast]
            split <;> rfl
          have HW2 : Hid (Below (w.heap.size + 1) w1 (wr.setCell ⟨w.heap.size + 1, y, none⟩ (.int .i64 (kidsC d.nd k (nodesC d.nd k) j y + 1)))) := frS HW.out (Nat.le_refl _) _
          clear hy
          go_wp2_with fail
          go_roundw
          case rel => exact ⟨j + 1, by omega, by go_num, HW2, HN⟩
          case measure => simp [intOf]; omega
        · obtain rfl : j = (d.nd k).kn := by omega
          go_wp2_with fail
          go_roundw
          case rel => exact ⟨k + 1, by omega, by go_num, HW, HR⟩
          case measure => simp [intOf]; omega
    · obtain rfl : k = d.nn := by omega
      go_wp2_with fail
      go_ret
      exact ⟨⟨_, rfl, by omega, HR.out⟩, HBw.out⟩

theorem bad4_yes {u : UD} {f n : Nat} (hf : f < u.n) (hn : n < (u.fn f).nn) (h3 : ∀ f', f' < f → ∀ n', n' < (u.fn f').nn → ¬ TreeBad u f' n') (h4 : ∀ n', n' < n → ¬ TreeBad u f n') (h5 : TreeBad u f n) : Least (Bad4 u) ⟨4, f, n⟩ := At2.least (by decide) h3 h4 hf hn h5
theorem bad4_no {u : UD} (h2 : ∀ f', f' < u.n → ∀ n', n' < (u.fn f').nn → ¬ TreeBad u f' n') : Least (Bad4 u) ft0 := Least.zero (At2.none h2)
end Go.Proofs.YtdialodjllpgaaaGreatDoor

/-! The program's check of a unit: trees. -/
namespace Go.Proofs.YtdialodjllpgaaaGreatDoor
open Go.RowKit
attribute [local go_sem] run_store_float
attribute [local go_sem ↓] Go.wp_at_zero Go.wp_at_succ

set_option maxRecDepth 100000 in
set_option maxHeartbeats 4000000 in
theorem treeFault_calls (L : Nat) (u : UD) (a : Option Addr) (cap : Nat) (fas : Nat → FA) (w : World) (hs : u.sm) (h3 : U3 u) (hT : FnsAt L w u.n u.fn a fas) :
    Calls Tryz.prog 37 #[unV u a cap] w fun e w' => FtPost (Bad4 u) w e w' := by
  have HT : Hid (FnsAt L w u.n u.fn a fas) := hT
  have HS : Hid u.sm := hs
  have H3 : Hid (U3 u) := h3
  have hun := h3.size.2.1
  obtain ⟨b, off, e0, _, hb, _⟩ := cells7 hT.1 (show 0 < u.n from h3.size.1)
  subst e0
  clear hT hs h3
  go_enter Tryz.func37, Tryz.ntmps37
  go_wp2_with fail
  go_loopw [12] (fun i wr => ∃ (k : Nat), k ≤ u.n ∧ i = .int .i64 k ∧ Hid (∀ f', f' < k → ∀ n', n' < (u.fn f').nn → ¬ TreeBad u f' n') ∧ Hid (Below (fxW w u (some ⟨b, off, none⟩) cap).heap.size (fxW w u (some ⟨b, off, none⟩) cap) wr)) (fun i _ => u.n - (intOf i).toNat)
  case atStart => exact ⟨0, Nat.zero_le _, rfl, fun f' hf' => by omega, Below.refl _ _⟩
  case round =>
    obtain ⟨k, hk, rfl, HF, HB⟩ := hrel
    by_cases hkn : k < u.n
    · have HTr : Hid (FnsAt L wr u.n u.fn (some ⟨b, off, none⟩) fas) := HT.out.below (fx_below HB.out)
      obtain ⟨b', off', e0, _, hbz, d0, d1, d2, d3, d4, d5, d6⟩ := cells7 HTr.out.1 hkn
      obtain ⟨rfl, rfl⟩ : b = b' ∧ off = off' := by simpa using e0
      clear e0
      have hnn := H3.out.nn hkn
      have HK2 : Hid (∀ i, i < (u.fn k).nn → ((u.fn k).nd i).kn ≤ 200) := fun i hi => (H3.out.facts hkn hi).kn
      rename World => wa
      go_wp2_with (go_at_call 75; refine (parentsOf_calls L (u.fn k) (fas k) _ hnn.1 (H3.out.kids hkn) HK2.out ((HTr.out.2 k hkn).alloc _)).mono ?_; rintro e w8 ⟨⟨B, rfl, hBz, hR⟩, hb8⟩; have HR8 : Hid (CRow w8 B (u.fn k).nn (nodesC (u.fn k).nd (u.fn k).nn)) := hR; have HX8 : Hid (Has w8 wa.heap.size (fnC (u.fn k) (fas k))) := Has.made hb8; have y6 : w8.cell? ⟨wa.heap.size, 6, none⟩ = some (.slice (fas k).na (u.fn k).nn (fas k).nc) := HX8.out.cell 6 rfl; clear hR)
      clear y6 d0 d1 d2 d3 d4 d5 d6
      have HB8 : Hid (Below (fxW w u (some ⟨b, off, none⟩) cap).heap.size (fxW w u (some ⟨b, off, none⟩) cap) w8) := below_call HB.out (below_call (below_alloc _ _) hb8)
      clear HB hb8 HTr HX8 hBz
      go_loopw [26] (fun i wr => ∃ (m : Nat), m ≤ (u.fn k).nn ∧ i = .int .i64 m ∧ Hid (∀ n', n' < m → ¬ TreeBad u k n') ∧ Hid (Below w8.heap.size w8 wr)) (fun i _ => (u.fn k).nn - (intOf i).toNat)
      case atStart => exact ⟨0, Nat.zero_le _, rfl, fun f' hf' => by omega, Below.refl _ _⟩
      case round =>
        obtain ⟨m, hm, rfl, HN, HW⟩ := hrel
        have HB : Hid (Below (fxW w u (some ⟨b, off, none⟩) cap).heap.size (fxW w u (some ⟨b, off, none⟩) cap) wr) := below_call HB8.out HW.out
        by_cases hmn : m < (u.fn k).nn
        · have HTr : Hid (FnsAt L wr u.n u.fn (some ⟨b, off, none⟩) fas) := HT.out.below (fx_below HB.out)
          have HRr : Hid (CRow wr B (u.fn k).nn (nodesC (u.fn k).nd (u.fn k).nn)) := World.rowIs.of_block HR8.out (HW.out.block _ (World.rowIs.lt HR8.out))
          have r0 := World.rowIs.cell HRr.out (i := m) hmn
          have hBw := World.rowIs.lt HRr.out
          have hrz : w.heap.size + 1 < wr.heap.size := (fx_row HB.out).lt
          obtain ⟨b2, o2, e2, _, hb2, g0, g1, g2, g3, g4, g5, g6, g7⟩ := cells8 (HTr.out.2 k hkn).2.2.1 hmn
          rw [e2]
          clear e2
          have HWn : Hid (Below w8.heap.size w8 (wr.alloc (.cells (nodeC ((u.fn k).nd m) (fas k |>.nas m)) 95))) := below_a' HW.out _
          have s0 := (fx_row HB.out).cell (i := 0) (by omega)
          have s1 := (fx_row HB.out).cell (i := 1) (by omega)
          have s2 := (fx_row HB.out).cell (i := 2) (by omega)
          have sz := (fx_row HB.out).frozen
          by_cases hl : m = (u.fn k).nn - 1
          · have qa : ¬ (m : Int) < ((u.fn k).nn : Int) - 1 := by omega
            have qb : ((m : Int) == ((u.fn k).nn : Int) - 1) = true := by simp; omega
            by_cases hk1 : ((u.fn k).nd m).k = 1
            · have HG : Hid (¬ TreeBad u k m) := by
                show ¬ TreeBad u k m
                rintro (⟨h, _⟩ | ⟨_, h⟩)
                · omega
                · exact h hk1
              have q1 : (((u.fn k).nd m).k != 1) = false := by rw [hk1]; rfl
              clear hk1 hl
              go_wp2_with fail
              go_roundw
              case rel => exact ⟨m + 1, by omega, by go_num, fun j hj => by
                by_cases e : j = m
                · subst e; exact HG.out
                · exact HN.out j (by omega), HWn⟩
              case measure => simp [intOf]; omega
            · have HL : Hid (Least (Bad4 u) ⟨4, k, m⟩) := bad4_yes hkn hmn HF.out HN.out (.inr ⟨hl, hk1⟩)
              have q1 : (((u.fn k).nd m).k != 1) = true := by simpa using hk1
              clear hk1 hl
              go_wp2_with fail
              refine bodyPost_ret (v := ftV ⟨4, k, m⟩) (by simp [results, Tryz.results37, go_sem, s0, s1, s2, hrz]) rfl ?_
              exact FtPost.of HL.out (below_a' (fx_out (fx_below HB.out) _ _ _) _)
          · have qa : (m : Int) < ((u.fn k).nn : Int) - 1 := by omega
            have qb : ((m : Int) == ((u.fn k).nn : Int) - 1) = false := by simp; omega
            have hco := count_one (H3.out.kids hkn) (x := m) (by omega)
            by_cases hp : nodesC (u.fn k).nd (u.fn k).nn m = 1
            · have HG : Hid (¬ TreeBad u k m) := by
                show ¬ TreeBad u k m
                rintro (⟨_, h⟩ | ⟨h, _⟩)
                · have := hco.1 hp; omega
                · exact hl h
              have q1 : (nodesC (u.fn k).nd (u.fn k).nn m != 1) = false := by rw [hp]; rfl
              clear hp hl hco
              go_wp2_with fail
              go_roundw
              case rel => exact ⟨m + 1, by omega, by go_num, fun j hj => by
                by_cases e : j = m
                · subst e; exact HG.out
                · exact HN.out j (by omega), HWn⟩
              case measure => simp [intOf]; omega
            · have HL : Hid (Least (Bad4 u) ⟨4, k, m⟩) := bad4_yes hkn hmn HF.out HN.out (.inl ⟨by omega, by
                have : ¬ 0 ≤ parP (u.fn k).nd (u.fn k).nn m := fun h => hp (hco.2 h)
                omega⟩)
              have q1 : (nodesC (u.fn k).nd (u.fn k).nn m != 1) = true := by simpa using hp
              clear hp hl hco
              go_wp2_with fail
              refine bodyPost_ret (v := ftV ⟨4, k, m⟩) (by simp [results, Tryz.results37, go_sem, s0, s1, s2, hrz]) rfl ?_
              exact FtPost.of HL.out (below_a' (fx_out (fx_below HB.out) _ _ _) _)
        · obtain rfl : m = (u.fn k).nn := by omega
          go_wp2_with fail
          go_roundw
          case rel => exact ⟨k + 1, by omega, by go_num, fun j hj => by
            by_cases e : j = k
            · subst e; exact HN.out
            · exact HF.out j (by omega), HB⟩
          case measure => simp [intOf]; omega
    · obtain rfl : k = u.n := by omega
      have HL : Hid (Least (Bad4 u) ⟨0, 0, 0⟩) := bad4_no HF.out
      have s0 := (fx_row HB.out).cell (i := 0) (by omega)
      have s1 := (fx_row HB.out).cell (i := 1) (by omega)
      have s2 := (fx_row HB.out).cell (i := 2) (by omega)
      have sz := (fx_row HB.out).frozen
      go_wp2_with fail
      refine bodyPost_ret (v := ftV ⟨0, 0, 0⟩) (by simp [results, Tryz.results37, go_sem, s0, s1, s2]) rfl ?_
      exact FtPost.of HL.out (fx_out (fx_below HB.out) _ _ _)
end Go.Proofs.YtdialodjllpgaaaGreatDoor

/-! The program's check of a unit: its size and its fns. -/
namespace Go.Proofs.YtdialodjllpgaaaGreatDoor
open Go.RowKit
attribute [local go_sem] run_store_float
attribute [local go_sem ↓] Go.wp_at_zero Go.wp_at_succ

theorem bad1_yes {u : UD} (h : ¬ SizeOk u) : Least (Bad1 u) ⟨1, 0, 0⟩ := At2.least (by decide) (fun f' hf' => by omega) (fun n' hn' => by omega) (by decide) (by decide) h
theorem bad1_no {u : UD} (h : SizeOk u) : Least (Bad1 u) ft0 := Least.zero (At2.none fun _ _ _ _ k => k h)
theorem bad2_yes {u : UD} {f : Nat} (hf : f < u.n) (h2 : ∀ f', f' < f → HeadOk u f') (h3 : ¬ HeadOk u f) : Least (Bad2 u) ⟨2, f, 0⟩ := At2.least (by decide) (fun f' hf' _ _ h => h (h2 f' hf')) (fun n' hn' => by omega) hf (by show 0 < 1; decide) h3
theorem bad2_no {u : UD} (h : ∀ f, f < u.n → HeadOk u f) : Least (Bad2 u) ft0 := Least.zero (At2.none fun f hf _ _ k => k (h f hf))
theorem btB_true {i l m : Int} (h1 : l ≤ i) (h2 : i ≤ m) : btB i l m = true := by unfold btB; simp [h1, h2]
theorem btB_false {i l m : Int} (h : ¬ (l ≤ i ∧ i ≤ m)) : btB i l m = false := by unfold btB; simp; omega

set_option maxRecDepth 100000 in
set_option maxHeartbeats 4000000 in
theorem sizeFault_calls (L : Nat) (u : UD) (a : Option Addr) (cap : Nat) (fas : Nat → FA) (w : World) (hs : u.sm) (hT : FnsAt L w u.n u.fn a fas) :
    Calls Tryz.prog 34 #[unV u a cap] w fun e w' => FtPost (Bad1 u) w e w' := by
  have HT : Hid (FnsAt L w u.n u.fn a fas) := hT
  have HS : Hid u.sm := hs
  have hun := hs.n
  clear hT hs
  go_enter Tryz.func34, Tryz.ntmps34
  go_wp2_with fail
  go_loopw [3, 9] (fun s i wr => ∃ (k : Nat), k ≤ u.n ∧ i = .int .i64 k ∧ s = .int .i64 (tot u.fn k) ∧ Hid (Below (fxW w u a cap).heap.size (fxW w u a cap) wr)) (fun _ i _ => u.n - (intOf i).toNat)
  case atStart => exact ⟨0, Nat.zero_le _, rfl, rfl, Below.refl _ _⟩
  case round =>
    obtain ⟨k, hk, rfl, rfl, HB⟩ := hrel
    have ht := tot_bd HS.out k hk
    by_cases hkn : k < u.n
    · obtain ⟨b, off, e0, _, hb, d0, d1, d2, d3, d4, d5, d6⟩ := cells7 (HT.out.below (fx_below HB.out)).1 hkn
      have hnn := (HS.out.fn k hkn).nn
      subst e0
      go_wp2_with fail
      go_roundw
      case rel => exact ⟨k + 1, by omega, by go_num, by show _ = Value.int .i64 ((tot u.fn k + (u.fn k).nn : Nat) : Int); go_num, below_a' HB.out _⟩
      case measure => simp [intOf]; omega
    · obtain rfl : k = u.n := by omega
      have f0 : wr.cell? ⟨w.heap.size, 0, none⟩ = some (.slice a u.n cap) := (fx_u HB.out).cell 0 rfl
      have s0 := (fx_row HB.out).cell (i := 0) (by omega)
      have s1 := (fx_row HB.out).cell (i := 1) (by omega)
      have s2 := (fx_row HB.out).cell (i := 2) (by omega)
      have sz := (fx_row HB.out).frozen
      by_cases hz : SizeOk u
      · have HL : Hid (Least (Bad1 u) ⟨0, 0, 0⟩) := bad1_no hz
        have hbt : btB (u.n : Int) 1 300 = true := btB_true (by have := hz.1; omega) (by have := hz.2.1; omega)
        have z3 : ¬ (3000 : Int) < tot u.fn u.n := by have := hz.2.2; omega
        clear hz
        go_wp2_with (go_at_call 42; refine (between_calls _ _ _ _).mono ?_; rw [hbt]; rintro e w1 ⟨rfl, rfl⟩)
        refine bodyPost_ret (v := ftV ⟨0, 0, 0⟩) (by simp [results, Tryz.results34, go_sem, s0, s1, s2]) rfl ?_
        exact FtPost.of HL.out (fx_out (fx_below HB.out) _ _ _)
      · have HL : Hid (Least (Bad1 u) ⟨1, 0, 0⟩) := bad1_yes hz
        by_cases c1 : (1 : Int) ≤ u.n ∧ (u.n : Int) ≤ 300
        · have hbt : btB (u.n : Int) 1 300 = true := btB_true c1.1 c1.2
          have c3 : (3000 : Int) < tot u.fn u.n := by unfold SizeOk at hz; omega
          clear hz c1
          go_wp2_with (go_at_call 42; refine (between_calls _ _ _ _).mono ?_; rw [hbt]; rintro e w1 ⟨rfl, rfl⟩)
          refine bodyPost_ret (v := ftV ⟨1, 0, 0⟩) (by simp [results, Tryz.results34, go_sem, s0, s1, s2]) rfl ?_
          exact FtPost.of HL.out (fx_out (fx_below HB.out) _ _ _)
        · have hbt : btB (u.n : Int) 1 300 = false := btB_false c1
          clear hz c1
          go_wp2_with (go_at_call 42; refine (between_calls _ _ _ _).mono ?_; rw [hbt]; rintro e w1 ⟨rfl, rfl⟩)
          refine bodyPost_ret (v := ftV ⟨1, 0, 0⟩) (by simp [results, Tryz.results34, go_sem, s0, s1, s2]) rfl ?_
          exact FtPost.of HL.out (fx_out (fx_below HB.out) _ _ _)

/-- a fn's head but for what is asked of the first -/
def HeadB (d : FD) : Prop := (d.nn ≠ 0 ∧ d.vn ≤ 200 ∧ d.un ≤ 200) ∧ (∀ i, i < d.vn → 1 ≤ (d.v i).size ∧ (d.v i).size ≤ 40) ∧ (0 ≤ d.params ∧ d.params ≤ d.vn) ∧ (0 ≤ d.line ∧ d.line ≤ 100000) ∧ d.name.size ≤ 40
theorem head_iff {u : UD} {f : Nat} : HeadOk u f ↔ HeadB (u.fn f) ∧ (f = 0 → (u.fn f).params = 0 ∧ (u.fn f).un = 0) := by
  unfold HeadOk HeadB
  constructor
  · rintro ⟨⟨a, b, c, d, e⟩, ⟨f, g, h, i⟩, j⟩
    exact ⟨⟨⟨a, b, c⟩, j, ⟨d, e⟩, ⟨f, g⟩, h⟩, i⟩
  · rintro ⟨⟨⟨a, b, c⟩, j, ⟨d, e⟩, ⟨f, g⟩, h⟩, i⟩
    exact ⟨⟨a, b, c, d, e⟩, ⟨f, g, h, i⟩, j⟩

set_option maxRecDepth 100000 in
set_option maxHeartbeats 4000000 in
theorem fnFits_calls (L : Nat) (d : FD) (x : FA) (w : World) (hs : d.sm) (hT : FnAt L w d x) :
    Calls Tryz.prog 72 #[fnV d x] w fun e w' => e = .returned (.bool (dB (HeadB d))) ∧ Below w.heap.size w w' := by
  have HT : Hid (FnAt L w d x) := hT
  have HS : Hid d.sm := hs
  have hvn := hs.vn
  have hun := hs.un
  have hnn := hs.nn
  have hnm := hs.name
  clear hT hs
  by_cases c1 : d.nn = 0
  · have he : dB (HeadB d) = false := dB_false fun h => h.1.1 c1
    have q1 : ((d.nn : Int) == 0) = true := by simp; omega
    rw [he]
    clear he c1
    go_enter Tryz.func72, Tryz.ntmps72
    go_wp2_with fail
    go_ret
    exact ⟨rfl, below_alloc _ _⟩
  have q1 : ((d.nn : Int) == 0) = false := by simp; omega
  have C1 : Hid (d.nn ≠ 0) := c1
  clear c1
  by_cases c2 : 200 < d.vn
  · have he : dB (HeadB d) = false := dB_false fun h => by have := h.1.2.1; omega
    rw [he]
    clear he
    go_enter Tryz.func72, Tryz.ntmps72
    go_wp2_with fail
    go_ret
    exact ⟨rfl, below_alloc _ _⟩
  by_cases c3 : 200 < d.un
  · have he : dB (HeadB d) = false := dB_false fun h => by have := h.1.2.2; omega
    rw [he]
    clear he
    go_enter Tryz.func72, Tryz.ntmps72
    go_wp2_with fail
    go_ret
    exact ⟨rfl, below_alloc _ _⟩
  have HW : Hid (Has (w.alloc (.cells (fnC d x) 90)) w.heap.size (fnC d x)) := Has.new _ _ _
  go_enter Tryz.func72, Tryz.ntmps72
  go_wp2_with fail
  go_loopw [24] (fun i wr => ∃ (k : Nat), k ≤ d.vn ∧ i = .int .i64 k ∧ Hid (∀ j, j < k → 1 ≤ (d.v j).size ∧ (d.v j).size ≤ 40) ∧ Hid (Below (w.alloc (.cells (fnC d x) 90)).heap.size (w.alloc (.cells (fnC d x) 90)) wr)) (fun i _ => d.vn - (intOf i).toNat)
  case atStart => exact ⟨0, Nat.zero_le _, rfl, fun j hj => by omega, Below.refl _ _⟩
  case round =>
    obtain ⟨k, hk, rfl, HK, HB⟩ := hrel
    have HBw : Hid (Below w.heap.size w wr) := below_call (below_alloc _ _) HB.out
    by_cases hkn : k < d.vn
    · obtain ⟨b2, o2, e2, _, hb2, g0⟩ := cells1 (HT.out.below HBw.out).1 hkn
      rw [e2]
      clear e2
      have hsz := HS.out.v k hkn
      by_cases hg : 1 ≤ (d.v k).size ∧ (d.v k).size ≤ 40
      · have hbt : btB ((d.v k).size : Int) 1 40 = true := btB_true (by omega) (by omega)
        have HG : Hid (1 ≤ (d.v k).size ∧ (d.v k).size ≤ 40) := hg
        clear hg
        go_wp2_with (go_at_call 42; refine (between_calls _ _ _ _).mono ?_; rw [hbt]; rintro e w1 ⟨rfl, rfl⟩)
        go_roundw
        case rel => exact ⟨k + 1, by omega, by go_num, fun j hj => by
          by_cases e : j = k
          · subst e; exact HG.out
          · exact HK.out j (by omega), HB⟩
        case measure => simp [intOf]; omega
      · have hbt : btB ((d.v k).size : Int) 1 40 = false := btB_false (by omega)
        have HE : Hid (dB (HeadB d) = false) := dB_false fun h => hg (h.2.1 k hkn)
        clear hg
        go_wp2_with (go_at_call 42; refine (between_calls _ _ _ _).mono ?_; rw [hbt]; rintro e w1 ⟨rfl, rfl⟩)
        go_ret
        exact ⟨ret_bool HE.out.symm, HBw.out⟩
    · have HA : Hid (∀ i, i < d.vn → 1 ≤ (d.v i).size ∧ (d.v i).size ≤ 40) := fun i hi => HK.out i (by omega)
      have x0 : wr.cell? ⟨w.heap.size, 0, none⟩ = some (.string d.name) := (HW.out.call HB.out).cell 0 rfl
      have x1 : wr.cell? ⟨w.heap.size, 1, none⟩ = some (.int .i64 d.line) := (HW.out.call HB.out).cell 1 rfl
      have x2 : wr.cell? ⟨w.heap.size, 2, none⟩ = some (.int .i64 d.params) := (HW.out.call HB.out).cell 2 rfl
      have x4 : wr.cell? ⟨w.heap.size, 4, none⟩ = some (.slice x.va d.vn x.vc) := (HW.out.call HB.out).cell 4 rfl
      cases h1 : btB d.params 0 d.vn
      · have HE : Hid (dB (HeadB d) = false) := dB_false fun h => by
          rw [btB_true h.2.2.1.1 h.2.2.1.2] at h1; cases h1
        go_wp2_with (go_at_call 42; refine (between_calls _ _ _ _).mono ?_; rw [h1]; rintro e w1 ⟨rfl, rfl⟩)
        go_ret
        exact ⟨ret_bool HE.out.symm, HBw.out⟩
      · have H1 : Hid (0 ≤ d.params ∧ d.params ≤ d.vn) := by show _ ∧ _; unfold btB at h1; simpa using h1
        cases h2 : btB d.line 0 100000
        · have HE : Hid (dB (HeadB d) = false) := dB_false fun h => by
            rw [btB_true h.2.2.2.1.1 h.2.2.2.1.2] at h2; cases h2
          go_wp2_with (go_at_call 42; refine (between_calls _ _ _ _).mono ?_; first | (rw [h1]; rintro e w1 ⟨rfl, rfl⟩) | (rw [h2]; rintro e w1 ⟨rfl, rfl⟩))
          go_ret
          exact ⟨ret_bool HE.out.symm, HBw.out⟩
        · have H2 : Hid (0 ≤ d.line ∧ d.line ≤ 100000) := by show _ ∧ _; unfold btB at h2; simpa using h2
          by_cases c8 : d.name.size ≤ 40
          · have HE : Hid (dB (HeadB d) = true) := dB_true ⟨⟨C1.out, by omega, by omega⟩, HA.out, H1.out, H2.out, c8⟩
            go_wp2_with (go_at_call 42; refine (between_calls _ _ _ _).mono ?_; first | (rw [h1]; rintro e w1 ⟨rfl, rfl⟩) | (rw [h2]; rintro e w1 ⟨rfl, rfl⟩))
            go_ret
            exact ⟨ret_bool (by rw [HE.out]; simp; omega), HBw.out⟩
          · have HE : Hid (dB (HeadB d) = false) := dB_false fun h => c8 h.2.2.2.2
            go_wp2_with (go_at_call 42; refine (between_calls _ _ _ _).mono ?_; first | (rw [h1]; rintro e w1 ⟨rfl, rfl⟩) | (rw [h2]; rintro e w1 ⟨rfl, rfl⟩))
            go_ret
            exact ⟨ret_bool (by rw [HE.out]; simp; omega), HBw.out⟩
end Go.Proofs.YtdialodjllpgaaaGreatDoor

/-! The program's check of a unit: fns. -/
namespace Go.Proofs.YtdialodjllpgaaaGreatDoor
open Go.RowKit
attribute [local go_sem] run_store_float
attribute [local go_sem ↓] Go.wp_at_zero Go.wp_at_succ

set_option maxRecDepth 100000 in
set_option maxHeartbeats 4000000 in
theorem fnFault_calls (L : Nat) (u : UD) (a : Option Addr) (cap : Nat) (fas : Nat → FA) (w : World) (hs : u.sm) (hT : FnsAt L w u.n u.fn a fas) :
    Calls Tryz.prog 35 #[unV u a cap] w fun e w' => FtPost (Bad2 u) w e w' := by
  have HT : Hid (FnsAt L w u.n u.fn a fas) := hT
  have HS : Hid u.sm := hs
  have hun := hs.n
  clear hT hs
  go_enter Tryz.func35, Tryz.ntmps35
  go_wp2_with fail
  go_loopw [8] (fun i wr => ∃ (k : Nat), k ≤ u.n ∧ i = .int .i64 k ∧ Hid (∀ f', f' < k → HeadOk u f') ∧ Hid (Below (fxW w u a cap).heap.size (fxW w u a cap) wr)) (fun i _ => u.n - (intOf i).toNat)
  case atStart => exact ⟨0, Nat.zero_le _, rfl, fun f' hf' => by omega, Below.refl _ _⟩
  case round =>
    obtain ⟨k, hk, rfl, HH, HB⟩ := hrel
    by_cases hkn : k < u.n
    · have HTr : Hid (FnsAt L wr u.n u.fn a fas) := HT.out.below (fx_below HB.out)
      obtain ⟨b, off, e0, _, hb, d0, d1, d2, d3, d4, d5, d6⟩ := cells7 HTr.out.1 hkn
      subst e0
      have hun2 := (HS.out.fn k hkn).un
      by_cases hk0 : k = 0
      · subst hk0
        simp only [Nat.zero_mul, Nat.add_zero] at d0 d1 d2 d3 d4 d5 d6
        have HA : Hid (∀ w2, Below (wr.alloc (.cells (fnC (u.fn 0) (fas 0)) 90)).heap.size (wr.alloc (.cells (fnC (u.fn 0) (fas 0)) 90)) w2 → Below (fxW w u (some ⟨b, off, none⟩) cap).heap.size (fxW w u (some ⟨b, off, none⟩) cap) w2 ∧ Has w2 wr.heap.size (fnC (u.fn 0) (fas 0))) := fun w2 h => ⟨below_call (below_a' HB.out _) h, Has.made h⟩
        by_cases hh : HeadB (u.fn 0)
        · have hdb : dB (HeadB (u.fn 0)) = true := dB_true hh
          by_cases hp : (u.fn 0).params = 0
          · have qp : ((u.fn 0).params != 0) = false := by rw [hp]; rfl
            by_cases hu : (u.fn 0).un = 0
            · have qu : (((u.fn 0).un : Int) != 0) = false := by simp; omega
              have HG : Hid (HeadOk u 0) := head_iff.2 ⟨hh, fun _ => ⟨hp, hu⟩⟩
              clear hh hp hu
              go_wp2_with (go_at_call 72; refine (fnFits_calls L (u.fn 0) (fas 0) _ (HS.out.fn 0 hkn) ((HTr.out.2 0 hkn).alloc _)).mono ?_; rw [hdb]; rintro e w2 ⟨rfl, hb2⟩; have HB2 : Hid (Below (fxW w u (some ⟨b, off, none⟩) cap).heap.size (fxW w u (some ⟨b, off, none⟩) cap) w2) := (HA.out _ hb2).1; have x2 : w2.cell? ⟨wr.heap.size, 2, none⟩ = some (.int .i64 (u.fn 0).params) := (HA.out _ hb2).2.cell 2 rfl; have x5 : w2.cell? ⟨wr.heap.size, 5, none⟩ = some (.slice (fas 0).ua (u.fn 0).un (fas 0).uc) := (HA.out _ hb2).2.cell 5 rfl; have s0 := (fx_row HB2.out).cell (i := 0) (by omega); have s1 := (fx_row HB2.out).cell (i := 1) (by omega); have s2 := (fx_row HB2.out).cell (i := 2) (by omega); have sz := (fx_row HB2.out).frozen; clear hb2)
              go_roundw
              case rel => exact ⟨0 + 1, by omega, by go_num, fun j hj => by
                by_cases e : j = 0
                · subst e; exact HG.out
                · exact HH.out j (by omega), HB2⟩
              case measure => simp [intOf]; omega
            · have qu : (((u.fn 0).un : Int) != 0) = true := by simp; omega
              have HL : Hid (Least (Bad2 u) ⟨2, 0, 0⟩) := bad2_yes hkn HH.out fun h => hu ((head_iff.1 h).2 rfl).2
              clear hh hp hu
              go_wp2_with (go_at_call 72; refine (fnFits_calls L (u.fn 0) (fas 0) _ (HS.out.fn 0 hkn) ((HTr.out.2 0 hkn).alloc _)).mono ?_; rw [hdb]; rintro e w2 ⟨rfl, hb2⟩; have HB2 : Hid (Below (fxW w u (some ⟨b, off, none⟩) cap).heap.size (fxW w u (some ⟨b, off, none⟩) cap) w2) := (HA.out _ hb2).1; have x2 : w2.cell? ⟨wr.heap.size, 2, none⟩ = some (.int .i64 (u.fn 0).params) := (HA.out _ hb2).2.cell 2 rfl; have x5 : w2.cell? ⟨wr.heap.size, 5, none⟩ = some (.slice (fas 0).ua (u.fn 0).un (fas 0).uc) := (HA.out _ hb2).2.cell 5 rfl; have s0 := (fx_row HB2.out).cell (i := 0) (by omega); have s1 := (fx_row HB2.out).cell (i := 1) (by omega); have s2 := (fx_row HB2.out).cell (i := 2) (by omega); have sz := (fx_row HB2.out).frozen; clear hb2)
              refine bodyPost_ret (v := ftV ⟨2, 0, 0⟩) (by simp [results, Tryz.results35, go_sem, s0, s1, s2]) rfl ?_
              exact FtPost.of HL.out (fx_out (fx_below HB2.out) _ _ _)
          · have qp : ((u.fn 0).params != 0) = true := by simpa using hp
            have HL : Hid (Least (Bad2 u) ⟨2, 0, 0⟩) := bad2_yes hkn HH.out fun h => hp ((head_iff.1 h).2 rfl).1
            clear hh hp
            go_wp2_with (go_at_call 72; refine (fnFits_calls L (u.fn 0) (fas 0) _ (HS.out.fn 0 hkn) ((HTr.out.2 0 hkn).alloc _)).mono ?_; rw [hdb]; rintro e w2 ⟨rfl, hb2⟩; have HB2 : Hid (Below (fxW w u (some ⟨b, off, none⟩) cap).heap.size (fxW w u (some ⟨b, off, none⟩) cap) w2) := (HA.out _ hb2).1; have x2 : w2.cell? ⟨wr.heap.size, 2, none⟩ = some (.int .i64 (u.fn 0).params) := (HA.out _ hb2).2.cell 2 rfl; have x5 : w2.cell? ⟨wr.heap.size, 5, none⟩ = some (.slice (fas 0).ua (u.fn 0).un (fas 0).uc) := (HA.out _ hb2).2.cell 5 rfl; have s0 := (fx_row HB2.out).cell (i := 0) (by omega); have s1 := (fx_row HB2.out).cell (i := 1) (by omega); have s2 := (fx_row HB2.out).cell (i := 2) (by omega); have sz := (fx_row HB2.out).frozen; clear hb2)
            refine bodyPost_ret (v := ftV ⟨2, 0, 0⟩) (by simp [results, Tryz.results35, go_sem, s0, s1, s2]) rfl ?_
            exact FtPost.of HL.out (fx_out (fx_below HB2.out) _ _ _)
        · have hdb : dB (HeadB (u.fn 0)) = false := dB_false hh
          have HL : Hid (Least (Bad2 u) ⟨2, 0, 0⟩) := bad2_yes hkn HH.out fun h => hh (head_iff.1 h).1
          clear hh
          go_wp2_with (go_at_call 72; refine (fnFits_calls L (u.fn 0) (fas 0) _ (HS.out.fn 0 hkn) ((HTr.out.2 0 hkn).alloc _)).mono ?_; rw [hdb]; rintro e w2 ⟨rfl, hb2⟩; have HB2 : Hid (Below (fxW w u (some ⟨b, off, none⟩) cap).heap.size (fxW w u (some ⟨b, off, none⟩) cap) w2) := (HA.out _ hb2).1; have x2 : w2.cell? ⟨wr.heap.size, 2, none⟩ = some (.int .i64 (u.fn 0).params) := (HA.out _ hb2).2.cell 2 rfl; have x5 : w2.cell? ⟨wr.heap.size, 5, none⟩ = some (.slice (fas 0).ua (u.fn 0).un (fas 0).uc) := (HA.out _ hb2).2.cell 5 rfl; have s0 := (fx_row HB2.out).cell (i := 0) (by omega); have s1 := (fx_row HB2.out).cell (i := 1) (by omega); have s2 := (fx_row HB2.out).cell (i := 2) (by omega); have sz := (fx_row HB2.out).frozen; clear hb2)
          refine bodyPost_ret (v := ftV ⟨2, 0, 0⟩) (by simp [results, Tryz.results35, go_sem, s0, s1, s2]) rfl ?_
          exact FtPost.of HL.out (fx_out (fx_below HB2.out) _ _ _)
      · have qk : ((k : Int) == 0) = false := by simp; omega
        have HK0 : Hid (k ≠ 0) := hk0
        clear hk0
        have HA : Hid (∀ w2, Below (wr.alloc (.cells (fnC (u.fn k) (fas k)) 90)).heap.size (wr.alloc (.cells (fnC (u.fn k) (fas k)) 90)) w2 → Below (fxW w u (some ⟨b, off, none⟩) cap).heap.size (fxW w u (some ⟨b, off, none⟩) cap) w2 ∧ Has w2 wr.heap.size (fnC (u.fn k) (fas k))) := fun w2 h => ⟨below_call (below_a' HB.out _) h, Has.made h⟩
        by_cases hh : HeadB (u.fn k)
        · have hdb : dB (HeadB (u.fn k)) = true := dB_true hh
          have HG : Hid (HeadOk u k) := head_iff.2 ⟨hh, fun h => absurd h HK0.out⟩
          clear hh
          go_wp2_with (go_at_call 72; refine (fnFits_calls L (u.fn k) (fas k) _ (HS.out.fn k hkn) ((HTr.out.2 k hkn).alloc _)).mono ?_; rw [hdb]; rintro e w2 ⟨rfl, hb2⟩; have HB2 : Hid (Below (fxW w u (some ⟨b, off, none⟩) cap).heap.size (fxW w u (some ⟨b, off, none⟩) cap) w2) := (HA.out _ hb2).1; have x2 : w2.cell? ⟨wr.heap.size, 2, none⟩ = some (.int .i64 (u.fn k).params) := (HA.out _ hb2).2.cell 2 rfl; have x5 : w2.cell? ⟨wr.heap.size, 5, none⟩ = some (.slice (fas k).ua (u.fn k).un (fas k).uc) := (HA.out _ hb2).2.cell 5 rfl; have s0 := (fx_row HB2.out).cell (i := 0) (by omega); have s1 := (fx_row HB2.out).cell (i := 1) (by omega); have s2 := (fx_row HB2.out).cell (i := 2) (by omega); have sz := (fx_row HB2.out).frozen; clear hb2)
          go_roundw
          case rel => exact ⟨k + 1, by omega, by go_num, fun j hj => by
            by_cases e : j = k
            · subst e; exact HG.out
            · exact HH.out j (by omega), HB2⟩
          case measure => simp [intOf]; omega
        · have hdb : dB (HeadB (u.fn k)) = false := dB_false hh
          have HL : Hid (Least (Bad2 u) ⟨2, k, 0⟩) := bad2_yes hkn HH.out fun h => hh (head_iff.1 h).1
          clear hh
          go_wp2_with (go_at_call 72; refine (fnFits_calls L (u.fn k) (fas k) _ (HS.out.fn k hkn) ((HTr.out.2 k hkn).alloc _)).mono ?_; rw [hdb]; rintro e w2 ⟨rfl, hb2⟩; have HB2 : Hid (Below (fxW w u (some ⟨b, off, none⟩) cap).heap.size (fxW w u (some ⟨b, off, none⟩) cap) w2) := (HA.out _ hb2).1; have x2 : w2.cell? ⟨wr.heap.size, 2, none⟩ = some (.int .i64 (u.fn k).params) := (HA.out _ hb2).2.cell 2 rfl; have x5 : w2.cell? ⟨wr.heap.size, 5, none⟩ = some (.slice (fas k).ua (u.fn k).un (fas k).uc) := (HA.out _ hb2).2.cell 5 rfl; have s0 := (fx_row HB2.out).cell (i := 0) (by omega); have s1 := (fx_row HB2.out).cell (i := 1) (by omega); have s2 := (fx_row HB2.out).cell (i := 2) (by omega); have sz := (fx_row HB2.out).frozen; clear hb2)
          refine bodyPost_ret (v := ftV ⟨2, k, 0⟩) (by simp [results, Tryz.results35, go_sem, s0, s1, s2]) rfl ?_
          exact FtPost.of HL.out (fx_out (fx_below HB2.out) _ _ _)
    · obtain rfl : k = u.n := by omega
      have HL : Hid (Least (Bad2 u) ⟨0, 0, 0⟩) := bad2_no HH.out
      have s0 := (fx_row HB.out).cell (i := 0) (by omega)
      have s1 := (fx_row HB.out).cell (i := 1) (by omega)
      have s2 := (fx_row HB.out).cell (i := 2) (by omega)
      have sz := (fx_row HB.out).frozen
      go_wp2_with fail
      refine bodyPost_ret (v := ftV ⟨0, 0, 0⟩) (by simp [results, Tryz.results35, go_sem, s0, s1, s2]) rfl ?_
      exact FtPost.of HL.out (fx_out (fx_below HB.out) _ _ _)
end Go.Proofs.YtdialodjllpgaaaGreatDoor
