import Derived.Test.YtdialodjllpgaaaGreatDoorCnA
import Derived.OwnWalk
import Derived.Test.YtdialodjllpgaaaGreatDoorOwA
import Derived.Shelf.Strconv.Itoa3
import Derived.Lib.SmallJoins
/-! The program's run: what is held; where it stands. -/
namespace Go.Proofs.YtdialodjllpgaaaGreatDoor
open Go.RowKit
attribute [local go_sem] run_store_float
attribute [local go_sem ↓] Go.wp_at_zero Go.wp_at_succ

/-- a list of values in memory -/
def VsAt (w : World) (a : Option Addr) (l : List VD) : Prop := ∃ ad : Addr, a = some ad ∧ ∀ j u, (hL l)[j]? = some u → w.cell? (ad.add j) = some u
theorem hL_one (l : List VD) : ∀ y ∈ hL l, y.oneCell' = true := by
  intro y hy
  unfold hL at hy
  rw [List.mem_flatMap] at hy
  obtain ⟨x, _, hx⟩ := hy
  exact v5_one x y hx

theorem wpList_app {P : Program} {ops : Array Oper} {rest : List Oper} {o : Oper} {a : Act} {w : World} {Q : Exit → Act → World → Prop} (hgd : o.guard = none) (sl x : Operand) (t u : TypeId) (ho : o.op = .call { callee := .builtin .append, args := #[sl, x], argTypes := #[t, u] })
    (v xv v' : Value) (w' : World) (hs : a.eval sl = v) (hx : a.eval x = xv) (hr : (Builtin.append_ #[t, u] o.type #[v, xv]).run P w = .ok v' w') (h : wpList P ops Q rest (a.put o.dst v') w') : wpList P ops Q (o :: rest) a w := by
  refine wpList_plain hgd fun K hK => ?_
  unfold Oper.wp execOp
  simp only [ho, resolve, invoke, builtin, Sem.run_bind, Sem.run_pure, Result.andThen_ok, List.map_toArray, List.map_cons, List.map_nil, hs, hx, hr]
  exact hK _ _ h

set_option maxRecDepth 100000 in
set_option maxHeartbeats 4000000 in
theorem hold_calls (X : RX) (d : MD) (ad : Addr) (l : List VD) (c : Nat) (u : World) (h : St X d u) (hn : d.held.length + l.length ≤ 100000) (hl : ∀ j v, (hL l)[j]? = some v → u.cell? (ad.add j) = some v) :
    Calls Tryz.prog 192 #[.pointer (some ⟨X.T, 0, none⟩), .slice (some ad) l.length c] u fun e w' => e = .returned (.tuple #[]) ∧ To X d u (d.p.hold l) w' := by
  have HS : Hid (St X d u) := h
  have c8 := h.t.1.cell 8 rfl
  have z := h.t.2
  obtain ⟨i0, hi0, hy0, hy1, hy2⟩ := info_parts infoVal'
  obtain ⟨v', w7, happ, hown, hgrow, _, hat⟩ := run_append_own_at (P := Tryz.prog) u X.N 114 114 56 i0 _ 5 48 Tryz.underlying114 hi0 hy0 hy1 hy2 rfl (by decide) (.slice d.ha d.held.length d.hc) d.held.length (hL d.held) h.hr ad l.length c (hL l) (hL_len l) hl (hL_one l) (by unfold maxLen; omega) (by omega) h.n
  have hm := h.mids (by rw [own_bk] at hgrow; exact hgrow) (fun q e => (own_ge h.hr e).1)
  obtain ⟨a2, c2, rfl, hs2⟩ := Sp.hold h hown hgrow hat
  have HF : Hid (To X d u (d.p.hold l) (w7.setCell ⟨X.T, 8, none⟩ (.slice a2 (d.held.length + l.length) c2))) := .mk hs2 rfl
  have d8 := hm.2.1.1.cell 8 rfl
  have dz := hm.2.1.2
  clear hown hgrow hat hs2 hm h hl
  go_enter Tryz.func192, Tryz.ntmps192
  go_wp2_with (at_builtin; refine wpList_app (by rfl) _ _ _ _ (by rfl) (.slice d.ha d.held.length d.hc) (.slice (some ad) l.length c) _ _ (by rfl) (by rfl) happ ?_)
  go_end0
  exact ⟨rfl, HF.out⟩

theorem wrapN {q : Nat} (h : q ≤ 1000000000000) : IntKind.i64.wrap (q : Int) = (q : Int) := by
  simp [IntKind.wrap, IntKind.signed, IntKind.bits]
  omega
set_option maxRecDepth 100000 in
set_option maxHeartbeats 4000000 in
theorem release_calls (X : RX) (d : MD) (m : Nat) (u : World) (h : St X d u) (hm : m ≤ d.held.length) (hl : d.held.length ≤ 100000) :
    Calls Tryz.prog 193 #[.pointer (some ⟨X.T, 0, none⟩), .int .i64 (m : Int)] u fun e w' => e = .returned (.tuple #[]) ∧ To X d u (d.p.cutH (d.held.length - m)) w' := by
  have c8 : u.cell? ⟨X.T, 8, none⟩ = some (.slice d.ha d.held.length d.hc) := h.t.1.cell 8 rfl
  have z := h.t.2
  have HF : Hid (To X d u (d.p.cutH (d.held.length - m)) (u.setCell ⟨X.T, 8, none⟩ (.slice d.ha (d.held.length - m) d.hc)).drew) := .mk (Sp.cutH h (by omega)).drew rfl
  have h0 := h.hr.2
  clear h
  rcases h0 with ⟨e, _⟩ | ⟨g, cap, cur, e, _, _, h5, _⟩
  · obtain ⟨e1, e2, e3⟩ : d.ha = none ∧ d.held.length = 0 ∧ d.hc = 0 := by simpa using e
    obtain rfl : m = 0 := by omega
    rw [e1, e2, e3] at c8 HF
    rw [e2]
    clear e e1 e2 e3 hm hl
    go_enter Tryz.func193, Tryz.ntmps193
    go_wp2_with fail
    go_region_with fail
    all_goals go_end0
    all_goals exact ⟨rfl, HF.out⟩
  · obtain ⟨e1, e3⟩ : d.ha = some ⟨g, 0, none⟩ ∧ d.hc = cap := by simpa using e
    obtain ⟨q, hq⟩ : ∃ q, d.held.length - m = q := ⟨_, rfl⟩
    have hq2 : (d.held.length : Int) - (m : Int) = (q : Int) := by omega
    rw [e1, e3, hq] at HF
    rw [e1, e3] at c8
    rw [hq]
    clear e e1 e3
    generalize d.held.length = n at *
    obtain rfl : n = q + m := by omega
    clear hq hq2 hm
    by_cases hc : cap = 0
    · obtain ⟨rfl, rfl⟩ : q = 0 ∧ m = 0 := by omega
      subst hc
      go_enter Tryz.func193, Tryz.ntmps193
      go_wp2_with fail
      go_region_with fail
      all_goals go_end0
      all_goals exact ⟨rfl, HF.out⟩
    · have hw : IntKind.i64.wrap (q : Int) = (q : Int) := wrapN (by omega)
      go_enter Tryz.func193, Tryz.ntmps193
      go_wp2_with fail
      go_region_with fail
      all_goals go_end0
      all_goals exact ⟨rfl, HF.out⟩
end Go.Proofs.YtdialodjllpgaaaGreatDoor

/-! The program's run: expressions that are literals, variables; copies of lists. -/
namespace Go.Proofs.YtdialodjllpgaaaGreatDoor
open Go.RowKit
attribute [local go_sem] run_store_float
attribute [local go_sem ↓] Go.wp_at_zero Go.wp_at_succ

abbrev vA (x : VD) : Array Value := #[.int .i64 x.k, .int .i64 x.n, .float .f64 x.f, .string x.s, .int .i64 x.r]
/-- closures that the program makes of a node -/
abbrev litV (B : Nat) : Value := .func (.func 230) #[] #[.pointer (some ⟨B, 0, none⟩)]
abbrev varV (B : Nat) : Value := .func (.func 216) #[] #[.pointer (some ⟨B, 0, none⟩)]
abbrev oneV (B : Nat) : Value := .func (.func 198) #[] #[.pointer (some ⟨B, 0, none⟩)]

set_option maxRecDepth 100000 in
set_option maxHeartbeats 4000000 in
theorem lit_calls (f : Value) (B : Nat) (v : VD) (u : World) (h : Has u B (vA v)) :
    Calls Tryz.prog 230 #[f, .pointer (some ⟨B, 0, none⟩)] u fun e w' => e = .returned v.v ∧ Below u.heap.size u w' := by
  have hB := h.1
  have c0 := h.cell 0 rfl
  have c1 := h.cell 1 rfl
  have c2 := h.cell 2 rfl
  have c3 := h.cell 3 rfl
  have c4 := h.cell 4 rfl
  clear h
  go_enter Tryz.func230, Tryz.ntmps230
  go_wp2_with fail
  exact bodyPost_ret (v := v.v) (by simp [results, Tryz.results230, go_sem]) rfl ⟨rfl, below_alloc _ _⟩
set_option maxRecDepth 100000 in
set_option maxHeartbeats 4000000 in
theorem var_calls (X : RX) (d : MD) (B Q : Nat) (v : VD) (u : World) (h : St X d u) (hB : Has u B #[.int .i64 0]) (hv : d.vp = .pointer (some ⟨Q, 0, none⟩)) (hQ : Has u Q (vA v)) :
    Calls Tryz.prog 216 #[.pointer (some ⟨X.F, 0, none⟩), .pointer (some ⟨B, 0, none⟩)] u fun e w' => e = .returned v.v ∧ Below u.heap.size u w' := by
  have b0 := hB.cell 0 rfl
  have f8 := h.f.1.cell 8 rfl
  have v0 : u.cell? ⟨X.V, 0, none⟩ = some (.pointer (some ⟨Q, 0, none⟩)) := by rw [← hv]; exact h.v.1.cell 0 rfl
  have c0 := hQ.cell 0 rfl
  have c1 := hQ.cell 1 rfl
  have c2 := hQ.cell 2 rfl
  have c3 := hQ.cell 3 rfl
  have c4 := hQ.cell 4 rfl
  have h1 := hB.1
  have h2 := h.f.1.1
  have h3 := h.v.1.1
  have h4 := hQ.1
  clear h hB hv hQ
  go_enter Tryz.func216, Tryz.ntmps216
  go_wp2_with fail
  go_region_with fail
  all_goals go_wp2_with fail
  all_goals exact bodyPost_ret (v := v.v) (by simp [results, Tryz.results216, go_sem]) rfl ⟨rfl, (below_alloc _ _).drew⟩

theorem slice_nilV (a : Option Addr) (n c : Nat) (w : World) : (binOp .eql 114 (.slice a n c) (.slice none 0 0)).run Tryz.prog w = .ok (.bool a.isNone) w := by
  have h : ∀ d : Nat, (Op.equalIn (d + 1) 114 (.slice a n c) (.slice none 0 0)).run Tryz.prog w = .ok a.isNone w := fun d => by
    cases a <;> simp [Op.equalIn, run_underlying Tryz.underlying114]
  have e : (binOp .eql 114 (.slice a n c) (.slice none 0 0)).run Tryz.prog w = ((Op.equalIn 10000 114 (.slice a n c) (.slice none 0 0)).run Tryz.prog w).andThen fun b w' => .ok (.bool b) w' := by
    simp only [binOp]
    simp [Op.equal, Op.maxDepth]
  rw [e, h 9999]; rfl
theorem own_emptyV (w : World) (t : TypeId) : (w.alloc (.cells #[] t)).ownsRow w.heap.size t 5 (.slice (some ⟨w.heap.size, 0, none⟩) 0 0) 0 [] :=
  ⟨rfl, .inr ⟨w.heap.size, 0, #[], rfl, Nat.le_refl _, by rw [heap_alloc_new], Nat.le_refl _, Nat.zero_le _, rfl, rfl⟩⟩
/-- a list of values of one's own, at block g -/
abbrev OwV (N : Nat) (u : World) (g cap : Nat) (l : List VD) : Prop := u.ownsRow N 56 5 (.slice (some ⟨g, 0, none⟩) l.length cap) l.length (hL l)

set_option maxRecDepth 100000 in
set_option maxHeartbeats 4000000 in
theorem cloneV_calls (x : Addr) (l : List VD) (cap : Nat) (w : World) (hn : l.length ≤ 100000) (hl : ∀ j v, (hL l)[j]? = some v → w.cell? (x.add j) = some v) (hx : x.block < w.heap.size) :
    Calls Tryz.prog 250 #[.slice (some x) l.length cap] w fun e w' => (∃ g cap', e = .returned (.slice (some ⟨g, 0, none⟩) l.length cap') ∧ OwV w.heap.size w' g cap' l) ∧ Below w.heap.size w w' := by
  have hs := slice_nilV (some x) l.length cap
  have HL : Hid (∀ j v, (hL l)[j]? = some v → (w.alloc (.cells #[] 56)).cell? (x.add j) = some v) := fun j v e => (World.cell?_alloc_lt w _ (x.add j) (by cases j <;> simpa [Addr.add] using hx)).trans (hl j v e)
  clear hl
  go_enter Tryz.func250, Tryz.ntmps250
  obtain ⟨i0, hi, hz0, hz1, hz2⟩ := info_parts infoVal'
  go_wp2_with (at_builtin; refine wpList_append_own _ rfl _ _ 114 rfl w.heap.size 56 i0 _ 5 48 Tryz.underlying114 hi hz0 hz1 hz2 rfl (by decide) (.slice (some ⟨w.heap.size, 0, none⟩) 0 0) 0 [] rfl (own_emptyV w _) x l.length cap (hL l) rfl (hL_len l) HL.out (hL_one l) (by unfold maxLen; omega) (by omega) (by simp) ?_; intro v' w1 hown hgrow hnil)
  have hg : (w.alloc (.cells #[] 56)).grownBy w1 (some w.heap.size) := hgrow
  have ho : w1.ownsRow w.heap.size 56 5 v' l.length (hL l) := by simpa using hown
  have hne : v' ≠ .slice none 0 0 := fun e => by simpa using hnil.1 e
  clear hown hgrow hnil
  obtain ⟨g, cap', rfl⟩ : ∃ g cap', v' = .slice (some ⟨g, 0, none⟩) l.length cap' := by
    rcases ho.2 with ⟨e, _⟩ | ⟨g, cap', cur, e, _⟩
    · exact absurd e hne
    · exact ⟨g, cap', e⟩
  go_ret
  exact ⟨⟨g, cap', rfl, ho⟩, (below_alloc w _).grown hg (by simp) (fun k e => by cases e; exact Nat.le_refl _)⟩
end Go.Proofs.YtdialodjllpgaaaGreatDoor

/-! strconv.Itoa by the contract that the shelf holds of it. -/
namespace Go.Proofs.YtdialodjllpgaaaGreatDoor
open Go.RowKit Go.Shelf

def itoaL_ren : Go.Shelf.Ren := ⟨fun | 171 => 286 | 243 => 326 | 246 => 350 | 283 => 377 | 284 => 378 | 285 => 379 | 286 => 380 | 129 => 408 | 317 => 407 | 318 => 409 | 319 => 410 | 320 => 411 | 337 => 426 | 338 => 427 | n => n, fun | 3 => 3 | 9 => 9 | 2 => 2 | 4 => 4 | 171 => 440 | 0 => 0 | 53 => 73 | 37 => 22 | 5 => 5 | 173 => 443 | 212 => 460 | 51 => 76 | 20 => 20 | 213 => 461 | 46 => 137 | 232 => 475 | 233 => 476 | n => n, fun | 17 => 6 | 18 => 7 | 19 => 8 | n => n⟩
theorem itoaL : Go.Proofs.LaysM.n171 Tryz.prog itoaL_ren := {
  mixed := by kernel_rfl
  f129 := Tryz.func408.trans (congrArg some (by kernel_rfl))
  f171 := Tryz.func286.trans (congrArg some (by kernel_rfl))
  f243 := Tryz.func326.trans (congrArg some (by kernel_rfl))
  f246 := Tryz.func350.trans (congrArg some (by kernel_rfl))
  f283 := Tryz.func377.trans (congrArg some (by kernel_rfl))
  f284 := Tryz.func378.trans (congrArg some (by kernel_rfl))
  f285 := Tryz.func379.trans (congrArg some (by kernel_rfl))
  f286 := Tryz.func380.trans (congrArg some (by kernel_rfl))
  f317 := Tryz.func407.trans (congrArg some (by kernel_rfl))
  f318 := Tryz.func409.trans (congrArg some (by kernel_rfl))
  f319 := Tryz.func410.trans (congrArg some (by kernel_rfl))
  f320 := Tryz.func411.trans (congrArg some (by kernel_rfl))
  f337 := Tryz.func426.trans (congrArg some (by kernel_rfl))
  f338 := Tryz.func427.trans (congrArg some (by kernel_rfl))
  t0 := Tryz.underlying0
  a0 := Tryz.isAgg0
  z0 := Tryz.sizeOf0
  v0 := Tryz.zeroValue0
  t2 := Tryz.underlying2
  a2 := Tryz.isAgg2
  z2 := Tryz.sizeOf2
  v2 := Tryz.zeroValue2
  t3 := Tryz.underlying3
  a3 := Tryz.isAgg3
  z3 := Tryz.sizeOf3
  v3 := Tryz.zeroValue3
  t4 := Tryz.underlying4
  a4 := Tryz.isAgg4
  z4 := Tryz.sizeOf4
  v4 := Tryz.zeroValue4
  t5 := Tryz.underlying5
  a5 := Tryz.isAgg5
  z5 := Tryz.sizeOf5
  v5 := Tryz.zeroValue5
  t9 := Tryz.underlying9
  a9 := Tryz.isAgg9
  z9 := Tryz.sizeOf9
  v9 := Tryz.zeroValue9
  t20 := Tryz.underlying20
  a20 := Tryz.isAgg20
  z20 := Tryz.sizeOf20
  v20 := Tryz.zeroValue20
  t37 := Tryz.underlying22
  a37 := Tryz.isAgg22
  z37 := Tryz.sizeOf22
  v37 := Tryz.zeroValue22
  t46 := Tryz.underlying137
  a46 := Tryz.isAgg137
  z46 := Tryz.sizeOf137
  v46 := Tryz.zeroValue137
  t51 := Tryz.underlying76
  a51 := Tryz.isAgg76
  z51 := Tryz.sizeOf76
  v51 := Tryz.zeroValue76
  t53 := Tryz.underlying73
  a53 := Tryz.isAgg73
  z53 := Tryz.sizeOf73
  v53 := Tryz.zeroValue73
  t171 := Tryz.underlying440
  a171 := Tryz.isAgg440
  z171 := Tryz.sizeOf440
  v171 := Tryz.zeroValue440
  t173 := Tryz.underlying443
  a173 := Tryz.isAgg443
  z173 := Tryz.sizeOf443
  v173 := Tryz.zeroValue443
  t212 := Tryz.underlying460
  a212 := Tryz.isAgg460
  z212 := Tryz.sizeOf460
  v212 := Tryz.zeroValue460
  t213 := Tryz.underlying461
  a213 := Tryz.isAgg461
  z213 := Tryz.sizeOf461
  t232 := Tryz.underlying475
  a232 := Tryz.isAgg475
  z232 := Tryz.sizeOf475
  v232 := Tryz.zeroValue475
  t233 := Tryz.underlying476
  a233 := Tryz.isAgg476
  z233 := Tryz.sizeOf476
  v233 := Tryz.zeroValue476
  g17 := by kernel_rfl
  g18 := by kernel_rfl
  g19 := by kernel_rfl
  i0 := by kernel_rfl
  i2 := by kernel_rfl
  i3 := by kernel_rfl
  i4 := by kernel_rfl
  i5 := by kernel_rfl
  i9 := by kernel_rfl
  i20 := by kernel_rfl
  i37 := by kernel_rfl
  i46 := by kernel_rfl
  i51 := by kernel_rfl
  i53 := by kernel_rfl
  i171 := by kernel_rfl
  i173 := by kernel_rfl
  i212 := by kernel_rfl
  i232 := by kernel_rfl
  i233 := by kernel_rfl
  m17 := by kernel_rfl
  m18 := by kernel_rfl
  m19 := by kernel_rfl }

/-- the table of the library's that Itoa reads -/
abbrev TabP (w : World) : Prop := Lib.TabIs Tryz.prog w "internal/strconv.uint64pow10" .u64 Lib.pow10Tab
theorem gPow : Tryz.prog.globalNamed "internal/strconv.uint64pow10" = some 6 := by kernel_rfl
theorem TabP.keep {w w' : World} {B : Nat} (h : TabP w) (hb : Below B w w') (hB : w.heap.size ≤ B) : TabP w' := Joins.tab_stays gPow h hb hB
theorem itoa_calls (n : Int) (w : World) (hn : I64r n) (hT : TabP w) :
    Calls Tryz.prog 286 #[.int .i64 n] w fun e w' => e = .returned (.string (bA (decB n))) ∧ Below w.heap.size w w' := by
  refine Calls.mono (Any.strconv_Itoa itoaL n hn.1 hn.2 w hT) fun e w' ⟨he, k, os, hw⟩ => ⟨by rw [he, decB_itoa n hn]; rfl, ?_⟩
  rw [hw]
  refine ⟨rfl, rfl, rfl, by simp [Sort.grow], fun i hi => ?_⟩
  simp [Sort.grow, World.drewN, Array.getElem?_append_left hi]

end Go.Proofs.YtdialodjllpgaaaGreatDoor

/-! Scopes as the program keeps them: a stack of variables. Plain. -/
namespace Go.Proofs.YtdialodjllpgaaaGreatDoor

/-- a node's refs that are variables -/
def vref (a : ND) (vn : Nat) : List Int := ((List.range a.rn).map a.r).filter (fun v => decide (0 ≤ v) && decide (v < vn))
theorem mem_vref {a : ND} {vn : Nat} {v : Int} : v ∈ vref a vn ↔ RefIn a v ∧ InR v vn := by
  unfold vref RefIn InR
  simp only [List.mem_filter, List.mem_map, List.mem_range, Bool.and_eq_true, decide_eq_true_eq]
/-- what the NLets among the first kids bring -/
def letsOf (nd : Nat → ND) (vn p : Nat) : Nat → List Int
  | 0 => []
  | j + 1 => letsOf nd vn p j ++ (if (nd ((nd p).c j).toNat).k = 2 then vref (nd ((nd p).c j).toNat) vn else [])
theorem mem_lets {nd : Nat → ND} {vn p : Nat} {v : Int} : ∀ j, v ∈ letsOf nd vn p j ↔ (∃ i, i < j ∧ (nd ((nd p).c i).toNat).k = 2 ∧ RefIn (nd ((nd p).c i).toNat) v) ∧ InR v vn
  | 0 => by unfold letsOf; simp
  | j + 1 => by
    unfold letsOf
    rw [List.mem_append, mem_lets j]
    constructor
    · rintro (⟨⟨i, h1, h2⟩, h3⟩ | h)
      · exact ⟨⟨i, by omega, h2⟩, h3⟩
      · by_cases e : (nd ((nd p).c j).toNat).k = 2
        · rw [if_pos e, mem_vref] at h
          exact ⟨⟨j, by omega, e, h.1⟩, h.2⟩
        · rw [if_neg e] at h
          cases h
    · rintro ⟨⟨i, h1, h2, h3⟩, h4⟩
      by_cases e : i = j
      · subst e
        rw [if_pos h2, mem_vref]
        exact .inr ⟨h3, h4⟩
      · exact .inl ⟨⟨i, by omega, h2, h3⟩, h4⟩
/-- the stack holds what is in scope at x -/
def StackOk (d : FD) (x : Nat) (st : List Int) : Prop := ∀ v, InR v d.vn → (v ∈ st ↔ Scoped d x v)

theorem StackOk.block {d : FD} (h : TreeOk d.nd d.nn) {p j y : Nat} (hk : KidAt d.nd d.nn p j y) (e : (d.nd p).k = 1) {st : List Int} (hs : StackOk d p st) : StackOk d y (st ++ letsOf d.nd d.vn p j) := fun v hv => by
  have := hs v hv
  unfold Scoped at this ⊢
  rw [Vis.iff h hk, List.mem_append, mem_lets, this]
  unfold AddP
  constructor
  · rintro ((h1 | h1) | ⟨h1, _⟩)
    · exact .inl h1
    · exact .inr (.inr h1)
    · exact .inr (.inl (.inl ⟨e, h1⟩))
  · rintro (h1 | (h1 | h1) | h1)
    · exact .inl (.inl h1)
    · exact .inr ⟨h1.2, hv⟩
    · omega
    · exact .inl (.inr h1)
theorem StackOk.plain {d : FD} (h : TreeOk d.nd d.nn) {p j y : Nat} (hk : KidAt d.nd d.nn p j y) (e : (d.nd p).k ≠ 1) (e' : ((d.nd p).k = 7 ∨ (d.nd p).k = 8 ∨ (d.nd p).k = 12) → j + 1 ≠ (d.nd p).kn) {st : List Int} (hs : StackOk d p st) : StackOk d y st := fun v hv => by
  have := hs v hv
  unfold Scoped at this ⊢
  rw [Vis.iff h hk, this]
  unfold AddP
  constructor
  · rintro (h1 | h1)
    · exact .inl h1
    · exact .inr (.inr h1)
  · rintro (h1 | (h1 | h1) | h1)
    · exact .inl h1
    · exact absurd h1.1 e
    · exact absurd h1.2.1 (e' h1.1)
    · exact .inr h1
theorem StackOk.last {d : FD} (h : TreeOk d.nd d.nn) {p j y : Nat} (hk : KidAt d.nd d.nn p j y) (e : (d.nd p).k = 7 ∨ (d.nd p).k = 8 ∨ (d.nd p).k = 12) (e' : j + 1 = (d.nd p).kn) {st : List Int} (hs : StackOk d p st) : StackOk d y (st ++ vref (d.nd p) d.vn) := fun v hv => by
  have := hs v hv
  unfold Scoped at this ⊢
  rw [Vis.iff h hk, List.mem_append, mem_vref, this]
  unfold AddP
  constructor
  · rintro ((h1 | h1) | ⟨h1, _⟩)
    · exact .inl h1
    · exact .inr (.inr h1)
    · exact .inr (.inl (.inr ⟨e, e', h1⟩))
  · rintro (h1 | (h1 | h1) | h1)
    · exact .inl (.inl h1)
    · omega
    · exact .inr ⟨h1.2.2, hv⟩
    · exact .inl (.inr h1)
/-- the first variables -/
def firstV (n : Nat) : List Int := (List.range n).map fun (i : Nat) => (i : Int)
theorem StackOk.root {d : FD} (h : TreeOk d.nd d.nn) {n : Nat} (hp : d.params = n) : StackOk d (d.nn - 1) (firstV n) := fun v hv => by
  unfold Scoped firstV
  simp only [List.mem_map, List.mem_range]
  constructor
  · rintro ⟨i, h1, rfl⟩
    exact .inl (by omega)
  · rintro (h1 | h1)
    · exact ⟨v.toNat, by have := hv.1; omega, by have := hv.1; omega⟩
    · exact absurd h1 (Vis.root h)

/-- what is noted at node x of fn f while the tree is gone through -/
def NoteA (u : UD) (f x : Nat) (y : FT) : Prop := y.f = f ∧ y.n = x ∧
  ((y.c = 6 ∧ ((((u.fn f).nd x).k = 26 ∧ ¬ (InR (((u.fn f).nd x).r 0) (u.fn f).vn ∧ Scoped (u.fn f) x (((u.fn f).nd x).r 0)))
      ∨ (((u.fn f).nd x).k = 27 ∧ ¬ InR (((u.fn f).nd x).r 0) (u.fn f).un)
      ∨ (((u.fn f).nd x).k = 36 ∧ ¬ InR (((u.fn f).nd x).r 0) u.n)))
    ∨ (y.c = 7 ∧ JumpBad (u.fn f) x) ∨ (y.c = 8 ∧ MakeBad u f x))
/-- what is noted for declarations -/
def NoteD (u : UD) (f x : Nat) (y : FT) : Prop := y.c = 6 ∧ y.f = f ∧ y.n = x ∧ DeclK ((u.fn f).nd x).k ∧ ∃ j, j < ((u.fn f).nd x).rn ∧ ¬ (InR (((u.fn f).nd x).r j) (u.fn f).vn ∧ ¬ SeenV (u.fn f) x j (((u.fn f).nd x).r j))
/-- what is noted in fn f -/
def NoteF (u : UD) (f : Nat) (y : FT) : Prop := ∃ x, x < (u.fn f).nn ∧ (NoteA u f x y ∨ NoteD u f x y)
/-- what is noted for makers -/
def NoteM (u : UD) (y : FT) : Prop := (y.c = 8 ∧ y.f < u.n ∧ y.n < (u.fn y.f).nn ∧ TwiceBad u y.f y.n) ∨ Bad9 u y

theorem notes_bad (u : UD) (y : FT) : ((∃ f, f < u.n ∧ NoteF u f y) ∨ NoteM u y) ↔ BadS u y := by
  constructor
  · rintro (⟨f, hf, x, hx, h | h⟩ | h | h)
    · obtain ⟨rfl, rfl, h⟩ := h
      rcases h with ⟨h0, h⟩ | ⟨h0, h⟩ | ⟨h0, h⟩
      · refine .inl ⟨h0, hf, hx, fun hr => ?_⟩
        rcases h with ⟨h1, h2⟩ | ⟨h1, h2⟩ | ⟨h1, h2⟩
        · exact h2 (hr.2.2.1 h1)
        · exact h2 (hr.1 h1)
        · exact h2 (hr.2.1 h1)
      · exact .inr (.inl ⟨h0, hf, hx, h⟩)
      · exact .inr (.inr (.inl ⟨h0, hf, hx, .inl h⟩))
    · obtain ⟨h0, rfl, rfl, h1, j, hj, h2⟩ := h
      exact .inl ⟨h0, hf, hx, fun hr => h2 (hr.2.2.2 h1 j hj)⟩
    · exact .inr (.inr (.inl ⟨h.1, h.2.1, h.2.2.1, .inr h.2.2.2⟩))
    · exact .inr (.inr (.inr h))
  · rintro (⟨h0, hf, hx, h⟩ | ⟨h0, hf, hx, h⟩ | ⟨h0, hf, hx, h | h⟩ | h)
    · refine Classical.byContradiction fun hn => h ?_
      have hA : ¬ NoteA u y.f y.n y := fun h => hn (.inl ⟨_, hf, _, hx, .inl h⟩)
      have hD : ¬ NoteD u y.f y.n y := fun h => hn (.inl ⟨_, hf, _, hx, .inr h⟩)
      refine ⟨fun h1 => Classical.byContradiction fun h2 => hA ⟨rfl, rfl, .inl ⟨h0, .inr (.inl ⟨h1, h2⟩)⟩⟩, fun h1 => Classical.byContradiction fun h2 => hA ⟨rfl, rfl, .inl ⟨h0, .inr (.inr ⟨h1, h2⟩)⟩⟩, fun h1 => Classical.byContradiction fun h2 => hA ⟨rfl, rfl, .inl ⟨h0, .inl ⟨h1, h2⟩⟩⟩, fun h1 j hj => Classical.byContradiction fun h2 => hD ⟨h0, rfl, rfl, h1, j, hj, h2⟩⟩
    · exact .inl ⟨_, hf, _, hx, .inl ⟨rfl, rfl, .inr (.inl ⟨h0, h⟩)⟩⟩
    · exact .inl ⟨_, hf, _, hx, .inl ⟨rfl, rfl, .inr (.inr ⟨h0, h⟩)⟩⟩
    · exact .inr (.inl ⟨h0, hf, hx, h⟩)
    · exact .inr (.inr h)

/-- what is noted at x and below it -/
def NoteT (u : UD) (f x : Nat) (y : FT) : Prop := ∃ z, Sub (u.fn f).nd x z ∧ NoteA u f z y
/-- what is noted below the first kids of x -/
def NoteK (u : UD) (f x j : Nat) (y : FT) : Prop := ∃ i c : Nat, i < j ∧ ((u.fn f).nd x).c i = (c : Int) ∧ NoteT u f c y
theorem noteT_iff (u : UD) (f x : Nat) (y : FT) : NoteT u f x y ↔ NoteK u f x ((u.fn f).nd x).kn y ∨ NoteA u f x y := by
  constructor
  · rintro ⟨z, h, h2⟩
    cases h with
    | self => exact .inr h2
    | kid _ j c _ hj hc h3 => exact .inl ⟨j, c, hj, hc, z, h3, h2⟩
  · rintro (⟨i, c, h1, h2, z, h3, h4⟩ | h)
    · exact ⟨z, .kid x i c z h1 h2 h3, h4⟩
    · exact ⟨x, .self x, h⟩
theorem noteK_zero (u : UD) (f x : Nat) (y : FT) : ¬ NoteK u f x 0 y := by rintro ⟨i, c, h1, _⟩; omega
theorem noteK_succ (u : UD) (f x j c : Nat) (hc : ((u.fn f).nd x).c j = (c : Int)) (y : FT) : NoteK u f x (j + 1) y ↔ NoteK u f x j y ∨ NoteT u f c y := by
  constructor
  · rintro ⟨i, c', h1, h2, h3⟩
    by_cases e : i = j
    · subst e
      have : c' = c := by omega
      subst this
      exact .inr h3
    · exact .inl ⟨i, c', by omega, h2, h3⟩
  · rintro (⟨i, c', h1, h2, h3⟩ | h)
    · exact ⟨i, c', by omega, h2, h3⟩
    · exact ⟨j, c, by omega, hc, h⟩
theorem noteT_root (u : UD) (f : Nat) (h : TreeOk (u.fn f).nd (u.fn f).nn) (y : FT) : NoteT u f ((u.fn f).nn - 1) y ↔ ∃ x, x < (u.fn f).nn ∧ NoteA u f x y := by
  have hpos := h.pos
  constructor
  · rintro ⟨z, h1, h2⟩
    refine ⟨z, ?_, h2⟩
    have : ∀ p x, Sub (u.fn f).nd p x → p < (u.fn f).nn → x < (u.fn f).nn := by
      intro p x hs
      induction hs with
      | self _ => exact id
      | kid p j c x hj hc _ ih => exact fun hp => ih (by have := h.kids p hp j hj; omega)
    exact this _ _ h1 (by omega)
  · rintro ⟨x, h1, h2⟩
    exact ⟨x, h.all ((u.fn f).nn - 1 - x) x (by omega), h2⟩
end Go.Proofs.YtdialodjllpgaaaGreatDoor
