import Derived.Test.YtdialodjllpgaaaGreatDoorLbB
import Derived.Test.YtdialodjllpgaaaGreatDoorShF
import Derived.Test.YtdialodjllpgaaaGreatDoorImP
/-! The specification makes units: it begins one. -/
namespace Go.Proofs.YtdialodjllpgaaaGreatDoor
open Go.RowKit
attribute [local go_sem] run_store_float
attribute [local go_sem ↓] Go.wp_at_zero Go.wp_at_succ

abbrev fnZ : Array Value := #[.string ⟨#[109, 97, 105, 110]⟩, .int .i64 0, .int .i64 0, .bool true, .slice none 0 0, .slice none 0 0, .slice none 0 0]
abbrev ctZ : Array Value := #[.int .i64 0, .slice none 0 0, .int .i64 0, .int .i64 0, .int .i64 0]
theorem infoFnL : (Tryz.prog.info? 90).map (fun i => (i.zero, i.size, i.bytes)) = some (some (.agg #[.string ⟨#[]⟩, .int .i64 0, .int .i64 0, .bool false, .slice none 0 0, .slice none 0 0, .slice none 0 0]), 7, 112) := by kernel_rfl
theorem infoCtx : (Tryz.prog.info? 92).map (fun i => (i.zero, i.size, i.bytes)) = some (some (.agg #[.int .i64 0, .slice none 0 0, .int .i64 0, .int .i64 0, .int .i64 0]), 5, 56) := by kernel_rfl
def lS0 : LBS := ⟨100000, 0, 0, none, 0, [], [], none, 0⟩
theorem append_nil {w0 : World} (A : Array Value) {t e : TypeId} {z : Value} {K b : Nat} (ht : Tryz.prog.underlying t = some (.slice e)) (hi : (Tryz.prog.info? e).map (fun i => (i.zero, i.size, i.bytes)) = some (some z, K, b)) (hz : z.cells.size = K) (hK : 0 < K) (hb : b ≤ 1000) (hA : A.size = K) (h1 : ∀ y ∈ A.toList, y.oneCell' = true) (hn : ∀ (j : Nat) (v : Value), A.toList[j]? = some v → (w0.alloc (.cells A e)).cell? ((⟨w0.heap.size, 0, none⟩ : Addr).add j) = some v) :
    ∃ g cap cur w', (Builtin.append_ #[t, t] t #[.slice none 0 0, .slice (some ⟨w0.heap.size, 0, none⟩) 1 1]).run Tryz.prog (w0.alloc (.cells A e)) = .ok (.slice (some ⟨g, 0, none⟩) 1 cap) w' ∧ OwnB w' g cur ∧ (∀ (j : Nat) (v : Value), A[j]? = some v → cur[j]? = some v) ∧ w0.heap.size < g ∧ Below w0.heap.size w0 w' ∧ 1 ≤ cap := by
  obtain ⟨i0, hi0, hy0, hy1, hy2⟩ := info_parts hi
  obtain ⟨v', w7, happ, hown, hgrow, _, hat⟩ := run_append_own_at (P := Tryz.prog) (w0.alloc (.cells A e)) 0 t t e i0 z K b ht hi0 hy0 hy1 hy2 hz hK (.slice none 0 0) 0 [] (World.ownsRow_nil _ _ _ _) ⟨w0.heap.size, 0, none⟩ 1 1 A.toList (by simp [hA]) hn h1 (by unfold maxLen; omega) (by omega) (Nat.zero_le _)
  rcases hown.2 with ⟨_, d⟩ | ⟨g, cap, cur, e1, hb, hg, h2, h3, h4, h5⟩
  · omega
  · subst e1
    refine ⟨g, cap, cur, w7, happ, ⟨⟨(Array.getElem?_eq_some_iff.1 hg).1, fun o => by simp [World.cell?, hg]⟩, fun o => by simp [World.frozen?, hg]⟩, fun j v hj => ?_, ?_, (below_alloc w0 _).grown hgrow (by simp) (fun k e => by cases e), by omega⟩
    · simp at h5
      have hjl : j < K := by rw [← hA]; exact (Array.getElem?_eq_some_iff.1 hj).1
      rw [← Array.getElem?_toList, ← List.getElem?_take_of_lt (j := K) hjl, h5, Array.getElem?_toList]
      exact hj
    · rcases hat with e | e
      · cases e
      · have := Option.some.inj e; simp at this; omega
set_option maxRecDepth 100000 in
set_option maxHeartbeats 8000000 in
theorem l4made_calls (w : World) :
    Calls Tryz.prog 12 #[] w fun e w' => ∃ I : LBI, e = .returned (ptr I.B) ∧ LB I lS0 w' ∧ Below w.heap.size w w' ∧ (∀ k, (k = I.B ∨ k = I.C ∨ k = I.F ∨ k = I.K) → w.heap.size ≤ k) ∧ I.N = w'.heap.size ∧ 1 ≤ I.kc := by
  go_enter Tryz.func12, Tryz.ntmps12
  go_upto_region 2 with fail
  obtain ⟨w1, hw1⟩ : ∃ w1, (w.alloc (.cells #[.slice none 0 0, .int .i64 0, .int .u64 0] 83)).alloc (.cells #[ptr w.heap.size, .slice none 0 0, .slice none 0 0, .int .i64 100000] 86) = w1 := ⟨_, rfl⟩
  have H1 : Hid (Below w.heap.size w w1 ∧ OwnB w1 w.heap.size #[.slice none 0 0, .int .i64 0, .int .u64 0] ∧ OwnB w1 (w.heap.size + 1) #[ptr w.heap.size, .slice none 0 0, .slice none 0 0, .int .i64 100000]) := by
    rw [← hw1]
    exact ⟨below_alloc2 _ _ _, (OwnB.new _ _ _).alloc _, own_new1 _ _ _ _⟩
  rw [hw1]
  clear hw1
  obtain ⟨C, hC⟩ : ∃ C, w.heap.size = C := ⟨_, rfl⟩
  obtain ⟨B, hB⟩ : ∃ B, w.heap.size + 1 = B := ⟨_, rfl⟩
  have HC : Hid (w.heap.size = C ∧ w.heap.size + 1 = B) := ⟨hC, hB⟩
  have HB1 : Hid (Below w.heap.size w w1) := H1.out.1
  rw [hB, hC] at H1
  rw [hB]
  clear hB hC
  obtain ⟨ta, hta⟩ : ∃ ta : Option Addr, Hid (ta = none) := ⟨_, rfl⟩
  obtain ⟨tn, htn⟩ : ∃ tn : Nat, Hid (tn = 0) := ⟨_, rfl⟩
  obtain ⟨tc, htc⟩ : ∃ tc : Nat, Hid (tc = 0) := ⟨_, rfl⟩
  have htv : Hid (Value.slice none 0 0 = .slice ta tn tc) := by rw [hta.out, htn.out, htc.out]; exact rfl
  obtain ⟨F, fc, curF, w2, happ, hF, hFc, hFg, hb2, _⟩ := append_nil (w0 := w1) fnZ Tryz.underlying29 infoFnL rfl (by decide) (by decide) rfl (by simp [Value.oneCell']) (new_news w1 fnZ _)
  have b1 : w1.cell? ⟨B, 1, none⟩ = some (.slice none 0 0) := H1.out.2.2.1.cell 1 rfl
  have b1' : w2.cell? ⟨B, 1, none⟩ = some (.slice none 0 0) := (H1.out.2.2.call hb2).1.cell 1 rfl
  have bz' := (H1.out.2.2.call hb2).2
  have hBl := H1.out.2.2.1.1
  have hBl2 := (H1.out.2.2.call hb2).1.1
  have H2 : Hid (OwnB w2 F curF ∧ (∀ (j : Nat) (v : Value), fnZ[j]? = some v → curF[j]? = some v) ∧ w1.heap.size < F ∧ Below w1.heap.size w1 w2) := ⟨hF, hFc, hFg, hb2⟩
  rw [htv.out] at happ b1 b1'
  clear hF hFc hFg hb2
  go_upto_region 3 with (at_builtin; refine wpList_app (by rfl) _ _ _ _ (by rfl) (.slice ta tn tc) (.slice (some ⟨w1.heap.size, 0, none⟩) 1 1) _ _ (by rfl) (by rfl) happ ?_)
  obtain ⟨w3, hw3⟩ : ∃ w3, w2.setCell ⟨B, 1, none⟩ (.slice (some ⟨F, 0, none⟩) 1 fc) = w3 := ⟨_, rfl⟩
  have H3 : Hid (OwnB w3 F curF ∧ OwnB w3 B #[ptr C, .slice (some ⟨F, 0, none⟩) 1 fc, .slice none 0 0, .int .i64 100000] ∧ OwnB w3 C #[.slice none 0 0, .int .i64 0, .int .u64 0] ∧ Below w.heap.size w w3 ∧ B < F) := by
    have h1 := H1.out.2.2.1.1
    have h2 := H2.out.2.2.1
    have hc := HC.out
    rw [← hw3]
    exact ⟨own_other H2.out.1 (by omega), (H1.out.2.2.call H2.out.2.2.2).set (o := 1) (by show 1 < 4; omega) _, own_other (H1.out.2.1.call H2.out.2.2.2) (by omega), bl_set (below_call HB1.out H2.out.2.2.2) _ (by omega), by omega⟩
  rw [hw3]
  clear hw3 happ b1 b1' bz' hBl hBl2
  obtain ⟨K, kc, curK, w4, happ, hK, hKc, hKg, hb4, hkc⟩ := append_nil (w0 := w3) ctZ Tryz.underlying84 infoCtx rfl (by decide) (by decide) rfl (by simp [Value.oneCell']) (new_news w3 ctZ _)
  have b2 : w3.cell? ⟨B, 2, none⟩ = some (.slice none 0 0) := H3.out.2.1.1.cell 2 rfl
  have b2' : w4.cell? ⟨B, 2, none⟩ = some (.slice none 0 0) := (H3.out.2.1.call hb4).1.cell 2 rfl
  have bz' := (H3.out.2.1.call hb4).2
  have hBl := H3.out.2.1.1.1
  have hBl2 := (H3.out.2.1.call hb4).1.1
  have H4 : Hid (OwnB w4 K curK ∧ (∀ (j : Nat) (v : Value), ctZ[j]? = some v → curK[j]? = some v) ∧ w3.heap.size < K ∧ Below w3.heap.size w3 w4) := ⟨hK, hKc, hKg, hb4⟩
  rw [htv.out] at happ b2 b2'
  clear hK hKc hKg hb4
  go_wp2_with (at_builtin; refine wpList_app (by rfl) _ _ _ _ (by rfl) (.slice ta tn tc) (.slice (some ⟨w3.heap.size, 0, none⟩) 1 1) _ _ (by rfl) (by rfl) happ ?_)
  go_ret
  obtain ⟨q1, q2, q3, q4, q5⟩ := H3.out
  obtain ⟨p1, p2, p3, p4⟩ := H4.out
  have hc := HC.out
  have r1 := q1.1.1
  have r2 := q2.1.1
  have r3 := q3.1.1
  have r4 := p4.size
  have r5 := p1.1.1
  have r6 := q4.size
  refine ⟨⟨w4.heap.size, B, C, F, K, fc, kc⟩, rfl, ⟨⟨by show B < w4.heap.size; omega, by show C < w4.heap.size; omega, by show F < w4.heap.size; omega, r5, by show B ≠ C; omega, by show B ≠ F; omega, by show B ≠ K; omega, by show C ≠ F; omega, by show C ≠ K; omega, by show F ≠ K; omega⟩, (q2.call p4).set (o := 2) (by show 2 < 4; omega) _, ?_, ?_, ?_, World.ownsRow_nil _ _ _ _, World.ownsRow_nil _ _ _ _, fun p hp => absurd hp (by simp [lS0]), by simp⟩, bl_set (below_call q4 p4) _ (by omega), fun k e => by
    rcases e with e | e | e | e
    · replace e : k = B := e; omega
    · replace e : k = C := e; omega
    · replace e : k = F := e; omega
    · replace e : k = K := e; omega, by simp, hkc⟩
  · have hC : OwnB (w4.setCell ⟨B, 2, none⟩ (.slice (some ⟨K, 0, none⟩) 1 kc)) C #[.slice none 0 0, .int .i64 0, .int .u64 0] := own_other (q3.call p4) (by omega)
    exact ⟨0, 0, Nat.le_refl _, hC.1.1, ⟨hC.1.cell 0 rfl, hC.1.cell 1 rfl, hC.1.cell 2 rfl⟩, hC.2, fun i hi => absurd hi (Nat.not_lt_zero _)⟩
  · have hF := H2.out.2.1
    exact ⟨curF, own_other (q1.call p4) (by show F ≠ B; omega), hF 0 _ rfl, hF 1 _ rfl, hF 2 _ rfl, hF 3 _ rfl, hF 4 _ rfl, hF 5 _ rfl, hF 6 _ rfl⟩
  · exact ⟨curK, own_other p1 (by show K ≠ B; omega), p2 0 _ rfl, p2 4 _ rfl⟩
end Go.Proofs.YtdialodjllpgaaaGreatDoor

/-! The specification makes units: it ends one. -/
namespace Go.Proofs.YtdialodjllpgaaaGreatDoor
open Go.RowKit
attribute [local go_sem] run_store_float
attribute [local go_sem ↓] Go.wp_at_zero Go.wp_at_succ

abbrev nd0 : ND × NA := (ndR 0 0 0 il0 il0, naR il0 il0)
theorem nLs_get : ∀ (l : List (ND × NA)) (i j : Nat), i < l.length → j < 8 → (nLs l)[i * 8 + j]? = (nodeC (l.getD i nd0).1 (l.getD i nd0).2)[j]?
  | [], i, j, h, _ => absurd h (by simp)
  | x :: l, 0, j, _, hj => by
    show (n8 x ++ nLs l)[0 * 8 + j]? = _
    rw [List.getElem?_append_left (by simp [n8]; omega)]
    rcases (show j = 0 ∨ j = 1 ∨ j = 2 ∨ j = 3 ∨ j = 4 ∨ j = 5 ∨ j = 6 ∨ j = 7 by omega) with rfl | rfl | rfl | rfl | rfl | rfl | rfl | rfl <;> rfl
  | x :: l, i + 1, j, h, hj => by
    have ih := nLs_get l i j (by simpa using h) hj
    show (n8 x ++ nLs l)[(i + 1) * 8 + j]? = _
    rw [List.getElem?_append_right (by simp [n8]; omega), show (i + 1) * 8 + j - (n8 x).length = i * 8 + j by simp [n8]; omega, ih]
    rfl
/-- the unit's fn as it is left -/
structure LZ (I : LBI) (S : LBS) (g : Nat) (l : List (ND × NA)) (u : World) : Prop where
  f : FnB u I.F (.slice S.va S.vl.length S.vc) (.slice (some ⟨g, 0, none⟩) l.length S.nc)
  r : RowN 8 0 u (some ⟨g, 0, none⟩) l.length (fun i => nodeC (l.getD i nd0).1 (l.getD i nd0).2)
  v : u.ownsRow I.N 9 1 (.slice S.va S.vl.length S.vc) S.vl.length S.vl
  x : ∀ p, p ∈ l → IntsAt 0 u p.2.ra p.1.rn p.1.r ∧ IntsAt 0 u p.2.ka p.1.kn p.1.c ∧ p.1.kn ≤ p.2.kc
  cap : l.length ≤ S.nc
theorem LB.lz {I : LBI} {S : LBS} {u : World} (h : LB I S u) {l0 : List (ND × NA)} {d : ND} {x : NA} (hl : S.l = l0 ++ [(d, x)]) : ∃ g, S.na = some ⟨g, 0, none⟩ ∧ I.N ≤ g ∧ g < u.heap.size ∧ u.cell? ⟨g, l0.length * 8 + 1, none⟩ = some (.int .i64 d.l) ∧ (∀ o, u.frozen? ⟨g, o, none⟩ = false) ∧ ∀ (v : Value), LZ I S g (l0 ++ [({ d with l := 1 }, x)]) ((u.setCell ⟨g, l0.length * 8 + 1, none⟩ (.int .i64 1)).setCell ⟨I.B, 2, none⟩ v) := by
  have hn : 0 < S.l.length := by rw [hl]; simp
  rcases h.r.2 with ⟨_, e⟩ | ⟨g, c, cur, e, h1, h2, h3, h4, h5, h6⟩
  · omega
  · have e1 : S.na = some ⟨g, 0, none⟩ := by injection e
    have e2 : S.nc = c := by injection e
    have hgl := (Array.getElem?_eq_some_iff.1 h2).1
    have hcell : ∀ i j, i < S.l.length → j < 8 → u.cell? ⟨g, i * 8 + j, none⟩ = (nodeC (S.l.getD i nd0).1 (S.l.getD i nd0).2)[j]? := fun i j hi hj => by
      have hx := nLs_get S.l i j hi hj
      have hs : j < (nodeC (S.l.getD i nd0).1 (S.l.getD i nd0).2).size := hj
      rw [Array.getElem?_eq_getElem hs] at hx ⊢
      have := h.r.cells (g := g) (by rw [e1]; rfl) (i * 8 + j) _ hx
      generalize i * 8 + j = k at *
      cases k <;> simpa [Addr.add] using this
    have hi := h.i
    have hF := hi.f
    have hB := hi.b
    have hg0 : Gx (fun k => k = g ∨ k = I.B) u u := Gx.refl _ _
    refine ⟨g, e1, h1, hgl, ?_, fun o => by simp [World.frozen?, h2], fun v => ?_⟩
    · have := hcell l0.length 1 (by rw [hl]; simp) (by omega)
      rw [hl] at this
      simpa using this
    · have g1 : Gx (fun k => k = g ∨ k = I.B) u ((u.setCell ⟨g, l0.length * 8 + 1, none⟩ (.int .i64 1)).setCell ⟨I.B, 2, none⟩ v) := ((Gx.set u g (l0.length * 8 + 1) (.int .i64 1)).mono (fun k e => .inl e)).trans (Gx.set _ I.B 2 v) (fun _ _ e => .inr e)
      have hll : (l0 ++ [({ d with l := 1 }, x)]).length = S.l.length := by rw [hl]; simp
      refine ⟨?_, fun h0 => ⟨g, 0, rfl, Nat.zero_le _, by simpa using hgl, fun i hi' j hj => ?_⟩, ?_, fun p hp => ?_, by rw [hll, e2]; exact h3⟩
      · rw [hll]
        have hf := h.f
        rw [e1] at hf
        exact (hf.other (by omega)).other hi.bf.symm
      · rw [hll] at hi'
        have hne : I.B ≠ g := by omega
        rw [show 0 + i * 8 + j = i * 8 + j by omega]
        have e3 : ((u.setCell ⟨g, l0.length * 8 + 1, none⟩ (.int .i64 1)).setCell ⟨I.B, 2, none⟩ v).cell? ⟨g, i * 8 + j, none⟩ = (u.setCell ⟨g, l0.length * 8 + 1, none⟩ (.int .i64 1)).cell? ⟨g, i * 8 + j, none⟩ := World.cell?_setCell_far _ ⟨I.B, 2, none⟩ ⟨g, i * 8 + j, none⟩ _ hne
        rw [e3]
        have hO : OwnB u g cur := ⟨⟨hgl, fun o => by simp [World.cell?, h2]⟩, fun o => by simp [World.frozen?, h2]⟩
        have hlt : l0.length * 8 + 1 < cur.size := by rw [h5]; have : l0.length + 1 ≤ c := by rw [hl] at h3; simpa using h3
                                                      omega
        have hS := (hO.set (o := l0.length * 8 + 1) hlt (.int .i64 1)).1.2 (i * 8 + j)
        have hU := hO.1.2 (i * 8 + j)
        rw [hS]
        by_cases c1 : i = l0.length
        · subst c1
          by_cases c2 : j = 1
          · subst c2
            rw [Array.getElem?_setIfInBounds_self_of_lt hlt]
            simp
          · rw [Array.getElem?_setIfInBounds_ne (by omega), ← hU, hcell _ _ hi' hj, hl]
            simp
            rcases (show j = 0 ∨ j = 2 ∨ j = 3 ∨ j = 4 ∨ j = 5 ∨ j = 6 ∨ j = 7 by omega) with rfl | rfl | rfl | rfl | rfl | rfl | rfl <;> rfl
        · have hi2 : i < l0.length := by rw [hl] at hi'; simp at hi'; omega
          rw [Array.getElem?_setIfInBounds_ne (by omega), ← hU, hcell _ _ hi' hj, hl]
          simp [List.getElem?_append_left hi2]
      · refine ownsK_block h.v fun k e => g1.block k (own_ge h.v ((own_bk _ _ _).symm.trans e)).2 (fun c => ?_)
        have e' := (own_bk _ _ _).symm.trans e
        rcases c with c | c
        · exact own_ty h.v h.r (by decide) e' (by rw [e1, c]; rfl)
        · have := (own_ge h.v e').1; omega
      · have hq : ∀ {a : Option Addr} {n : Nat} {q : Nat → Int}, rOk I S u a n q → IntsAt 0 ((u.setCell ⟨g, l0.length * 8 + 1, none⟩ (.int .i64 1)).setCell ⟨I.B, 2, none⟩ v) a n q := fun r => (r.gx (S' := S) g1 (fun k e => by
          rcases e with e | e
          · exact .inr (.inl (by rw [e1, e]; rfl))
          · exact .inl (e ▸ hi.b)) (fun _ _ => ⟨fun e => e, fun e => e⟩)).1
        rcases List.mem_append.1 hp with hp | hp
        · obtain ⟨x1, x2, x3⟩ := h.x p (by rw [hl]; exact List.mem_append.2 (.inl hp))
          exact ⟨hq x1, hq x2, x3⟩
        · obtain rfl : p = ({ d with l := 1 }, x) := by simpa using hp
          obtain ⟨x1, x2, x3⟩ := h.x (d, x) (by rw [hl]; simp)
          exact ⟨hq x1, hq x2, x3⟩
end Go.Proofs.YtdialodjllpgaaaGreatDoor

/-! The specification makes units: shut, made. -/
namespace Go.Proofs.YtdialodjllpgaaaGreatDoor
open Go.RowKit
attribute [local go_sem] run_store_float
attribute [local go_sem ↓] Go.wp_at_zero Go.wp_at_succ

/-- a unit that was ended -/
structure ShS (I : LBI) (S : LBS) (u : World) (c : IL) (S' : LBS) (g : Nat) (w' : World) : Prop where
  z : LZ I S' g (S.l ++ [(ndR 1 1 0 il0 c, naR il0 c)]) w'
  b : Has w' I.B #[ptr I.C, .slice (some ⟨I.F, 0, none⟩) 1 I.fc, .slice (some ⟨I.K, 0, none⟩) 0 I.kc, .int .i64 S'.lf]
  vl : S'.vl = S.vl
  m : ∀ k, k < u.heap.size → (g = k → bkOf S.na = some k) ∧ (bkOf S'.va = some k → bkOf S.va = some k)
  gg : I.N ≤ g
  g : Gx (fun k => (k = I.B ∨ k = I.C ∨ k = I.F ∨ k = I.K) ∨ bkOf S.na = some k ∨ bkOf S.va = some k) u w'
theorem LZ.call {I : LBI} {S : LBS} {g : Nat} {l : List (ND × NA)} {u u' : World} (h : LZ I S g l u) (hb : Below u.heap.size u u') : LZ I S g l u' := ⟨by
  obtain ⟨A, h1, h2⟩ := h.f
  exact ⟨A, h1.call hb, h2⟩, h.r.below hb, ownsK_below h.v hb, fun p hp => ⟨RowN.below (h.x p hp).1 hb, RowN.below (h.x p hp).2.1 hb, (h.x p hp).2.2⟩, h.cap⟩
theorem ints_set {u : World} {a : Option Addr} {n : Nat} {q : Nat → Int} {B : Nat} {v : Value} (h : IntsAt 0 u a n q) (hB : OwnB u B #[.slice none 0 0]) : IntsAt 0 (u.setCell ⟨B, 0, none⟩ v) a n q := fun h0 => by
  obtain ⟨b, off, e, h1, h2, h3⟩ := h h0
  have hne : B ≠ b := fun c => by
    subst c
    have h4 := h3 0 h0 0 (by omega)
    rw [hB.1.2 (off + 0 * 1 + 0)] at h4
    rcases (show off = 0 ∨ 0 < off by omega) with rfl | ho
    · simp at h4
    · rw [Array.getElem?_eq_none (by show 1 ≤ off + 0 * 1 + 0; omega)] at h4
      simp at h4
  exact ⟨b, off, e, h1, by simpa using h2, fun i hi j hj => (World.cell?_setCell_far u ⟨B, 0, none⟩ ⟨b, off + i * 1 + j, none⟩ v hne).trans (h3 i hi j hj)⟩
theorem LZ.set {I : LBI} {S : LBS} {g B : Nat} {l : List (ND × NA)} {u : World} {v : Value} (h : LZ I S g l u) (hB : OwnB u B #[.slice none 0 0]) (h1 : I.F ≠ B) (h2 : g ≠ B) (h3 : bkOf S.va ≠ some B) : LZ I S g l (u.setCell ⟨B, 0, none⟩ v) := ⟨h.f.other h1, fun h0 => by
  obtain ⟨b, off, e, q1, q2, q3⟩ := h.r h0
  cases e
  exact ⟨g, 0, rfl, q1, by simpa using q2, fun i hi j hj => (World.cell?_setCell_far u ⟨B, 0, none⟩ ⟨g, 0 + i * 8 + j, none⟩ v (fun c => h2 c.symm)).trans (q3 i hi j hj)⟩, ownsK_set h.v _ fun k e c => h3 (by rw [← c]; exact (own_bk _ _ _).symm.trans e), fun p hp => ⟨ints_set (h.x p hp).1 hB, ints_set (h.x p hp).2.1 hB, (h.x p hp).2.2⟩, h.cap⟩
theorem ShS.call {I : LBI} {S : LBS} {u : World} {c : IL} {S' : LBS} {g : Nat} {w' w'' : World} (h : ShS I S u c S' g w') (hb : Below w'.heap.size w' w'') : ShS I S u c S' g w'' := ⟨h.z.call hb, h.b.call hb, h.vl, h.m, h.gg, h.g.trans (Gx.below (fun _ => False) hb) (fun _ _ e => e.elim)⟩
set_option maxRecDepth 100000 in
set_option maxHeartbeats 8000000 in
theorem lbShut_calls (I : LBI) (S : LBS) (c : IL) (n : Nat) (u : World) (h : LB I S u) (hg : Gd S n) (hn : n ≤ 30) (hc : rOk I S u c.a c.n c.q) (hcc : c.n ≤ c.c) (hkc : 1 ≤ I.kc) :
    Calls Tryz.prog 30 #[ptr I.B, ilV c] u fun e w' => e = .returned (.tuple #[]) ∧ ∃ S' g, ShS I S u c S' g w' := by
  have HL : Hid (LB I S u ∧ Gd S n ∧ rOk I S u c.a c.n c.q) := ⟨h, hg, hc⟩
  clear h hg hc
  go_enter Tryz.func30, Tryz.ntmps30
  go_wp2_with fail
  have hst := lbStat_calls I S 1 il0 c n u HL.out.1 HL.out.2.1 (by omega) (rOk0 _ _ _) HL.out.2.2 hcc
  refine hst.mono ?_
  clear hst
  rintro e w1 ⟨rfl, l, S1, hl1, hl2, ha, hg1⟩
  have H1 : Hid (Ad I S u (ndR 1 l 0 il0 c) (naR il0 c) S1 w1) := ha
  clear ha hg1
  go_wp2_with fail
  refine (lbFn_calls I S1 _ H1.out.lx.s).mono ?_
  rintro e w2 ⟨rfl, hb2⟩
  have H2 : Hid (Lx I S u S1 w2) := H1.out.lx.trans (Lx.below H1.out.lx.s hb2)
  obtain ⟨g, e1, hgN, hgl, hgc, hgz, hz⟩ := H2.out.s.lz H1.out.l
  have HZ : Hid (∀ v, LZ I S1 g (S.l ++ [({ ndR 1 l 0 il0 c with l := 1 }, naR il0 c)]) ((w2.setCell ⟨g, S.l.length * 8 + 1, none⟩ (.int .i64 1)).setCell ⟨I.B, 2, none⟩ v)) := hz
  have hlen : S1.l.length = S.l.length + 1 := by rw [H1.out.l]; simp
  have f6 := H2.out.s.f.cell.2.1
  rw [e1, hlen] at f6
  have hI1 : (0 : Int) ≤ (S.l.length : Int) := by omega
  have hI2 : (S.l.length : Int) < ((S.l.length + 1 : Nat) : Int) := by omega
  have b2 := H2.out.s.b.1.cell 2 rfl
  have bz := H2.out.s.b.2
  have hbl := H2.out.s.b.1.1
  have hne : I.B ≠ g := by have := H2.out.s.i.b; omega
  have HE : Hid (S1.na = some ⟨g, 0, none⟩) := e1
  have hkI : (1 : Int) ≤ (I.kc : Int) := by omega
  clear hz hb2 e1 hlen
  go_upto_region 2 with fail
  obtain ⟨w3, hw3⟩ : ∃ w3, w2.setCell ⟨g, S.l.length * 8 + 1, none⟩ (.int .i64 1) = w3 := ⟨_, rfl⟩
  have H3 : Hid (OwnB w3 I.B #[ptr I.C, .slice (some ⟨I.F, 0, none⟩) 1 I.fc, .slice (some ⟨I.K, 0, none⟩) 1 I.kc, .int .i64 S1.lf] ∧ Gx (fun k => k = g) w2 w3) := by
    rw [← hw3]
    exact ⟨own_other H2.out.s.b hne, Gx.set _ _ _ _⟩
  rw [hw3] at HZ
  rw [hw3]
  clear hw3 f6 b2 bz hbl hgc hgz
  have b2 := H3.out.1.1.cell 2 rfl
  have bz := H3.out.1.2
  have hbl := H3.out.1.1.1
  have hk0 : I.kc ≠ 0 := by omega
  have hk1 : (0 : Int) ≤ (I.kc : Int) := by omega
  have hk2 : IntKind.i64.wrap ((1 : Int) - 1) = 0 := by decide
  have hk3 : IntKind.i64.wrap 0 = 0 := by decide
  have HF : Hid (ShS I S u c S1 g (w3.setCell ⟨I.B, 2, none⟩ (.slice (some ⟨I.K, 0, none⟩) 0 I.kc))) := by
    have hE := HE.out
    have hx := H2.out
    refine ⟨HZ.out _, (H3.out.1.set (o := 2) (by show 2 < 4; omega) _).1, H1.out.va.2.2, fun k hk => ⟨fun e => (hx.m k hk).1 (by rw [hE, e]; rfl), (hx.m k hk).2⟩, hgN, ?_⟩
    refine ((hx.g.mono (S' := fun k => (k = I.B ∨ k = I.C ∨ k = I.F ∨ k = I.K) ∨ bkOf S.na = some k ∨ bkOf S.va = some k) (fun k e => ?_)).trans H3.out.2 (fun k hk e => ?_)).trans (Gx.set w3 I.B 2 _) (fun k _ e => .inl (.inl e))
    · rcases e with e | e
      · exact .inl e.2
      · exact .inr e
    · exact .inr (.inl ((hx.m k hk).1 (by rw [hE, e]; rfl)))
  go_region_with fail
  all_goals go_end0
  all_goals first
    | exact ⟨rfl, S1, g, HF.out⟩
    | exact ⟨rfl, S1, g, HF.out.call (bl_drew (bl_refl _))⟩
set_option maxRecDepth 100000 in
set_option maxHeartbeats 8000000 in
theorem lbMade_calls (I : LBI) (S : LBS) (c : IL) (n : Nat) (u : World) (h : LB I S u) (hg : Gd S n) (hn : n ≤ 30) (hc : rOk I S u c.a c.n c.q) (hcc : c.n ≤ c.c) (hkc : 1 ≤ I.kc) :
    Calls Tryz.prog 18 #[ptr I.B, ilV c] u fun e w' => e = .returned (.agg #[.slice (some ⟨I.F, 0, none⟩) 1 I.fc]) ∧ ∃ S' g, LZ I S' g (S.l ++ [(ndR 1 1 0 il0 c, naR il0 c)]) w' ∧ S'.vl = S.vl ∧ I.N ≤ g ∧ (∀ k, bkOf S'.va = some k → I.N ≤ k) ∧ Gx (fun k => (k = I.B ∨ k = I.C ∨ k = I.F ∨ k = I.K) ∨ bkOf S.na = some k ∨ bkOf S.va = some k) u w' := by
  have HS : Hid _ := lbShut_calls I S c n (u.alloc (.cells #[.slice none 0 0] 31)) (h.alloc _) hg hn (hc.call (below_alloc _ _)) hcc hkc
  have HL : Hid (LB I S u) := h
  clear h hg hc
  go_enter Tryz.func18, Tryz.ntmps18
  go_wp2_with fail
  refine Calls.mono HS.out ?_
  rintro e w2 ⟨rfl, S', g, hs⟩
  have hO : OwnB w2 u.heap.size #[.slice none 0 0] := hs.g.ownB (OwnB.new _ _ _) (fun e => by
    have h1 := HL.out.n
    have hi := HL.out.i
    have i1 := hi.b; have i2 := hi.c; have i3 := hi.f; have i4 := hi.k
    rcases e with e | e | e
    · omega
    · exact Nat.lt_irrefl _ (own_ge HL.out.r e).2
    · exact Nat.lt_irrefl _ (own_ge HL.out.v e).2)
  have r0 := hO.1.cell 0 rfl
  have rz := hO.2
  have b1 := hs.b.cell 1 rfl
  have H2 : Hid (ShS I S (u.alloc (.cells #[.slice none 0 0] 31)) c S' g w2) := hs
  have H3 : Hid (OwnB w2 u.heap.size #[.slice none 0 0]) := hO
  clear hs hO
  go_wp2_with fail
  have hs := H2.out
  have hL := HL.out
  have hlt : u.heap.size < (u.alloc (.cells #[.slice none 0 0] 31)).heap.size := by simp
  refine bodyPost_ret (v := .agg #[.slice (some ⟨I.F, 0, none⟩) 1 I.fc]) (by simp [results, Tryz.results18, go_sem, r0]) rfl ⟨rfl, S', g, ?_, hs.vl, hs.gg, fun k e => (own_ge hs.z.v e).1, ?_⟩
  · exact hs.z.set H3.out (by have := hL.i.f; have := hL.n; omega) (fun e => Nat.lt_irrefl _ (own_ge hL.r ((hs.m _ hlt).1 e)).2) (fun e => Nat.lt_irrefl _ (own_ge hL.v ((hs.m _ hlt).2 e)).2)
  · exact ((Gx.below (fun k => (k = I.B ∨ k = I.C ∨ k = I.F ∨ k = I.K) ∨ bkOf S.na = some k ∨ bkOf S.va = some k) (below_alloc u _)).trans hs.g (fun _ _ e => e)).trans (Gx.set w2 u.heap.size 0 _) (fun k hk e => by omega)
end Go.Proofs.YtdialodjllpgaaaGreatDoor

/-! The specification makes units: the counted loop. -/
namespace Go.Proofs.YtdialodjllpgaaaGreatDoor
open Go.RowKit
attribute [local go_sem] run_store_float
attribute [local go_sem ↓] Go.wp_at_zero Go.wp_at_succ

/-- the nodes of the loop that was made -/
abbrev mcL (a b s l6 l7 l8 : Int) (r3 r5 r6 r7 rF cF r9 : IL) : List (ND × NA) := [(ndR 23 0 a il0 il0, naR il0 il0), (ndR 23 0 b il0 il0, naR il0 il0), (ndR 23 0 s il0 il0, naR il0 il0), (ndR 26 0 0 r3 il0, naR r3 il0), (ndR 28 0 0 il0 il0, naR il0 il0), (ndR 34 0 0 il0 r5, naR il0 r5), (ndR 4 l6 0 il0 r6, naR il0 r6), (ndR 1 l7 0 il0 r7, naR il0 r7), (ndR 7 l8 0 rF cF, naR rF cF), (ndR 1 1 0 il0 r9, naR il0 r9)]
theorem rOk_four {I : LBI} {S : LBS} {u : World} (h : LB I S u) (o : Obj) (z0 z1 z2 z3 : Int) (t : TypeId) (e0 : z0 = 0) (e1 : z1 = 1) (e2 : z2 = 2) (e3 : z3 = 7) : rOk I S ((u.alloc o).alloc (.cells #[.int .i64 z0, .int .i64 z1, .int .i64 z2, .int .i64 z3] t)) (some ⟨u.heap.size + 1, 0, none⟩) 4 (fun j => if j = 3 then 7 else (j : Int)) := by
  subst e0 e1 e2 e3
  refine ⟨fun _ => ⟨u.heap.size + 1, 0, rfl, Nat.zero_le _, by simp, fun i hi j hj => ?_⟩, fun b e => ?_⟩
  · obtain rfl : j = 0 := by omega
    have hh := has_new1 u o #[.int .i64 0, .int .i64 1, .int .i64 2, .int .i64 7] t
    rcases (show i = 0 ∨ i = 1 ∨ i = 2 ∨ i = 3 by omega) with rfl | rfl | rfl | rfl
    · exact hh.2 0
    · exact hh.2 1
    · exact hh.2 2
    · exact hh.2 3
  · cases e
    exact ⟨by have := h.n; show I.N ≤ u.heap.size + 1; omega, by simp, fun e => by have h1 := (own_ge h.r e).2; replace h1 : u.heap.size + 1 < u.heap.size := h1; omega, fun e => by have h1 := (own_ge h.v e).2; replace h1 : u.heap.size + 1 < u.heap.size := h1; omega⟩
theorem getD_mem {α : Type} : ∀ (l : List α) (i : Nat) (d : α), i < l.length → l.getD i d ∈ l
  | [], i, d, h => absurd h (by simp)
  | x :: l, 0, d, _ => by simp
  | x :: l, i + 1, d, h => by
    have := getD_mem l i d (by simpa using h)
    show l.getD i d ∈ x :: l
    exact List.mem_cons_of_mem _ this
theorem mc_nd (a b s l6 l7 l8 : Int) (r3 r5 r6 r7 rF cF r9 : IL) (h3 : r3.n = 1) (q3 : r3.q = fun _ => 0) (h5 : r5.n = 2) (q5 : r5.q = fun j => if j = 0 then 4 else 3) (h6 : r6.n = 1) (q6 : r6.q = fun _ => 5) (h7 : r7.n = 1) (q7 : r7.q = fun _ => 6) (hF : rF.n = 1) (qF : rF.q = fun _ => 0) (hc : cF.n = 4) (qc : cF.q = fun (j : Nat) => if j = 3 then 7 else (j : Int)) (h9 : r9.n = 1) (q9 : r9.q = fun _ => 8) :
    ∀ i, i < 10 → ((mcL a b s l6 l7 l8 r3 r5 r6 r7 rF cF r9).getD i nd0).1 = cuN a b s l6 l7 l8 i := by
  refine lt10 rfl rfl rfl ?_ rfl ?_ ?_ ?_ ?_ ?_
  · show ndR 26 0 0 r3 il0 = _
    unfold ndR
    rw [h3, q3]
    rfl
  · show ndR 34 0 0 il0 r5 = _
    unfold ndR
    rw [h5, q5]
    rfl
  · show ndR 4 l6 0 il0 r6 = _
    unfold ndR
    rw [h6, q6]
    rfl
  · show ndR 1 l7 0 il0 r7 = _
    unfold ndR
    rw [h7, q7]
    rfl
  · show ndR 7 l8 0 rF cF = _
    unfold ndR
    rw [hF, qF, hc, qc]
    rfl
  · show ndR 1 1 0 il0 r9 = _
    unfold ndR
    rw [h9, q9]
    rfl
theorem mc_fns {I : LBI} {S : LBS} {g : Nat} {l : List (ND × NA)} {u : World} {a b s l6 l7 l8 : Int} (h : LZ I S g l u) (hv : S.vl = [.string ⟨#[97]⟩]) (hd : ∀ i, i < 10 → (l.getD i nd0).1 = cuN a b s l6 l7 l8 i) (hl : l.length = 10 := by rfl) : FnsAt 0 u 1 (fun _ => cuF a b s l6 l7 l8) (some ⟨I.F, 0, none⟩) (fun _ => ⟨S.va, S.vc, none, 0, some ⟨g, 0, none⟩, S.nc, fun i => (l.getD i nd0).2⟩) := by
  refine ⟨fun _ => ?_, fun _ _ => ⟨fun _ => ?_, fun h0 => absurd h0 (Nat.not_lt_zero _), ?_, fun i hi => ?_⟩⟩
  · obtain ⟨A, h1, a0, a1, a2, a3, a4, a5, a6⟩ := h.f
    refine ⟨I.F, 0, rfl, Nat.zero_le _, h1.1.1, fun i hi j hj => ?_⟩
    obtain rfl : i = 0 := by omega
    rw [hv] at a4
    rw [hl] at a6
    rw [show 0 + 0 * 7 + j = j by omega, h1.1.2 j]
    rcases (show j = 0 ∨ j = 1 ∨ j = 2 ∨ j = 3 ∨ j = 4 ∨ j = 5 ∨ j = 6 by omega) with rfl | rfl | rfl | rfl | rfl | rfl | rfl
    · exact a0
    · exact a1
    · exact a2
    · exact a3
    · exact a4
    · exact a5
    · exact a6
  · rcases h.v.2 with ⟨_, e⟩ | ⟨g', c, cur, e, h1, h2, _⟩
    · rw [hv] at e
      exact absurd e (by decide)
    · have e1 : S.va = some ⟨g', 0, none⟩ := by injection e
      refine ⟨g', 0, e1, Nat.zero_le _, (Array.getElem?_eq_some_iff.1 h2).1, fun i hi j hj => ?_⟩
      obtain rfl : i = 0 := by replace hi : i < 1 := hi; omega
      obtain rfl : j = 0 := by omega
      have hc := h.v.cells (g := g') (by rw [e1]; rfl) 0 (.string ⟨#[97]⟩) (by rw [hv]; rfl)
      have h0 : u.cell? ⟨g', 0, none⟩ = some (.string ⟨#[97]⟩) := by simpa [Addr.add] using hc
      exact h0
  · have hr := h.r
    rw [hl] at hr
    refine RowN.congr hr (fun i hi => ?_)
    show nodeC (l.getD i nd0).1 (l.getD i nd0).2 = nodeC (cuN a b s l6 l7 l8 i) (l.getD i nd0).2
    rw [hd i hi]
  · replace hi : i < 10 := hi
    obtain ⟨x1, x2, _⟩ := h.x (l.getD i nd0) (getD_mem _ _ _ (by omega))
    rw [hd i hi] at x1 x2
    exact ⟨x1, x2⟩
/-- what MadeCount gives -/
def McP (a b s : Int) (w : World) (e : Ending) (w' : World) : Prop := ∃ (ub uc l6 l7 l8 : _) (x : FA), e = .returned (.agg #[.slice (some ⟨ub, 0, none⟩) 1 uc]) ∧ LnsOk l6 l7 l8 ∧ FnsAt 0 w' 1 (fun _ => cuF a b s l6 l7 l8) (some ⟨ub, 0, none⟩) (fun _ => x) ∧ CapF (cuF a b s l6 l7 l8) x ∧ Below w.heap.size w w'
set_option maxRecDepth 100000 in
set_option maxHeartbeats 8000000 in
theorem madeCount_calls (a b s : Int) (w : World) :
    Calls Tryz.prog 6 #[.int .i64 a, .int .i64 b, .int .i64 s] w fun e w' => McP a b s w e w' := by
  go_enter Tryz.func6, Tryz.ntmps6
  go_wp2_with fail
  refine (l4made_calls _).mono ?_
  rintro e w1 ⟨I, rfl, hLB, hb1, hIk, hIN, hkc⟩
  have HI : Hid (Below w.heap.size w w1 ∧ (∀ k, (k = I.B ∨ k = I.C ∨ k = I.F ∨ k = I.K) → w.heap.size < k) ∧ OwnB w1 w.heap.size #[.slice none 0 0] ∧ w.heap.size < I.N) := ⟨below_call (below_alloc _ _) hb1, fun k e => by have := hIk k e; simp at this; omega, (OwnB.new _ _ _).call hb1, by have := hb1.size; simp at this; omega⟩
  have H1 : Hid (LB I lS0 w1 ∧ Gd lS0 0) := ⟨hLB, ⟨Nat.le_refl _, by decide, by decide, Nat.le_refl _, by decide, by decide⟩⟩
  clear hLB hb1 hIk hIN
  go_wp2_with fail
  refine (lbLit_calls I lS0 a 0 _ H1.out.1 H1.out.2 (by omega)).mono ?_
  rintro e w2 ⟨rfl, S2, h2, g2⟩
  have H2 : Hid (Ad I lS0 w1 (ndR 23 0 a il0 il0) (naR il0 il0) S2 w2 ∧ Gd S2 1) := ⟨h2, g2⟩
  clear h2 g2
  go_wp2_with fail
  refine (lbLit_calls I S2 b 1 _ H2.out.1.lx.s H2.out.2 (by omega)).mono ?_
  rintro e w3 ⟨rfl, S3, h3, g3⟩
  have H3 : Hid (Ad I S2 w2 (ndR 23 0 b il0 il0) (naR il0 il0) S3 w3 ∧ Gd S3 2) := ⟨h3, g3⟩
  clear h3 g3
  go_wp2_with fail
  refine (lbLit_calls I S3 s 2 _ H3.out.1.lx.s H3.out.2 (by omega)).mono ?_
  rintro e w4 ⟨rfl, S4, h4, g4⟩
  have H4 : Hid (Ad I S3 w3 (ndR 23 0 s il0 il0) (naR il0 il0) S4 w4 ∧ Gd S4 3) := ⟨h4, g4⟩
  clear h4 g4
  have H4v : Hid (S4.vl = [] ∧ S4.va = none ∧ S4.vc = 0) := by
    obtain ⟨a1, a2, a3⟩ := H4.out.1.va
    obtain ⟨b1, b2, b3⟩ := H3.out.1.va
    obtain ⟨c1, c2, c3⟩ := H2.out.1.va
    exact ⟨by rw [a3, b3, c3]; rfl, by rw [a1, b1, c1]; rfl, by rw [a2, b2, c2]; rfl⟩
  go_wp2_with fail
  refine (lbFresh_calls I S4 3 _ H4.out.1.lx.s H4.out.2 H4v.out.1 H4v.out.2.1 H4v.out.2.2).mono ?_
  rintro e w5 ⟨rfl, S5, h5, e5, v5', g5⟩
  have H5 : Hid (Lx I S4 w4 S5 w5 ∧ S5.l = S4.l ∧ S5.vl = [.string ⟨#[97]⟩] ∧ Gd S5 3) := ⟨h5, e5, v5', g5⟩
  clear h5 e5 v5' g5
  go_wp2_with fail
  refine (lbVariable_calls I S5 3 _ H5.out.1.s H5.out.2.2.2 (by omega)).mono ?_
  rintro e w6 ⟨rfl, S6, h6, g6⟩
  have H6 : Hid (Ad I S5 w5 (ndR 26 0 0 ⟨some ⟨w5.heap.size, 0, none⟩, 1, 1, fun _ => 0⟩ il0) (naR ⟨some ⟨w5.heap.size, 0, none⟩, 1, 1, fun _ => 0⟩ il0) S6 w6 ∧ Gd S6 4) := ⟨h6, g6⟩
  clear h6 g6
  go_wp2_with fail
  refine (lbPrint_calls I S6 w6.heap.size (S5.l.length : Int) 4 _ (H6.out.1.lx.s.alloc _) H6.out.2 (by omega) (rOk_new H6.out.1.lx.s _ _)).mono ?_
  rintro e w7 ⟨rfl, l6, r5, r6, S7, h7⟩
  have H7 : Hid (PrS I S6 (w6.alloc (.cells #[.int .i64 (S5.l.length : Int)] 3)) (S5.l.length : Int) 4 l6 r5 r6 S7 w7) := h7
  clear h7
  obtain ⟨f7, hf7⟩ : ∃ f7 : Int, (S6.l.length : Int) + 2 = f7 := ⟨_, rfl⟩
  rw [hf7]
  have HF7 : Hid ((S6.l.length : Int) + 2 = f7) := hf7
  clear hf7
  go_wp2_with fail
  refine (lbStat_calls I S7 1 il0 ⟨some ⟨w7.heap.size, 0, none⟩, 1, 1, fun _ => f7⟩ 7 _ (H7.out.lx.s.alloc _) H7.out.g (by omega) (rOk0 _ _ _) (rOk_new H7.out.lx.s _ _) (Nat.le_refl _)).mono ?_
  rintro e w8 ⟨rfl, l7, S8, a7, b7, h8, g8⟩
  have H8 : Hid (Ad I S7 (w7.alloc (.cells #[.int .i64 f7] 3)) (ndR 1 l7 0 il0 ⟨some ⟨w7.heap.size, 0, none⟩, 1, 1, fun _ => f7⟩) (naR il0 ⟨some ⟨w7.heap.size, 0, none⟩, 1, 1, fun _ => f7⟩) S8 w8 ∧ Gd S8 8) := ⟨h8, g8⟩
  clear h8 g8
  have HN : Hid (S2.l.length = 1 ∧ S3.l.length = 2 ∧ S4.l.length = 3 ∧ S5.l.length = 3 ∧ S6.l.length = 4 ∧ S7.l.length = 7 ∧ S8.l.length = 8) := by
    have e2 := H2.out.1.l
    have e3 := H3.out.1.l
    have e4 := H4.out.1.l
    have e5 := H5.out.2.1
    have e6 := H6.out.1.l
    have e7 := H7.out.ll
    have e8 := H8.out.1.l
    have n2 : S2.l.length = 1 := by rw [e2]; rfl
    have n3 : S3.l.length = 2 := by rw [e3]; simp [n2]
    have n4 : S4.l.length = 3 := by rw [e4]; simp [n3]
    have n5 : S5.l.length = 3 := by rw [e5]; exact n4
    have n6 : S6.l.length = 4 := by rw [e6]; simp [n5]
    have n7 : S7.l.length = 7 := by rw [e7]; simp [n6]
    exact ⟨n2, n3, n4, n5, n6, n7, by rw [e8]; simp [n7]⟩
  go_wp2_with fail
  refine (lbStat_calls I S8 7 ⟨some ⟨w8.heap.size, 0, none⟩, 1, 1, fun _ => 0⟩ ⟨some ⟨w8.heap.size + 1, 0, none⟩, 4, 4, fun j => if j = 3 then 7 else (j : Int)⟩ 8 _ ((H8.out.1.lx.s.alloc _).alloc _) H8.out.2 (by omega) ((rOk_new H8.out.1.lx.s _ _).call (below_alloc _ _)) (rOk_four H8.out.1.lx.s _ _ _ _ _ _ rfl (by have := HN.out.1; omega) (by have := HN.out.2.1; omega) (by have := HN.out.2.2.2.2.2.1; omega)) (Nat.le_refl _)).mono ?_
  rintro e w9 ⟨rfl, l8, S9, a8, b8, h9, g9⟩
  obtain ⟨rF, hrF⟩ : ∃ r : IL, (⟨some ⟨w8.heap.size, 0, none⟩, 1, 1, fun _ => 0⟩ : IL) = r := ⟨_, rfl⟩
  obtain ⟨cF, hcF⟩ : ∃ r : IL, (⟨some ⟨w8.heap.size + 1, 0, none⟩, 4, 4, fun j => if j = 3 then 7 else (j : Int)⟩ : IL) = r := ⟨_, rfl⟩
  obtain ⟨w8', hw8⟩ : ∃ w8', (w8.alloc (.cells #[.int .i64 0] 3)).alloc (.cells #[.int .i64 (lS0.l.length : Int), .int .i64 (S2.l.length : Int), .int .i64 (S3.l.length : Int), .int .i64 (S7.l.length : Int)] 3) = w8' := ⟨_, rfl⟩
  have H9 : Hid (Lx I S8 w8 S9 w9 ∧ S9.l = S8.l ++ [(ndR 7 l8 0 rF cF, naR rF cF)] ∧ S9.vl = S8.vl ∧ Gd S9 9 ∧ rF.n = 1 ∧ rF.q = (fun _ => 0) ∧ cF.n = 4 ∧ cF.q = (fun (j : Nat) => if j = 3 then 7 else (j : Int))) := by
    refine ⟨(Lx.below H8.out.1.lx.s (below_alloc2 _ _ _)).trans h9.lx, ?_, h9.va.2.2, g9, ?_, ?_, ?_, ?_⟩
    · rw [h9.l, hrF, hcF]
    · rw [← hrF]
    · rw [← hrF]
    · rw [← hcF]
    · rw [← hcF]
  clear h9 g9 hw8 hrF hcF
  obtain ⟨f8, hf8⟩ : ∃ f8 : Int, (S8.l.length : Int) = f8 := ⟨_, rfl⟩
  rw [hf8]
  have HF8 : Hid (f8 = 8) := by have := HN.out.2.2.2.2.2.2; show f8 = 8; omega
  clear hf8
  go_wp2_with fail
  refine (lbMade_calls I S9 ⟨some ⟨w9.heap.size, 0, none⟩, 1, 1, fun _ => f8⟩ 9 _ (H9.out.1.s.alloc _) H9.out.2.2.2.1 (by omega) (rOk_new H9.out.1.s _ _) (Nat.le_refl _) hkc).mono ?_
  rintro e w10 ⟨rfl, S10, g, hz, hvl, hgN, hvN, hg10⟩
  have HG : Hid (Gx (fun k => (k = I.B ∨ k = I.C ∨ k = I.F ∨ k = I.K) ∨ I.N ≤ k) w1 w10) := by
    have hx := (((((((Lx.trans H2.out.1.lx H3.out.1.lx).trans H4.out.1.lx).trans H5.out.1).trans H6.out.1.lx).trans ((Lx.below H6.out.1.lx.s (below_alloc _ _)).trans H7.out.lx)).trans ((Lx.below H7.out.lx.s (below_alloc _ _)).trans H8.out.1.lx)).trans H9.out.1).trans (Lx.below H9.out.1.s (below_alloc w9 (.cells #[.int .i64 f8] 3)))
    refine (hx.g.mono (S' := fun k => (k = I.B ∨ k = I.C ∨ k = I.F ∨ k = I.K) ∨ I.N ≤ k) (fun k e => ?_)).trans hg10 (fun k _ e => ?_)
    · rcases e with e | e | e
      · exact .inl e.2
      · cases e
      · cases e
    · rcases e with e | e | e
      · exact .inl e
      · exact .inr (own_ge hx.s.r e).1
      · exact .inr (own_ge hx.s.v e).1
  have hO : OwnB w10 w.heap.size #[.slice none 0 0] := HG.out.ownB HI.out.2.2.1 (fun e => by
    have h9 := HI.out.2.2.2
    rcases e with e | e
    · exact Nat.lt_irrefl _ (HI.out.2.1 _ e)
    · omega)
  have H10 : Hid (LZ I S10 g (S9.l ++ [(ndR 1 1 0 il0 ⟨some ⟨w9.heap.size, 0, none⟩, 1, 1, fun _ => f8⟩, naR il0 ⟨some ⟨w9.heap.size, 0, none⟩, 1, 1, fun _ => f8⟩)]) w10 ∧ S10.vl = S9.vl ∧ OwnB w10 w.heap.size #[.slice none 0 0] ∧ I.N ≤ g ∧ (∀ k, bkOf S10.va = some k → I.N ≤ k)) := ⟨hz, hvl, hO, hgN, hvN⟩
  have r0 := hO.1.cell 0 rfl
  have rz := hO.2
  clear hz hvl hgN hvN hg10 hO
  go_wp2_with fail
  have hI := HI.out
  have hz := H10.out.1.set (v := .slice (some ⟨I.F, 0, none⟩) 1 I.fc) H10.out.2.2.1 (fun e => Nat.lt_irrefl _ (e ▸ hI.2.1 I.F (.inr (.inr (.inl rfl))))) (by have := H10.out.2.2.2.1; omega) (fun e => by have := H10.out.2.2.2.2 _ e; omega)
  have hl : S9.l ++ [(ndR 1 1 0 il0 ⟨some ⟨w9.heap.size, 0, none⟩, 1, 1, fun _ => f8⟩, naR il0 ⟨some ⟨w9.heap.size, 0, none⟩, 1, 1, fun _ => f8⟩)] = mcL a b s l6 l7 l8 ⟨some ⟨w5.heap.size, 0, none⟩, 1, 1, fun _ => 0⟩ r5 r6 ⟨some ⟨w7.heap.size, 0, none⟩, 1, 1, fun _ => f7⟩ rF cF ⟨some ⟨w9.heap.size, 0, none⟩, 1, 1, fun _ => f8⟩ := by
    rw [H9.out.2.1, H8.out.1.l, H7.out.ll, H6.out.1.l, H5.out.2.1, H4.out.1.l, H3.out.1.l, H2.out.1.l]
    rfl
  rw [hl] at hz
  have hbb : Below w.heap.size w (w10.setCell ⟨w.heap.size, 0, none⟩ (.slice (some ⟨I.F, 0, none⟩) 1 I.fc)) := bl_set (hI.1.trans (HG.out.to (N := w.heap.size) hI.1.size (fun k e => by
    rcases e with e | e
    · have := hI.2.1 k e; omega
    · have := hI.2.2.2; omega))) _ (Nat.le_refl _)
  have hvl : S10.vl = [.string ⟨#[97]⟩] := by rw [H10.out.2.1, H9.out.2.2.1, H8.out.1.va.2.2, H7.out.va, H6.out.1.va.2.2, H5.out.2.2.1]
  refine bodyPost_ret (v := .agg #[.slice (some ⟨I.F, 0, none⟩) 1 I.fc]) (by simp [results, Tryz.results6, go_sem, r0]) rfl ⟨I.F, I.fc, l6, l7, l8, ⟨S10.va, S10.vc, none, 0, some ⟨g, 0, none⟩, S10.nc, fun i => ((mcL a b s l6 l7 l8 ⟨some ⟨w5.heap.size, 0, none⟩, 1, 1, fun _ => 0⟩ r5 r6 ⟨some ⟨w7.heap.size, 0, none⟩, 1, 1, fun _ => f7⟩ rF cF ⟨some ⟨w9.heap.size, 0, none⟩, 1, 1, fun _ => f8⟩).getD i nd0).2⟩, rfl, ⟨H7.out.l1, by have := H7.out.l2; omega, a7, by omega, a8, by omega⟩, ?_, ?_, hbb⟩
  · have hN := HN.out
    have h7 := H7.out
    have h9 := H9.out
    refine mc_fns hz hvl (fun i hi => ?_)
    refine mc_nd _ _ _ _ _ _ _ _ _ _ _ _ _ rfl rfl h7.r2n ?_ h7.r3n ?_ rfl ?_ h9.2.2.2.2.1 h9.2.2.2.2.2.1 h9.2.2.2.2.2.2.1 h9.2.2.2.2.2.2.2 rfl ?_ i hi
    · rw [h7.r2q]
      funext j
      split
      · have := hN.2.2.2.2.1; omega
      · have := hN.2.2.2.1; omega
    · rw [h7.r3q]
      funext j
      have := hN.2.2.2.2.1; omega
    · funext j
      have := hN.2.2.2.2.1; have := HF7.out; show f7 = 6; omega
    · funext j
      exact HF8.out
  · have h7 := H7.out
    have h9 := H9.out
    refine ⟨hz.cap, fun i hi => ?_⟩
    have hx := fun p hp => (hz.x p hp).2.2
    have he : ∀ i, i < 10 → ((mcL a b s l6 l7 l8 ⟨some ⟨w5.heap.size, 0, none⟩, 1, 1, fun _ => 0⟩ r5 r6 ⟨some ⟨w7.heap.size, 0, none⟩, 1, 1, fun _ => f7⟩ rF cF ⟨some ⟨w9.heap.size, 0, none⟩, 1, 1, fun _ => f8⟩).getD i nd0).1.kn = (cuN a b s l6 l7 l8 i).kn := lt10 rfl rfl rfl rfl rfl h7.r2n h7.r3n rfl h9.2.2.2.2.2.2.1 rfl
    show (cuN a b s l6 l7 l8 i).kn ≤ _
    rw [← he i hi]
    exact hx _ (getD_mem _ _ _ hi)
end Go.Proofs.YtdialodjllpgaaaGreatDoor
