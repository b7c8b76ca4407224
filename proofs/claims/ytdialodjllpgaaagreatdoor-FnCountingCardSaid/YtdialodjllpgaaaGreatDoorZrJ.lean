import Derived.Test.YtdialodjllpgaaaGreatDoorZrI
import Derived.Test.YtdialodjllpgaaaGreatDoorZrH
import Derived.Recover
/-! A step of nought: the failure. -/
namespace Go.Proofs.YtdialodjllpgaaaGreatDoor
open Go.RowKit
attribute [local go_sem] run_store_float
attribute [local go_sem ↓] Go.wp_at_zero Go.wp_at_succ

/-- a table of one's own stays where what lies past N stays -/
theorem XO.keep {N : Nat} {u w : World} {X : Nat} {a : Option Addr} {n cap B : Nat} {t : Int} {q : Nat → PD} {L : List (Mk × Nat)} (h : XO N u X a n cap B t q L) (hs : u.heap.size ≤ w.heap.size) (hk : ∀ k, N ≤ k → k < u.heap.size → w.heap[k]? = u.heap[k]?) : XO N w X a n cap B t q L := by
  have hc : ∀ o, w.cell? ⟨X, o, none⟩ = u.cell? ⟨X, o, none⟩ := fun o => World.cell?_of_block (a := ⟨X, o, none⟩) (hk X h.lo h.lt)
  have hf : ∀ o, w.frozen? ⟨X, o, none⟩ = u.frozen? ⟨X, o, none⟩ := fun o => by simp [World.frozen?, hk X h.lo h.lt]
  obtain ⟨es, c, hm, e⟩ := h.map
  exact ⟨h.lo, Nat.lt_of_lt_of_le h.lt hs, (hc 0).trans h.c0, (hc 1).trans h.c1, (hc 2).trans h.c2, fun o => (hf o).trans (h.fr o), ownsK_block h.own (fun k e => hk k (h.own.lt k e).1 (h.own.lt k e).2), ⟨es, c, (hk B h.bl (Array.getElem?_eq_some_iff.1 hm).1).trans hm, e⟩, h.bl, h.ne⟩
/-- an error's value, its table, the machine's row of tables -/
structure ErA (N : Nat) (w : World) (E K t1 : Nat) (l : Int) (tr : ByteArray) : Prop where
  e : OwnB w E (thE tr)
  eN : N ≤ E
  t : w.cell? ⟨t1, 0, none⟩ = some (ptr K)
  tN : N ≤ t1
  tl : t1 < w.heap.size
  x : ∃ a cap B, XO N w K a 2 cap B (0 + 1 + 1) (q2 14 l) (places (q2 14 l) 2)
theorem ErA.keep {N : Nat} {w w' : World} {E K t1 : Nat} {l : Int} {tr : ByteArray} (h : ErA N w E K t1 l tr) (hs : w.heap.size ≤ w'.heap.size) (hk : ∀ k, N ≤ k → k < w.heap.size → w'.heap[k]? = w.heap[k]?) : ErA N w' E K t1 l tr := by
  obtain ⟨a, cap, B, hx⟩ := h.x
  exact ⟨h.e.block hs (hk E h.eN h.e.1.1), h.eN, (World.cell?_of_block (a := ⟨t1, 0, none⟩) (hk t1 h.tN h.tl)).trans h.t, h.tN, Nat.lt_of_lt_of_le h.tl hs, a, cap, B, hx.keep hs hk⟩
theorem ErA.call {N : Nat} {w w' : World} {E K t1 : Nat} {l : Int} {tr : ByteArray} (h : ErA N w E K t1 l tr) (hb : Below w.heap.size w w') : ErA N w' E K t1 l tr := h.keep hb.size fun k _ hk => hb.block k hk
theorem ErA.gx {N : Nat} {w w' : World} {E K t1 : Nat} {l : Int} {tr : ByteArray} {S : Nat → Prop} (h : ErA N w E K t1 l tr) (g : Gx S w w') (hS : ∀ k, S k → k < N ∨ w.heap.size ≤ k) : ErA N w' E K t1 l tr := h.keep g.size fun k h1 h2 => g.block k h2 (fun e => by have := hS k e; omega)
theorem ErA.ex {N : Nat} {w : World} {E K t1 : Nat} {l : Int} {tr : ByteArray} (h : ErA N w E K t1 l tr) : EX w K 14 l := by
  obtain ⟨a, cap, B, hx⟩ := h.x
  exact ⟨N, a, cap, B, hx⟩
/-- the machine's tables, in what a run has shown -/
def DP.tbl (p : DP) (t l : Value) : DP := { p with tab := t, liv := l }
/-- what a failure leaves -/
def FailTo (X : RX) (d : MD) (u : World) (E : Nat) (w' : World) : Prop := ∃ N K t1 c1 t2 c2 tr d', u.heap.size ≤ N ∧ Sp X d u d' w' ∧ d'.p = (d.p.tbl (.slice (some ⟨t1, 0, none⟩) 1 c1) (.slice (some ⟨t2, 0, none⟩) 1 c2)).rcd ⟨4, 0, 0, d.line, sE14⟩ ∧ ErA N w' E K t1 d.line tr
/-- the table is made, nothing was put yet -/
structure P0 (N : Nat) (w2 : World) (K B t1 : Nat) (w : World) : Prop where
  x : XO N w K none 0 0 B 0 q0 []
  b : Below N w2 w
  t : w.cell? ⟨t1, 0, none⟩ = some (ptr K)
  tl : t1 < w.heap.size
  k3 : w.cell? ⟨K, 3, none⟩ = some (.int .i64 0)
  n : N ≤ w.heap.size
theorem P0.call {N : Nat} {w2 w w' : World} {K B t1 : Nat} (h : P0 N w2 K B t1 w) (hb : Below w.heap.size w w') : P0 N w2 K B t1 w' :=
  ⟨h.x.call hb, h.b.trans (hb.mono h.n), (hb.cell (p := ⟨t1, 0, none⟩) h.tl).trans h.t, Nat.lt_of_lt_of_le h.tl hb.size, (hb.cell (p := ⟨K, 3, none⟩) h.x.lt).trans h.k3, Nat.le_trans h.n hb.size⟩
theorem P0.drew {N : Nat} {w2 w : World} {K B t1 : Nat} (h : P0 N w2 K B t1 w) : P0 N w2 K B t1 w.drew := h.call (Below.refl _ _).drew
/-- one pair was put -/
structure P1 (N : Nat) (w2 : World) (K B t1 : Nat) (a : Option Addr) (cap : Nat) (w : World) : Prop where
  x : XO N w K a 1 cap B (0 + 1) (q1 14) (places (q1 14) 1)
  b : Below N w2 w
  t : w.cell? ⟨t1, 0, none⟩ = some (ptr K)
  tl : t1 < w.heap.size
  k3 : w.cell? ⟨K, 3, none⟩ = some (.int .i64 0)
  n : N ≤ w.heap.size
  ta : ∀ b, a = some b → t1 < b.block
theorem P1.call {N : Nat} {w2 w w' : World} {K B t1 : Nat} {a : Option Addr} {cap : Nat} (h : P1 N w2 K B t1 a cap w) (hb : Below w.heap.size w w') : P1 N w2 K B t1 a cap w' :=
  ⟨h.x.call hb, h.b.trans (hb.mono h.n), (hb.cell (p := ⟨t1, 0, none⟩) h.tl).trans h.t, Nat.lt_of_lt_of_le h.tl hb.size, (hb.cell (p := ⟨K, 3, none⟩) h.x.lt).trans h.k3, Nat.le_trans h.n hb.size, h.ta⟩
theorem P1.drew {N : Nat} {w2 w : World} {K B t1 : Nat} {a : Option Addr} {cap : Nat} (h : P1 N w2 K B t1 a cap w) : P1 N w2 K B t1 a cap w.drew := h.call (Below.refl _ _).drew
/-- both pairs were put -/
structure P2 (N : Nat) (w2 : World) (K t1 : Nat) (l : Int) (w : World) : Prop where
  x : ∃ a cap B, XO N w K a 2 cap B (0 + 1 + 1) (q2 14 l) (places (q2 14 l) 2)
  b : Below N w2 w
  t : w.cell? ⟨t1, 0, none⟩ = some (ptr K)
  tl : t1 < w.heap.size
  kl : K < w.heap.size
  k3 : w.cell? ⟨K, 3, none⟩ = some (.int .i64 0)
  n : N ≤ w.heap.size
theorem P2.call {N : Nat} {w2 w w' : World} {K t1 : Nat} {l : Int} (h : P2 N w2 K t1 l w) (hb : Below w.heap.size w w') : P2 N w2 K t1 l w' := by
  obtain ⟨a, cap, B, hx⟩ := h.x
  exact ⟨⟨a, cap, B, hx.call hb⟩, h.b.trans (hb.mono h.n), (hb.cell (p := ⟨t1, 0, none⟩) h.tl).trans h.t, Nat.lt_of_lt_of_le h.tl hb.size, Nat.lt_of_lt_of_le h.kl hb.size, (hb.cell (p := ⟨K, 3, none⟩) h.kl).trans h.k3, Nat.le_trans h.n hb.size⟩
/-- a cell of pointers is no table, no map -/
theorem XO.ptr_ne {N : Nat} {w : World} {K : Nat} {a : Option Addr} {n cap B : Nat} {t : Int} {q : Nat → PD} {L : List (Mk × Nat)} (h : XO N w K a n cap B t q L) {t1 : Nat} {p : Option Addr} (ht : w.cell? ⟨t1, 0, none⟩ = some (.pointer p)) : t1 ≠ K ∧ t1 ≠ B := by
  refine ⟨fun e => ?_, fun e => mapIs_ne h.map ht e.symm⟩
  subst e
  rw [h.c0] at ht
  cases ht
theorem P0.put {N : Nat} {w2 w : World} {K B t1 : Nat} (h : P0 N w2 K B t1 w) : Calls Tryz.prog 260 #[.pointer (some ⟨K, 0, none⟩), kC.v, (nI 14).v] w fun e w' => e = .returned (.tuple #[]) ∧ ∃ a cap, P1 N w2 K B t1 a cap w' := by
  refine (putz1 14 h.n h.x).mono ?_
  rintro e w' ⟨rfl, ⟨a, cap, hx, hr⟩, hb, ho, hf⟩
  have hne := h.x.ptr_ne h.t
  have hk := hf t1 h.tl hne.1 hne.2 (fun e => by cases e)
  refine ⟨rfl, a, cap, hx, h.b.trans hb, (World.cell?_of_block (a := ⟨t1, 0, none⟩) hk).trans h.t, Nat.lt_of_lt_of_le h.tl hb.size, (ho 3 (by omega)).trans h.k3, Nat.le_trans h.n hb.size, fun b e => ?_⟩
  rcases hr b e with c | c
  · cases c
  · have := h.tl; omega
theorem P1.put {N : Nat} {w2 w : World} {K B t1 : Nat} {a : Option Addr} {cap : Nat} (l : Int) (h : P1 N w2 K B t1 a cap w) : Calls Tryz.prog 260 #[.pointer (some ⟨K, 0, none⟩), kL.v, (nI l).v] w fun e w' => e = .returned (.tuple #[]) ∧ P2 N w2 K t1 l w' := by
  refine (putz2 14 l h.n h.x).mono ?_
  rintro e w' ⟨rfl, ⟨a', cap', hx, hr⟩, hb, ho, hf⟩
  have hne := h.x.ptr_ne h.t
  have hk := hf t1 h.tl hne.1 hne.2 (fun e => by
    cases a with
    | none => cases e
    | some b =>
      obtain ⟨b, off, sp⟩ := b
      have h1 : t1 < b := h.ta _ rfl
      simp [Value.ownBlock] at e
      omega)
  exact ⟨rfl, ⟨a', cap', B, hx⟩, h.b.trans hb, (World.cell?_of_block (a := ⟨t1, 0, none⟩) hk).trans h.t, Nat.lt_of_lt_of_le h.tl hb.size, hx.lt, (ho 3 (by omega)).trans h.k3, Nat.le_trans h.n hb.size⟩
theorem NT.p0 {X : RX} {d : MD} {u w' : World} {K B t1 c1 t2 c2 : Nat} (h : NT X d u K B t1 c1 t2 c2 w') : P0 u.heap.size w' K B t1 w' :=
  ⟨h.xo, Below.refl _ _, h.t, h.tl, h.k.1.cell 3 rfl, h.s.g.size⟩

set_option maxRecDepth 100000 in
set_option maxHeartbeats 8000000 in
theorem failure_calls (X : RX) (U : Ux) (d : MD) (u : World) (h : St X d u) (hU : U.ok X) (hnm : X.W.cell? ⟨U.ub, U.uo, none⟩ = some (.string sMain)) (hln : I64r d.line) (hT : TabX X) (hn : d.recs.length < 5000) (ht : d.tab = .slice none 0 0) (hl : d.liv = .slice none 0 0) :
    Calls Tryz.prog 213 #[ptr X.M, .int .i64 14] u fun e w' => ∃ E, e = .returned (ptr E) ∧ FailTo X d u E w' := by
  have HS : Hid (St X d u) := h
  have HT : Hid (TabX X) := hT
  have HU : Hid (U.ok X ∧ X.W.cell? ⟨U.ub, U.uo, none⟩ = some (.string sMain) ∧ I64r d.line ∧ d.recs.length < 5000) := ⟨hU, hnm, hln, hn⟩
  have HL : Hid (d.tab = .slice none 0 0 ∧ d.liv = .slice none 0 0) := ⟨ht, hl⟩
  have m23 : u.cell? ⟨X.M, 23, none⟩ = some (ptr X.T) := h.m.1.cell 23 rfl
  have hMl := h.m.1.1
  clear h hU hnm hln hn ht hl hT
  go_enter Tryz.func213, Tryz.ntmps213
  go_wp2_with fail
  refine (here_calls X d _ HS.out).mono ?_
  rintro e w1 ⟨rfl, hb1⟩
  have HS1 : Hid (St X d w1 ∧ Below u.heap.size u w1) := ⟨HS.out.call hb1, hb1⟩
  clear hb1 m23 hMl
  obtain ⟨ln, hln⟩ : ∃ ln, d.line = ln := ⟨_, rfl⟩
  rw [hln]
  have HLn : Hid (d.line = ln) := hln
  clear hln
  go_wp2_with fail
  refine (newTable_calls X d _ HS1.out.1 HL.out.1 HL.out.2).mono ?_
  rintro e w2 ⟨K, B, t1, c1, t2, c2, rfl, hN⟩
  have HN : Hid (NT X d w1 K B t1 c1 t2 c2 w2) := hN
  have HP : Hid (P0 w1.heap.size w2 K B t1 w2) := hN.p0
  clear hN
  go_upto_region 3 with fail
  go_region_with (first
    | (go_at_call 48; refine (textV_calls _ _).mono ?_; rintro e w3 ⟨rfl, hb3⟩; replace HP : Hid (P0 w1.heap.size w2 K B t1 w3) := (by first | exact HP.out.call hb3 | exact HP.out.drew.call hb3); clear hb3)
    | (go_at_call 261; refine (numberV_calls _ _).mono ?_; rintro e w4 ⟨rfl, hb4⟩; replace HP : Hid (P0 w1.heap.size w2 K B t1 w4) := (by first | exact HP.out.call hb4 | exact HP.out.drew.call hb4); clear hb4)
    | (go_at_call 260; refine HP.out.put.mono ?_; rintro e w5 ⟨rfl, a, cap, hp5⟩; have HQ : Hid (P1 w1.heap.size w2 K B t1 a cap w5) := hp5; clear hp5 HP))
  all_goals
    go_upto_region 4 with fail
    go_region_with (first
      | (go_at_call 48; refine (textV_calls _ _).mono ?_; rintro e w6 ⟨rfl, hb6⟩; replace HQ : Hid (P1 w1.heap.size w2 K B t1 a cap w6) := (by first | exact HQ.out.call hb6 | exact HQ.out.drew.call hb6); clear hb6)
      | (go_at_call 261; refine (numberV_calls _ _).mono ?_; rintro e w7 ⟨rfl, hb7⟩; replace HQ : Hid (P1 w1.heap.size w2 K B t1 a cap w7) := (by first | exact HQ.out.call hb7 | exact HQ.out.drew.call hb7); clear hb7)
      | (go_at_call 260; refine (HQ.out.put ln).mono ?_; rintro e w8 ⟨rfl, hp8⟩; have HR : Hid (P2 w1.heap.size w2 K t1 ln w8) := hp8; clear hp8 HQ))
  all_goals
    go_wp2_with fail
    refine (tvalue_calls K 0 _ HR.out.kl HR.out.k3).mono ?_
    rintro e w9 ⟨rfl, hb9⟩
    replace HR : Hid (P2 w1.heap.size w2 K t1 ln w9) := HR.out.call hb9
    clear hb9
    obtain ⟨d3, hd3⟩ : ∃ d3 : MD, d3 = { d with tab := .slice (some ⟨t1, 0, none⟩) 1 c1, liv := .slice (some ⟨t2, 0, none⟩) 1 c2 } := ⟨_, rfl⟩
    have HS9 : Hid (Sp X d w1 d3 w9) := by rw [hd3]; exact HN.out.past HS1.out.1 HR.out.b
    have HD3 : Hid (d3.tab = .slice (some ⟨t1, 0, none⟩) 1 c1 ∧ d3.recs = d.recs ∧ d3.line = ln ∧ d3.p = d.p.tbl (.slice (some ⟨t1, 0, none⟩) 1 c1) (.slice (some ⟨t2, 0, none⟩) 1 c2) ∧ ∀ k, stB X d3 k → stB X d k) := by rw [hd3]; exact ⟨rfl, rfl, HLn.out, rfl, fun _ e => e⟩
    clear hd3
    have hE9 : ∀ w', Below w9.heap.size w9 w' → EX w' K 14 ln := fun w' hb => by
      obtain ⟨a, cap, B, hx⟩ := (HR.out.call hb).x
      exact ⟨_, a, cap, B, hx⟩
    have hTr9 : ∀ wz, Below w9.heap.size w9 wz → Calls Tryz.prog 232 #[ptr X.M] wz fun e w' => (∃ tr, e = .returned (.string tr)) ∧ Below wz.heap.size wz w' := fun wz hb => trace_calls X U d3 wz (HS9.out.s.call hb) HU.out.1 HU.out.2.1 (by rw [HD3.out.2.2.1, ← HLn.out]; exact HU.out.2.2.1) HT.out
    have hTh := throw_calls X d3 w9 HS9.out.s t1 c1 K ln (by rw [HD3.out.2.1]; exact HU.out.2.2.2) HD3.out.1 HR.out.tl HR.out.t hE9 HT.out hTr9
    rw [HD3.out.2.2.1] at hTh
    have HTh : Hid (Calls Tryz.prog 181 #[ptr X.M, vOf 5 0 0 ⟨#[]⟩ 0] w9 fun e w' => ∃ E tr, e = .returned (ptr E) ∧ w9.heap.size ≤ E ∧ OwnB w' E (thE tr) ∧ To X d3 w9 (d3.p.rcd ⟨4, 0, 0, ln, sE14⟩) w') := hTh
    clear hTh hTr9 hE9
    go_wp2_with fail
    refine HTh.out.mono ?_
    rintro e w10 ⟨E, tr, rfl, hE, hOE, d4, hs4, e4⟩
    have HF : Hid (FailTo X d u E w10) := by
      refine ⟨w1.heap.size, K, t1, c1, t2, c2, tr, d4, HS1.out.2.size, (Sp.below HS.out HS1.out.2).trans (HS9.out.trans hs4), ?_, ?_⟩
      · rw [e4, HD3.out.2.2.2.1, HLn.out]
      · have h9 : w1.heap.size ≤ w9.heap.size := HR.out.n
        have hk : ∀ k, w1.heap.size ≤ k → k < w9.heap.size → w10.heap[k]? = w9.heap[k]? := fun k h1 h2 => hs4.g.block k h2 (fun e => by
          have := HS1.out.1.lt (HD3.out.2.2.2.2 k e)
          omega)
        obtain ⟨a, cap, B, hx⟩ := HR.out.x
        rw [HLn.out]
        have ht1 : w1.heap.size ≤ t1 := HN.out.tn
        exact ⟨hOE, Nat.le_trans h9 hE, (World.cell?_of_block (a := ⟨t1, 0, none⟩) (hk t1 ht1 HR.out.tl)).trans HR.out.t, ht1, Nat.lt_of_lt_of_le HR.out.tl hs4.g.size, a, cap, B, hx.keep hs4.g.size hk⟩
    clear hE hOE hs4 e4
    go_wp2_with fail
    go_ret
    exact ⟨E, rfl, HF.out⟩
end Go.Proofs.YtdialodjllpgaaaGreatDoor

/-! A step of nought: the error leaves the loop, its statement, the text. -/
namespace Go.Proofs.YtdialodjllpgaaaGreatDoor
open Go.RowKit Go.Shelf
attribute [local go_sem] run_store_float
attribute [local go_sem] Oper.semAt_some
attribute [local go_sem ↓] Go.wp_at_zero Go.wp_at_succ

theorem FailTo.step {X : RX} {d d2 : MD} {u w2 w' : World} {E : Nat} (h : Sp X d u d2 w2) (e : d2.p = d.p) (k : FailTo X d2 w2 E w') : FailTo X d u E w' := by
  obtain ⟨N, K, t1, c1, t2, c2, tr, d', h1, h2, h3, h4⟩ := k
  have hl : d2.line = d.line := congrArg DP.line e
  exact ⟨N, K, t1, c1, t2, c2, tr, d', Nat.le_trans h.g.size h1, h.trans h2, by rw [h3, e, hl], hl ▸ h4⟩
/-- what the run stands on, where the step is nought -/
structure ZX (X : RX) (U : Ux) (P : PX) (L : LX) (Z : MX) (a b : Int) : Prop where
  t : TabX X
  p : P.ok X
  l : L.ok X P a b 0
  z : Z.ok X P L
  u : U.ok X
  nm : X.W.cell? ⟨U.ub, U.uo, none⟩ = some (.string sMain)
theorem fail_at {X : RX} {U : Ux} {P : PX} {L : LX} {Z : MX} {a b : Int} {d d2 : MD} {u w2 : World} (hX : ZX X U P L Z a b) (hD : I64r d.line ∧ d.recs.length < 5000 ∧ d.tab = .slice none 0 0 ∧ d.liv = .slice none 0 0) (h : Sp X d u d2 w2) (e : d2.p = d.p) (wz : World) (hb : Below w2.heap.size w2 wz) :
    Calls Tryz.prog 213 #[ptr X.M, .int .i64 14] wz fun e w' => ∃ E, e = .returned (ptr E) ∧ FailTo X d u E w' := by
  have e1 : d2.line = d.line := congrArg DP.line e
  have e2 : d2.recs = d.recs := congrArg DP.recs e
  have e3 : d2.tab = d.tab := congrArg DP.tab e
  have e4 : d2.liv = d.liv := congrArg DP.liv e
  refine (failure_calls X U d2 wz (h.s.call hb) hX.u hX.nm (by rw [e1]; exact hD.1) hX.t (by rw [e2]; exact hD.2.1) (e3.trans hD.2.2.1) (e4.trans hD.2.2.2)).mono ?_
  rintro ee w' ⟨E, h1, h2⟩
  exact ⟨E, h1, FailTo.step (h.call hb) e h2⟩
set_option maxRecDepth 100000 in
set_option maxHeartbeats 8000000 in
theorem countZ_calls (X : RX) (U : Ux) (P : PX) (L : LX) (Z : MX) (a b : Int) (d : MD) (u : World) (h : St X d u) (hX : ZX X U P L Z a b) (hln : I64r d.line) (hlen : d.held.length ≤ 900) (hl : d.recs.length ≤ 100) (ht : d.tab = .slice none 0 0) (hlv : d.liv = .slice none 0 0) :
    Calls Tryz.prog 205 #[ptr X.F, ptr L.c1, ptr L.c2, ptr L.c3, ptr L.c4] u fun e w' => ∃ E, e = .panicked (thC E) ∧ FailTo X d u E w' := by
  have HS : Hid (St X d u) := h
  have HX : Hid (ZX X U P L Z a b) := hX
  have HD : Hid (I64r d.line ∧ d.recs.length < 5000 ∧ d.tab = .slice none 0 0 ∧ d.liv = .slice none 0 0) := ⟨hln, by omega, ht, hlv⟩
  clear h hX hln ht hlv hl
  refine callsIn_wide.1 (callsIn_of_wp_marks (F := Fence.wide) (n := 3) Tryz.func205 rfl trivial ?_ rfl)
  simp only [Tryz.ntmps205, List.size_toArray, List.length_cons, List.length_nil, Nat.reduceAdd, Nat.reduceSub, Array.replicate_succ, Array.replicate_zero, List.push_toArray, List.append_toArray, List.nil_append, List.cons_append]
  refine wpIn_wide.2 ?_
  go_upto_region 1 with fail
  obtain ⟨w1, hw1⟩ : ∃ w1, (u.alloc (.cells #[ptr X.F] 124)).alloc (.cells #[.nilIface] 127) = w1 := ⟨_, rfl⟩
  obtain ⟨E, hE⟩ : ∃ E, u.heap.size = E := ⟨_, rfl⟩
  have H1 : Hid (Sp X d u d w1) := by rw [← hw1]; exact ((Sp.refl HS.out).alloc _).alloc _
  have HFb : Hid (Bx X d w1 E #[ptr X.F]) := by rw [← hw1, ← hE]; exact (Bx.new HS.out _ _).alloc _
  rw [hw1, hE]
  clear hw1 hE
  have k1 := (HX.out.l.c1.at H1.out.s).cell 0 rfl
  have k2 := (HX.out.l.c2.at H1.out.s).cell 0 rfl
  have k5 := HFb.out.cell 0 rfl
  have HS1 : Hid (St X d w1.drew) := H1.out.s.drew
  have HSS : Hid (∀ w', Sp X d u d w' → Bx X d w' E #[ptr X.F] → w'.cell? ⟨L.c1, 0, none⟩ = some (ptr X.M) ∧ w'.cell? ⟨L.c2, 0, none⟩ = some (onesV L.o3) ∧ w'.cell? ⟨E, 0, none⟩ = some (ptr X.F)) := fun w' hs hb => ⟨(HX.out.l.c1.at hs.s).cell 0 rfl, (HX.out.l.c2.at hs.s).cell 0 rfl, hb.cell 0 rfl⟩
  refine wp_mono (Q := fun e a w' => a.defers = [] ∧ ∃ E3, e = .panic (thC E3) ∧ FailTo X d u E3 w') ?reg ?go
  case go =>
    rintro e a w' ⟨hd, E3, rfl, h3⟩
    simp only [Exit.then]
    show LeavesInM _ _ _ _ _ _ a.defers _ _
    rw [hd]
    exact ⟨E3, rfl, h3⟩
  refine wp_region_held_drew (S := fun w' => w'.cell? ⟨L.c1, 0, none⟩ = some (ptr X.M) ∧ w'.cell? ⟨L.c2, 0, none⟩ = some (onesV L.o3) ∧ w'.cell? ⟨E, 0, none⟩ = some (ptr X.F)) (by kernel_rfl) ⟨k1, k2, k5⟩ (fun hHold => ?_)
  refine wpAnyH_take (i := 0) (oi := ⟨some 10, _, _, _, _, _⟩) (v := ?v0) rfl (by kernel_rfl) (by kernel_rfl) (by kernel_rfl) (fun _ _ _ h => h) (Or.inl ⟨by rfl, ?hy0⟩) (by assumption) ?rest0
  case hy0 => (intro wz hSw; (try dsimp only at hSw); go_simp <;> with_reducible rfl)
  try simp only [Act.put, List.setIfInBounds_toArray, List.set_cons_zero, List.set_cons_succ]
  refine wpAnyH_take (i := 1) (oi := ⟨some 11, _, _, _, _, _⟩) (v := ?v1) rfl (by kernel_rfl) (by kernel_rfl) (by kernel_rfl) (fun _ _ _ h => h) (Or.inl ⟨by rfl, ?hy1⟩) (by assumption) ?rest1
  case hy1 => (intro wz hSw; (try dsimp only at hSw); go_simp <;> with_reducible rfl)
  try simp only [Act.put, List.setIfInBounds_toArray, List.set_cons_zero, List.set_cons_succ]
  refine wpAnyH_take (i := 2) (oi := ⟨some 12, _, _, _, _, _⟩) (v := ?v2) rfl (by kernel_rfl) (by kernel_rfl) (by kernel_rfl) (fun _ _ _ h => h) (Or.inl ⟨by rfl, ?hy2⟩) (by assumption) ?rest2
  case hy2 => (intro wz hSw; (try dsimp only at hSw); go_simp <;> with_reducible rfl)
  try simp only [Act.put, List.setIfInBounds_toArray, List.set_cons_zero, List.set_cons_succ]
  refine wpAnyH_ready (rs := [3]) (by kernel_rfl) (by simp) ?_
  refine AllReadyH.cons (o := ⟨some 13, _, _, _, _, _⟩) rfl (fun K hK => ?_) AllReadyH.nil
  go_simp
  refine (ones_calls X d L.o3 L.oa 3 L.oc L.Bs (v3 a b 0) _ HS1.out HX.out.l.o3.1 HX.out.l.o3.2 HX.out.l.li (by omega) (by omega) (by omega)).mono ?_
  rintro e w2 ⟨g2, c2, rfl, ho2, d2, hs2, e2, hg2⟩
  have H2 : Hid (Sp X d u d2 w2 ∧ d2.p = d.p) := ⟨H1.out.drew.trans hs2, e2⟩
  have HB2 : Hid (B3 g2 a b 0 w2) := b3_of ho2
  have HF2 : Hid (∀ wz, Below w2.heap.size w2 wz → Calls Tryz.prog 213 #[ptr X.M, .int .i64 14] wz fun e w' => ∃ E, e = .returned (ptr E) ∧ FailTo X d u E w') := fail_at HX.out HD.out H2.out.1 H2.out.2
  have HFb2 : Hid (Bx X d2 w2 E #[ptr X.F]) := HFb.out.step ((Sp.refl H1.out.s).drew.trans hs2)
  clear ho2 hs2 e2 hg2
  dsimp only
  refine hK.out _ _ ⟨(HX.out.l.c1.at H2.out.1.s).cell 0 rfl, (HX.out.l.c2.at H2.out.1.s).cell 0 rfl, HFb2.out.cell 0 rfl⟩ (fun hHeld => ?_)
  clear hK K hHold
  try simp only [Act.put, List.setIfInBounds_toArray, List.set_cons_zero, List.set_cons_succ]
  refine wpAnyH_ready (rs := [4]) (by kernel_rfl) (by simp) ?_
  refine AllReadyH.cons (o := ⟨some 14, _, _, _, _, _⟩) rfl (fun K hK => ?_) AllReadyH.nil
  go_simp
  refine (turnsZ_calls X.M g2 c2 a b (fun E w' => FailTo X d u E w') _ HB2.out HF2.out).mono ?_
  rintro e w3 ⟨E3, rfl, h3⟩
  exact ⟨E3, rfl, h3⟩
end Go.Proofs.YtdialodjllpgaaaGreatDoor

/-! A step of nought: the error leaves the statement, the text. -/
namespace Go.Proofs.YtdialodjllpgaaaGreatDoor
open Go.RowKit
attribute [local go_sem] run_store_float
attribute [local go_sem ↓] Go.wp_at_zero Go.wp_at_succ

/-- an error is on its way; ahead of it q was shown -/
def PanTo (X : RX) (d : MD) (u : World) (q : DP) (E : Nat) (w' : World) : Prop := ∃ N K t1 c1 t2 c2 tr d', u.heap.size ≤ N ∧ Sp X d u d' w' ∧ d'.p = (q.tbl (.slice (some ⟨t1, 0, none⟩) 1 c1) (.slice (some ⟨t2, 0, none⟩) 1 c2)).rcd ⟨4, 0, 0, q.line, sE14⟩ ∧ ErA N w' E K t1 q.line tr
theorem FailTo.pan {X : RX} {d d3 : MD} {u w3 w' : World} {q : DP} {E : Nat} (h : Sp X d u d3 w3) (e : d3.p = q) (k : FailTo X d3 w3 E w') : PanTo X d u q E w' := by
  obtain ⟨N, K, t1, c1, t2, c2, tr, d', h1, h2, h3, h4⟩ := k
  subst e
  exact ⟨N, K, t1, c1, t2, c2, tr, d', Nat.le_trans h.g.size h1, h.trans h2, h3, h4⟩
theorem PanTo.first {X : RX} {d : MD} {u u' w' : World} {q : DP} {E : Nat} (h : Sp X d u d u') (k : PanTo X d u' q E w') : PanTo X d u q E w' := by
  obtain ⟨N, K, t1, c1, t2, c2, tr, d', h1, h2, h3, h4⟩ := k
  exact ⟨N, K, t1, c1, t2, c2, tr, d', Nat.le_trans h.g.size h1, h.trans h2, h3, h4⟩
/-- what a text shows whose loop's step is nought, ahead of the error -/
def DP.zr (p : DP) (L0 : Int) : DP := (p.tick.ln L0).rcd ⟨1, 0, 0, L0, ⟨#[]⟩⟩
set_option maxRecDepth 100000 in
set_option maxHeartbeats 8000000 in
theorem fstmtZ_calls (X : RX) (U : Ux) (P : PX) (L : LX) (Z : MX) (a b : Int) (d : MD) (u : World) (h : St X d u) (hX : ZX X U P L Z a b) (hzl : I64r Z.line) (hlen : d.held.length ≤ 900) (hl : d.recs.length ≤ 50) (ht : d.ti ≤ 50) (htb : d.tab = .slice none 0 0) (hlv : d.liv = .slice none 0 0) :
    Calls Tryz.prog 143 #[ptr X.F, ptr Z.s1, ptr Z.s2, ptr Z.s3] u fun e w' => ∃ E, e = .panicked (thC E) ∧ PanTo X d u (d.p.zr Z.line) E w' := by
  have HS : Hid (St X d u) := h
  have HX : Hid (ZX X U P L Z a b) := hX
  have HZL : Hid (I64r Z.line ∧ d.tab = .slice none 0 0 ∧ d.liv = .slice none 0 0) := ⟨hzl, htb, hlv⟩
  have b1 := (hX.z.s1.at h).cell 0 rfl
  have bb := (hX.p.bb.at h).cell 0 rfl
  clear h hX hzl htb hlv
  go_enter Tryz.func143, Tryz.ntmps143
  go_wp2_with fail
  refine (tick_calls X d _ HS.out (by omega)).mono ?_
  rintro e w1 ⟨rfl, d1, hs1', e1⟩
  have H1 : Hid (Sp X d u d1 w1 ∧ d1.p = d.p.tick) := ⟨hs1', e1⟩
  have hli : d1.line = d.line := congrArg DP.line e1
  clear hs1' e1 b1 bb
  have f12 : w1.cell? ⟨X.F, 12, none⟩ = some (.int .i64 d.line) := by rw [← hli]; exact H1.out.1.s.f.1.cell 12 rfl
  have fz := H1.out.1.s.f.2
  have n1 := (HX.out.z.s2.at H1.out.1.s).cell 1 HX.out.z.ln
  have hne : X.F ≠ Z.s2 := fun e => by have h1 := HX.out.z.s2.1.1; have h2 := HS.out.x.f; omega
  go_upto_region 4 with fail
  obtain ⟨d2, w2, hw2, hs2', e2⟩ : ∃ d2 w2, w1.setCell ⟨X.F, 12, none⟩ (.int .i64 Z.line) = w2 ∧ Sp X d1 w1 d2 w2 ∧ d2.p = d1.p.ln Z.line := ⟨_, _, rfl, Sp.line H1.out.1.s Z.line, rfl⟩
  have H2 : Hid (Sp X d u d2 w2 ∧ d2.p = d.p.tick.ln Z.line) := ⟨H1.out.1.trans hs2', by rw [e2, H1.out.2]⟩
  rw [hw2]
  clear hw2 hs2' e2 H1 f12 fz n1 hli
  have b1 := (HX.out.z.s1.at H2.out.1.s).cell 0 rfl
  have bb := (HX.out.p.bb.at H2.out.1.s).cell 0 rfl
  have f1 := H2.out.1.s.f.1.cell 1 rfl
  have n1 := (HX.out.z.s2.at H2.out.1.s).cell 1 HX.out.z.ln
  have HS2 : Hid (St X d2 w2.drew) := H2.out.1.s.drew
  have hl2 : d2.recs.length ≤ 50 := by have : d2.recs = d.recs := congrArg DP.recs H2.out.2; rw [this]; exact hl
  go_cut [6] from 22 to 32 (fun v wc => v = .int .i64 d.line ∧ Hid (To X d u (d.p.zr Z.line) wc))
  case first =>
    go_region_with (go_at_call 145; refine (record_calls X d2 1 0 Z.line ⟨#[]⟩ _ HS2.out (by omega)).mono ?_; rintro e w3 ⟨rfl, ht3⟩)
    all_goals
      have HF : Hid (To X d u (d.p.zr Z.line) w3) := by rw [H2.out.2] at ht3; exact To.step H2.out.1.drew ht3
      clear ht3
      go_wp2_with fail
      go_meet
      exact ⟨rfl, HF⟩
  case rest =>
    obtain ⟨rfl, HT3⟩ := hcut
    obtain ⟨d3, hs3, e3⟩ := HT3.out
    have H3 : Hid (Sp X d u d3 wc ∧ d3.p = d.p.zr Z.line) := ⟨hs3, e3⟩
    clear hs3 e3 H2 HS2 b1 bb f1 n1 HT3
    have s3 := (HX.out.z.s3.at H3.out.1.s).cell 0 rfl
    have hh3 : d3.held.length ≤ 900 := by have : d3.held = d.held := congrArg DP.held H3.out.2; rw [this]; exact hlen
    have hl3 : d3.recs.length ≤ 100 := by
      have : d3.recs = d.recs ++ [⟨1, 0, 0, Z.line, ⟨#[]⟩⟩] := congrArg DP.recs H3.out.2
      rw [this]; simp; omega
    have HD3 : Hid (d3.line = Z.line ∧ d3.tab = .slice none 0 0 ∧ d3.liv = .slice none 0 0) := ⟨congrArg DP.line H3.out.2, (congrArg DP.tab H3.out.2 : d3.tab = d.tab).trans HZL.out.2.1, (congrArg DP.liv H3.out.2 : d3.liv = d.liv).trans HZL.out.2.2⟩
    go_wp2_with fail
    refine (countZ_calls X U P L Z a b d3 _ H3.out.1.s HX.out (by rw [HD3.out.1]; exact HZL.out.1) hh3 hl3 HD3.out.2.1 HD3.out.2.2).mono ?_
    rintro e w4 ⟨E, rfl, h4⟩
    have H4 : Hid (PanTo X d u (d.p.zr Z.line) E w4) := FailTo.pan H3.out.1 H3.out.2 h4
    clear h4
    go_wp2_with fail
    simp [bodyPost]
    exact H4.out
set_option maxRecDepth 100000 in
set_option maxHeartbeats 8000000 in
theorem textZ_calls (X : RX) (U : Ux) (P : PX) (L : LX) (Z : MX) (a b : Int) (d : MD) (u : World) (h : St X d u) (hX : ZX X U P L Z a b) (hzl : I64r Z.line) (hlen : d.held.length ≤ 900) (hl : d.recs.length ≤ 50) (ht : d.ti ≤ 50) (htb : d.tab = .slice none 0 0) (hlv : d.liv = .slice none 0 0) :
    Calls Tryz.prog 166 #[ptr X.F, ptr Z.k1] u fun e w' => ∃ E, e = .panicked (thC E) ∧ PanTo X d u (d.p.zr Z.line) E w' := by
  have HS : Hid (St X d u) := h
  have HX : Hid (ZX X U P L Z a b) := hX
  have HZL : Hid (I64r Z.line ∧ d.tab = .slice none 0 0 ∧ d.liv = .slice none 0 0) := ⟨hzl, htb, hlv⟩
  have k1 := (hX.z.k1.at h).cell 0 rfl
  have f10 := h.f.1.cell 10 rfl
  clear h hX hzl htb hlv
  go_enter Tryz.func166, Tryz.ntmps166
  go_wp2_with fail
  clear k1 f10
  refine wp_loop_rounds 1 ?_
  have ka := HX.out.z.ka.at HS.out
  rw [rounds_succ]
  go_wp2_with fail
  refine (fstmtZ_calls X U P L Z a b d _ HS.out HX.out HZL.out.1 hlen hl ht HZL.out.2.1 HZL.out.2.2).mono ?_
  rintro e w4 ⟨E, rfl, h4⟩
  have H4 : Hid (PanTo X d u (d.p.zr Z.line) E w4) := h4
  clear h4
  go_wp2_with fail
  simp [bodyPost]
  exact H4.out
end Go.Proofs.YtdialodjllpgaaaGreatDoor

/-! A step of nought: the error is recovered. -/
namespace Go.Proofs.YtdialodjllpgaaaGreatDoor
open Go.RowKit
attribute [local go_sem] run_store_float
attribute [local go_sem ↓] Go.wp_at_zero Go.wp_at_succ

abbrev thrV (E : Nat) : Value := .iface 117 (ptr E)
theorem ta_any_thrown (E : Nat) (w : World) : (Instr.typeAssert (thrV E) 20 117 true).run Tryz.prog w = .ok (.tuple #[ptr E, .bool true]) w := by kernel_rfl
set_option maxRecDepth 100000 in
set_option maxHeartbeats 4000000 in
theorem wayOut_calls (E : Nat) (u : World) : Calls Tryz.prog 147 #[thrV E] u fun e w' => e = .returned (thrV E) ∧ w' = u := by
  have h1 := ta_any_thrown E
  go_enter Tryz.func147, Tryz.ntmps147
  go_wp2_with fail
  go_ret
  exact ⟨rfl, rfl⟩
/-- the panic, recovered -/
abbrev thD (E : Nat) : List PanicEntry := [{ v := .iface 117 (ptr E), recovered := true }]
set_option maxRecDepth 100000 in
set_option maxHeartbeats 8000000 in
theorem at1_catch (E wb tb hb T : Nat) (ha : Option Addr) (hc : Nat) (w : World) (hha : ha = none ∨ ∃ g, ha = some ⟨g, 0, none⟩) (hc0 : ha = none → hc = 0) (c1 : w.cell? ⟨wb, 0, none⟩ = some .nilIface) (z1 : ∀ o, w.frozen? ⟨wb, o, none⟩ = false) (c2 : w.cell? ⟨tb, 0, none⟩ = some (ptr T)) (c3 : w.cell? ⟨hb, 0, none⟩ = some (.int .i64 0)) (c4 : w.cell? ⟨T, 8, none⟩ = some (.slice ha 0 hc)) (z4 : ∀ o, w.frozen? ⟨T, o, none⟩ = false) (n1 : wb ≠ tb) (n2 : wb ≠ hb) (n3 : wb ≠ T) :
    CallsD Tryz.prog 146 #[ptr wb, ptr tb, ptr hb] (.panicking (thC E)) w fun e u' w' => e = .returned (.tuple #[]) ∧ u' = .panicking (thD E) ∧ w' = ((w.setCell ⟨wb, 0, none⟩ (thrV E)).setCell ⟨T, 8, none⟩ (.slice ha 0 hc)).drew := by
  refine callsD_of_wpS Tryz.func146 rfl fun c₀ cs hu => ?_
  apply wpS_seq
  apply wpS_region
  simp [wpOpsS, go_sem, recoverD, hu, Tryz.ntmps146, Exit.thenS]
  apply wpS_seq
  apply wpS_region
  simp [wpOpsS, go_sem, Exit.thenS, Act.eval, Array.replicate]
  refine wpS_cond (t := true) (by simp [Act.eval]) ?_
  simp only [if_true]
  refine wpS_of_wp ?_
  refine wp_mono (Q := fun e a w' => e = .normal ∧ a.defers = [] ∧ w' = ((w.setCell ⟨wb, 0, none⟩ (thrV E)).setCell ⟨T, 8, none⟩ (.slice ha 0 hc)).drew) ?wk ?go
  case go =>
    rintro e a w' ⟨rfl, hd, rfl⟩
    cases c₀
    simp_all [bodyPostS, results, Tryz.results146]
  rcases hha with rfl | ⟨g, rfl⟩
  · obtain rfl : hc = 0 := hc0 rfl
    clear hc0
    go_wp2_with fail
    refine (wayOut_calls E _).mono ?_
    rintro e w1 ⟨rfl, rfl⟩
    go_wp2_with fail
    go_region_with fail
    all_goals exact ⟨rfl, rfl, rfl⟩
  · clear hc0
    by_cases hcz : hc = 0
    · subst hcz
      go_wp2_with fail
      refine (wayOut_calls E _).mono ?_
      rintro e w1 ⟨rfl, rfl⟩
      go_wp2_with fail
      go_region_with fail
      all_goals exact ⟨rfl, rfl, rfl⟩
    · go_wp2_with fail
      refine (wayOut_calls E _).mono ?_
      rintro e w1 ⟨rfl, rfl⟩
      go_wp2_with fail
      go_region_with fail
      all_goals exact ⟨rfl, rfl, rfl⟩
end Go.Proofs.YtdialodjllpgaaaGreatDoor
