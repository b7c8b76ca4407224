import Derived.Test.YtiidepafifodjaaTabQ
import Derived.Test.YtiidepafifodjaaTabO
import Derived.Test.YtiidepafifodjaaPutG
/-! Tables: the specification's length. -/
namespace Go.Proofs.Ytiidepafifodjaa
open Go.RowKit
attribute [local go_sem] run_store_float
attribute [local go_sem ↓] Go.wp_at_zero Go.wp_at_succ

theorem iv_ok (i : Int) : kOk (iv i) = true := by
  have o : okB 2 i 0 ⟨#[]⟩ 0 = true := by simp [okB, ueB, usB, se, fz, order00]
  simp [kOk, kc, kv, iv, o]
theorem at_pos {q : Nat → PD} {n i : Nat} (h : 0 ≤ atI q (mk (iv (i : Int))) n) : pres q n i := by
  unfold atI at h
  cases hf : fnd q (mk (iv (i : Int))) n with
  | none => rw [hf] at h; simp at h
  | some j => obtain ⟨h1, h2⟩ := fnd_at hf; exact ⟨j, h1, h2⟩
theorem at_neg {q : Nat → PD} {n i : Nat} (h : ¬ 0 ≤ atI q (mk (iv (i : Int))) n) : ¬ pres q n i := by
  rintro ⟨j, h1, h2⟩
  unfold atI at h
  cases hf : fnd q (mk (iv (i : Int))) n with
  | none => exact fnd_no hf j h1 h2
  | some j => rw [hf] at h; simp at h
theorem pres_more {q : Nat → PD} {n k : Nat} (h : ∀ i, i < k → pres q n (i + 1)) (hk : pres q n (k + 1)) : ∀ i, i < k + 1 → pres q n (i + 1) := fun i hi => by
  by_cases e : i = k
  · subst e; exact hk
  · exact h i (by omega)

end Go.Proofs.Ytiidepafifodjaa

/-! Tables: Length, both. -/
namespace Go.Proofs.Ytiidepafifodjaa
open Go.RowKit
attribute [local go_sem] run_store_float
attribute [local go_sem ↓] Go.wp_at_zero Go.wp_at_succ

theorem XBox.new {w : World} {b : Nat} {a : Option Addr} {n cap B : Nat} {t : Int} {q : Nat → PD} {T : TypeId} (ho : w.ownsRow b T 11 (.slice a n cap) n (cellsOf q n)) (hM : MapIs w B (places q n)) (K : TypeId) :
    XBox (w.alloc (.cells #[.slice a n cap, .map (some B), .int .i64 t] K)) w.heap.size a n cap B t q :=
  ⟨by simp, by simp, by simp, by simp, (own_tab ho).alloc _, hM.alloc _⟩

def LenSays (n : Nat) (t : Int) (q : Nat → PD) (e : Ending) : Prop := ∃ r : Nat, e = .returned (.int .i64 (r : Int)) ∧ ((TabOk n t q ∧ LenIs q n r) ∨ (¬ TabOk n t q ∧ r = 0))

set_option maxRecDepth 100000 in
set_option maxHeartbeats 2000000 in
theorem implLength_calls (a : Option Addr) (n cap : Nat) (t : Int) (q : Nat → PD) (w : World) (hn : n ≤ 1048576) (hq : ∀ i, i < n → (q i).wf) (hT : Tab w a n q) :
    Calls Try.prog 83 #[tOf a n cap t] w fun e w' => LenSays n t q e ∧ Below w.heap.size w w' := by
  have hQ : Hid (∀ i, i < n → (q i).wf) := hq
  have HT : Hid (Tab w a n q) := hT
  clear hq hT
  go_enter Try.func83, Try.ntmps83
  go_wp2_with fail
  refine (index_calls a n cap t q _ hn hQ.out (HT.out.alloc _)).mono ?_
  rintro e w2 ⟨⟨hok, a', cap', B, rfl, _, ho, hM⟩ | ⟨hok, rfl⟩, hb2⟩
  · have HX : Hid (XBox (w2.alloc (.cells #[.slice a' n cap', .map (some B), .int .i64 t] 115)) w2.heap.size a' n cap' B t q) := XBox.new ho hM _
    have HB : Hid (Below w.heap.size w (w2.alloc (.cells #[.slice a' n cap', .map (some B), .int .i64 t] 115))) := below_a (below_call (below_alloc _ _) hb2) _
    have HO : Hid (TabOk n t q) := hok
    clear hb2 ho hM hok
    go_wp2_with fail
    refine (length_calls _ a' n cap' B t q _ HO.out HX.out).mono ?_
    rintro e w3 ⟨⟨r, rfl, hr⟩, hb3⟩
    have HR : Hid (LenIs q n r) := hr
    replace HB : Hid (Below w.heap.size w w3) := below_call HB.out hb3
    clear hr hb3
    go_wp2_with fail
    go_ret
    exact ⟨⟨r, rfl, .inl ⟨HO.out, HR.out⟩⟩, HB.out⟩
  · have HB : Hid (Below w.heap.size w w2) := below_call (below_alloc _ _) hb2
    clear hb2
    go_wp2_with fail
    go_ret
    exact ⟨⟨0, rfl, .inr ⟨hok, rfl⟩⟩, below_a HB.out _⟩

theorem LenSays.one {n : Nat} {t : Int} {q : Nat → PD} {r s : Nat} (h : (TabOk n t q ∧ LenIs q n r) ∨ (¬ TabOk n t q ∧ r = 0)) (k : (TabOk n t q ∧ LenIs q n s) ∨ (¬ TabOk n t q ∧ s = 0)) : r = s := by
  rcases h with ⟨h1, h2⟩ | ⟨h1, h2⟩ <;> rcases k with ⟨k1, k2⟩ | ⟨k1, k2⟩
  · exact h2.one k2
  · exact absurd h1 k1
  · exact absurd k1 h1
  · omega
end Go.Proofs.Ytiidepafifodjaa

/-! Tables: the specification's Put, whole. -/
namespace Go.Proofs.Ytiidepafifodjaa
open Go.RowKit
attribute [local go_sem] run_store_float
attribute [local go_sem ↓] Go.wp_at_zero Go.wp_at_succ

/-- the locals of the specification's Put -/
structure SP (w : World) (a : Option Addr) (n cap : Nat) (t : Int) (v : VD) (q : Nat → PD) (u : World) : Prop where
  t : Has u w.heap.size #[.slice a n cap, .int .i64 t]
  v : Has u (w.heap.size + 1 + 1) (vCs v)
  r : Has u (w.heap.size + 1 + 1 + 1) #[.slice none 0 0, .int .i64 0]
  rf : ∀ o, u.frozen? ⟨w.heap.size + 1 + 1 + 1, o, none⟩ = false
  tab : Tab u a n q
  b : Below w.heap.size w u
theorem SP.call {w : World} {a : Option Addr} {n cap : Nat} {t : Int} {v : VD} {q : Nat → PD} {u u' : World} (h : SP w a n cap t v q u) (hb : Below u.heap.size u u') : SP w a n cap t v q u' :=
  ⟨h.t.call hb, h.v.call hb, h.r.call hb, fun o => (hb.frozen (p := ⟨w.heap.size + 1 + 1 + 1, o, none⟩) h.r.lt).trans (h.rf o), h.tab.below hb, below_call h.b hb⟩
theorem SP.alloc {w : World} {a : Option Addr} {n cap : Nat} {t : Int} {v : VD} {q : Nat → PD} {u : World} (h : SP w a n cap t v q u) (o : Obj) : SP w a n cap t v q (u.alloc o) := h.call (below_alloc u o)
theorem SP.drew {w : World} {a : Option Addr} {n cap : Nat} {t : Int} {v : VD} {q : Nat → PD} {u : World} (h : SP w a n cap t v q u) : SP w a n cap t v q u.drew := ⟨h.t.drew, h.v.drew, h.r.drew, h.rf, h.tab.drew, h.b.drew⟩
theorem SP.new {w : World} {a : Option Addr} {n : Nat} (cap : Nat) (t : Int) (x v : VD) {q : Nat → PD} (hT : Tab w a n q) : SP w a n cap t v q (w4 w a n cap t x v) := by
  obtain ⟨_, h2, h3, h0⟩ := w4_has w a n cap t x v
  refine ⟨h0, h2, h3, ?_, (((hT.alloc _).alloc _).alloc _).alloc _, below_a (below_alloc3 _ _ _ _) _⟩
  have h := frz_new (((w.alloc (.cells #[.slice a n cap, .int .i64 t] 59)).alloc (.cells (vCs x) 42)).alloc (.cells (vCs v) 42)) #[.slice none 0 0, .int .i64 0] 59
  simp only [World.size_alloc] at h
  exact h

set_option maxRecDepth 100000 in
set_option maxHeartbeats 4000000 in
theorem specPut_calls (a : Option Addr) (n cap : Nat) (t : Int) (q : Nat → PD) (x v : VD) (w : World) (hn : n ≤ 1048576) (hq : ∀ i, i < n → (q i).wf) (xf : x.f < 2 ^ 64) (xs : x.s.size ≤ maxLen) (hT : Tab w a n q) :
    Calls Try.prog 27 #[tOf a n cap t, x.v, v.v] w (PutEnds n t q x v w) := by
  have hK : Hid (∀ w, Calls Try.prog 70 #[x.v] w fun e w' => e = .returned (kgV (kc x) (kv x)) ∧ Below w.heap.size w w') := by
    intro w; rw [← kyG_kv]; exact specKey_calls _ _ _ _ _ xf w
  have hV : Hid (∀ w, Calls Try.prog 36 #[v.v] w fun e w' => e = .returned (.bool v.ok) ∧ Below w.heap.size w w') := fun w => specOk_calls _ _ _ _ _ w
  have HL : Hid (kc x = 0 → TabOk n t q → ∀ w, Tab w a n q → Calls Try.prog 72 #[tOf a n cap t, (kv x).v, v.v] w fun e w' => OwnT w.heap.size (putD n t q (kv x) v) e w' ∧ Below w.heap.size w w') := fun hc hok w h => l2put_calls a n cap t q (kv x) v w hq hok (kOk_kv hc) (kv_f xf) (kv_s xs) h
  have HTo : Hid (∀ w, Tab w a n q → Calls Try.prog 71 #[tOf a n cap t] w fun e w' => BoolSays (TabOk n t q) e ∧ Below w.heap.size w w') := fun w h => specTableOk_calls a n cap t q w hn hq h
  have HS : Hid (SP w a n cap t v q (w4 w a n cap t x v)) := SP.new cap t x v hT
  clear hq hT xf xs
  have p2 : w.heap.size ≤ w.heap.size + 1 + 1 + 1 := Nat.le_add_right _ 3
  go_enter Try.func27, Try.ntmps27
  go_wp2_with fail
  refine (hK.out _).mono ?_
  rintro e w2 ⟨rfl, hb2⟩
  have HS2 : Hid (SP w a n cap t v q w2) := HS.out.call hb2
  clear hb2 HS hK
  generalize hc : kc x = c
  generalize hy : kv x = y
  have HK2 : Hid (Has (w2.alloc (.cells #[.int .i64 c, .int .i64 y.k, .int .i64 y.n, .float .f64 y.f, .string y.s, .int .i64 y.r] 45)) w2.heap.size #[.int .i64 c, .int .i64 y.k, .int .i64 y.n, .float .f64 y.f, .string y.s, .int .i64 y.r]) := Has.new _ _ _
  have x0 := HS2.out.t.at 0
  have x1 := HS2.out.t.at 1
  have xl := HS2.out.t.lt
  simp only [List.getElem?_toArray, List.getElem?_cons_zero, List.getElem?_cons_succ] at x0 x1
  rw [hc, hy] at HL
  have Hc : Hid (kc x = c ∧ kv x = y) := ⟨hc, hy⟩
  clear hc hy
  go_wp2_with fail
  refine (HTo.out _ (HS2.out.alloc _).tab).mono ?_
  rintro e w3 ⟨⟨tb, rfl, htb⟩, hb3⟩
  have Htb : Hid (tb = true ↔ TabOk n t q) := htb
  have HS3 : Hid (SP w a n cap t v q w3) := (HS2.out.alloc _).call hb3
  have HK3 : Hid (Has w3 w2.heap.size #[.int .i64 c, .int .i64 y.k, .int .i64 y.n, .float .f64 y.f, .string y.s, .int .i64 y.r]) := HK2.out.call hb3
  clear hb3 htb x0 x1 xl HS2 HK2 HTo
  have r0 := HS3.out.r.at 0
  have r1 := HS3.out.r.at 1
  have rf := HS3.out.rf
  have rl := HS3.out.r.lt
  simp only [List.getElem?_toArray, List.getElem?_cons_zero, List.getElem?_cons_succ] at r0 r1
  have v0 := HS3.out.v.at 0
  have v1 := HS3.out.v.at 1
  have v2 := HS3.out.v.at 2
  have v3 := HS3.out.v.at 3
  have v4 := HS3.out.v.at 4
  simp only [List.getElem?_toArray, List.getElem?_cons_zero, List.getElem?_cons_succ] at v0 v1 v2 v3 v4
  cases tb
  · have Hno : Hid (PutSays n t q x v ⟨0, 0, fun _ => pz⟩) := .inr ⟨fun h => (by have := Htb.out.2 h.1; cases this), rfl⟩
    go_wp2_with fail
    exact bodyPost_ret (v := tOf none 0 0 0) (by simp [results, Try.results27, go_sem, r0, r1]) rfl ⟨⟨_, Hno.out, OwnT.zero _ _⟩, st1 (st1 HS3.out.b p2 _) p2 _⟩
  · have HO : Hid (TabOk n t q) := Htb.out.1 rfl
    clear Htb
    go_wp2_with fail
    refine (hV.out _).mono ?_
    rintro e w5 ⟨rfl, hb5⟩
    have HS5 : Hid (SP w a n cap t v q w5) := HS3.out.call hb5
    have HK5 : Hid (Has w5 w2.heap.size #[.int .i64 c, .int .i64 y.k, .int .i64 y.n, .float .f64 y.f, .string y.s, .int .i64 y.r]) := HK3.out.call hb5
    clear hb5 HS3 HK3 hV v0 v1 v2 v3 v4 r0 r1 rf rl
    have r0 := HS5.out.r.at 0
    have r1 := HS5.out.r.at 1
    have rf := HS5.out.rf
    have rl := HS5.out.r.lt
    simp only [List.getElem?_toArray, List.getElem?_cons_zero, List.getElem?_cons_succ] at r0 r1
    have v0 := HS5.out.v.at 0
    have v1 := HS5.out.v.at 1
    have v2 := HS5.out.v.at 2
    have v3 := HS5.out.v.at 3
    have v4 := HS5.out.v.at 4
    have k0 := HK5.out.at 0
    have k1 := HK5.out.at 1
    have k2 := HK5.out.at 2
    have k3 := HK5.out.at 3
    have k4 := HK5.out.at 4
    have k5 := HK5.out.at 5
    have x0 := HS5.out.t.at 0
    have x1 := HS5.out.t.at 1
    simp only [List.getElem?_toArray, List.getElem?_cons_zero, List.getElem?_cons_succ] at v0 v1 v2 v3 v4 k0 k1 k2 k3 k4 k5 x0 x1
    cases hvo : v.ok
    · have Hno : Hid (PutSays n t q x v ⟨0, 0, fun _ => pz⟩) := .inr ⟨fun h => (by rw [hvo] at h; exact absurd h.2.2 (by simp)), rfl⟩
      clear hvo
      go_wp2_with fail
      exact bodyPost_ret (v := tOf none 0 0 0) (by simp [results, Try.results27, go_sem, r0, r1]) rfl ⟨⟨_, Hno.out, OwnT.zero _ _⟩, st1 (st1 HS5.out.b p2 _) p2 _⟩
    · by_cases hc : c = 0
      · have HD : Hid (PutSays n t q x v (putD n t q y v)) := .inl ⟨HO.out, Hc.out.1.trans hc, hvo, by rw [Hc.out.2]⟩
        have HL' := HL.out hc HO.out w5 HS5.out.tab
        generalize putD n t q y v = D at HD HL'
        have HLL : Hid _ := HL'
        subst hc
        clear hvo HL HL'
        go_wp2_with fail
        refine Calls.mono HLL.out ?_
        rintro e w6 ⟨⟨a2, cap2, rfl, ho⟩, hb6⟩
        have HS6 : Hid (SP w a n cap t v q w6) := HS5.out.call hb6
        have HW : Hid (w.heap.size + 1 + 1 + 1 < w5.heap.size) := rl
        have HO6 : Hid (w6.ownsRow w5.heap.size 123 11 (.slice a2 D.n cap2) D.n (cellsOf D.q D.n)) := ho
        clear hb6 ho HLL r0 r1 rf rl v0 v1 v2 v3 v4 k0 k1 k2 k3 k4 k5 x0 x1
        have r0 := HS6.out.r.at 0
        have r1 := HS6.out.r.at 1
        have rf := HS6.out.rf
        have rl := HS6.out.r.lt
        simp only [List.getElem?_toArray, List.getElem?_cons_zero, List.getElem?_cons_succ] at r0 r1
        go_wp2_with fail
        have hne : ∀ b off sp, a2 = some ⟨b, off, sp⟩ → b ≠ w.heap.size + 1 + 1 + 1 := fun b off sp e => by have := own_ge HO6.out b off sp e; have := HW.out; omega
        exact bodyPost_ret (v := tOf a2 D.n cap2 D.t) (by simp [results, Try.results27, go_sem, r0, r1]) rfl ⟨⟨D, HD.out, a2, cap2, rfl, own_mono (own_set (own_set HO6.out hne _ _) hne _ _) (by have := HW.out; omega)⟩, st1 (st1 HS6.out.b p2 _) p2 _⟩
      · have Hno : Hid (PutSays n t q x v ⟨0, 0, fun _ => pz⟩) := .inr ⟨fun h => hc (Hc.out.1.symm.trans h.2.1), rfl⟩
        clear hvo HL
        go_wp2_with fail
        exact bodyPost_ret (v := tOf none 0 0 0) (by simp [results, Try.results27, go_sem, r0, r1]) rfl ⟨⟨_, Hno.out, OwnT.zero _ _⟩, st1 (st1 HS5.out.b p2 _) p2 _⟩
end Go.Proofs.Ytiidepafifodjaa
