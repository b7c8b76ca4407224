import Derived.Test.YtiidepafifodjabTabQ
import Derived.Test.YtiidepafifodjabTabS
import Derived.Test.YtiidepafifodjabTabP
/-! Tables: Get, both. -/
namespace Go.Proofs.Ytiidepafifodjab
open Go.RowKit
attribute [local go_sem] run_store_float
attribute [local go_sem ↓] Go.wp_at_zero Go.wp_at_succ

abbrev vzv : Value := vOf 0 0 0 ⟨#[]⟩ 0

set_option maxRecDepth 100000 in
set_option maxHeartbeats 4000000 in
theorem l2get_calls (a : Option Addr) (n cap : Nat) (t : Int) (q : Nat → PD) (x : VD) (w : World) (hq : ∀ i, i < n → (q i).wf) (hok : TabOk n t q) (xf : x.f < 2 ^ 64) (xs : x.s.size ≤ maxLen) (hT : Tab w a n q) :
    Calls Try.prog 49 #[tOf a n cap t, x.v] w fun e w' => e = .returned (if kc x = 0 then (gt q (mk (kv x)) n).val else vz).v ∧ Below w.heap.size w w' := by
  have hn := hok.nn
  have hK : Hid (∀ w, Calls Try.prog 11 #[x.v] w fun e w' => e = .returned (kgV (kc x) (kv x)) ∧ Below w.heap.size w w') := by
    intro w; rw [← kyG_kv]; exact specKey_calls _ _ _ _ _ xf w
  have hA : kc x = 0 → ∀ w, Tab w a n q → Calls Try.prog 77 #[tOf a n cap t, (kv x).v] w fun e w' => e = .returned (.int .i64 (atI q (mk (kv x)) n)) ∧ Below w.heap.size w w' := fun hc w h =>
    l2at_calls a n cap t q (kv x) w (by omega) hq (fun i hi => row_key (hok.row i hi)) (kOk_kv hc) (kv_f xf) (kv_s xs) h
  have HT : Hid (Tab w a n q) := hT
  clear hq hok xf xs hT
  generalize kc x = c at hK hA ⊢
  have p2 : w.heap.size ≤ w.heap.size + 1 + 1 := Nat.le_add_right _ 2
  by_cases hc : c = 0
  · subst hc
    rw [if_pos rfl]
    have HA : Hid (∀ w, Tab w a n q → Calls Try.prog 77 #[tOf a n cap t, (kv x).v] w fun e w' => e = .returned (.int .i64 (atI q (mk (kv x)) n)) ∧ Below w.heap.size w w') := hA rfl
    clear hA
    generalize hm : mk (kv x) = m at HA ⊢
    have hgn : fnd q m n = none → gt q m n = pz := fun h => by unfold gt; rw [h]
    have hgs : ∀ i, fnd q m n = some i → gt q m n = q i := fun i h => by unfold gt; rw [h]
    have HGn : Hid (fnd q m n = none → gt q m n = pz) := hgn
    have HGs : Hid (∀ i, fnd q m n = some i → gt q m n = q i) := hgs
    clear hgn hgs
    generalize gt q m n = p at HGn HGs ⊢
    generalize kv x = y at hK HA
    clear hm
    go_enter Try.func49, Try.ntmps49
    go_wp2_with fail
    refine (hK.out _).mono ?_
    rintro e w2 ⟨rfl, hb2⟩
    have hB := below_call (below_alloc3 _ _ _ _) hb2
    have HT2 : Hid (Tab (w2.alloc (.cells #[.int .i64 0, .int .i64 y.k, .int .i64 y.n, .float .f64 y.f, .string y.s, .int .i64 y.r] 28)) a n q) := ((((HT.out.alloc _).alloc _).alloc _).below hb2).alloc _
    obtain ⟨hc2, hf2⟩ := bcell hb2
    have hz2 := hb2.size
    (try simp at hz2)
    have ha2 : w.heap.size < w2.heap.size := by omega
    have hb2' : w.heap.size + 1 < w2.heap.size := by omega
    have hc2' : w.heap.size + 1 + 1 < w2.heap.size := by omega
    clear hb2 hK
    go_wp2_with fail
    refine (HA.out _ HT2.out).mono ?_
    rintro e w3 ⟨rfl, hb3⟩
    replace hB := below_call (below_a hB _) hb3
    obtain ⟨hc3, hf3⟩ := bcell hb3
    have HT3 : Hid (Tab w3 a n q) := HT2.out.below hb3
    have hz3 := hb3.size
    (try simp at hz3)
    have ha3 : w.heap.size < w3.heap.size := by omega
    have hc3' : w.heap.size + 1 + 1 < w3.heap.size := by omega
    clear hb3
    unfold atI
    cases hf : fnd q m n with
    | none =>
      have hp := HGn.out hf
      subst hp
      go_wp2_with fail
      exact bodyPost_ret (v := vzv) (by simp [results, Try.results49, go_sem, hc3, hc2, hb2', hc2']) rfl ⟨rfl, set5 hB p2 _ _ _ _ _⟩
    | some i =>
      have hi := (fnd_at hf).1
      obtain ⟨b, off, rfl, hb, hcc⟩ := HT3.out (by omega)
      have d0 := hcc i hi 5 (by omega)
      have d1 := hcc i hi 6 (by omega)
      have d2 := hcc i hi 7 (by omega)
      have d3 := hcc i hi 8 (by omega)
      have d4 := hcc i hi 9 (by omega)
      simp only [List.getElem?_toArray, List.getElem?_cons_zero, List.getElem?_cons_succ] at d0 d1 d2 d3 d4
      have hp := HGs.out i hf
      subst hp
      clear hcc hf HGn HGs
      go_wp2_with fail
      exact bodyPost_ret (v := (q i).val.v) (by simp [results, Try.results49, go_sem, hc3, hc2, hb2', hc2']) rfl ⟨rfl, set5 hB p2 _ _ _ _ _⟩
  · rw [if_neg hc]
    clear hA
    generalize kv x = y at hK
    go_enter Try.func49, Try.ntmps49
    go_wp2_with fail
    refine (hK.out _).mono ?_
    rintro e w2 ⟨rfl, hb2⟩
    have hB := below_call (below_alloc3 _ _ _ _) hb2
    obtain ⟨hc2, hf2⟩ := bcell hb2
    have hz2 := hb2.size
    (try simp at hz2)
    have ha2 : w.heap.size < w2.heap.size := by omega
    have hb2' : w.heap.size + 1 < w2.heap.size := by omega
    have hc2' : w.heap.size + 1 + 1 < w2.heap.size := by omega
    clear hb2 hK
    go_wp2_with fail
    exact bodyPost_ret (v := vzv) (by simp [results, Try.results49, go_sem, hc2, hc2']) rfl ⟨rfl, below_a (set5 hB p2 _ _ _ _ _) _⟩

/-- what Get answers -/
def GetSays (n : Nat) (t : Int) (q : Nat → PD) (x : VD) (v : VD) : Prop := (TabOk n t q ∧ v = if kc x = 0 then (gt q (mk (kv x)) n).val else vz) ∨ (¬ TabOk n t q ∧ v = vz)
theorem GetSays.one {n : Nat} {t : Int} {q : Nat → PD} {x u v : VD} (h : GetSays n t q x u) (k : GetSays n t q x v) : u = v := by
  rcases h with ⟨h1, h2⟩ | ⟨h1, h2⟩ <;> rcases k with ⟨k1, k2⟩ | ⟨k1, k2⟩
  · rw [h2, k2]
  · exact absurd h1 k1
  · exact absurd k1 h1
  · rw [h2, k2]

set_option maxRecDepth 100000 in
set_option maxHeartbeats 4000000 in
theorem specGet_calls (a : Option Addr) (n cap : Nat) (t : Int) (q : Nat → PD) (x : VD) (w : World) (hn : n ≤ 1048576) (hq : ∀ i, i < n → (q i).wf) (xf : x.f < 2 ^ 64) (xs : x.s.size ≤ maxLen) (hT : Tab w a n q) :
    Calls Try.prog 20 #[tOf a n cap t, x.v] w fun e w' => (∃ v : VD, e = .returned v.v ∧ GetSays n t q x v) ∧ Below w.heap.size w w' := by
  have hQ : Hid (∀ i, i < n → (q i).wf) := hq
  have HT : Hid (Tab w a n q) := hT
  have Hf : Hid (x.f < 2 ^ 64 ∧ x.s.size ≤ maxLen) := ⟨xf, xs⟩
  clear hq hT xf xs
  have p2 : w.heap.size ≤ w.heap.size + 1 + 1 := Nat.le_add_right _ 2
  go_enter Try.func20, Try.ntmps20
  go_wp2_with fail
  refine (specTableOk_calls a n cap t q _ hn hQ.out (((HT.out.alloc _).alloc _).alloc _)).mono ?_
  rintro e w2 ⟨⟨b, rfl, hbb⟩, hb2⟩
  have HT2 : Hid (Tab w2 a n q) := (((HT.out.alloc _).alloc _).alloc _).below hb2
  have hB := below_call (below_alloc3 _ _ _ _) hb2
  obtain ⟨hc2, hf2⟩ := bcell hb2
  have hz2 := hb2.size
  (try simp at hz2)
  have ha2 : w.heap.size < w2.heap.size := by omega
  have hb2' : w.heap.size + 1 < w2.heap.size := by omega
  have hc2' : w.heap.size + 1 + 1 < w2.heap.size := by omega
  clear hb2
  cases b
  · have hno : Hid (¬ TabOk n t q) := fun h => by have := hbb.2 h; cases this
    clear hbb
    go_wp2_with fail
    exact bodyPost_ret (v := vzv) (by simp [results, Try.results20, go_sem, hc2]) rfl ⟨⟨vz, rfl, .inr ⟨hno.out, rfl⟩⟩, set5 hB p2 _ _ _ _ _⟩
  · have HO : Hid (TabOk n t q) := hbb.1 rfl
    clear hbb
    go_wp2_with fail
    refine (l2get_calls a n cap t q x _ hQ.out HO.out Hf.out.1 Hf.out.2 HT2.out).mono ?_
    generalize hv : (if kc x = 0 then (gt q (mk (kv x)) n).val else vz) = v
    rintro e w3 ⟨rfl, hb3⟩
    have hV : Hid (GetSays n t q x v) := .inl ⟨HO.out, hv.symm⟩
    replace hB := below_call hB hb3
    obtain ⟨hc3, hf3⟩ := bcell hb3
    clear hb3 hv
    go_wp2_with fail
    exact bodyPost_ret (v := v.v) (by simp [results, Try.results20, go_sem, hc3, hc2, hc2']) rfl ⟨⟨v, rfl, hV.out⟩, set5 hB p2 _ _ _ _ _⟩

set_option maxRecDepth 100000 in
set_option maxHeartbeats 4000000 in
theorem implGet_calls (a : Option Addr) (n cap : Nat) (t : Int) (q : Nat → PD) (x : VD) (w : World) (hn : n ≤ 1048576) (hq : ∀ i, i < n → (q i).wf) (xf : x.f < 2 ^ 64) (hT : Tab w a n q) :
    Calls Try.prog 21 #[tOf a n cap t, x.v] w fun e w' => (∃ v : VD, e = .returned v.v ∧ GetSays n t q x v) ∧ Below w.heap.size w w' := by
  have hK : Hid (∀ w, Calls Try.prog 13 #[x.v] w fun e w' => e = .returned (kgV (kc x) (kv x)) ∧ Below w.heap.size w w') := by
    intro w; rw [← kyG_kv]; exact implKey_calls _ _ _ _ _ xf w
  have hQ : Hid (∀ i, i < n → (q i).wf) := hq
  have HT : Hid (Tab w a n q) := hT
  clear hq hT xf
  have p2 : w.heap.size ≤ w.heap.size + 1 + 1 := Nat.le_add_right _ 2
  go_enter Try.func21, Try.ntmps21
  go_wp2_with fail
  refine (index_calls a n cap t q _ hn hQ.out (((HT.out.alloc _).alloc _).alloc _)).mono ?_
  rintro e w2 ⟨⟨hok, a', cap', B, rfl, _, ho, hM⟩ | ⟨hok, rfl⟩, hb2⟩
  · have HX : Hid (XBox (w2.alloc (.cells #[.slice a' n cap', .map (some B), .int .i64 t] 78)) w2.heap.size a' n cap' B t q) := XBox.new ho hM _
    have HO : Hid (TabOk n t q) := hok
    have hB := below_call (below_alloc3 _ _ _ _) hb2
    obtain ⟨hc2, hf2⟩ := bcell hb2
    have hz2 := hb2.size
    (try simp at hz2)
    have ha2 : w.heap.size < w2.heap.size := by omega
    have hb2' : w.heap.size + 1 < w2.heap.size := by omega
    have hc2' : w.heap.size + 1 + 1 < w2.heap.size := by omega
    clear hb2 ho hM hok
    go_wp2_with fail
    refine (hK.out _).mono ?_
    rintro e w3 ⟨rfl, hb3⟩
    replace HX : Hid (XBox w3 w2.heap.size a' n cap' B t q) := HX.out.call hb3
    replace hB := below_call (below_a hB _) hb3
    obtain ⟨hc3, hf3⟩ := bcell hb3
    have hz3 := hb3.size
    (try simp at hz3)
    have ha3 : w.heap.size < w3.heap.size := by omega
    have hc3' : w.heap.size + 1 + 1 < w3.heap.size := by omega
    clear hb3 hK
    by_cases hkc : kc x = 0
    · have hG : Hid (∀ w, XBox w w2.heap.size a' n cap' B t q → Calls Try.prog 50 #[.pointer (some ⟨w2.heap.size, 0, none⟩), (kv x).v] w fun e w' => e = .returned (gt q (mk (kv x)) n).val.v ∧ Below w.heap.size w w') := fun w h => get_calls _ a' n cap' B t q (kv x) w HO.out h
      have hV : Hid (GetSays n t q x (gt q (mk (kv x)) n).val) := .inl ⟨HO.out, by rw [if_pos hkc]⟩
      rw [hkc]
      generalize (gt q (mk (kv x)) n).val = v at hG hV
      generalize kv x = y at hG
      clear hkc
      go_wp2_with fail
      refine (hG.out _ (HX.out.alloc _)).mono ?_
      rintro e w4 ⟨rfl, hb4⟩
      replace hB := below_call (below_a hB _) hb4
      obtain ⟨hc4, hf4⟩ := bcell hb4
      clear hb4 hG
      have hd3 : w.heap.size + 1 < w3.heap.size := by omega
      go_wp2_with fail
      exact bodyPost_ret (v := v.v) (by simp [results, Try.results21, go_sem, hc4, hc3, hc2, hc2', hd3, hb2', hc3']) rfl ⟨⟨v, rfl, hV.out⟩, set5 hB p2 _ _ _ _ _⟩
    · have hV : Hid (GetSays n t q x vz) := .inl ⟨HO.out, by rw [if_neg hkc]⟩
      generalize kc x = c at hkc
      generalize kv x = y
      go_wp2_with fail
      exact bodyPost_ret (v := vzv) (by simp [results, Try.results21, go_sem, hc3, hc2, hc2', hb2', hc3']) rfl ⟨⟨vz, rfl, hV.out⟩, below_a (set5 hB p2 _ _ _ _ _) _⟩
  · have hno : Hid (GetSays n t q x vz) := .inr ⟨hok, rfl⟩
    have hB := below_call (below_alloc3 _ _ _ _) hb2
    obtain ⟨hc2, hf2⟩ := bcell hb2
    have hz2 := hb2.size
    (try simp at hz2)
    have ha2 : w.heap.size < w2.heap.size := by omega
    have hb2' : w.heap.size + 1 < w2.heap.size := by omega
    have hc2' : w.heap.size + 1 + 1 < w2.heap.size := by omega
    clear hb2 hok
    go_wp2_with fail
    refine (hK.out _).mono ?_
    rintro e w3 ⟨rfl, hb3⟩
    replace hB := below_call (below_a hB _) hb3
    obtain ⟨hc3, hf3⟩ := bcell hb3
    have hz3 := hb3.size
    (try simp at hz3)
    have ha3 : w.heap.size < w3.heap.size := by omega
    have hc3' : w.heap.size + 1 + 1 < w3.heap.size := by omega
    clear hb3 hK
    generalize kc x = c
    generalize kv x = y
    go_wp2_with fail
    exact bodyPost_ret (v := vzv) (by simp [results, Try.results21, go_sem, hc3, hc2, hc2', hb2', hc3']) rfl ⟨⟨vz, rfl, hno.out⟩, below_a (set5 hB p2 _ _ _ _ _) _⟩
end Go.Proofs.Ytiidepafifodjab
