import Derived.Test.YtiidepafifodjabTabE
/-! Tables: a pair's check; where each key stands. -/
namespace Go.Proofs.Ytiidepafifodjab
open Go.RowKit
attribute [local go_sem] run_store_float

/-- a pair that may stand in a table, its turn aside -/
def pOkB (p : PD) : Bool := kOk p.key && p.val.ok && !(p.val.k == 0)

set_option maxRecDepth 100000 in
set_option maxHeartbeats 4000000 in
theorem pairOk_calls (p : PD) (hp : p.wf) (w : World) : Calls Try.prog 73 #[pOf p] w fun e w' => e = .returned (.bool (pOkB p)) ∧ Below w.heap.size w w' := by
  have hK : Hid (∀ w, Calls Try.prog 13 #[p.key.v] w fun e w' => e = .returned (kgV (kc p.key) (kv p.key)) ∧ Below w.heap.size w w') := by
    intro w; rw [← kyG_kv]; exact implKey_calls _ _ _ _ _ hp.f1 w
  have hE0 := fun h => eqV_kv p.key hp.f1 h
  have hV : Hid (∀ w, Calls Try.prog 88 #[p.val.v] w fun e w' => e = .returned (.bool p.val.ok) ∧ Below w.heap.size w w') := fun w => implOk_calls _ _ _ _ _ w
  unfold pOkB kOk
  generalize kc p.key = c at hK hE0 ⊢
  generalize kv p.key = y at hK hE0 ⊢
  generalize p.val.ok = vo at hV ⊢
  have hE1 := eq_VV y p.key
  clear hp
  cases hc : (c == 0)
  · clear hE0 hE1
    go_enter Try.func73, Try.ntmps73
    go_wp2_with fail
    refine (hK.out _).mono ?_
    rintro e w2 ⟨rfl, hb2⟩
    have hB := below_call (below_alloc _ _) hb2
    obtain ⟨hc2, hf2⟩ := bcell hb2
    have hz2 := hb2.size
    (try simp at hz2)
    have ha2 : w.heap.size < w2.heap.size := by omega
    clear hb2 hK hf2
    go_wp2_with fail
    go_ret
    exact ⟨ret_bool (by simp), below_a hB _⟩
  · have hE2 := hE0 (eq_of_beq hc)
    rw [hE2] at hE1
    clear hE0 hE2
    cases hk : (y.k == p.key.k)
    · rw [hk] at hE1
      go_enter Try.func73, Try.ntmps73
      go_wp2_with fail
      refine (hK.out _).mono ?_
      rintro e w2 ⟨rfl, hb2⟩
      have hB := below_call (below_alloc _ _) hb2
      obtain ⟨hc2, hf2⟩ := bcell hb2
      have hz2 := hb2.size
      (try simp at hz2)
      have ha2 : w.heap.size < w2.heap.size := by omega
      clear hb2 hK hf2 hk
      go_wp2_with fail
      go_ret
      exact ⟨ret_bool (by simp), below_a hB _⟩
    · rw [hk] at hE1
      by_cases hv0 : p.val.k = 0
      · have hv : (p.val.k == 0) = true := by simpa using hv0
        rw [hv]
        go_enter Try.func73, Try.ntmps73
        go_wp2_with fail
        refine (hK.out _).mono ?_
        rintro e w2 ⟨rfl, hb2⟩
        have hB := below_call (below_alloc _ _) hb2
        obtain ⟨hc2, hf2⟩ := bcell hb2
        have hz2 := hb2.size
        (try simp at hz2)
        have ha2 : w.heap.size < w2.heap.size := by omega
        clear hb2 hK hf2 hk
        go_wp2_with fail
        go_ret
        exact ⟨ret_bool (by simp), below_a hB _⟩
      · have hv : (p.val.k == 0) = false := by simpa using hv0
        rw [hv]
        clear hv
        go_enter Try.func73, Try.ntmps73
        go_wp2_with fail
        refine (hK.out _).mono ?_
        rintro e w2 ⟨rfl, hb2⟩
        have hB := below_call (below_alloc _ _) hb2
        obtain ⟨hc2, hf2⟩ := bcell hb2
        have hz2 := hb2.size
        (try simp at hz2)
        have ha2 : w.heap.size < w2.heap.size := by omega
        clear hb2 hK hf2 hk
        go_wp2_with fail
        refine (hV.out _).mono ?_
        rintro e w3 ⟨rfl, hb3⟩
        replace hB := below_call (below_a hB _) hb3
        clear hb3 hc2
        go_wp2_with fail
        go_ret
        exact ⟨ret_bool (by simp [hv0]), hB⟩

/-! the map -/
theorem mark_und : Try.prog.underlying 117 = some (.struct (Try.prog.fieldsOf 117)) := by kernel_rfl
theorem mark_not : Try.prog.stoodInHeld 117 = false := by kernel_rfl
theorem eq_MM (x y : Mk) (w : World) : (Op.equal 117 (mkV x) (mkV y)).run Try.prog w = .ok (decide (x = y)) w := by
  obtain ⟨x1, x2, x3, x4, x5⟩ := x
  obtain ⟨y1, y2, y3, y4, y5⟩ := y
  show (Op.equalIn 10000 _ _ _).run _ _ = _
  rw [run_equalIn_agg w 9999 _ _ _ mark_und mark_not]
  simp only [Program.fieldsOf, Try.underlying117]
  have p0 : ∀ (a b c d e : Value) (w : World), (part 3 #[a, b, c, d, e] 0).run Try.prog w = .ok a w := fun _ _ _ _ _ _ => by kernel_rfl
  have p1 : ∀ (a b c d e : Value) (w : World), (part 2 #[a, b, c, d, e] 1).run Try.prog w = .ok b w := fun _ _ _ _ _ _ => by kernel_rfl
  have p2 : ∀ (a b c d e : Value) (w : World), (part 115 #[a, b, c, d, e] 2).run Try.prog w = .ok c w := fun _ _ _ _ _ _ => by kernel_rfl
  have p3 : ∀ (a b c d e : Value) (w : World), (part 9 #[a, b, c, d, e] 3).run Try.prog w = .ok d w := fun _ _ _ _ _ _ => by kernel_rfl
  have p4 : ∀ (a b c d e : Value) (w : World), (part 3 #[a, b, c, d, e] 4).run Try.prog w = .ok e w := fun _ _ _ _ _ _ => by kernel_rfl
  have q0 := fun (a b : Int) (w : World) => run_equalIn_int (P := Try.prog) w 9998 3 .i64 .i64 a b Try.underlying3
  have q1 := fun (a b : Int) (w : World) => run_equalIn_int (P := Try.prog) w 9998 2 .i64 .i64 a b Try.underlying2
  have q2 := fun (a b : Int) (w : World) => run_equalIn_int (P := Try.prog) w 9998 115 .u64 .u64 a b Try.underlying115
  have q3 := fun (a b : ByteArray) (w : World) => run_equalIn_string (P := Try.prog) w 9998 9 a b Try.underlying9
  by_cases h0 : x1 = y1
  · by_cases h1 : x2 = y2
    · by_cases h2 : x3 = y3
      · by_cases h3 : x4 = y4
        · by_cases h4 : x5 = y5
          · simp [Op.eqFields, p0, p1, p2, p3, p4, q0, q1, q2, q3, h0, h1, h2, h3, h4]
          · simp [Op.eqFields, p0, p1, p2, p3, p4, q0, q1, q2, q3, h0, h1, h2, h3, h4]
        · have h3' : (x4.toList == y4.toList) = false := by
            rw [← beq_toListBytes, bbeq_eq]; simpa using h3
          simp [Op.eqFields, p0, p1, p2, p3, q0, q1, q2, q3, h0, h1, h2, h3, h3']
      · have h2' : ((x3 : Int) == (y3 : Int)) = false := by simp; omega
        simp [Op.eqFields, p0, p1, p2, q0, q1, q2, h0, h1, h2, h2']
    · simp [Op.eqFields, p0, p1, q0, q1, h0, h1]
  · simp [Op.eqFields, p0, q0, h0]
theorem chk_M (e : Bool) (m : Mk) (w : World) : (Instr.checkKey e 10000 117 (mkV m)).run Try.prog w = .ok () w := by
  kernel_rfl
theorem markT : KeyT Try.prog 117 := ⟨⟨_, mark_und⟩, eq_MM, chk_M⟩
end Go.Proofs.Ytiidepafifodjab
