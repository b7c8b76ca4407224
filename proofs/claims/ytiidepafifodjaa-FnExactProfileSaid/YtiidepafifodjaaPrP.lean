import Derived.Test.YtiidepafifodjaaPrQ
import Derived.Test.YtiidepafifodjaaPrT
import Derived.Laws.StructEq
/-! The program's Profile. -/
namespace Go.Proofs.Ytiidepafifodjaa
open Go.RowKit
attribute [local go_sem] run_store_float
attribute [local go_sem ↓] Go.wp_at_zero Go.wp_at_succ

theorem spot_und : Try.prog.underlying 86 = some (.struct (Try.prog.fieldsOf 86)) := by kernel_rfl
theorem spot_not : Try.prog.stoodInHeld 86 = false := by kernel_rfl
theorem eq_SP (x y : SP) (w : World) : (Op.equal 86 (spV x) (spV y)).run Try.prog w = .ok (decide (x = y)) w := by
  obtain ⟨x1, x2⟩ := x
  obtain ⟨y1, y2⟩ := y
  show (Op.equalIn 10000 _ _ _).run _ _ = _
  rw [run_equalIn_agg w 9999 _ _ _ spot_und spot_not]
  simp only [Program.fieldsOf, Try.underlying86]
  have p0 : ∀ (a b : Value) (w : World), (part 3 #[a, b] 0).run Try.prog w = .ok a w := fun _ _ _ => by kernel_rfl
  have p1 : ∀ (a b : Value) (w : World), (part 3 #[a, b] 1).run Try.prog w = .ok b w := fun _ _ _ => by kernel_rfl
  have q0 := fun (a b : Int) (w : World) => run_equalIn_int (P := Try.prog) w 9998 3 .i64 .i64 a b Try.underlying3
  by_cases h0 : x1 = y1
  · by_cases h1 : x2 = y2
    · simp [Op.eqFields, p0, p1, q0, h0, h1]
    · simp [Op.eqFields, p0, p1, q0, h0, h1]
  · simp [Op.eqFields, p0, q0, h0]
theorem chk_SP (e : Bool) (m : SP) (w : World) : (Instr.checkKey e 10000 86 (spV m)).run Try.prog w = .ok () w := by
  kernel_rfl
theorem spotT : KeyH Try.prog 86 := ⟨⟨_, spot_und⟩, eq_SP, chk_SP⟩
theorem makeSp_run (w : World) : (Instr.makeMap 84 none).run Try.prog w = .ok (.map (some w.heap.size)) (w.alloc (.map #[] 0)) := by
  simp [Instr.makeMap, newObj, Sem.run, Result.andThen]
/-- how often a place comes among the first k records -/
def cntD (d : RpD) (k : Nat) (m : SP) : Int := cntUp (lnQ d) (lnF d) (lnL d) m.1 m.2 k
theorem cntD_pos (d : RpD) (k : Nat) (m : SP) : 0 ≤ cntD d k m := by unfold cntD; omega
theorem cntD_le (d : RpD) (k : Nat) (m : SP) : cntD d k m ≤ k := by unfold cntD; have := cntUp_le (lnQ d) (lnF d) (lnL d) m.1 m.2 k; omega
theorem ht_zero (d : RpD) : HtIs (cntD d 0) [] := ⟨List.nodup_nil, fun m h => ⟨fun h => by simp at h, fun h => by have := h.1; unfold cntD cntUp at this; omega⟩⟩
theorem ht_skip {d : RpD} {k : Nat} {L : List (SP × Int)} (h : HtIs (cntD d k) L) (hq : lnQ d k = false) : HtIs (cntD d (k + 1)) L := by
  have e : cntD d (k + 1) = cntD d k := by funext m; unfold cntD; simp [cntUp, hq]
  rw [e]; exact h
theorem ht_hit {d : RpD} {k : Nat} {L : List (SP × Int)} (h : HtIs (cntD d k) L) (hq : lnQ d k = true) : HtIs (cntD d (k + 1)) (updH L ((d.rc k).f, (d.rc k).l) (cntD d k ((d.rc k).f, (d.rc k).l) + 1)) := by
  have h2 := h.hit (cntD_pos d k) ((d.rc k).f, (d.rc k).l)
  have e : cntD d (k + 1) = fun m => cntD d k m + if m = ((d.rc k).f, (d.rc k).l) then 1 else 0 := by
    funext m
    obtain ⟨a, b⟩ := m
    unfold cntD
    simp only [cntUp, hq, true_and, lnF, lnL, Prod.mk.injEq]
    by_cases c : (d.rc k).f = a ∧ (d.rc k).l = b
    · rw [if_pos c, if_pos ⟨c.1.symm, c.2.symm⟩]; omega
    · rw [if_neg c, if_neg fun e => c ⟨e.1.symm, e.2.symm⟩]; omega
  rw [e]; exact h2
/-- the counts of places in order -/
def ctL (c : SP → Int) (ys : List SP) : List CT := ys.map fun m => ⟨m.1, m.2, c m⟩
theorem ctL_is {d : RpD} {L : List (SP × Int)} {ys : List SP} (h : HtIs (cntD d d.n) L) (hp : ys.Perm (L.map (·.1))) (ha : ys.Pairwise spLt) : PfIs (lnQ d) (lnF d) (lnL d) d.n (ctL (cntD d d.n) ys) := by
  refine ⟨?_, fun v => ?_⟩
  · unfold AscC ctL
    rw [List.pairwise_map]
    exact ha.imp fun h => h
  · unfold ctL
    rw [List.mem_map]
    constructor
    · rintro ⟨m, hm, rfl⟩
      obtain ⟨p, hp2, rfl⟩ := List.mem_map.1 (hp.mem_iff.1 hm)
      have := (h.2 p.1 p.2).1 hp2
      refine ⟨rfl, ?_⟩
      dsimp only
      omega
    · rintro ⟨h1, h2⟩
      refine ⟨(v.f, v.l), hp.mem_iff.2 (List.mem_map.2 ⟨((v.f, v.l), v.h), (h.2 _ _).2 ⟨h1, h2⟩, rfl⟩), ?_⟩
      cases v
      dsimp only at h1 ⊢
      rw [h1]; rfl
theorem wrap1 {c : Int} (h0 : 0 ≤ c) (h1 : c ≤ 1048576) : IntKind.i64.wrap (c + 1) = c + 1 := by
  simp [IntKind.wrap, IntKind.bits, IntKind.signed]; omega
end Go.Proofs.Ytiidepafifodjaa
