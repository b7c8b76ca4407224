import Derived.Maps.OwnSet
import Derived.WalkKit
/-! A map whose keys are structs: read and written as a list of entries. -/
namespace Go.Proofs.YtiidepafifodjabGreat
open Go.RowKit Go.ChangeMaps Go.MapKept

abbrev Mk := Int × Int × Nat × ByteArray × Int
abbrev mkV (m : Mk) : Value := .agg #[.int .i64 m.1, .int .i64 m.2.1, .int .u64 (m.2.2.1 : Int), .string m.2.2.2.1, .int .i64 m.2.2.2.2]

/-- where each key stands: the last place counts -/
def upd : List (Mk × Nat) → Mk → Nat → List (Mk × Nat)
  | [], m, i => [(m, i)]
  | (m', j) :: L, m, i => if m = m' then (m, i) :: L else (m', j) :: upd L m i
def idx : List (Mk × Nat) → Mk → Option (Nat × Nat)
  | [], _ => none
  | (m', j) :: L, m => if m = m' then some (0, j) else (idx L m).map fun p => (p.1 + 1, p.2)

/-- block b of the world is a map with these entries -/
def MapIs (w : World) (b : Nat) (L : List (Mk × Nat)) : Prop :=
  ∃ es c, w.heap[b]? = some (.map es c) ∧ es.toList.map (fun e => (e.key, e.val)) = L.map (fun p => (mkV p.1, Value.int .i64 (p.2 : Int)))

/-- what is asked of the key's type -/
structure KeyT (P : Program) (K : TypeId) : Prop where
  und : ∃ fs, P.underlying K = some (.struct fs)
  eq : ∀ a b w, (Op.equal K (mkV a) (mkV b)).run P w = .ok (decide (a = b)) w
  chk : ∀ e a w, (Instr.checkKey e 10000 K (mkV a)).run P w = .ok () w

theorem find_run {P : Program} {K : TypeId} (hK : KeyT P K) (m : Mk) (w : World) : ∀ (es : List MapEntry) (L : List (Mk × Nat)) (i : Nat), es.map (fun e => (e.key, e.val)) = L.map (fun p => (mkV p.1, Value.int .i64 (p.2 : Int))) →
    (Instr.findAsking K (mkV m) es i).run P w = .ok ((idx L m).map fun p => (p.1 + i, Value.int .i64 (p.2 : Int))) w
  | [], [], i, _ => by simp [Instr.findAsking, idx]
  | [], _ :: _, _, h => by simp at h
  | _ :: _, [], _, h => by simp at h
  | e :: es, (m', j) :: L, i, h => by
    simp only [List.map_cons, List.cons.injEq, Prod.mk.injEq] at h
    obtain ⟨⟨h1, h2⟩, h3⟩ := h
    have ih := find_run hK m w es L (i + 1) h3
    by_cases c : m = m'
    · simp [Instr.findAsking, h1, h2, hK.eq, c, idx, Result.andThen]
    · have : (idx ((m', j) :: L) m).map (fun p => (p.1 + i, Value.int .i64 (p.2 : Int))) = (idx L m).map (fun p => (p.1 + (i + 1), Value.int .i64 (p.2 : Int))) := by
        rw [idx, if_neg c, Option.map_map]
        congr 1
        funext p
        simp; omega
      rw [this, ← ih]
      simp [Instr.findAsking, h1, hK.eq, c, Result.andThen]

theorem findKey_run {P : Program} {K : TypeId} (hK : KeyT P K) (m : Mk) (w : World) (es : List MapEntry) (L : List (Mk × Nat)) (h : es.map (fun e => (e.key, e.val)) = L.map (fun p => (mkV p.1, Value.int .i64 (p.2 : Int)))) :
    (Instr.findKey K (mkV m) es).run P w = .ok ((idx L m).map fun p => (p.1, Value.int .i64 (p.2 : Int))) w := by
  obtain ⟨fs, hu⟩ := hK.und
  have hf := find_run hK m w es L 0 h
  simp only [Nat.add_zero] at hf
  cases es with
  | nil =>
    cases L with
    | nil => simp [Instr.findKey, run_underlying hu, Instr.findNow, idx, Result.andThen]
    | cons _ _ => simp at h
  | cons e es =>
    have : Instr.findNow (.struct fs) (mkV m) (e :: es) 0 = none := by simp [Instr.findNow, Instr.sameNow]
    simp only [Instr.findKey, Sem.run_bind, run_underlying hu, Result.andThen, this]
    exact hf

theorem same_bits (m : Mk) : Instr.sameBits 10000 (mkV m) (mkV m) = true := by
  show (_ && _) = true
  simp [Instr.sameBits]
  exact (by show (m.2.2.2.1.data == m.2.2.2.1.data) = true; simp)

theorem idx_lt : ∀ (L : List (Mk × Nat)) (m : Mk) (p v : Nat), idx L m = some (p, v) → L[p]? = some (m, v)
  | [], _, _, _, h => by simp [idx] at h
  | (m', j) :: L, m, p, v, h => by
    rw [idx] at h
    by_cases c : m = m'
    · rw [if_pos c] at h; simp at h; obtain ⟨rfl, rfl⟩ := h; simp [c]
    · rw [if_neg c] at h
      cases hi : idx L m with
      | none => rw [hi] at h; simp at h
      | some q =>
        rw [hi] at h; simp at h
        obtain ⟨rfl, rfl⟩ := h
        simpa using idx_lt L m q.1 q.2 (by rw [hi])
theorem upd_none : ∀ (L : List (Mk × Nat)) (m : Mk) (i : Nat), idx L m = none → upd L m i = L ++ [(m, i)]
  | [], _, _, _ => rfl
  | (m', j) :: L, m, i, h => by
    rw [idx] at h
    by_cases c : m = m'
    · rw [if_pos c] at h; simp at h
    · rw [if_neg c] at h
      rw [upd, if_neg c, upd_none L m i (by simpa using h)]; rfl
theorem upd_some : ∀ (L : List (Mk × Nat)) (m : Mk) (i p v : Nat), idx L m = some (p, v) → upd L m i = L.modify p fun _ => (m, i)
  | [], _, _, _, _, h => by simp [idx] at h
  | (m', j) :: L, m, i, p, v, h => by
    rw [idx] at h
    by_cases c : m = m'
    · rw [if_pos c] at h; simp at h; obtain ⟨rfl, rfl⟩ := h; rw [upd, if_pos c]; rfl
    · rw [if_neg c] at h
      cases hi : idx L m with
      | none => rw [hi] at h; simp at h
      | some q =>
        rw [hi] at h; simp at h
        obtain ⟨rfl, rfl⟩ := h
        rw [upd, if_neg c, upd_some L m i q.1 q.2 (by rw [hi])]; rfl

theorem map_modify {α β : Type} (f : α → β) (g : α → α) (g' : β → β) (h : ∀ x, f (g x) = g' (f x)) : ∀ (l : List α) (i : Nat), (l.modify i g).map f = (l.map f).modify i g'
  | [], i => by simp
  | x :: l, 0 => by simp [h]
  | x :: l, i + 1 => by simp [map_modify f g g' h l i]

theorem update_run {P : Program} {T K E : TypeId} (ht : P.underlying T = some (.map K E)) (hK : KeyT P K) {w : World} {b : Nat} {L : List (Mk × Nat)} (h : MapIs w b L) (m : Mk) (i : Nat) :
    ∃ w', (Instr.mapUpdate T (.map (some b)) (mkV m) (.int .i64 (i : Int))).run P w = .ok () w' ∧ MapIs w' b (upd L m i) ∧ w.mapTurned w' b := by
  obtain ⟨es, c, hb, he⟩ := h
  have hf := findKey_run hK m w es.toList L he
  cases hi : idx L m with
  | none =>
    rw [hi] at hf
    refine ⟨setBlock w b (.map (es.push { key := mkV m, val := .int .i64 (i : Int), born := c }) (c + 1)), ?_, ?_, ⟨es, c, _, _, hb, rfl⟩⟩
    · simp [Instr.mapUpdate, run_underlying ht, MapKept.run_getObj_map hb, hK.chk, hf, MapKept.run_setObj_map _ hb, Result.andThen, setBlock]
    · refine ⟨_, _, heap_setBlock_same hb _, ?_⟩
      rw [upd_none L m i hi]
      simp [he]
  | some q =>
    obtain ⟨p, v⟩ := q
    rw [hi] at hf
    have hl := idx_lt L m p v hi
    have hk : (es[p]?).map (·.key) = some (mkV m) := by
      have : (es.toList.map (fun e => (e.key, e.val)))[p]? = some (mkV m, Value.int .i64 (v : Int)) := by rw [he]; simp [hl]
      simp only [List.getElem?_map, Array.getElem?_toList, Option.map_eq_some_iff] at this
      obtain ⟨e, h1, h2⟩ := this
      rw [h1]
      simp only [Prod.mk.injEq] at h2
      simp [h2.1]
    refine ⟨setBlock w b (.map (es.modify p fun e => { e with key := mkV m, val := .int .i64 (i : Int) }) c), ?_, ?_, ⟨es, c, _, _, hb, rfl⟩⟩
    · simp [Instr.mapUpdate, run_underlying ht, MapKept.run_getObj_map hb, hK.chk, hf, hk, Instr.keyThatStays, same_bits, MapKept.run_setObj_map _ hb, Result.andThen, setBlock]
    · refine ⟨_, _, heap_setBlock_same hb _, ?_⟩
      rw [upd_some L m i p v hi, Array.toList_modify, map_modify (fun e : MapEntry => (e.key, e.val)) _ (fun _ => (mkV m, Value.int .i64 (i : Int))) (fun _ => rfl), he, map_modify (fun p : Mk × Nat => (mkV p.1, Value.int .i64 (p.2 : Int))) _ (fun _ => (mkV m, Value.int .i64 (i : Int))) (fun _ => rfl)]

theorem lookup_run {P : Program} {T K E : TypeId} (ht : P.underlying T = some (.map K E)) (hK : KeyT P K) {w : World} {b : Nat} {L : List (Mk × Nat)} (h : MapIs w b L) (m : Mk) (hz : (zeroValue E).run P w = .ok (.int .i64 0) w) :
    (Instr.lookup T (.map (some b)) (mkV m) true).run P w = .ok (.tuple #[.int .i64 (((idx L m).map (·.2)).getD 0 : Nat), .bool (idx L m).isSome]) w := by
  obtain ⟨es, c, hb, he⟩ := h
  have hf := findKey_run hK m w es.toList L he
  cases hi : idx L m with
  | none =>
    rw [hi] at hf
    simp [Instr.lookup, run_underlying ht, MapKept.run_getObj_map hb, hK.chk, hf, hz, Result.andThen]
  | some q =>
    rw [hi] at hf
    simp [Instr.lookup, run_underlying ht, MapKept.run_getObj_map hb, hK.chk, hf, Result.andThen]

theorem len_run {P : Program} {T K E : TypeId} (ht : P.underlying T = some (.map K E)) {w : World} {b : Nat} {L : List (Mk × Nat)} (h : MapIs w b L) (ty : TypeId) :
    (Builtin.len_ #[T] ty #[.map (some b)]).run P w = .ok (.int .i64 (L.length : Int)) w := by
  obtain ⟨es, c, hb, he⟩ := h
  have := congrArg List.length he
  simp at this
  simp [Builtin.len_, run_underlying ht, MapKept.run_getObj_map hb, goInt, Result.andThen, this]

theorem MapIs.new (w : World) : MapIs (w.alloc (.map #[] 0)) w.heap.size [] := ⟨#[], 0, (MapKept.heap_alloc w _).1, rfl⟩
theorem MapIs.lt {w : World} {b : Nat} {L : List (Mk × Nat)} (h : MapIs w b L) : b < w.heap.size := by
  obtain ⟨es, c, hb, _⟩ := h
  exact (Array.getElem?_eq_some_iff.1 hb).1
theorem MapIs.below {w w' : World} {b : Nat} {L : List (Mk × Nat)} (h : MapIs w b L) (hb : Below w.heap.size w w') : MapIs w' b L := by
  have hl := h.lt
  obtain ⟨es, c, he, e⟩ := h
  exact ⟨es, c, (hb.block b hl).trans he, e⟩
theorem MapIs.alloc {w : World} {b : Nat} {L : List (Mk × Nat)} (h : MapIs w b L) (o : Obj) : MapIs (w.alloc o) b L := h.below ((Below.refl _ _).alloc (Nat.le_refl _) _)
end Go.Proofs.YtiidepafifodjabGreat
