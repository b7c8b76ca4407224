import Derived.Maps.OwnSet
import Derived.Maps.RangeRun
import Derived.RangeFuncSeq
import Derived.WalkKit
/-! A map from two ints (a struct) to an int: read and written as a list of entries; gone through in whatever order. -/
namespace Go.Proofs.Ytiidepafifodjaa
open Go.RowKit Go.ChangeMaps Go.MapKept

abbrev SP := Int × Int
abbrev spV (m : SP) : Value := .agg #[.int .i64 m.1, .int .i64 m.2]
def intD : Option Value → Int
  | some (.int _ n) => n
  | _ => 0
def spD : Value → SP
  | .agg a => (intD a[0]?, intD a[1]?)
  | _ => (0, 0)
theorem spD_spV (m : SP) : spD (spV m) = m := rfl

def updH : List (SP × Int) → SP → Int → List (SP × Int)
  | [], m, i => [(m, i)]
  | (m', j) :: L, m, i => if m = m' then (m, i) :: L else (m', j) :: updH L m i
def idxH : List (SP × Int) → SP → Option (Nat × Int)
  | [], _ => none
  | (m', j) :: L, m => if m = m' then some (0, j) else (idxH L m).map fun p => (p.1 + 1, p.2)
/-- what stands at a key: nought where there is none -/
def atH (L : List (SP × Int)) (m : SP) : Int := ((idxH L m).map (·.2)).getD 0

def KvH (es : List MapEntry) (L : List (SP × Int)) : Prop := es.map (fun e => (e.key, e.val)) = L.map (fun p => (spV p.1, Value.int .i64 p.2))
/-- block b of the world is a map with these entries -/
def MapH (w : World) (b : Nat) (L : List (SP × Int)) : Prop :=
  ∃ es c, w.heap[b]? = some (.map es c) ∧ KvH es.toList L ∧ (∀ x ∈ es.toList, x.born < c) ∧ (es.toList.map (·.born)).Nodup

structure KeyH (P : Program) (K : TypeId) : Prop where
  und : ∃ fs, P.underlying K = some (.struct fs)
  eq : ∀ a b w, (Op.equal K (spV a) (spV b)).run P w = .ok (decide (a = b)) w
  chk : ∀ e a w, (Instr.checkKey e 10000 K (spV a)).run P w = .ok () w

theorem findH_run {P : Program} {K : TypeId} (hK : KeyH P K) (m : SP) (w : World) : ∀ (es : List MapEntry) (L : List (SP × Int)) (i : Nat), KvH es L →
    (Instr.findAsking K (spV m) es i).run P w = .ok ((idxH L m).map fun p => (p.1 + i, Value.int .i64 p.2)) w
  | [], [], i, _ => by simp [Instr.findAsking, idxH]
  | [], _ :: _, _, h => by simp [KvH] at h
  | _ :: _, [], _, h => by simp [KvH] at h
  | e :: es, (m', j) :: L, i, h => by
    simp only [KvH, List.map_cons, List.cons.injEq, Prod.mk.injEq] at h
    obtain ⟨⟨h1, h2⟩, h3⟩ := h
    have ih := findH_run hK m w es L (i + 1) h3
    by_cases c : m = m'
    · simp [Instr.findAsking, h1, h2, hK.eq, c, idxH, Result.andThen]
    · have : (idxH ((m', j) :: L) m).map (fun p => (p.1 + i, Value.int .i64 p.2)) = (idxH L m).map (fun p => (p.1 + (i + 1), Value.int .i64 p.2)) := by
        rw [idxH, if_neg c, Option.map_map]
        congr 1
        funext p
        simp; omega
      rw [this, ← ih]
      simp [Instr.findAsking, h1, hK.eq, c, Result.andThen]

theorem findKeyH_run {P : Program} {K : TypeId} (hK : KeyH P K) (m : SP) (w : World) (es : List MapEntry) (L : List (SP × Int)) (h : KvH es L) :
    (Instr.findKey K (spV m) es).run P w = .ok ((idxH L m).map fun p => (p.1, Value.int .i64 p.2)) w := by
  obtain ⟨fs, hu⟩ := hK.und
  have hf := findH_run hK m w es L 0 h
  simp only [Nat.add_zero] at hf
  cases es with
  | nil =>
    cases L with
    | nil => simp [Instr.findKey, run_underlying hu, Instr.findNow, idxH, Result.andThen]
    | cons _ _ => simp [KvH] at h
  | cons e es =>
    have : Instr.findNow (.struct fs) (spV m) (e :: es) 0 = none := by simp [Instr.findNow, Instr.sameNow]
    simp only [Instr.findKey, Sem.run_bind, run_underlying hu, Result.andThen, this]
    exact hf

theorem sameH_bits (m : SP) : Instr.sameBits 10000 (spV m) (spV m) = true := by
  show (_ && _) = true
  simp [Instr.sameBits]

theorem idxH_lt : ∀ (L : List (SP × Int)) (m : SP) (p : Nat) (v : Int), idxH L m = some (p, v) → L[p]? = some (m, v)
  | [], _, _, _, h => by simp [idxH] at h
  | (m', j) :: L, m, p, v, h => by
    rw [idxH] at h
    by_cases c : m = m'
    · rw [if_pos c] at h; simp at h; obtain ⟨rfl, rfl⟩ := h; simp [c]
    · rw [if_neg c] at h
      cases hi : idxH L m with
      | none => rw [hi] at h; simp at h
      | some q =>
        rw [hi] at h; simp at h
        obtain ⟨rfl, rfl⟩ := h
        simpa using idxH_lt L m q.1 q.2 (by rw [hi])
theorem updH_none : ∀ (L : List (SP × Int)) (m : SP) (i : Int), idxH L m = none → updH L m i = L ++ [(m, i)]
  | [], _, _, _ => rfl
  | (m', j) :: L, m, i, h => by
    rw [idxH] at h
    by_cases c : m = m'
    · rw [if_pos c] at h; simp at h
    · rw [if_neg c] at h
      rw [updH, if_neg c, updH_none L m i (by simpa using h)]; rfl
theorem updH_some : ∀ (L : List (SP × Int)) (m : SP) (i : Int) (p : Nat) (v : Int), idxH L m = some (p, v) → updH L m i = L.modify p fun _ => (m, i)
  | [], _, _, _, _, h => by simp [idxH] at h
  | (m', j) :: L, m, i, p, v, h => by
    rw [idxH] at h
    by_cases c : m = m'
    · rw [if_pos c] at h; simp at h; obtain ⟨rfl, rfl⟩ := h; rw [updH, if_pos c]; rfl
    · rw [if_neg c] at h
      cases hi : idxH L m with
      | none => rw [hi] at h; simp at h
      | some q =>
        rw [hi] at h; simp at h
        obtain ⟨rfl, rfl⟩ := h
        rw [updH, if_neg c, updH_some L m i q.1 q.2 (by rw [hi])]; rfl

theorem mapH_modify {α β : Type} (f : α → β) (g : α → α) (g' : β → β) (h : ∀ x, f (g x) = g' (f x)) : ∀ (l : List α) (i : Nat), (l.modify i g).map f = (l.map f).modify i g'
  | [], i => by simp
  | x :: l, 0 => by simp [h]
  | x :: l, i + 1 => by simp [mapH_modify f g g' h l i]

theorem mapH_modify_id {α β : Type} (f : α → β) (g : α → α) (h : ∀ x, f (g x) = f x) : ∀ (l : List α) (i : Nat), (l.modify i g).map f = l.map f
  | [], i => by simp
  | x :: l, 0 => by simp [h]
  | x :: l, i + 1 => by simp [mapH_modify_id f g h l i]

theorem updateH_run {P : Program} {T K E : TypeId} (ht : P.underlying T = some (.map K E)) (hK : KeyH P K) {w : World} {b : Nat} {L : List (SP × Int)} (h : MapH w b L) (m : SP) (i : Int) :
    ∃ w', (Instr.mapUpdate T (.map (some b)) (spV m) (.int .i64 i)).run P w = .ok () w' ∧ MapH w' b (updH L m i) ∧ w.mapTurned w' b := by
  obtain ⟨es, c, hb, he, hs, hn⟩ := h
  have hf := findKeyH_run hK m w es.toList L he
  cases hi : idxH L m with
  | none =>
    rw [hi] at hf
    refine ⟨setBlock w b (.map (es.push { key := spV m, val := .int .i64 i, born := c }) (c + 1)), ?_, ?_, ⟨es, c, _, _, hb, rfl⟩⟩
    · simp [Instr.mapUpdate, run_underlying ht, MapKept.run_getObj_map hb, hK.chk, hf, MapKept.run_setObj_map _ hb, Result.andThen, setBlock]
    · refine ⟨_, _, heap_setBlock_same hb _, ?_, fun x hx => ?_, ?_⟩
      · rw [updH_none L m i hi]
        unfold KvH at he ⊢
        simp [he]
      · simp only [Array.toList_push, List.mem_append, List.mem_singleton] at hx
        rcases hx with hx | rfl
        · have := hs x hx; omega
        · dsimp; omega
      · simp only [Array.toList_push, List.map_append, List.map_cons, List.map_nil]
        refine List.nodup_append.2 ⟨hn, by simp, fun a ha d hd => ?_⟩
        simp at hd
        subst hd
        obtain ⟨x, hx, rfl⟩ := List.mem_map.1 ha
        have := hs x hx
        omega
  | some q =>
    obtain ⟨p, v⟩ := q
    rw [hi] at hf
    have hl := idxH_lt L m p v hi
    have hk : (es[p]?).map (·.key) = some (spV m) := by
      have : (es.toList.map (fun e => (e.key, e.val)))[p]? = some (spV m, Value.int .i64 v) := by unfold KvH at he; rw [he]; simp [hl]
      simp only [List.getElem?_map, Array.getElem?_toList, Option.map_eq_some_iff] at this
      obtain ⟨e, h1, h2⟩ := this
      rw [h1]
      simp only [Prod.mk.injEq] at h2
      simp [h2.1]
    have hbm : (es.modify p fun e => { e with key := spV m, val := .int .i64 i }).toList.map (·.born) = es.toList.map (·.born) := by
      rw [Array.toList_modify]
      exact mapH_modify_id (fun e : MapEntry => e.born) (fun e => { e with key := spV m, val := .int .i64 i }) (fun _ => rfl) _ _
    refine ⟨setBlock w b (.map (es.modify p fun e => { e with key := spV m, val := .int .i64 i }) c), ?_, ?_, ⟨es, c, _, _, hb, rfl⟩⟩
    · simp [Instr.mapUpdate, run_underlying ht, MapKept.run_getObj_map hb, hK.chk, hf, hk, Instr.keyThatStays, sameH_bits, MapKept.run_setObj_map _ hb, Result.andThen, setBlock]
    · refine ⟨_, _, heap_setBlock_same hb _, ?_, fun x hx => ?_, by rw [hbm]; exact hn⟩
      · unfold KvH at he ⊢
        rw [updH_some L m i p v hi, Array.toList_modify, mapH_modify (fun e : MapEntry => (e.key, e.val)) _ (fun _ => (spV m, Value.int .i64 i)) (fun _ => rfl), he, mapH_modify (fun p : SP × Int => (spV p.1, Value.int .i64 p.2)) _ (fun _ => (spV m, Value.int .i64 i)) (fun _ => rfl)]
      · have : x.born ∈ es.toList.map (·.born) := by rw [← hbm]; exact List.mem_map.2 ⟨x, hx, rfl⟩
        obtain ⟨y, hy, e⟩ := List.mem_map.1 this
        rw [← e]; exact hs y hy

theorem lookupH_run {P : Program} {T K E : TypeId} (ht : P.underlying T = some (.map K E)) (hK : KeyH P K) {w : World} {b : Nat} {L : List (SP × Int)} (h : MapH w b L) (m : SP) (hz : (zeroValue E).run P w = .ok (.int .i64 0) w) :
    (Instr.lookup T (.map (some b)) (spV m) false).run P w = .ok (.int .i64 (atH L m)) w := by
  obtain ⟨es, c, hb, he, _, _⟩ := h
  have hf := findKeyH_run hK m w es.toList L he
  unfold atH
  cases hi : idxH L m with
  | none =>
    rw [hi] at hf
    simp [Instr.lookup, run_underlying ht, MapKept.run_getObj_map hb, hK.chk, hf, hz, Result.andThen]
  | some q =>
    rw [hi] at hf
    simp [Instr.lookup, run_underlying ht, MapKept.run_getObj_map hb, hK.chk, hf, Result.andThen]

theorem MapH.new (w : World) : MapH (w.alloc (.map #[] 0)) w.heap.size [] := ⟨#[], 0, (MapKept.heap_alloc w _).1, rfl, by simp, by simp⟩
theorem MapH.lt {w : World} {b : Nat} {L : List (SP × Int)} (h : MapH w b L) : b < w.heap.size := by
  obtain ⟨es, c, hb, _⟩ := h
  exact (Array.getElem?_eq_some_iff.1 hb).1
theorem MapH.same {w w' : World} {b : Nat} {L : List (SP × Int)} (h : MapH w b L) (e : w'.heap[b]? = w.heap[b]?) : MapH w' b L := by
  obtain ⟨es, c, he, r⟩ := h
  exact ⟨es, c, e.trans he, r⟩
theorem MapH.below {w w' : World} {b : Nat} {L : List (SP × Int)} (h : MapH w b L) (hb : Below w.heap.size w w') : MapH w' b L := h.same (hb.block b h.lt)
theorem MapH.alloc {w : World} {b : Nat} {L : List (SP × Int)} (h : MapH w b L) (o : Obj) : MapH (w.alloc o) b L := h.below ((Below.refl _ _).alloc (Nat.le_refl _) _)

theorem findIdxH : ∀ (l : List MapEntry) (p : Nat) (e : MapEntry), (l.map (·.born)).Nodup → l[p]? = some e → l.findIdx? (fun x => (x.born : Int) == (e.born : Int)) = some p
  | [], _, _, _, h => by simp at h
  | x :: l, 0, e, _, h => by
    simp only [List.getElem?_cons_zero, Option.some.injEq] at h
    subst h
    simp [List.findIdx?_cons]
  | x :: l, p + 1, e, hn, h => by
    simp only [List.map_cons, List.nodup_cons] at hn
    simp only [List.getElem?_cons_succ] at h
    have hne : x.born ≠ e.born := fun c => hn.1 (by rw [c]; exact List.mem_map.2 ⟨e, List.mem_of_getElem? h, rfl⟩)
    have hne' : ((x.born : Int) == (e.born : Int)) = false := by simp; omega
    rw [List.findIdx?_cons, hne', findIdxH l p e hn.2 h]
    rfl
theorem modify_lastH {α : Type} (f : α → α) (a : α) : ∀ l : List α, (l ++ [a]).modify l.length f = l ++ [f a]
  | [] => rfl
  | b :: r => by simp [List.modify_succ_cons, modify_lastH f a r]
theorem modify_sameH {α : Type} (f : α → α) : ∀ (l : List α) (p : Nat) (e : α), l[p]? = some e → f e = e → l.modify p f = l
  | [], _, _, h, _ => by simp at h
  | x :: l, 0, e, h, hf => by simp at h; subst h; simp [hf]
  | x :: l, p + 1, e, h, hf => by
    simp only [List.getElem?_cons_succ] at h
    simp [modify_sameH f l p e h hf]
theorem findIdx_listH (xs : Array MapEntry) (p : MapEntry → Bool) : xs.findIdx? p = xs.toList.findIdx? p := by
  cases xs
  simp
theorem entryStoreH {P : Program} {T : TypeId} {w : World} {b : Nat} {es : Array MapEntry} {c p : Nat} {st : Int} {v : Value} (hb : w.heap[b]? = some (.map es c)) (hidx : es.findIdx? (fun e => (e.born : Int) == st) = some p) :
    (Instr.entryStore T (.map (some b)) (.int .i64 st) v).run P w = .ok () (setBlock w b (.map (es.modify p fun e => { e with val := v }) c)) := by
  simp [Instr.entryStore, MapKept.run_getObj_map hb, asInt, asIntOf, hidx, MapKept.run_setObj_map _ hb, Result.andThen, setBlock]
theorem modify_twoH {α : Type} (f g : α → α) : ∀ (l : List α) (i : Nat), (l.modify i f).modify i g = l.modify i (fun x => g (f x))
  | [], i => by simp
  | x :: l, 0 => by simp
  | x :: l, i + 1 => by simp [modify_twoH f g l i]
theorem atH_more {L : List (SP × Int)} {m : SP} (h : idxH L m = none) : atH (L ++ [(m, 0)]) m = atH L m := by
  have : ∀ L : List (SP × Int), idxH L m = none → idxH (L ++ [(m, 0)]) m = some (L.length, 0) := by
    intro L
    induction L with
    | nil => intro _; simp [idxH]
    | cons x L ih =>
      obtain ⟨m', j⟩ := x
      intro h
      unfold idxH at h
      by_cases c : m = m'
      · rw [if_pos c] at h; cases h
      · rw [if_neg c] at h
        simp only [List.cons_append]
        unfold idxH
        rw [if_neg c, ih (by simpa using h)]
        rfl
  unfold atH
  rw [this L h, h]
  rfl
/-- 'm[k]++', the place found and then stored into -/
theorem entryH_run {P : Program} {T K E : TypeId} (ht : P.underlying T = some (.map K E)) (hK : KeyH P K) (hz : ∀ u : World, (zeroValue E).run P u = .ok (.int .i64 0) u) {w : World} {b : Nat} {L : List (SP × Int)} (h : MapH w b L) (m : SP) :
    ∃ (v : Value) (st : Int) (w1 : World), (Instr.mapEntry T (.map (some b)) (spV m)).run P w = .ok (.tuple #[v, .int .i64 st]) w1 ∧ w.mapTurned w1 b ∧ (Instr.lookup T (.map (some b)) (spV m) false).run P w1 = .ok (.int .i64 (atH L m)) w1 ∧
      ∀ i : Int, ∃ w2, (Instr.entryStore T (.map (some b)) (.int .i64 st) (.int .i64 i)).run P w1 = .ok () w2 ∧ MapH w2 b (updH L m i) ∧ w1.mapTurned w2 b := by
  obtain ⟨es, c, hb, he, hs, hn⟩ := h
  have hf := findKeyH_run hK m w es.toList L he
  cases hi : idxH L m with
  | none =>
    rw [hi] at hf
    have hb1 := heap_setBlock_same hb (.map (es.push { key := spV m, val := .int .i64 0, born := c }) (c + 1))
    have hs1 : ∀ x ∈ (es.push { key := spV m, val := .int .i64 0, born := c }).toList, x.born < c + 1 := fun x hx => by
      simp only [Array.toList_push, List.mem_append, List.mem_singleton] at hx
      rcases hx with hx | rfl
      · have := hs x hx; omega
      · dsimp; omega
    have hn1 : ((es.push { key := spV m, val := .int .i64 0, born := c }).toList.map (·.born)).Nodup := by
      simp only [Array.toList_push, List.map_append, List.map_cons, List.map_nil]
      refine List.nodup_append.2 ⟨hn, by simp, fun a ha d hd => ?_⟩
      simp at hd
      subst hd
      obtain ⟨x, hx, rfl⟩ := List.mem_map.1 ha
      have := hs x hx
      omega
    have hidx : (es.push { key := spV m, val := .int .i64 0, born := c }).findIdx? (fun e => (e.born : Int) == (c : Int)) = some es.size := by
      have h1 := findIdxH (es.push { key := spV m, val := .int .i64 0, born := c }).toList es.size { key := spV m, val := .int .i64 0, born := c } hn1 (by simp)
      rw [findIdx_listH]
      exact h1
    refine ⟨.int .i64 0, c, setBlock w b (.map (es.push { key := spV m, val := .int .i64 0, born := c }) (c + 1)), ?_, ⟨es, c, _, _, hb, rfl⟩, ?_, fun i => ⟨setBlock (setBlock w b (.map (es.push { key := spV m, val := .int .i64 0, born := c }) (c + 1))) b (.map ((es.push { key := spV m, val := .int .i64 0, born := c }).modify es.size fun e => { e with val := .int .i64 i }) (c + 1)), ?_, ?_, ⟨_, _, _, _, hb1, rfl⟩⟩⟩
    · simp [Instr.mapEntry, run_underlying ht, MapKept.run_getObj_map hb, hK.chk, hf, hz, goInt, MapKept.run_setObj_map _ hb, Result.andThen, setBlock]
    · rw [← atH_more hi]
      refine lookupH_run ht hK ⟨_, _, hb1, ?_, hs1, hn1⟩ m (hz _)
      unfold KvH at he ⊢
      simp [he]
    · exact entryStoreH hb1 hidx
    · have hbm : ((es.push { key := spV m, val := .int .i64 0, born := c }).modify es.size fun e => { e with val := .int .i64 i }).toList.map (·.born) = (es.push { key := spV m, val := .int .i64 0, born := c }).toList.map (·.born) := by
        rw [Array.toList_modify]
        exact mapH_modify_id (fun e : MapEntry => e.born) (fun e => { e with val := .int .i64 i }) (fun _ => rfl) _ _
      refine ⟨_, _, heap_setBlock_same hb1 _, ?_, fun x hx => ?_, by rw [hbm]; exact hn1⟩
      · rw [updH_none L m i hi]
        unfold KvH at he ⊢
        rw [Array.toList_modify, Array.toList_push, ← Array.length_toList, modify_lastH]
        simp [he]
      · have : x.born ∈ (es.push { key := spV m, val := .int .i64 0, born := c }).toList.map (·.born) := by rw [← hbm]; exact List.mem_map.2 ⟨x, hx, rfl⟩
        obtain ⟨y, hy, e⟩ := List.mem_map.1 this
        rw [← e]; exact hs1 y hy
  | some q =>
    obtain ⟨p, v⟩ := q
    rw [hi] at hf
    have hl := idxH_lt L m p v hi
    obtain ⟨e0, h0, hk0, hv0⟩ : ∃ e0 : MapEntry, es[p]? = some e0 ∧ e0.key = spV m ∧ e0.val = Value.int .i64 v := by
      have : (es.toList.map (fun e => (e.key, e.val)))[p]? = some (spV m, Value.int .i64 v) := by unfold KvH at he; rw [he]; simp [hl]
      simp only [List.getElem?_map, Array.getElem?_toList, Option.map_eq_some_iff] at this
      obtain ⟨e, h1, h2⟩ := this
      simp only [Prod.mk.injEq] at h2
      exact ⟨e, h1, h2.1, h2.2⟩
    have hb1 := heap_setBlock_same hb (.map (es.modify p fun e => { e with key := spV m }) c)
    have hbm : (es.modify p fun e => { e with key := spV m }).toList.map (·.born) = es.toList.map (·.born) := by
      rw [Array.toList_modify]
      exact mapH_modify_id (fun e : MapEntry => e.born) (fun e => { e with key := spV m }) (fun _ => rfl) _ _
    have hn1 : ((es.modify p fun e => { e with key := spV m }).toList.map (·.born)).Nodup := by rw [hbm]; exact hn
    have hs1 : ∀ x ∈ (es.modify p fun e => { e with key := spV m }).toList, x.born < c := fun x hx => by
      have : x.born ∈ es.toList.map (·.born) := by rw [← hbm]; exact List.mem_map.2 ⟨x, hx, rfl⟩
      obtain ⟨y, hy, e⟩ := List.mem_map.1 this
      rw [← e]; exact hs y hy
    have he1 : KvH (es.modify p fun e => { e with key := spV m }).toList L := by
      unfold KvH at he ⊢
      have hsame : (es.modify p fun e => { e with key := spV m }).toList = es.toList := by
        rw [Array.toList_modify]
        exact modify_sameH (fun e : MapEntry => { e with key := spV m }) es.toList p e0 (by simpa using h0) (by show ({ e0 with key := spV m } : MapEntry) = e0; rw [← hk0])
      rw [hsame, he]
    have hidx : (es.modify p fun e => { e with key := spV m }).findIdx? (fun e => (e.born : Int) == (e0.born : Int)) = some p := by
      have h1 := findIdxH (es.modify p fun e => { e with key := spV m }).toList p { e0 with key := spV m } hn1 (by
        rw [Array.toList_modify, List.getElem?_modify_eq]
        have h0' : es.toList[p]? = some e0 := by simpa using h0
        rw [h0']
        rfl)
      rw [findIdx_listH]
      exact h1
    refine ⟨.int .i64 v, e0.born, setBlock w b (.map (es.modify p fun e => { e with key := spV m }) c), ?_, ⟨es, c, _, _, hb, rfl⟩, ?_, fun i => ⟨setBlock (setBlock w b (.map (es.modify p fun e => { e with key := spV m }) c)) b (.map ((es.modify p fun e => { e with key := spV m }).modify p fun e => { e with val := .int .i64 i }) c), ?_, ?_, ⟨_, _, _, _, hb1, rfl⟩⟩⟩
    · simp [Instr.mapEntry, run_underlying ht, MapKept.run_getObj_map hb, hK.chk, hf, h0, hk0, goInt, Instr.keyThatStays, sameH_bits, MapKept.run_setObj_map _ hb, Result.andThen, setBlock]
    · exact lookupH_run ht hK ⟨_, _, hb1, he1, hs1, hn1⟩ m (hz _)
    · exact entryStoreH hb1 hidx
    · have hbm2 : ((es.modify p fun e => { e with key := spV m }).modify p fun e => { e with val := .int .i64 i }).toList.map (·.born) = (es.modify p fun e => { e with key := spV m }).toList.map (·.born) := by
        rw [Array.toList_modify]
        exact mapH_modify_id (fun e : MapEntry => e.born) (fun e => { e with val := .int .i64 i }) (fun _ => rfl) _ _
      refine ⟨_, _, heap_setBlock_same hb1 _, ?_, fun x hx => ?_, by rw [hbm2]; exact hn1⟩
      · unfold KvH at he ⊢
        rw [updH_some L m i p v hi, Array.toList_modify, Array.toList_modify, modify_twoH, mapH_modify (fun e : MapEntry => (e.key, e.val)) _ (fun _ => (spV m, Value.int .i64 i)) (fun _ => rfl), he, mapH_modify (fun p : SP × Int => (spV p.1, Value.int .i64 p.2)) _ (fun _ => (spV m, Value.int .i64 i)) (fun _ => rfl)]
      · have : x.born ∈ (es.modify p fun e => { e with key := spV m }).toList.map (·.born) := by rw [← hbm2]; exact List.mem_map.2 ⟨x, hx, rfl⟩
        obtain ⟨y, hy, e⟩ := List.mem_map.1 this
        rw [← e]; exact hs1 y hy

/-! going through it -/
/-- block r goes through the map in block b; ys: the keys that have come -/
def RngH (w : World) (b r : Nat) (L : List (SP × Int)) (ys : List SP) : Prop :=
  ∃ es c since seen c0, w.heap[b]? = some (.map es c) ∧ w.heap[r]? = some (.mapIter (some b) since seen c0) ∧ KvH es.toList L ∧ (∀ x ∈ es.toList, x.born < since) ∧ since ≤ c0 ∧ since ≤ c ∧
    (es.toList.map (·.born)).Nodup ∧ (ys ++ (leftOf es seen).toList.map (fun e => spD e.key)).Perm (L.map (·.1))

theorem MapH.range {P : Program} {T K E : TypeId} (ht : P.underlying T = some (.map K E)) {w : World} {b : Nat} {L : List (SP × Int)} (h : MapH w b L) :
    ∃ w', (Instr.range T (.map (some b))).run P w = .ok (.pointer (some ⟨w.heap.size, 0, none⟩)) w' ∧ RngH w' b w.heap.size L [] ∧ w.grownBy w' none ∧ w'.heap.size = w.heap.size + 1 := by
  have hlt := h.lt
  obtain ⟨es, c, hb, he, hs, hn⟩ := h
  refine ⟨_, run_range_map w T K E b es c ht hb, ⟨es, c, c, #[], c, ((MapKept.heap_alloc w _).2 b hlt).trans hb, (MapKept.heap_alloc w _).1, he, hs, Nat.le_refl _, Nat.le_refl _, hn, ?_⟩, World.grownBy_alloc w _ none, by simp⟩
  have e1 : leftOf es #[] = es := by simp [leftOf]
  have e2 : es.toList.map (fun e => spD e.key) = L.map (·.1) := by
    have := congrArg (List.map (fun p : Value × Value => spD p.1)) he
    simpa [KvH, List.map_map, Function.comp_def, spD_spV] using this
  rw [e1, List.nil_append, e2]

theorem filter_born_perm (e : MapEntry) : ∀ (l : List MapEntry), (l.map (·.born)).Nodup → e ∈ l → (e :: l.filter (fun x => !(x.born == e.born))).Perm l
  | [], _, h => by simp at h
  | x :: l, hn, h => by
    simp only [List.map_cons, List.nodup_cons] at hn
    rcases List.mem_cons.1 h with rfl | h
    · have : l.filter (fun x => !(x.born == e.born)) = l := by
        rw [List.filter_eq_self]
        intro y hy
        have : y.born ≠ e.born := fun c => hn.1 (by rw [← c]; exact List.mem_map.2 ⟨y, hy, rfl⟩)
        simp [this]
      simp [this]
    · have hne : x.born ≠ e.born := fun c => hn.1 (by rw [c]; exact List.mem_map.2 ⟨e, h, rfl⟩)
      have ih := filter_born_perm e l hn.2 h
      simp only [List.filter_cons, hne, Bool.not_eq_true', beq_eq_false_iff_ne, ne_eq, not_false_eq_true, if_true]
      exact (List.Perm.swap x e _).trans (ih.cons x)

theorem RngH.next {P : Program} {w : World} {b r : Nat} {L : List (SP × Int)} {ys : List SP} (h : RngH w b r L ys) (ty : TypeId) :
    (ys.Perm (L.map (·.1)) ∧ (Instr.next (.pointer (some ⟨r, 0, none⟩)) false ty).run P w = .ok (.tuple #[.bool false]) w) ∨
    ∃ (m : SP) (v : Int) (w' : World), ys.length < L.length ∧ (Instr.next (.pointer (some ⟨r, 0, none⟩)) false ty).run P w = .ok (.tuple #[.bool true, spV m, .int .i64 v]) w' ∧ RngH w' b r L (ys ++ [m]) ∧ w.grownBy w' (some r) ∧ w'.heap.size = w.heap.size ∧ (Instr.entry (.pointer (some ⟨r, 0, none⟩))).run P w' = .ok (.tuple #[spV m, .int .i64 v]) w' := by
  obtain ⟨es, c, since, seen, c0, hb, hr, he, hold, hsc, hsk, hn, hp⟩ := h
  have hne : r ≠ b := by intro e; rw [e, hb] at hr; cases hr
  rcases run_next_at (P := P) w ty r b since c0 seen es c hr hb hold hsc with ⟨h0, hrun⟩ | ⟨e, hel, w1, hal, hrun⟩
  · refine .inl ⟨?_, hrun⟩
    have : leftOf es seen = #[] := Array.eq_empty_of_size_eq_zero h0
    simpa [this] using hp
  · obtain ⟨hem, hes⟩ := mem_left hel
    have hkv : ∃ (m : SP) (v : Int), e.key = spV m ∧ e.val = .int .i64 v := by
      have : (e.key, e.val) ∈ L.map (fun p => (spV p.1, Value.int .i64 p.2)) := by
        unfold KvH at he; rw [← he]; exact List.mem_map.2 ⟨e, hem, rfl⟩
      obtain ⟨p, _, hp⟩ := List.mem_map.1 this
      simp only [Prod.mk.injEq] at hp
      exact ⟨p.1, p.2, hp.1.symm, hp.2.symm⟩
    obtain ⟨m, v, hk, hv⟩ := hkv
    have hr1 : w1.heap[r]? = some (.mapIter (some b) since seen c0) := by rcases hal with rfl | rfl <;> exact hr
    have hb1 : w1.heap[b]? = some (.map es c) := by rcases hal with rfl | rfl <;> exact hb
    have hset := heap_set (o' := .mapIter (some b) since (seen.push e.born) c) hr1
    have hb' : (setBlock w1 r (.mapIter (some b) since (seen.push e.born) c)).heap[b]? = some (.map es c) := (hset.2 b (fun e1 => hne e1.symm)).trans hb1
    have hl : (leftOf es (seen.push e.born)).toList = (leftOf es seen).toList.filter (fun x => !(x.born == e.born)) := by
      unfold leftOf
      rw [Array.toList_filter, Array.toList_filter, List.filter_filter]
      congr 1
      funext x
      rw [contains_push]
      cases seen.contains x.born <;> cases (x.born == e.born) <;> rfl
    have hnl : ((leftOf es seen).toList.map (·.born)).Nodup := by
      unfold leftOf
      rw [Array.toList_filter]
      exact (List.filter_sublist.map _).nodup hn
    have hq := (filter_born_perm e _ hnl hel).map (fun e => spD e.key)
    rw [List.map_cons, hk, spD_spV] at hq
    refine .inr ⟨m, v, _, ?_, by rw [hrun, hk, hv], ⟨es, c, since, seen.push e.born, c, hb', hset.1, he, hold, hsk, hsk, hn, ?_⟩, ?_, ?_, by rw [run_entry_at _ r b since seen es c e hset.1 hb' hem hn, hk, hv]⟩
    · have h1 := hp.length_eq
      have h2 : 0 < (leftOf es seen).toList.length := List.length_pos_of_mem hel
      simp only [List.length_append, List.length_map] at h1
      omega
    · rw [hl, List.append_assoc, List.singleton_append]
      exact (hq.append_left ys).trans hp
    · rcases hal with rfl | rfl <;> exact ⟨rfl, rfl, rfl, by simp [setBlock], fun i _ hi => hset.2 i (fun e1 => hi (by rw [e1]))⟩
    · rcases hal with rfl | rfl <;> simp [setBlock]
theorem RngH.same {w w' : World} {b r : Nat} {L : List (SP × Int)} {ys : List SP} (h : RngH w b r L ys) (e1 : w'.heap[b]? = w.heap[b]?) (e2 : w'.heap[r]? = w.heap[r]?) : RngH w' b r L ys := by
  obtain ⟨es, c, since, seen, c0, hb, hr, rest⟩ := h
  exact ⟨es, c, since, seen, c0, e1.trans hb, e2.trans hr, rest⟩
theorem RngH.walk {w : World} {b r : Nat} {L : List (SP × Int)} {ys : List SP} (h : RngH w b r L ys) : ∃ o : Obj, w.heap[r]? = some o ∧ o.isWalk = true := by
  obtain ⟨es, c, since, seen, c0, hb, hr, rest⟩ := h
  exact ⟨_, hr, rfl⟩
theorem RngH.of_walks {w w' : World} {b r : Nat} {L : List (SP × Int)} {ys : List SP} (h : RngH w b r L ys) (hk : KeepsWalks w w') : RngH w' b r L ys := by
  obtain ⟨es, c, since, seen, c0, hb, hr, rest⟩ := h
  exact ⟨es, c, since, seen, c0, hk.same b _ hb rfl, hk.same r _ hr rfl, rest⟩
theorem RngH.ne {w : World} {b r : Nat} {L : List (SP × Int)} {ys : List SP} (h : RngH w b r L ys) : r ≠ b := by
  obtain ⟨es, c, since, seen, c0, hb, hr, _⟩ := h
  intro e; rw [e, hb] at hr; cases hr
theorem RngH.map {w : World} {b r : Nat} {L : List (SP × Int)} {ys : List SP} (h : RngH w b r L ys) (hs : ∃ es c, w.heap[b]? = some (.map es c) ∧ (∀ x ∈ es.toList, x.born < c)) : MapH w b L := by
  obtain ⟨es, c, since, seen, c0, hb, _, he, _, _, _, hn, _⟩ := h
  obtain ⟨es', c', hb', h'⟩ := hs
  rw [hb] at hb'; cases hb'
  exact ⟨es, c, hb, he, h', hn⟩
/-- how many are still to come: at least so many that have not come -/
theorem RngH.len {w : World} {b r : Nat} {L : List (SP × Int)} {ys : List SP} (h : RngH w b r L ys) : ys.length ≤ L.length := by
  obtain ⟨es, c, since, seen, c0, _, _, _, _, _, _, _, hp⟩ := h
  have h1 := hp.length_eq
  simp only [List.length_append, List.length_map] at h1
  omega

/-! the counts of some records -/
def HtIs (c : SP → Int) (L : List (SP × Int)) : Prop := (L.map (·.1)).Nodup ∧ ∀ m h, (m, h) ∈ L ↔ h = c m ∧ 0 < h
theorem idxH_mem : ∀ (L : List (SP × Int)) (m : SP) (v : Int), (L.map (·.1)).Nodup → (m, v) ∈ L → ∃ p, idxH L m = some (p, v)
  | [], _, _, _, h => by simp at h
  | (m', j) :: L, m, v, hn, h => by
    simp only [List.map_cons, List.nodup_cons] at hn
    unfold idxH
    rcases List.mem_cons.1 h with e | h
    · cases e; rw [if_pos rfl]; exact ⟨0, rfl⟩
    · have : m ≠ m' := fun e => hn.1 (by rw [← e]; exact List.mem_map.2 ⟨_, h, rfl⟩)
      obtain ⟨p, hp⟩ := idxH_mem L m v hn.2 h
      rw [if_neg this, hp]
      exact ⟨p + 1, rfl⟩
theorem idxH_none : ∀ (L : List (SP × Int)) (m : SP), (∀ v, (m, v) ∉ L) → idxH L m = none
  | [], _, _ => rfl
  | (m', j) :: L, m, h => by
    unfold idxH
    have : m ≠ m' := fun e => h j (by rw [e]; exact List.mem_cons_self ..)
    rw [if_neg this, idxH_none L m fun v hv => h v (List.mem_cons_of_mem _ hv)]
    rfl
theorem HtIs.at {c : SP → Int} {L : List (SP × Int)} (h : HtIs c L) (hc : ∀ m, 0 ≤ c m) (m : SP) : atH L m = c m := by
  unfold atH
  by_cases e : 0 < c m
  · obtain ⟨p, hp⟩ := idxH_mem L m (c m) h.1 ((h.2 m (c m)).2 ⟨rfl, e⟩)
    rw [hp]; rfl
  · rw [idxH_none L m fun v hv => by have := (h.2 m v).1 hv; omega]
    have := hc m
    show (0 : Int) = _
    omega
theorem keys_updH : ∀ (L : List (SP × Int)) (m : SP) (i : Int), (updH L m i).map (·.1) = if (idxH L m).isSome then L.map (·.1) else L.map (·.1) ++ [m]
  | [], _, _ => rfl
  | (m', j) :: L, m, i => by
    unfold updH idxH
    by_cases c : m = m'
    · rw [if_pos c, if_pos c]; simp [c]
    · rw [if_neg c, if_neg c]
      have := keys_updH L m i
      cases h : idxH L m with
      | none => rw [h] at this; simpa using this
      | some q => rw [h] at this; simpa using this
theorem mem_updH : ∀ (L : List (SP × Int)) (m : SP) (i : Int), (L.map (·.1)).Nodup → ∀ k v, (k, v) ∈ updH L m i ↔ if k = m then v = i else (k, v) ∈ L
  | [], m, i, _, k, v => by
    unfold updH
    by_cases e : k = m
    · subst e; rw [if_pos rfl]; simp
    · rw [if_neg e]; simp [e]
  | (m', j) :: L, m, i, hn, k, v => by
    simp only [List.map_cons, List.nodup_cons] at hn
    have ih := mem_updH L m i hn.2 k v
    unfold updH
    by_cases c : m = m'
    · subst c
      rw [if_pos rfl, List.mem_cons]
      by_cases e : k = m
      · subst e
        rw [if_pos rfl]
        constructor
        · rintro (h | h)
          · exact (Prod.mk.inj h).2
          · exact absurd (List.mem_map.2 ⟨_, h, rfl⟩) hn.1
        · rintro rfl; exact .inl rfl
      · rw [if_neg e, List.mem_cons]
        constructor
        · rintro (h | h)
          · exact absurd (Prod.mk.inj h).1 e
          · exact .inr h
        · rintro (h | h)
          · exact absurd (Prod.mk.inj h).1 e
          · exact .inr h
    · rw [if_neg c, List.mem_cons, ih]
      by_cases e : k = m
      · rw [if_pos e, if_pos e]
        constructor
        · rintro (h | h)
          · exact absurd (e.symm.trans (Prod.mk.inj h).1) c
          · exact h
        · exact .inr
      · rw [if_neg e, if_neg e, List.mem_cons]
theorem idxH_notin {L : List (SP × Int)} {m : SP} (h : (idxH L m).isSome = false) : m ∉ L.map (·.1) := by
  induction L with
  | nil => simp
  | cons x L ih =>
    obtain ⟨m', j⟩ := x
    unfold idxH at h
    by_cases c : m = m'
    · rw [if_pos c] at h; cases h
    · rw [if_neg c] at h
      have := ih (by simpa using h)
      simp only [List.map_cons, List.mem_cons, not_or]
      exact ⟨c, this⟩
theorem HtIs.hit {c : SP → Int} {L : List (SP × Int)} (h : HtIs c L) (hc : ∀ m, 0 ≤ c m) (m : SP) : HtIs (fun k => c k + if k = m then 1 else 0) (updH L m (c m + 1)) := by
  refine ⟨?_, fun k v => ?_⟩
  · rw [keys_updH]
    cases hi : (idxH L m).isSome with
    | true => exact h.1
    | false =>
      rw [if_neg (by simp)]
      refine List.nodup_append.2 ⟨h.1, by simp, fun a ha b hb => ?_⟩
      simp at hb
      subst hb
      exact fun e => idxH_notin hi (by rw [← e]; exact ha)
  · rw [mem_updH L m _ h.1]
    have := hc m
    by_cases e : k = m
    · subst e
      simp only [if_true]
      omega
    · simp only [if_neg e, Int.add_zero]
      exact h.2 k v
theorem len_updH (L : List (SP × Int)) (m : SP) (i : Int) : (updH L m i).length ≤ L.length + 1 := by
  have := congrArg List.length (keys_updH L m i)
  simp only [List.length_map] at this
  rw [this]
  split <;> simp
end Go.Proofs.Ytiidepafifodjaa
