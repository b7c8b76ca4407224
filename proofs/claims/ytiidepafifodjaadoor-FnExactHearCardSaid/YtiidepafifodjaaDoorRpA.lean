import Derived.Test.YtiidepafifodjaaDoorUnC
/-! Reports: plain data, how they lie in memory, and the laws' own size of them. -/
namespace Go.Proofs.YtiidepafifodjaaDoor
open Go.RowKit
attribute [local go_sem] run_store_float

/-- a record -/
structure RcD where
  k : Int
  t : Int
  f : Int
  l : Int
  s : ByteArray
instance : Inhabited RcD := ⟨⟨0, 0, 0, 0, ⟨#[]⟩⟩⟩
/-- a report -/
structure RpD where
  code : Int
  n : Nat
  rc : Nat → RcD
  m : Nat
  v : Nat → ByteArray
  er : ByteArray
  tr : ByteArray
  ti : Int
  ma : Int
structure RcD.wf (d : RcD) : Prop where
  k : I64r d.k
  t : I64r d.t
  f : I64r d.f
  l : I64r d.l
  s : d.s.size ≤ maxLen
structure RpD.wf (d : RpD) : Prop where
  code : I64r d.code
  n : d.n ≤ maxLen
  rc : ∀ i, i < d.n → (d.rc i).wf
  m : d.m ≤ maxLen
  v : ∀ i, i < d.m → (d.v i).size ≤ maxLen
  er : d.er.size ≤ maxLen
  tr : d.tr.size ≤ maxLen
  ti : I64r d.ti
  ma : I64r d.ma
structure RpD.sm (d : RpD) : Prop where
  n : d.n ≤ 1048576
  rc : ∀ i, i < d.n → (d.rc i).s.size ≤ 1048576
  m : d.m ≤ 1048576
  v : ∀ i, i < d.m → (d.v i).size ≤ 1048576
  er : d.er.size ≤ 1048576
  tr : d.tr.size ≤ 1048576
/-- where its lists lie -/
structure RpX where
  ra : Option Addr
  rc : Nat
  va : Option Addr
  vc : Nat
abbrev rcC (d : RcD) : Array Value := #[.int .i64 d.k, .int .i64 d.t, .int .i64 d.f, .int .i64 d.l, .string d.s]
abbrev rcV (d : RcD) : Value := .agg #[.int .i64 d.k, .int .i64 d.t, .int .i64 d.f, .int .i64 d.l, .string d.s]
abbrev rpC (d : RpD) (x : RpX) : Array Value := #[.int .i64 d.code, .slice x.ra d.n x.rc, .slice x.va d.m x.vc, .string d.er, .string d.tr, .int .i64 d.ti, .int .i64 d.ma]
abbrev rpV (d : RpD) (x : RpX) : Value := .agg #[.int .i64 d.code, .slice x.ra d.n x.rc, .slice x.va d.m x.vc, .string d.er, .string d.tr, .int .i64 d.ti, .int .i64 d.ma]
def RcsAt (L : Nat) (w : World) (a : Option Addr) (n : Nat) (q : Nat → RcD) : Prop := RowN 5 L w a n fun i => rcC (q i)
def RpAt (L : Nat) (w : World) (d : RpD) (x : RpX) : Prop := RcsAt L w x.ra d.n d.rc ∧ RowN 1 L w x.va d.m fun i => #[.string (d.v i)]
theorem RpAt.below {L : Nat} {w w' : World} {d : RpD} {x : RpX} (h : RpAt L w d x) (hb : Below w.heap.size w w') : RpAt L w' d x := ⟨RowN.below h.1 hb, RowN.below h.2 hb⟩
theorem RpAt.alloc {L : Nat} {w : World} {d : RpD} {x : RpX} (h : RpAt L w d x) (o : Obj) : RpAt L (w.alloc o) d x := h.below (below_alloc w o)
theorem RpAt.less {L L' : Nat} {w : World} {d : RpD} {x : RpX} (h : RpAt L w d x) (hl : L' ≤ L) : RpAt L' w d x := ⟨RowN.less h.1 hl, RowN.less h.2 hl⟩
theorem RpAt.set {L : Nat} {w : World} {d : RpD} {x : RpX} (h : RpAt L w d x) {p : Addr} (hp : p.block < L) (v : Value) : RpAt L (w.setCell p v) d x := ⟨RowN.set h.1 hp v, RowN.set h.2 hp v⟩
theorem cellsR {L : Nat} {w : World} {n : Nat} {q : Nat → RcD} {a : Option Addr} (h : RcsAt L w a n q) {k : Nat} (hk : k < n) :
    ∃ b off, a = some ⟨b, off, none⟩ ∧ L ≤ b ∧ b < w.heap.size ∧ w.cell? ⟨b, off + k * 5, none⟩ = some (.int .i64 (q k).k) ∧ w.cell? ⟨b, off + k * 5 + 1, none⟩ = some (.int .i64 (q k).t) ∧ w.cell? ⟨b, off + k * 5 + 2, none⟩ = some (.int .i64 (q k).f) ∧ w.cell? ⟨b, off + k * 5 + 3, none⟩ = some (.int .i64 (q k).l) ∧ w.cell? ⟨b, off + k * 5 + 4, none⟩ = some (.string (q k).s) := by
  obtain ⟨b, off, e, h0, h1, h2⟩ := h (by omega)
  have hc := h2 k hk
  exact ⟨b, off, e, h0, h1, hc 0 (by omega), hc 1 (by omega), hc 2 (by omega), hc 3 (by omega), hc 4 (by omega)⟩

set_option maxRecDepth 100000 in
set_option maxHeartbeats 2000000 in
theorem szRec_calls (d : RcD) (left : Int) (w : World) (h0 : 0 ≤ left) (h1 : left ≤ 1048576) (hs : d.s.size ≤ maxLen) :
    Calls Tryd.prog 35 #[rcV d, .int .i64 left] w fun e w' => (∃ v : Int, e = .returned (.int .i64 v) ∧ SzSays left v (d.s.size ≤ 1048576)) ∧ Below w.heap.size w w' := by
  unfold maxLen at hs
  by_cases c : left < d.s.size
  · go_enter Tryd.func35, Tryd.ntmps35
    go_wp2_with fail
    go_ret
    exact ⟨⟨_, rfl, .inl rfl⟩, below_alloc _ _⟩
  · go_enter Tryd.func35, Tryd.ntmps35
    go_wp2_with fail
    go_ret
    exact ⟨⟨_, rfl, .inr ⟨by omega, by omega, by omega⟩⟩, below_alloc _ _⟩

set_option maxRecDepth 100000 in
set_option maxHeartbeats 4000000 in
theorem szRecS_calls (L : Nat) (a : Option Addr) (n cap : Nat) (q : Nat → RcD) (left : Int) (w : World) (h0 : 0 ≤ left) (h1 : left ≤ 1048576) (hn : n ≤ maxLen) (hq : ∀ i, i < n → (q i).s.size ≤ maxLen) (hT : RcsAt L w a n q) :
    Calls Tryd.prog 18 #[.slice a n cap, .int .i64 left] w fun e w' => (∃ v : Int, e = .returned (.int .i64 v) ∧ SzSays left v (n ≤ 1048576 ∧ ∀ i, i < n → (q i).s.size ≤ 1048576)) ∧ Below w.heap.size w w' := by
  have hQ : Hid (∀ i, i < n → (q i).s.size ≤ maxLen) := hq
  have HT : Hid (RcsAt L w a n q) := hT
  clear hq hT
  unfold maxLen at hn
  by_cases c : left < n
  · go_enter Tryd.func18, Tryd.ntmps18
    go_wp2_with fail
    go_ret
    exact ⟨⟨_, rfl, .inl rfl⟩, Below.refl _ _⟩
  · go_enter Tryd.func18, Tryd.ntmps18
    go_wp2_with fail
    go_loopw [1, 5] (fun l i wr => ∃ (k : Nat) (u : Int), k ≤ n ∧ i = .int .i64 k ∧ l = .int .i64 u ∧ 0 ≤ u ∧ u ≤ left ∧ Hid (∀ j, j < k → (q j).s.size ≤ 1048576) ∧ Below w.heap.size w wr) (fun _ i _ => n - (intOf i).toNat)
    case atStart => exact ⟨0, _, Nat.zero_le _, rfl, rfl, by omega, by omega, fun j hj => by omega, Below.refl _ _⟩
    case round =>
      obtain ⟨k, u, hk, rfl, rfl, u0, u1, HS, hB⟩ := hrel
      by_cases hkn : k < n
      · obtain ⟨b, off, rfl, _, hb, d0, d1, d2, d3, d4⟩ := cellsR (RowN.below HT.out hB) hkn
        go_wp2_with fail
        refine (szRec_calls (q k) u wr (by omega) (by omega) (hQ.out k hkn)).mono ?_
        rintro e w2 ⟨⟨v, rfl, hv⟩, hb2⟩
        replace hB := below_call hB hb2
        clear d0 d1 d2 d3 d4 hb2
        rcases hv with rfl | ⟨v0, v1, v2⟩
        · go_wp2_with fail
          go_ret
          exact ⟨⟨_, rfl, .inl rfl⟩, hB⟩
        · have HV : Hid ((q k).s.size ≤ 1048576) := v2
          clear v2
          go_wp2_with fail
          go_roundw
          case rel => exact ⟨k + 1, v, by omega, by go_num, rfl, by omega, by omega, (fun j hj => by
            by_cases e : j = k
            · subst e; exact HV.out
            · exact HS.out j (by omega)), hB⟩
          case measure => simp [intOf]; omega
      · go_wp2_with fail
        go_ret
        exact ⟨⟨_, rfl, .inr ⟨by omega, by omega, by omega, fun i hi => HS.out i (by omega)⟩⟩, hB⟩

set_option maxRecDepth 100000 in
set_option maxHeartbeats 4000000 in
theorem szReport_calls (L : Nat) (d : RpD) (x : RpX) (left : Int) (w : World) (h0 : 0 ≤ left) (h1 : left ≤ 1048576) (hd : d.wf) (hT : RpAt L w d x) :
    Calls Tryd.prog 5 #[rpV d x, .int .i64 left] w fun e w' => (∃ v : Int, e = .returned (.int .i64 v) ∧ SzSays left v d.sm) ∧ Below w.heap.size w w' := by
  have hW : Hid d.wf := hd
  have HT : Hid (RpAt L w d x) := hT
  have e1 := hd.er
  have e2 := hd.tr
  unfold maxLen at e1 e2
  clear hd hT
  go_enter Tryd.func5, Tryd.ntmps5
  go_wp2_with fail
  refine (szRecS_calls L _ _ _ d.rc _ _ (by omega) (by omega) hW.out.n (fun i hi => (hW.out.rc i hi).s) (HT.out.alloc _).1).mono ?_
  rintro e w2 ⟨⟨v, rfl, hv⟩, hb2⟩
  have hB : Hid (Below w.heap.size w w2) := below_call (below_alloc _ _) hb2
  have hH : Hid (Has w2 w.heap.size (rpC d x)) := Has.made hb2
  replace HT : Hid (RpAt L w2 d x) := HT.out.below hB.out
  clear hb2
  rcases hv with rfl | ⟨v0, v1, v2⟩
  · go_wp2_with fail
    go_ret
    exact ⟨⟨_, rfl, .inl rfl⟩, hB.out⟩
  have HV : Hid (d.n ≤ 1048576 ∧ ∀ i, i < d.n → (d.rc i).s.size ≤ 1048576) := v2
  clear v2
  have hc := hH.out.cell 2 rfl
  go_wp2_with fail
  refine (szStringS_calls L _ _ _ d.v _ _ (by omega) (by omega) hW.out.m hW.out.v HT.out.2).mono ?_
  rintro e w3 ⟨⟨u, rfl, hu⟩, hb3⟩
  replace hB : Hid (Below w.heap.size w w3) := below_call hB.out hb3
  replace hH : Hid (Has w3 w.heap.size (rpC d x)) := hH.out.call hb3
  clear hb3 hc
  rcases hu with rfl | ⟨u0, u1, u2⟩
  · go_wp2_with fail
    go_ret
    exact ⟨⟨_, rfl, .inl rfl⟩, hB.out⟩
  have HU : Hid (d.m ≤ 1048576 ∧ ∀ i, i < d.m → (d.v i).size ≤ 1048576) := u2
  clear u2
  have c3 := hH.out.cell 3 rfl
  have c4 := hH.out.cell 4 rfl
  by_cases q1 : u < d.er.size
  · go_wp2_with fail
    go_ret
    exact ⟨⟨_, rfl, .inl rfl⟩, hB.out⟩
  by_cases q2 : u - d.er.size < d.tr.size
  · go_wp2_with fail
    go_ret
    exact ⟨⟨_, rfl, .inl rfl⟩, hB.out⟩
  · go_wp2_with fail
    go_ret
    exact ⟨⟨_, rfl, .inr ⟨by omega, by omega, ⟨HV.out.1, HV.out.2, HU.out.1, HU.out.2, by omega, by omega⟩⟩⟩, hB.out⟩
end Go.Proofs.YtiidepafifodjaaDoor
