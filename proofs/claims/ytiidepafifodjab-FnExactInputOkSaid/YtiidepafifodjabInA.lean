import Derived.Test.YtiidepafifodjabUnS
import Derived.Test.YtiidepafifodjabUnC
/-! Inputs: plain data, how they lie in memory, and the laws' own functions over them. -/
namespace Go.Proofs.Ytiidepafifodjab
open Go.RowKit
attribute [local go_sem] run_store_float

/-- an input -/
structure ID where
  an : Nat
  a : Nat → ByteArray
  ln : Nat
  l : Nat → ByteArray
  t : Int
  d : Int
  c : Int
structure ID.wf (x : ID) : Prop where
  an : x.an ≤ maxLen
  a : ∀ i, i < x.an → (x.a i).size ≤ maxLen
  ln : x.ln ≤ maxLen
  l : ∀ i, i < x.ln → (x.l i).size ≤ maxLen
structure ID.sm (x : ID) : Prop where
  an : x.an ≤ 1048576
  a : ∀ i, i < x.an → (x.a i).size ≤ 1048576
  ln : x.ln ≤ 1048576
  l : ∀ i, i < x.ln → (x.l i).size ≤ 1048576
/-- where its lists lie -/
structure IA where
  aa : Option Addr
  ac : Nat
  la : Option Addr
  lc : Nat
abbrev inC (d : ID) (x : IA) : Array Value := #[.slice x.aa d.an x.ac, .slice x.la d.ln x.lc, .int .i64 d.t, .int .i64 d.d, .int .i64 d.c]
abbrev inV (d : ID) (x : IA) : Value := .agg #[.slice x.aa d.an x.ac, .slice x.la d.ln x.lc, .int .i64 d.t, .int .i64 d.d, .int .i64 d.c]
def StrAt (L : Nat) (w : World) (a : Option Addr) (n : Nat) (q : Nat → ByteArray) : Prop := RowN 1 L w a n fun i => #[.string (q i)]
def InAt (L : Nat) (w : World) (d : ID) (x : IA) : Prop := StrAt L w x.aa d.an d.a ∧ StrAt L w x.la d.ln d.l
theorem InAt.below {L : Nat} {w w' : World} {d : ID} {x : IA} (h : InAt L w d x) (hb : Below w.heap.size w w') : InAt L w' d x := ⟨RowN.below h.1 hb, RowN.below h.2 hb⟩
theorem InAt.alloc {L : Nat} {w : World} {d : ID} {x : IA} (h : InAt L w d x) (o : Obj) : InAt L (w.alloc o) d x := h.below (below_alloc w o)
theorem InAt.drew {L : Nat} {w : World} {d : ID} {x : IA} (h : InAt L w d x) : InAt L w.drew d x := h
theorem InAt.less {L L' : Nat} {w : World} {d : ID} {x : IA} (h : InAt L w d x) (hl : L' ≤ L) : InAt L' w d x := ⟨RowN.less h.1 hl, RowN.less h.2 hl⟩
theorem InAt.set {L : Nat} {w : World} {d : ID} {x : IA} (h : InAt L w d x) {p : Addr} (hp : p.block < L) (v : Value) : InAt L (w.setCell p v) d x := ⟨RowN.set h.1 hp v, RowN.set h.2 hp v⟩

set_option maxRecDepth 100000 in
set_option maxHeartbeats 2000000 in
theorem szInput_calls (L : Nat) (d : ID) (x : IA) (left : Int) (w : World) (h0 : 0 ≤ left) (h1 : left ≤ 1048576) (hd : d.wf) (hT : InAt L w d x) :
    Calls Try.prog 28 #[inV d x, .int .i64 left] w fun e w' => (∃ v : Int, e = .returned (.int .i64 v) ∧ SzSays left v d.sm) ∧ Below w.heap.size w w' := by
  have hW : Hid d.wf := hd
  have HT : Hid (InAt L w d x) := hT
  clear hd hT
  go_enter Try.func28, Try.ntmps28
  go_wp2_with fail
  refine (szStringS_calls L _ _ _ d.a _ _ (by omega) (by omega) hW.out.an hW.out.a (HT.out.alloc _).1).mono ?_
  rintro e w2 ⟨⟨v, rfl, hv⟩, hb2⟩
  have hB : Hid (Below w.heap.size w w2) := below_call (below_alloc _ _) hb2
  have hH : Hid (Has w2 w.heap.size (inC d x)) := Has.made hb2
  replace HT : Hid (InAt L w2 d x) := HT.out.below hB.out
  clear hb2
  rcases hv with rfl | ⟨v0, v1, v2⟩
  · go_wp2_with fail
    go_ret
    exact ⟨⟨_, rfl, .inl rfl⟩, hB.out⟩
  · have HV : Hid (d.an ≤ 1048576 ∧ ∀ i, i < d.an → (d.a i).size ≤ 1048576) := v2
    clear v2
    have hc := hH.out.cell 1 rfl
    go_wp2_with fail
    refine (szStringS_calls L _ _ _ d.l _ _ (by omega) (by omega) hW.out.ln hW.out.l HT.out.2).mono ?_
    rintro e w3 ⟨⟨u, rfl, hu⟩, hb3⟩
    replace hB : Hid (Below w.heap.size w w3) := below_call hB.out hb3
    clear hb3 hc
    rcases hu with rfl | ⟨u0, u1, u2⟩
    · go_wp2_with fail
      go_ret
      exact ⟨⟨_, rfl, .inl rfl⟩, hB.out⟩
    · have HU : Hid (d.ln ≤ 1048576 ∧ ∀ i, i < d.ln → (d.l i).size ≤ 1048576) := u2
      clear u2
      go_wp2_with fail
      go_ret
      exact ⟨⟨_, rfl, .inr ⟨by omega, by omega, ⟨HV.out.1, HV.out.2, HU.out.1, HU.out.2⟩⟩⟩, hB.out⟩

theorem below5 {B : Nat} {u w : World} (h : Below B u w) {b : Nat} (hp : B ≤ b) (v0 v1 v2 v3 v4 : Value) : Below B u (((((w.setCell ⟨b, 0, none⟩ v0).setCell ⟨b, 1, none⟩ v1).setCell ⟨b, 2, none⟩ v2).setCell ⟨b, 3, none⟩ v3).setCell ⟨b, 4, none⟩ v4) := frS (frS (frS (frS (frS h hp _) hp _) hp _) hp _) hp _
theorem InAt.sets5 {L : Nat} {w : World} {d : ID} {x : IA} (h : InAt L w d x) {b : Nat} (hp : b < L) (v0 v1 v2 v3 v4 : Value) : InAt L (((((w.setCell ⟨b, 0, none⟩ v0).setCell ⟨b, 1, none⟩ v1).setCell ⟨b, 2, none⟩ v2).setCell ⟨b, 3, none⟩ v3).setCell ⟨b, 4, none⟩ v4) d x :=
  ((((h.set (p := ⟨b, 0, none⟩) hp v0).set (p := ⟨b, 1, none⟩) hp v1).set (p := ⟨b, 2, none⟩) hp v2).set (p := ⟨b, 3, none⟩) hp v3).set (p := ⟨b, 4, none⟩) hp v4

set_option maxRecDepth 100000 in
set_option maxHeartbeats 4000000 in
theorem toInput_calls (L : Nat) (d : ID) (x : IA) (w : World) (hs : d.sm) (hT : InAt L w d x) :
    Calls Try.prog 30 #[inV d x] w fun e w' => (∃ x', e = .returned (inV d x') ∧ InAt w.heap.size w' d x') ∧ Below w.heap.size w w' := by
  have HT : Hid (InAt L w d x) := hT
  have HS : Hid d.sm := hs
  clear hT hs
  have p1 : w.heap.size ≤ w.heap.size + 1 := Nat.le_add_right _ _
  have p2 : w.heap.size ≤ w.heap.size + 1 + 1 := Nat.le_add_right _ 2
  go_enter Try.func30, Try.ntmps30
  go_wp2_with fail
  refine (toStringS_calls L _ _ _ d.a _ HS.out.an (((HT.out.alloc _).alloc _).alloc _).1).mono ?_
  rintro e w2 ⟨⟨B1, rfl, hB1, hI1⟩, hb2⟩
  have HI1 : Hid (RowN 1 B1 w2 (some ⟨B1, 0, none⟩) d.an fun i => #[.string (d.a i)]) := hI1
  have HB : Hid (Below w.heap.size w w2) := below_call (below_alloc3 _ _ _ _) hb2
  obtain ⟨hc2, hf2⟩ := bcell hb2
  have hz2 := hb2.size
  (try simp at hz2 hB1)
  have ha2 : w.heap.size < w2.heap.size := by omega
  have hb2' : w.heap.size + 1 < w2.heap.size := by omega
  have hc2' : w.heap.size + 1 + 1 < w2.heap.size := by omega
  clear hI1 hb2
  have HB2 : Hid (Below w.heap.size w (w2.setCell ⟨w.heap.size + 1 + 1, 0, none⟩ (.slice (some ⟨B1, 0, none⟩) d.an d.an))) := frS HB.out p2 _
  go_wp2_with fail
  refine (toStringS_calls L _ _ _ d.l _ HS.out.ln (HT.out.below HB2.out).2).mono ?_
  rintro e w3 ⟨⟨B2, rfl, hB2, hI2⟩, hb3⟩
  have HI2 : Hid (RowN 1 B2 w3 (some ⟨B2, 0, none⟩) d.ln fun i => #[.string (d.l i)]) := hI2
  replace HI1 : Hid (RowN 1 B1 w3 (some ⟨B1, 0, none⟩) d.an fun i => #[.string (d.a i)]) := RowN.below (RowN.set HI1.out (p := ⟨w.heap.size + 1 + 1, 0, none⟩) (by show w.heap.size + 1 + 1 < B1; omega) _) hb3
  replace HB : Hid (Below w.heap.size w w3) := below_call HB2.out hb3
  obtain ⟨hc3, hf3⟩ := bcell hb3
  have hz3 := hb3.size
  (try simp at hz3 hB2)
  have ha3 : w.heap.size < w3.heap.size := by omega
  have hb3' : w.heap.size + 1 < w3.heap.size := by omega
  have hc3' : w.heap.size + 1 + 1 < w3.heap.size := by omega
  clear hb3 hI2 HB2
  go_wp2_with fail
  refine bodyPost_ret (v := inV d ⟨some ⟨B1, 0, none⟩, d.an, some ⟨B2, 0, none⟩, d.ln⟩) (by simp [results, Try.results30, go_sem, hc3, hc2, hb2']) rfl ⟨⟨_, rfl, ?_⟩, ?_⟩
  · have h0 : InAt (w.heap.size + 1 + 1 + 1) w3 d ⟨some ⟨B1, 0, none⟩, d.an, some ⟨B2, 0, none⟩, d.ln⟩ := ⟨HI1.out.less (by omega), HI2.out.less (by omega)⟩
    exact (((((h0.set (p := ⟨w.heap.size + 1 + 1, 1, none⟩) (by show w.heap.size + 1 + 1 < _; omega) _).set (p := ⟨w.heap.size + 1 + 1, 2, none⟩) (by show w.heap.size + 1 + 1 < _; omega) _).set (p := ⟨w.heap.size + 1 + 1, 3, none⟩) (by show w.heap.size + 1 + 1 < _; omega) _).set (p := ⟨w.heap.size + 1 + 1, 4, none⟩) (by show w.heap.size + 1 + 1 < _; omega) _).sets5 (by omega) _ _ _ _ _).less (by omega)
  · exact below5 (frS (frS (frS (frS HB.out p2 _) p2 _) p2 _) p2 _) p1 _ _ _ _ _

set_option maxRecDepth 100000 in
set_option maxHeartbeats 4000000 in
theorem eqInput_calls (L L' : Nat) (d : ID) (x x' : IA) (w : World) (hs : d.sm) (hT : InAt L w d x) (hT' : InAt L' w d x') :
    Calls Try.prog 32 #[inV d x, inV d x'] w fun e w' => e = .returned (.bool true) ∧ Below w.heap.size w w' := by
  have HS : Hid d.sm := hs
  have HT : Hid (InAt L w d x) := hT
  have HT' : Hid (InAt L' w d x') := hT'
  clear hT hT' hs
  go_enter Try.func32, Try.ntmps32
  go_wp2_with fail
  refine (eqStringS_calls L L' _ _ _ _ _ d.a _ HS.out.an ((HT.out.alloc _).alloc _).1 ((HT'.out.alloc _).alloc _).1).mono ?_
  rintro e w2 ⟨rfl, hb2⟩
  have HA : Hid (Has w2 w.heap.size (inC d x)) := ((Has.new w (inC d x) _).alloc _).call hb2
  have HA' : Hid (Has w2 (w.heap.size + 1) (inC d x')) := (by have h := (Has.new (w.alloc (.cells (inC d x) 60)) (inC d x') 60).call hb2; show Has _ _ _; simpa using h)
  have HB : Hid (Below w.heap.size w w2) := below_call (below_alloc2 _ _ _) hb2
  clear hb2
  have c7 := HA.out.cell 1 rfl
  have c7' := HA'.out.cell 1 rfl
  go_wp2_with fail
  refine (eqStringS_calls L L' _ _ _ _ _ d.l _ HS.out.ln (HT.out.below HB.out).2 (HT'.out.below HB.out).2).mono ?_
  rintro e w3 ⟨rfl, hb3⟩
  replace HB : Hid (Below w.heap.size w w3) := below_call HB.out hb3
  replace HA : Hid (Has w3 w.heap.size (inC d x)) := HA.out.call hb3
  replace HA' : Hid (Has w3 (w.heap.size + 1) (inC d x')) := HA'.out.call hb3
  clear hb3 c7 c7'
  have c2 := HA.out.cell 2 rfl
  have c3 := HA.out.cell 3 rfl
  have c4 := HA.out.cell 4 rfl
  have c2' := HA'.out.cell 2 rfl
  have c3' := HA'.out.cell 3 rfl
  have c4' := HA'.out.cell 4 rfl
  go_wp2_with fail
  go_ret
  exact ⟨rfl, HB.out⟩
end Go.Proofs.Ytiidepafifodjab
