import Derived.Test.YtiidepafifodjaaDoorHrA
import Derived.Shelf.Strconv.ErrVarAll
import Derived.Shelf.Bytes.SlCut
import Derived.Shelf.Bytes.SlEqualAll
/-! The library's bytes.Cut, bytes.Equal, strconv.Atoi, as the program's reader meets them. -/
namespace Go.Proofs.YtiidepafifodjaaDoor
open Go.RowKit Go.Shelf

def atoiL_ren : Go.Shelf.Ren := ⟨fun | 172 => 51 | 244 => 55 | 245 => 56 | 247 => 65 | 279 => 66 | 280 => 67 | 281 => 68 | 282 => 69 | 287 => 77 | 316 => 78 | 171 => 40 | 205 => 79 | 321 => 82 | 322 => 83 | 243 => 49 | 246 => 53 | 283 => 57 | 284 => 58 | 285 => 59 | 286 => 60 | 129 => 71 | 317 => 70 | 318 => 72 | 319 => 73 | 320 => 74 | 337 => 80 | 338 => 81 | n => n, fun | 9 => 9 | 3 => 3 | 75 => 80 | 76 => 81 | 4 => 4 | 5 => 5 | 167 => 96 | 37 => 27 | 0 => 0 | 85 => 97 | 2 => 2 | 168 => 99 | 53 => 88 | 175 => 110 | 46 => 95 | 210 => 114 | 127 => 119 | 145 => 122 | 143 => 120 | 21 => 21 | 171 => 87 | 173 => 91 | 212 => 103 | 51 => 104 | 20 => 20 | 213 => 105 | 232 => 123 | 233 => 124 | 80 => 58 | n => n, fun | 15 => 2 | 16 => 3 | 17 => 1 | 18 => 4 | 19 => 5 | n => n⟩
theorem atoiL : Go.Proofs.LaysC.n172 Tryd.prog atoiL_ren := {
  mixed := by kernel_rfl
  f129 := Tryd.func71.trans (congrArg some (by kernel_rfl))
  f171 := Tryd.func40.trans (congrArg some (by kernel_rfl))
  f172 := Tryd.func51.trans (congrArg some (by kernel_rfl))
  f205 := Tryd.func79.trans (congrArg some (by kernel_rfl))
  f243 := Tryd.func49.trans (congrArg some (by kernel_rfl))
  f244 := Tryd.func55.trans (congrArg some (by kernel_rfl))
  f245 := Tryd.func56.trans (congrArg some (by kernel_rfl))
  f246 := Tryd.func53.trans (congrArg some (by kernel_rfl))
  f247 := Tryd.func65.trans (congrArg some (by kernel_rfl))
  f279 := Tryd.func66.trans (congrArg some (by kernel_rfl))
  f280 := Tryd.func67.trans (congrArg some (by kernel_rfl))
  f281 := Tryd.func68.trans (congrArg some (by kernel_rfl))
  f282 := Tryd.func69.trans (congrArg some (by kernel_rfl))
  f283 := Tryd.func57.trans (congrArg some (by kernel_rfl))
  f284 := Tryd.func58.trans (congrArg some (by kernel_rfl))
  f285 := Tryd.func59.trans (congrArg some (by kernel_rfl))
  f286 := Tryd.func60.trans (congrArg some (by kernel_rfl))
  f287 := Tryd.func77.trans (congrArg some (by kernel_rfl))
  f316 := Tryd.func78.trans (congrArg some (by kernel_rfl))
  f317 := Tryd.func70.trans (congrArg some (by kernel_rfl))
  f318 := Tryd.func72.trans (congrArg some (by kernel_rfl))
  f319 := Tryd.func73.trans (congrArg some (by kernel_rfl))
  f320 := Tryd.func74.trans (congrArg some (by kernel_rfl))
  f321 := Tryd.func82.trans (congrArg some (by kernel_rfl))
  f322 := Tryd.func83.trans (congrArg some (by kernel_rfl))
  f337 := Tryd.func80.trans (congrArg some (by kernel_rfl))
  f338 := Tryd.func81.trans (congrArg some (by kernel_rfl))
  t0 := Tryd.underlying0
  a0 := Tryd.isAgg0
  z0 := Tryd.sizeOf0
  v0 := Tryd.zeroValue0
  t2 := Tryd.underlying2
  a2 := Tryd.isAgg2
  z2 := Tryd.sizeOf2
  v2 := Tryd.zeroValue2
  t3 := Tryd.underlying3
  a3 := Tryd.isAgg3
  z3 := Tryd.sizeOf3
  v3 := Tryd.zeroValue3
  t4 := Tryd.underlying4
  a4 := Tryd.isAgg4
  z4 := Tryd.sizeOf4
  v4 := Tryd.zeroValue4
  t5 := Tryd.underlying5
  a5 := Tryd.isAgg5
  z5 := Tryd.sizeOf5
  v5 := Tryd.zeroValue5
  t9 := Tryd.underlying9
  a9 := Tryd.isAgg9
  z9 := Tryd.sizeOf9
  v9 := Tryd.zeroValue9
  t20 := Tryd.underlying20
  a20 := Tryd.isAgg20
  z20 := Tryd.sizeOf20
  v20 := Tryd.zeroValue20
  t21 := Tryd.underlying21
  a21 := Tryd.isAgg21
  z21 := Tryd.sizeOf21
  v21 := Tryd.zeroValue21
  t37 := Tryd.underlying27
  a37 := Tryd.isAgg27
  z37 := Tryd.sizeOf27
  v37 := Tryd.zeroValue27
  t46 := Tryd.underlying95
  a46 := Tryd.isAgg95
  z46 := Tryd.sizeOf95
  v46 := Tryd.zeroValue95
  t51 := Tryd.underlying104
  a51 := Tryd.isAgg104
  z51 := Tryd.sizeOf104
  v51 := Tryd.zeroValue104
  t53 := Tryd.underlying88
  a53 := Tryd.isAgg88
  z53 := Tryd.sizeOf88
  v53 := Tryd.zeroValue88
  t75 := Tryd.underlying80
  a75 := Tryd.isAgg80
  z75 := Tryd.sizeOf80
  v75 := Tryd.zeroValue80
  t76 := Tryd.underlying81
  a76 := Tryd.isAgg81
  z76 := Tryd.sizeOf81
  v76 := Tryd.zeroValue81
  t85 := Tryd.underlying97
  a85 := Tryd.isAgg97
  z85 := Tryd.sizeOf97
  v85 := Tryd.zeroValue97
  t127 := Tryd.underlying119
  a127 := Tryd.isAgg119
  z127 := Tryd.sizeOf119
  v127 := Tryd.zeroValue119
  t143 := Tryd.underlying120
  a143 := Tryd.isAgg120
  z143 := Tryd.sizeOf120
  v143 := Tryd.zeroValue120
  t145 := Tryd.underlying122
  a145 := Tryd.isAgg122
  z145 := Tryd.sizeOf122
  v145 := Tryd.zeroValue122
  t167 := Tryd.underlying96
  a167 := Tryd.isAgg96
  z167 := Tryd.sizeOf96
  v167 := Tryd.zeroValue96
  t168 := Tryd.underlying99
  a168 := Tryd.isAgg99
  z168 := Tryd.sizeOf99
  v168 := Tryd.zeroValue99
  t171 := Tryd.underlying87
  a171 := Tryd.isAgg87
  z171 := Tryd.sizeOf87
  v171 := Tryd.zeroValue87
  t173 := Tryd.underlying91
  a173 := Tryd.isAgg91
  z173 := Tryd.sizeOf91
  v173 := Tryd.zeroValue91
  t175 := Tryd.underlying110
  a175 := Tryd.isAgg110
  z175 := Tryd.sizeOf110
  v175 := Tryd.zeroValue110
  t210 := Tryd.underlying114
  a210 := Tryd.isAgg114
  z210 := Tryd.sizeOf114
  v210 := Tryd.zeroValue114
  t212 := Tryd.underlying103
  a212 := Tryd.isAgg103
  z212 := Tryd.sizeOf103
  v212 := Tryd.zeroValue103
  t213 := Tryd.underlying105
  a213 := Tryd.isAgg105
  z213 := Tryd.sizeOf105
  t232 := Tryd.underlying123
  a232 := Tryd.isAgg123
  z232 := Tryd.sizeOf123
  v232 := Tryd.zeroValue123
  t233 := Tryd.underlying124
  a233 := Tryd.isAgg124
  z233 := Tryd.sizeOf124
  v233 := Tryd.zeroValue124
  g15 := by kernel_rfl
  g16 := by kernel_rfl
  g17 := by kernel_rfl
  g18 := by kernel_rfl
  g19 := by kernel_rfl
  t80 := Tryd.underlying58
  a80 := Tryd.isAgg58
  z80 := Tryd.sizeOf58
  v80 := Tryd.zeroValue58
  i0 := by kernel_rfl
  i2 := by kernel_rfl
  i3 := by kernel_rfl
  i4 := by kernel_rfl
  i5 := by kernel_rfl
  i9 := by kernel_rfl
  i20 := by kernel_rfl
  i21 := by kernel_rfl
  i37 := by kernel_rfl
  i46 := by kernel_rfl
  i51 := by kernel_rfl
  i53 := by kernel_rfl
  i75 := by kernel_rfl
  i76 := by kernel_rfl
  i80 := by kernel_rfl
  i85 := by kernel_rfl
  i127 := by kernel_rfl
  i143 := by kernel_rfl
  i145 := by kernel_rfl
  i167 := by kernel_rfl
  i168 := by kernel_rfl
  i171 := by kernel_rfl
  i173 := by kernel_rfl
  i175 := by kernel_rfl
  i210 := by kernel_rfl
  i212 := by kernel_rfl
  i232 := by kernel_rfl
  i233 := by kernel_rfl
  m15 := by kernel_rfl
  m16 := by kernel_rfl
  m17 := by kernel_rfl
  m18 := by kernel_rfl
  m19 := by kernel_rfl
  c0 := by kernel_rfl
  c2 := by kernel_rfl
  c3 := by kernel_rfl
  c4 := by kernel_rfl
  c5 := by kernel_rfl
  c9 := by kernel_rfl
  c20 := by kernel_rfl
  c21 := by kernel_rfl
  c37 := by kernel_rfl
  c46 := by kernel_rfl
  c51 := by kernel_rfl
  c53 := by kernel_rfl
  c75 := by kernel_rfl
  c76 := by kernel_rfl
  c80 := by kernel_rfl
  c85 := by kernel_rfl
  c127 := by kernel_rfl
  c143 := by kernel_rfl
  c145 := by kernel_rfl
  c167 := by kernel_rfl
  c168 := by kernel_rfl
  c171 := by kernel_rfl
  c173 := by kernel_rfl
  c175 := by kernel_rfl
  c210 := by kernel_rfl
  c212 := by kernel_rfl
  c213 := by kernel_rfl
  c232 := by kernel_rfl
  c233 := by kernel_rfl }
def cutL_ren : Go.Shelf.Ren := ⟨fun | 4 => 50 | 5 => 54 | 6 => 61 | 7 => 32 | 8 => 62 | 9 => 63 | 10 => 64 | 11 => 75 | 12 => 76 | n => n, fun | 22 => 27 | 4 => 4 | 3 => 3 | 0 => 0 | 5 => 5 | 29 => 95 | 9 => 9 | 31 => 108 | 30 => 104 | n => n, fun | 0 => 0 | n => n⟩
theorem cutL : Go.Proofs.SlLaysT.n4 Tryd.prog cutL_ren := {
  mixed := by kernel_rfl
  f4 := Tryd.func50.trans (congrArg some (by kernel_rfl))
  f5 := Tryd.func54.trans (congrArg some (by kernel_rfl))
  f6 := Tryd.func61.trans (congrArg some (by kernel_rfl))
  f7 := Tryd.func32.trans (congrArg some (by kernel_rfl))
  f8 := Tryd.func62.trans (congrArg some (by kernel_rfl))
  f9 := Tryd.func63.trans (congrArg some (by kernel_rfl))
  f10 := Tryd.func64.trans (congrArg some (by kernel_rfl))
  f11 := Tryd.func75.trans (congrArg some (by kernel_rfl))
  f12 := Tryd.func76.trans (congrArg some (by kernel_rfl))
  t0 := Tryd.underlying0
  a0 := Tryd.isAgg0
  z0 := Tryd.sizeOf0
  v0 := Tryd.zeroValue0
  t3 := Tryd.underlying3
  a3 := Tryd.isAgg3
  z3 := Tryd.sizeOf3
  v3 := Tryd.zeroValue3
  t4 := Tryd.underlying4
  a4 := Tryd.isAgg4
  z4 := Tryd.sizeOf4
  v4 := Tryd.zeroValue4
  t5 := Tryd.underlying5
  a5 := Tryd.isAgg5
  z5 := Tryd.sizeOf5
  v5 := Tryd.zeroValue5
  t9 := Tryd.underlying9
  a9 := Tryd.isAgg9
  z9 := Tryd.sizeOf9
  v9 := Tryd.zeroValue9
  t22 := Tryd.underlying27
  a22 := Tryd.isAgg27
  z22 := Tryd.sizeOf27
  v22 := Tryd.zeroValue27
  t29 := Tryd.underlying95
  a29 := Tryd.isAgg95
  z29 := Tryd.sizeOf95
  v29 := Tryd.zeroValue95
  t30 := Tryd.underlying104
  a30 := Tryd.isAgg104
  z30 := Tryd.sizeOf104
  v30 := Tryd.zeroValue104
  t31 := Tryd.underlying108
  a31 := Tryd.isAgg108
  z31 := Tryd.sizeOf108
  v31 := Tryd.zeroValue108
  g0 := by kernel_rfl }
def eqL_ren : Go.Shelf.Ren := ⟨fun | 115 => 32 | n => n, fun | 37 => 27 | 4 => 4 | 9 => 9 | 5 => 5 | n => n, fun | n => n⟩
theorem eqL : Go.Proofs.Lays.nb115 Tryd.prog eqL_ren := {
  mixed := by kernel_rfl
  f115 := Tryd.func32.trans (congrArg some (by kernel_rfl))
  t4 := Tryd.underlying4
  a4 := Tryd.isAgg4
  z4 := Tryd.sizeOf4
  v4 := Tryd.zeroValue4
  t9 := Tryd.underlying9
  a9 := Tryd.isAgg9
  z9 := Tryd.sizeOf9
  v9 := Tryd.zeroValue9
  t37 := Tryd.underlying27
  a37 := Tryd.isAgg27
  z37 := Tryd.sizeOf27
  v37 := Tryd.zeroValue27
  t5 := Tryd.underlying5
  a5 := Tryd.isAgg5
  z5 := Tryd.sizeOf5
  v5 := Tryd.zeroValue5 }

/-- bytes that lie in a slice of whatever address -/
def RsAt (w : World) (a : Option Addr) (c : Nat) (l : List UInt8) : Prop := l.length ≤ c ∧ ((a = none ∧ c = 0 ∧ l = []) ∨ ∃ b o, a = some ⟨b, o, none⟩ ∧ ∀ i, i < l.length → w.cell? ⟨b, o + i, none⟩ = some (.int .u8 ((l.getD i 0).toNat : Int)))
def nmL (l : List UInt8) : List Int := l.map fun x => (x.toNat : Int)
theorem nmL_len (l : List UInt8) : (nmL l).length = l.length := by simp [nmL]
theorem nmL_get (l : List UInt8) (i : Nat) : (nmL l).getD i 0 = ((l.getD i 0).toNat : Int) := by
  simp only [nmL, List.getD_eq_getElem?_getD, List.getElem?_map]
  cases l[i]? <;> rfl
theorem nmL_bytes (l : List UInt8) : Lib.bytesOf (nmL l) = l := by
  simp only [Lib.bytesOf, nmL, List.map_map]
  conv => rhs; rw [← List.map_id l]
  apply List.map_congr_left
  intro x _
  simp
theorem RsAt.cells {w : World} {c : Nat} {l : List UInt8} {b o : Nat} (h : ∀ i, i < l.length → w.cell? ⟨b, o + i, none⟩ = some (.int .u8 ((l.getD i 0).toNat : Int))) (hc : l.length ≤ c) : RsAt w (some ⟨b, o, none⟩) c l := ⟨hc, .inr ⟨b, o, rfl, h⟩⟩
theorem RsAt.nil (w : World) : RsAt w none 0 [] := ⟨Nat.le_refl _, .inl ⟨rfl, rfl, rfl⟩⟩
theorem RsAt.below {w w' : World} {a : Option Addr} {c : Nat} {l : List UInt8} (h : RsAt w a c l) (hb : ∀ b o, a = some ⟨b, o, none⟩ → 0 < l.length → ∀ i, w'.cell? ⟨b, i, none⟩ = w.cell? ⟨b, i, none⟩) : RsAt w' a c l := by
  obtain ⟨h0, h | ⟨b, o, e, h⟩⟩ := h
  · exact ⟨h0, .inl h⟩
  · exact ⟨h0, .inr ⟨b, o, e, fun i hi => (hb b o e (by omega) _).trans (h i hi)⟩⟩
theorem RsAt.bytesIn {w : World} {a : Option Addr} {c : Nat} {l : List UInt8} (h : RsAt w a c l) : Lib.BytesIn w a l.length (nmL l) := fun hn => by
  obtain ⟨_, ⟨_, _, rfl⟩ | ⟨b, o, e, h⟩⟩ := h
  · exact absurd hn (by simp)
  · exact ⟨b, o, e, fun i hi => by rw [nmL_get]; exact h i hi⟩
/-- what bytes.Cut around a blank gives -/
structure CutIs (w : World) (l : List UInt8) (a : Option Addr) (da : Option Addr) (dc : Nat) (dg : List UInt8) (ra : Option Addr) (rc : Nat) (r : List UInt8) : Prop where
  dd : RsAt w da dc dg
  rr : RsAt w ra rc r
  x : (l = dg ++ 32 :: r ∧ ∀ c ∈ dg, c ≠ 32) ∨ (r = [] ∧ dg = l ∧ ∀ c ∈ l, c ≠ 32)
  bk : ∀ b o, ra = some ⟨b, o, none⟩ → 0 < r.length → ∃ o', a = some ⟨b, o', none⟩
theorem getD_take (l : List UInt8) (k i : Nat) (h : i < k) : (l.take k).getD i 0 = l.getD i 0 := by simp [List.getD_eq_getElem?_getD, h]
theorem idx_calls (ra : Option Addr) (rc : Nat) (l : List UInt8) (b2 c2 : Nat) (w : World) (hR : RsAt w ra rc l) (h2 : w.cell? ⟨b2, 0, none⟩ = some (.int .u8 32)) :
    Calls Tryd.prog 54 #[.slice ra l.length rc, .slice (some ⟨b2, 0, none⟩) 1 c2] w fun e w' => e = .returned (.int .i64 (Lib.indexByte l 32)) ∧ ∃ q, w' = w.drewN q := by
  obtain ⟨h0, ⟨rfl, rfl, rfl⟩ | ⟨b, o, rfl, h⟩⟩ := hR
  · exact (Any.bytes_Index_one_nil cutL.index b2 0 c2 32 w h2).mono fun _ _ ⟨he, hw⟩ => ⟨he, 0, hw⟩
  · have := Any.bytes_Index_one cutL.index b o l.length rc b2 0 c2 (nmL l) 32 w (nmL_len l) (fun i hi => by rw [nmL_get]; exact h i hi) h2
    rw [nmL_bytes] at this
    exact this.mono fun _ _ ⟨he, hw⟩ => ⟨he, 0, hw⟩
theorem cut_calls (ra : Option Addr) (rc : Nat) (l : List UInt8) (b2 c2 : Nat) (w : World) (hl : l.length ≤ 1048576) (hR : RsAt w ra rc l) (h2 : w.cell? ⟨b2, 0, none⟩ = some (.int .u8 32)) :
    Calls Tryd.prog 50 #[.slice ra l.length rc, .slice (some ⟨b2, 0, none⟩) 1 c2] w fun e w' => (∃ da dc dg ra' rc' r f, e = .returned (.tuple #[.slice da (List.length dg) dc, .slice ra' (List.length r) rc', .bool f]) ∧ CutIs w l ra da dc dg ra' rc' r) ∧ ∃ q, w' = w.drewN q := by
  have hidx := idx_calls ra rc l b2 c2 w hR h2
  have hlo : -1 ≤ Lib.indexByte l 32 := by
    have := Lib.indexByte_ge l 32
    omega
  have hroom : 0 ≤ Lib.indexByte l 32 → Lib.indexByte l 32 + (1 : Nat) ≤ l.length := fun h => by
    obtain ⟨o, ho⟩ : ∃ o : Nat, Lib.indexByte l 32 = o := ⟨(Lib.indexByte l 32).toNat, by omega⟩
    have := (Lib.indexByte_some ho).1
    have hlt : o < l.length := by
      apply Nat.lt_of_not_le
      intro hc
      rw [List.getElem?_eq_none hc] at this
      cases this
    omega
  refine (Any.bytes_Cut_of cutL ra (some ⟨b2, 0, none⟩) l.length rc 1 c2 (Lib.indexByte l 32) w hR.1 hlo hroom (by omega) hidx).mono fun e w' ⟨he, hw⟩ => ⟨?_, hw⟩
  unfold Lib.cutV at he
  by_cases h0 : 0 ≤ Lib.indexByte l 32
  · rw [if_pos h0] at he
    obtain ⟨o, ho⟩ : ∃ o : Nat, Lib.indexByte l 32 = o := ⟨(Lib.indexByte l 32).toNat, by omega⟩
    obtain ⟨h32, hno⟩ := Lib.indexByte_some ho
    have hlt : o < l.length := by
      apply Nat.lt_of_not_le
      intro hc
      rw [List.getElem?_eq_none hc] at h32
      cases h32
    rw [ho, Int.toNat_natCast] at he
    obtain ⟨hc, ⟨rfl, rfl, rfl⟩ | ⟨b, off, rfl, hcell⟩⟩ := hR
    · exact absurd hlt (by simp)
    unfold Lib.fromV at he
    have hs : l = l.take o ++ 32 :: l.drop (o + 1) := by
      have h1 : l[o] = 32 := by rw [List.getElem?_eq_getElem hlt] at h32; exact Option.some.inj h32
      rw [← h1, ← List.drop_eq_getElem_cons hlt, List.take_append_drop]
    refine ⟨some ⟨b, off, none⟩, rc, l.take o, (if rc = o + 1 then some ⟨b, off, none⟩ else some ⟨b, off + (o + 1), none⟩), rc - (o + 1), l.drop (o + 1), true, ?_, ?_, ?_, .inl ⟨hs, fun c hc e => ?_⟩, fun b' o' e _ => ?_⟩
    · rw [he, List.length_take, List.length_drop, Nat.min_eq_left (by omega)]
      by_cases e : rc = o + 1
      · simp [e]
      · simp [e, Go.WideShapes.add_plain]
    · exact RsAt.cells (fun i hi => by rw [List.length_take] at hi; rw [getD_take l o i (by omega)]; exact hcell i (by omega)) (by rw [List.length_take]; omega)
    · by_cases e : rc = o + 1
      · rw [if_pos e]
        exact RsAt.cells (fun i hi => by rw [List.length_drop] at hi; omega) (by rw [List.length_drop]; omega)
      · rw [if_neg e]
        exact RsAt.cells (fun i hi => by rw [List.length_drop] at hi; rw [getD_drop, show off + (o + 1) + i = off + (o + 1 + i) by omega]; exact hcell _ (by omega)) (by rw [List.length_drop]; omega)
    · obtain ⟨k, hk, hk2⟩ := List.getElem_of_mem hc
      rw [List.length_take] at hk
      refine hno k (by omega) ?_
      rw [List.getElem?_eq_getElem (by omega)]
      rw [List.getElem_take] at hk2
      rw [hk2, e]
    · by_cases c : rc = o + 1
      · rw [if_pos c] at e; cases e; exact ⟨_, rfl⟩
      · rw [if_neg c] at e; cases e; exact ⟨_, rfl⟩
  · rw [if_neg h0] at he
    have hm : Lib.indexByte l 32 = -1 := by omega
    have hno := Lib.indexByte_none hm
    refine ⟨ra, rc, l, none, 0, [], false, he, hR, RsAt.nil w, .inr ⟨rfl, rfl, fun c hc e => ?_⟩, fun _ _ e _ => by cases e⟩
    obtain ⟨k, hk, hk2⟩ := List.getElem_of_mem hc
    exact hno k (by rw [List.getElem?_eq_getElem hk, hk2, e])
/-- what a number's text is read as -/
structure AtIs (s : List UInt8) (n : Int) (f : Bool) : Prop where
  r : I64r n
  x : ∀ n0, I64r n0 → s = decB n0 → n = n0 ∧ f = false
  z : s = [] → n = 0 ∧ f = true
/-- the library's variables that Atoi reads -/
def ErrP (w : World) : Prop := (∃ tp p, w.var? Tryd.prog "strconv.ErrSyntax" = some #[.iface tp p]) ∧ ∃ tp p, w.var? Tryd.prog "strconv.ErrRange" = some #[.iface tp p]
theorem atoi_calls (s : ByteArray) (w : World) (hs : s.size ≤ 1048576) (hE : ErrP w) :
    Calls Tryd.prog 51 #[.string s] w fun e w' => (∃ n v f, e = .returned (.tuple #[.int .i64 n, v]) ∧ (v = .nilIface ∧ f = false ∨ (∃ tp q, v = .iface tp q) ∧ f = true) ∧ AtIs s.data.toList n f) ∧ Below w.heap.size w w' := by
  obtain ⟨⟨tp1, p1, h1⟩, ⟨tp2, p2, h2⟩⟩ := hE
  cases hA : Lib.atoiAll s.data.toList with
  | ok v =>
    have hb := Lib.atoiAll_bounds hA
    refine (Any.strconv_Atoi_ok atoiL s (by omega) v hA w).mono fun e w' ⟨he, hw⟩ => ⟨⟨v, _, false, he, .inl ⟨rfl, rfl⟩, ⟨hb, fun n0 h0 e => ?_, fun e => ?_⟩⟩, ?_⟩
    · rw [e, atoi_dec n0 h0] at hA
      exact ⟨(Lib.NumEnd.ok.inj hA).symm, rfl⟩
    · rw [e] at hA; cases hA
    · rcases hw with rfl | ⟨t, rfl⟩
      · exact Below.refl _ _
      · exact Lib.bytesWorld_below _ _ _
  | «syntax» =>
    refine (Any.strconv_Atoi_syntax_var atoiL s (by omega) hA tp1 p1 w h1).mono fun e w' ⟨N, he, _, _, hb⟩ => ⟨⟨0, _, true, he, .inr ⟨⟨_, _, rfl⟩, rfl⟩, ⟨by unfold I64r; omega, fun n0 h0 e => ?_, fun _ => ⟨rfl, rfl⟩⟩⟩, hb⟩
    rw [e, atoi_dec n0 h0] at hA; cases hA
  | range =>
    refine (Any.strconv_Atoi_range_var atoiL s (by omega) hA tp2 p2 w h2).mono fun e w' ⟨N, he, _, _, hb⟩ => ⟨⟨_, _, true, he, .inr ⟨⟨_, _, rfl⟩, rfl⟩, ⟨Lib.atoiSat_bounds _, fun n0 h0 e => ?_, fun e => ?_⟩⟩, hb⟩
    · rw [e, atoi_dec n0 h0] at hA; cases hA
    · rw [e] at hA; cases hA
theorem eq_calls (a1 a2 : Option Addr) (c1 c2 : Nat) (l1 l2 : List UInt8) (w : World) (h1 : RsAt w a1 c1 l1) (h2 : RsAt w a2 c2 l2) :
    Calls Tryd.prog 32 #[.slice a1 l1.length c1, .slice a2 l2.length c2] w fun e w' => e = .returned (.bool (l1 == l2)) ∧ w' = w := by
  have := Any.bytes_Equal_all eqL a1 a2 l1.length c1 l2.length c2 (nmL l1) (nmL l2) w (nmL_len _) (nmL_len _) h1.bytesIn h2.bytesIn
  rw [nmL_bytes, nmL_bytes] at this
  exact this
end Go.Proofs.YtiidepafifodjaaDoor
