import Derived.Test.YtiidepafifodjaaDoorHrD
/-! The program's reader: a number. -/
namespace Go.Proofs.YtiidepafifodjaaDoor
open Go.RowKit
attribute [local go_sem] run_store_float
attribute [local go_sem ↓] Go.wp_at_zero Go.wp_at_succ

/-- the reader's box, and the bytes that it has not read -/
structure HrX (H : Nat) (u : World) (ra : Option Addr) (rc : Nat) (r : List UInt8) (f : Bool) : Prop where
  bx : u.heap[H]? = some (.cells #[.slice ra r.length rc, .bool f] 60 (0, 0))
  at_ : RsAt u ra rc r
  lt : ∀ b o, ra = some ⟨b, o, none⟩ → 0 < r.length → b < H
theorem HrX.c0 {H rc : Nat} {u : World} {ra : Option Addr} {r : List UInt8} {f : Bool} (h : HrX H u ra rc r f) : u.cell? ⟨H, 0, none⟩ = some (.slice ra r.length rc) := by simp [World.cell?, h.bx]
theorem HrX.c1 {H rc : Nat} {u : World} {ra : Option Addr} {r : List UInt8} {f : Bool} (h : HrX H u ra rc r f) : u.cell? ⟨H, 1, none⟩ = some (.bool f) := by simp [World.cell?, h.bx]
theorem HrX.fz {H rc : Nat} {u : World} {ra : Option Addr} {r : List UInt8} {f : Bool} (h : HrX H u ra rc r f) (o : Nat) : u.frozen? ⟨H, o, none⟩ = false := by simp [World.frozen?, h.bx]
theorem HrX.hlt {H rc : Nat} {u : World} {ra : Option Addr} {r : List UInt8} {f : Bool} (h : HrX H u ra rc r f) : H < u.heap.size := by
  have := h.bx
  exact (Array.getElem?_eq_some_iff.1 this).1
theorem RsAt.gx {w w' : World} {a : Option Addr} {c H : Nat} {l : List UInt8} (h : RsAt w a c l) (hg : Gx (fun k => k = H) w w') (hH : H < w.heap.size) (hl : ∀ b o, a = some ⟨b, o, none⟩ → 0 < l.length → b < H) : RsAt w' a c l :=
  h.below fun b o e h0 i => World.cell?_of_block (a := ⟨b, i, none⟩) (hg.block b (by have := hl b o e h0; omega) (by have := hl b o e h0; omega))
theorem HrX.call {H rc : Nat} {u u' : World} {ra : Option Addr} {r : List UInt8} {f : Bool} (h : HrX H u ra rc r f) (hb : Below u.heap.size u u') : HrX H u' ra rc r f :=
  ⟨(hb.block H h.hlt).trans h.bx, h.at_.gx (Gx.below _ hb) h.hlt h.lt, h.lt⟩
/-- what a number's reader answers -/
structure HnIs (r : List UInt8) (f : Bool) (n : Int) (r' : List UInt8) (f' : Bool) : Prop where
  i : I64r n
  le : r'.length ≤ r.length
  b : f = true → f' = true
  s : f' = false → r'.length < r.length
  x : ∀ n0 t, r = numL n0 ++ t → I64r n0 → n = n0 ∧ r' = t ∧ f' = f
  z : r = [] → n = 0 ∧ r' = [] ∧ f' = true
theorem cut_uniq : ∀ {a b c d : List UInt8}, a ++ 32 :: b = c ++ 32 :: d → (∀ x ∈ a, x ≠ 32) → (∀ x ∈ c, x ≠ 32) → a = c ∧ b = d
  | [], b, [], d, h, _, _ => ⟨rfl, by simpa using h⟩
  | [], _, y :: c, _, h, _, hc => by
    have : (32 : UInt8) = y := by simpa using (List.cons.inj h).1
    exact absurd this.symm (hc y (by simp))
  | x :: a, _, [], _, h, ha, _ => by
    have : x = (32 : UInt8) := by simpa using (List.cons.inj h).1
    exact absurd this (ha x (by simp))
  | x :: a, b, y :: c, d, h, ha, hc => by
    obtain ⟨h1, h2⟩ := List.cons.inj h
    obtain ⟨e1, e2⟩ := cut_uniq (a := a) (b := b) (c := c) (d := d) h2 (fun z hz => ha z (by simp [hz])) (fun z hz => hc z (by simp [hz]))
    exact ⟨by rw [h1, e1], e2⟩
theorem dec_no32 (n : Int) (h : I64r n) : ∀ c ∈ decB n, c ≠ 32 := by
  intro c hc e
  rw [decB_itoa n h] at hc
  unfold Lib.itoa at hc
  have hd : ∀ u, c ∈ Lib.decDigits u → False := fun u hu => by
    have := dec_dg u c hu
    rw [e] at this
    revert this
    decide
  by_cases k : n < 0
  · rw [if_pos k] at hc
    rcases List.mem_cons.1 hc with h1 | h1
    · rw [e] at h1; revert h1; decide
    · exact hd _ h1
  · rw [if_neg k] at hc
    exact hd _ hc
theorem hn_is {r dg r' : List UInt8} {f f2 : Bool} {n : Int} (hx : (r = dg ++ 32 :: r' ∧ ∀ c ∈ dg, c ≠ 32) ∨ (r' = [] ∧ dg = r ∧ ∀ c ∈ r, c ≠ 32)) (ha : AtIs dg n f2) : HnIs r f n r' (f || f2) := by
  have hle : r'.length ≤ r.length := by
    rcases hx with ⟨e, _⟩ | ⟨e, _, _⟩
    · rw [e]; simp; omega
    · rw [e]; simp
  refine ⟨ha.r, hle, fun e => by rw [e]; rfl, fun e => ?_, fun n0 t e h0 => ?_, fun e => ?_⟩
  · have hf : f2 = false := by cases f <;> cases f2 <;> simp_all
    have hne : dg ≠ [] := fun h => by have := (ha.z h).2; rw [hf] at this; cases this
    rcases hx with ⟨e, _⟩ | ⟨e, e2, _⟩
    · rw [e]; simp; omega
    · rw [e, ← e2]; exact List.length_pos_iff.2 hne
  · unfold numL at e
    rw [List.append_assoc] at e
    rcases hx with ⟨e1, h1⟩ | ⟨_, _, h1⟩
    · rw [e1] at e
      obtain ⟨e2, e3⟩ := cut_uniq e h1 (dec_no32 n0 h0)
      obtain ⟨a1, a2⟩ := ha.x n0 h0 e2
      exact ⟨a1, e3, by rw [a2]; simp⟩
    · exact absurd rfl (h1 32 (by rw [e]; simp))
  · rcases hx with ⟨e1, _⟩ | ⟨e1, e2, _⟩
    · rw [e] at e1; simp at e1
    · obtain ⟨a1, a2⟩ := ha.z (by rw [e2, e])
      exact ⟨a1, e1, by rw [a2]; simp⟩
theorem CutIs.pos {w : World} {l : List UInt8} {a da : Option Addr} {dc : Nat} {dg : List UInt8} {ra : Option Addr} {rc : Nat} {r : List UInt8} (h : CutIs w l a da dc dg ra rc r) (h0 : 0 < r.length) : 0 < l.length := by
  rcases h.x with ⟨e, _⟩ | ⟨e, _, _⟩
  · rw [e]; simp; omega
  · rw [e] at h0; simp at h0
theorem CutIs.dlen {w : World} {l : List UInt8} {a da : Option Addr} {dc : Nat} {dg : List UInt8} {ra : Option Addr} {rc : Nat} {r : List UInt8} (h : CutIs w l a da dc dg ra rc r) : dg.length ≤ l.length := by
  rcases h.x with ⟨e, _⟩ | ⟨_, e, _⟩
  · rw [e]; simp
  · rw [e]; exact Nat.le_refl _
theorem strN (l : List UInt8) : strOfNums (nmL l) = ⟨l.toArray⟩ := by
  have h := nmL_bytes l
  unfold Lib.bytesOf at h
  unfold strOfNums
  rw [h]
theorem RsAt.str {u : World} {a : Option Addr} {c : Nat} {l : List UInt8} (h : RsAt u a c l) : (convert 27 9 (.slice a l.length c)).run Tryd.prog u = .ok (.string ⟨l.toArray⟩) u := by
  have := h.bytesIn.convert (P := Tryd.prog) (nmL_len l) c 27 5 9 Tryd.underlying27 Tryd.underlying5 Tryd.underlying9
  rw [strN] at this
  exact this
theorem HrX.set {H rc rc' : Nat} {u : World} {ra ra' : Option Addr} {r r' : List UInt8} {f : Bool} (h : HrX H u ra rc r f) (f' : Bool) (ha : RsAt u ra' rc' r') (hl : ∀ b o, ra' = some ⟨b, o, none⟩ → 0 < r'.length → b < H) : HrX H ((u.setCell ⟨H, 1, none⟩ (.bool f')).setCell ⟨H, 0, none⟩ (.slice ra' r'.length rc')) ra' rc' r' f' := by
  have hg : Gx (fun k => k = H) u ((u.setCell ⟨H, 1, none⟩ (.bool f')).setCell ⟨H, 0, none⟩ (.slice ra' r'.length rc')) := (Gx.set u H 1 _).trans (Gx.set _ H 0 _) (fun _ _ h => h)
  refine ⟨?_, ha.gx hg h.hlt hl, hl⟩
  have hb := h.bx
  simp [World.setCell, Array.getElem?_modify, hb]

set_option maxRecDepth 100000 in
set_option maxHeartbeats 8000000 in
theorem number_calls (H N0 : Nat) (ra : Option Addr) (rc : Nat) (r : List UInt8) (f : Bool) (w : World) (hl : r.length ≤ 1048576) (hN : N0 ≤ w.heap.size) (hE : ∀ u, Below N0 w u → ErrP u) (hX : HrX H w ra rc r f) :
    Calls Tryd.prog 43 #[.pointer (some ⟨H, 0, none⟩)] w fun e w' => ∃ n ra' rc' r' f', e = .returned (.int .i64 n) ∧ HnIs r f n r' f' ∧ HrX H w' ra' rc' r' f' ∧ Gx (fun k => k = H) w w' := by
  have HX : Hid (HrX H w ra rc r f) := hX
  have HE : Hid (∀ u, Below N0 w u → ErrP u) := hE
  clear hX hE
  have c0 := HX.out.c0
  go_enter Tryd.func43, Tryd.ntmps43
  have HLc : Hid (∀ da dc dg ra' rc' r', CutIs (w.alloc (.cells #[.int .u8 32] 5)) r ra da dc dg ra' rc' r' → ∀ b o, ra' = some ⟨b, o, none⟩ → 0 < r'.length → b < H) := fun da dc dg ra' rc' r' h b o e h0 => h.bk b o e h0 |>.elim fun o' e' => HX.out.lt b o' e' (h.pos h0)
  have HXa : Hid (HrX H (w.alloc (.cells #[.int .u8 32] 5)) ra rc r f) := HX.out.call (below_alloc _ _)
  have h2 : (w.alloc (.cells #[.int .u8 32] 5)).cell? ⟨w.heap.size, 0, none⟩ = some (.int .u8 32) := (Has.new w #[.int .u8 32] 5).2 0
  go_wp2_with (go_at_call 50; refine (cut_calls ra rc r w.heap.size _ _ hl HXa.out.at_ h2).mono ?_; rintro e w2 ⟨⟨da, dc, dg, ra', rc', r', fo, rfl, hcut⟩, hw2⟩; have HC : Hid (CutIs (w.alloc (.cells #[.int .u8 32] 5)) r ra da dc dg ra' rc' r') := hcut; have HW2 : Hid (∃ q, w2 = (w.alloc (.cells #[.int .u8 32] 5)).drewN q) := hw2; have hcv : (convert 27 9 (.slice da dg.length dc)).run Tryd.prog w2 = .ok (.string ⟨dg.toArray⟩) w2 := (by obtain ⟨q, rfl⟩ := HW2.out; exact RsAt.str (show RsAt ((w.alloc (.cells #[.int .u8 32] 5)).drewN q) da dc dg from HC.out.dd)); clear hcut hw2 h2 c0)
  have hdl : dg.length ≤ 1048576 := Nat.le_trans HC.out.dlen hl
  have HB2 : Hid (Below w.heap.size w w2) := by
    obtain ⟨q, rfl⟩ := HW2.out
    exact below_drewN (below_alloc _ _) q
  have HX2 : Hid (HrX H w2 ra rc r f) := HX.out.call HB2.out
  have HR2 : Hid (RsAt w2 ra' rc' r') := by
    obtain ⟨q, rfl⟩ := HW2.out
    exact HC.out.rr
  have HL2 : Hid (∀ b o, ra' = some ⟨b, o, none⟩ → 0 < r'.length → b < H) := HLc.out da dc dg ra' rc' r' HC.out
  have HCx : Hid ((r = dg ++ 32 :: r' ∧ ∀ c ∈ dg, c ≠ 32) ∨ (r' = [] ∧ dg = r ∧ ∀ c ∈ r, c ≠ 32)) := HC.out.x
  clear HC HXa HW2
  refine (atoi_calls ⟨dg.toArray⟩ w2 (by simpa [ByteArray.size] using hdl) (HE.out w2 (HB2.out.mono hN))).mono ?_
  rintro e w3 ⟨⟨n, v, f2, rfl, hv, hat⟩, hb3⟩
  have HA : Hid (AtIs dg n f2) := by
    show AtIs dg n f2
    simpa using hat
  have HB3 : Hid (Below w.heap.size w w3) := below_call HB2.out hb3
  have HX3 : Hid (HrX H w3 ra rc r f) := HX2.out.call hb3
  have HR3 : Hid (RsAt w3 ra' rc' r') := HR2.out.gx (Gx.below _ hb3) HX2.out.hlt HL2.out
  have HN : Hid (HnIs r f n r' (f || f2)) := hn_is HCx.out HA.out
  clear hat hb3 hcv HX2 HR2 HB2 HX HA HCx
  have c1 := HX3.out.c1
  have c0 := HX3.out.c0
  have cf0 := HX3.out.fz 0
  have cf1 := HX3.out.fz 1
  have HF : Hid (HrX H ((w3.setCell ⟨H, 1, none⟩ (.bool (f || f2))).setCell ⟨H, 0, none⟩ (.slice ra' r'.length rc')) ra' rc' r' (f || f2)) := HX3.out.set (f || f2) HR3.out HL2.out
  have HGf : Hid (Gx (fun k => k = H) w ((w3.setCell ⟨H, 1, none⟩ (.bool (f || f2))).setCell ⟨H, 0, none⟩ (.slice ra' r'.length rc'))) := ((Gx.below _ HB3.out).trans (Gx.set _ H 1 _) (fun _ _ h => h)).trans (Gx.set _ H 0 _) (fun _ _ h => h)
  rcases hv with ⟨rfl, rfl⟩ | ⟨⟨tp, q, rfl⟩, rfl⟩
  · cases f
    · go_wp2_with fail
      go_ret
      exact ⟨n, ra', rc', r', false, rfl, HN.out, HF.out, HGf.out⟩
    · go_wp2_with fail
      go_ret
      exact ⟨n, ra', rc', r', true, rfl, HN.out, HF.out, HGf.out⟩
  · cases f
    · go_wp2_with fail
      go_ret
      exact ⟨n, ra', rc', r', true, rfl, HN.out, HF.out, HGf.out⟩
    · go_wp2_with fail
      go_ret
      exact ⟨n, ra', rc', r', true, rfl, HN.out, HF.out, HGf.out⟩
end Go.Proofs.YtiidepafifodjaaDoor
