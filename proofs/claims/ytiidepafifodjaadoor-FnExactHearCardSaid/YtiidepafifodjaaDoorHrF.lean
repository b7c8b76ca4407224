import Derived.Test.YtiidepafifodjaaDoorHrE
/-! The program's reader: a text, a record. -/
namespace Go.Proofs.YtiidepafifodjaaDoor
open Go.RowKit
attribute [local go_sem] run_store_float
attribute [local go_sem ↓] Go.wp_at_zero Go.wp_at_succ

set_option maxRecDepth 100000 in
set_option maxHeartbeats 4000000 in
theorem between_yes (n a b : Int) (w : World) (h1 : a ≤ n) (h2 : n ≤ b) :
    Calls Tryd.prog 52 #[.int .i64 n, .int .i64 a, .int .i64 b] w fun e w' => e = .returned (.bool true) ∧ w' = w := by
  go_enter Tryd.func52, Tryd.ntmps52
  go_wp2_with fail
  go_ret
  exact ⟨rfl, rfl⟩
set_option maxRecDepth 100000 in
set_option maxHeartbeats 4000000 in
theorem between_no (n a b : Int) (w : World) (h : ¬ (a ≤ n ∧ n ≤ b)) :
    Calls Tryd.prog 52 #[.int .i64 n, .int .i64 a, .int .i64 b] w fun e w' => e = .returned (.bool false) ∧ w' = w := by
  by_cases h1 : a ≤ n
  · have h2 : ¬ n ≤ b := fun h2 => h ⟨h1, h2⟩
    clear h
    go_enter Tryd.func52, Tryd.ntmps52
    go_wp2_with fail
    go_ret
    exact ⟨by simp, rfl⟩
  · clear h
    go_enter Tryd.func52, Tryd.ntmps52
    go_wp2_with fail
    go_ret
    exact ⟨rfl, rfl⟩
theorem RsAt.part {u : World} {a : Option Addr} {c : Nat} {l : List UInt8} (h : RsAt u a c l) (n : Nat) (hn : n ≤ l.length) : (convert 27 9 (.slice a n c)).run Tryd.prog u = .ok (.string ⟨(l.take n).toArray⟩) u := by
  have hlen : (l.take n).length = n := by simp; omega
  have h2 : RsAt u a c (l.take n) := by
    obtain ⟨h0, ⟨h1, h2, h3⟩ | ⟨b, o, e, hc⟩⟩ := h
    · exact ⟨by rw [h3]; simp, .inl ⟨h1, h2, by rw [h3]; simp⟩⟩
    · exact ⟨by omega, .inr ⟨b, o, e, fun i hi => by rw [getD_take l n i (by omega)]; exact hc i (by omega)⟩⟩
  have := h2.str
  rw [hlen] at this
  exact this
/-- where the rest lies behind n bytes -/
def dropA (a : Option Addr) (c n : Nat) : Option Addr := if c = n then a else a.map (·.add n)
theorem RsAt.drop {u : World} {a : Option Addr} {c : Nat} {l : List UInt8} (h : RsAt u a c l) (n : Nat) (hn : n ≤ l.length) : RsAt u (dropA a c n) (c - n) (l.drop n) := by
  unfold dropA
  obtain ⟨h0, ⟨h1, h2, h3⟩ | ⟨b, o, e, hc⟩⟩ := h
  · subst h1 h2 h3
    refine ⟨by simp, .inl ⟨?_, by omega, by simp⟩⟩
    split <;> rfl
  · subst e
    refine ⟨by rw [List.length_drop]; omega, .inr ?_⟩
    by_cases e : c = n
    · rw [if_pos e]
      exact ⟨b, o, rfl, fun i hi => by rw [List.length_drop] at hi; omega⟩
    · rw [if_neg e]
      exact ⟨b, o + n, by simp [Go.WideShapes.add_plain], fun i hi => by rw [List.length_drop] at hi; rw [getD_drop, Nat.add_assoc]; exact hc _ (by omega)⟩
theorem dropA_blk {a : Option Addr} {c n b o : Nat} (h : dropA a c n = some ⟨b, o, none⟩) (hp : ∀ x, a = some x → x.spot = none) : ∃ o', a = some ⟨b, o', none⟩ := by
  unfold dropA at h
  by_cases e : c = n
  · rw [if_pos e] at h; exact ⟨o, h⟩
  · rw [if_neg e] at h
    cases a with
    | none => cases h
    | some x =>
      obtain ⟨xb, xo, xs⟩ := x
      obtain rfl : xs = none := hp _ rfl
      rw [Option.map_some, Go.WideShapes.add_plain] at h
      cases h
      exact ⟨xo, rfl⟩
/-- what a text's reader answers -/
structure HtIs (r : List UInt8) (f : Bool) (s : ByteArray) (r' : List UInt8) (f' : Bool) : Prop where
  i : s.size ≤ r.length
  le : r'.length ≤ r.length
  b : f = true → f' = true
  st : f' = false → r'.length < r.length
  x : ∀ s0 t, r = txtL s0 ++ t → s0.size ≤ 1048576 → f = false → s = s0 ∧ r' = t ∧ f' = f
  z : r = [] → s = ⟨#[]⟩ ∧ r' = [] ∧ f' = true
theorem ht_not {r : List UInt8} {f : Bool} {n : Int} {r' : List UInt8} {f' : Bool} (h : HnIs r f n r' f') (hc : ¬ (0 ≤ n ∧ n ≤ (r'.length : Int))) : HtIs r f ⟨#[]⟩ r' f' := by
  refine ⟨Nat.zero_le _, h.le, h.b, h.s, fun s0 t e hs _ => ?_, fun e => ⟨rfl, (h.z e).2⟩⟩
  unfold txtL at e
  rw [List.append_assoc] at e
  obtain ⟨e1, e2, _⟩ := h.x _ _ e (by unfold I64r; omega)
  refine absurd ⟨?_, ?_⟩ hc
  · omega
  · have h3 : s0.data.toList.length = s0.size := by rw [Array.length_toList]; rfl
    rw [e2, List.length_append, h3]
    omega
theorem ht_ok {r : List UInt8} {f : Bool} {n1 : Nat} {r' : List UInt8} {f' : Bool} (h : HnIs r f (n1 : Int) r' f') (hc : n1 ≤ r'.length) : HtIs r f ⟨(r'.take n1).toArray⟩ (r'.drop n1) f' := by
  have hle := h.le
  refine ⟨by simp [ByteArray.size]; omega, by rw [List.length_drop]; omega, h.b, fun e => by have := h.s e; rw [List.length_drop]; omega, fun s0 t e hs _ => ?_, fun e => ?_⟩
  · unfold txtL at e
    rw [List.append_assoc] at e
    obtain ⟨e1, e2, e3⟩ := h.x _ _ e (by unfold I64r; omega)
    have h3 : s0.data.toList.length = s0.size := by rw [Array.length_toList]; rfl
    have e4 : n1 = s0.data.toList.length := by omega
    refine ⟨?_, ?_, e3⟩
    · rw [e2, e4, List.take_left]
    · rw [e2, e4, List.drop_left]
  · obtain ⟨e1, e2, e3⟩ := h.z e
    rw [e2]
    exact ⟨by simp, by simp, e3⟩

theorem RsAt.spot {u : World} {a : Option Addr} {c : Nat} {l : List UInt8} (h : RsAt u a c l) : ∀ x, a = some x → x.spot = none := fun x e => by
  obtain ⟨_, ⟨h1, _⟩ | ⟨b, o, h1, _⟩⟩ := h
  · rw [h1] at e; cases e
  · rw [h1] at e; cases e; rfl
theorem HrX.set0 {H rc : Nat} {u : World} {ra : Option Addr} {r : List UInt8} {f : Bool} (h : HrX H u ra rc r f) (n : Nat) (hn : n ≤ r.length) : HrX H (u.setCell ⟨H, 0, none⟩ (.slice (dropA ra rc n) (r.length - n) (rc - n))) (dropA ra rc n) (rc - n) (r.drop n) f := by
  have hl : ∀ b o, dropA ra rc n = some ⟨b, o, none⟩ → 0 < (r.drop n).length → b < H := fun b o e h0 => by
    obtain ⟨o', e'⟩ := dropA_blk e h.at_.spot
    exact h.lt b o' e' (by rw [List.length_drop] at h0; omega)
  refine ⟨?_, (h.at_.drop n hn).gx (Gx.set u H 0 _) h.hlt hl, hl⟩
  have hb := h.bx
  simp [World.setCell, Array.getElem?_modify, hb]

set_option maxRecDepth 100000 in
set_option maxHeartbeats 8000000 in
theorem htext_calls (H N0 : Nat) (ra : Option Addr) (rc : Nat) (r : List UInt8) (f : Bool) (w : World) (hl : r.length ≤ 1048576) (hN : N0 ≤ w.heap.size) (hE : ∀ u, Below N0 w u → ErrP u) (hX : HrX H w ra rc r f) :
    Calls Tryd.prog 47 #[.pointer (some ⟨H, 0, none⟩)] w fun e w' => ∃ s ra' rc' r' f', e = .returned (.string s) ∧ HtIs r f s r' f' ∧ HrX H w' ra' rc' r' f' ∧ Gx (fun k => k = H) w w' := by
  have HX : Hid (HrX H w ra rc r f) := hX
  have HE : Hid (∀ u, Below N0 w u → ErrP u) := hE
  clear hX hE
  go_enter Tryd.func47, Tryd.ntmps47
  go_wp2_with (go_at_call 43; refine (number_calls H N0 ra rc r f _ hl hN HE.out HX.out).mono ?_; rintro e w2 ⟨n, ra', rc', r', f', rfl, hi, hx2, hg2⟩; have HI : Hid (HnIs r f n r' f') := hi; have HX2 : Hid (HrX H w2 ra' rc' r' f') := hx2; have HG : Hid (Gx (fun k => k = H) w w2) := hg2; have c0 := HX2.out.c0; have cf0 := HX2.out.fz 0; clear hi hx2 hg2 HX)
  have HL : Hid (r'.length ≤ r.length) := HI.out.le
  by_cases hc : 0 ≤ n ∧ n ≤ (r'.length : Int)
  · obtain ⟨n1, rfl⟩ : ∃ n1 : Nat, n = (n1 : Int) := ⟨n.toNat, by omega⟩
    refine (between_yes _ _ _ w2 hc.1 hc.2).mono ?_
    rintro e w' ⟨rfl, rfl⟩
    obtain ⟨_, hc2⟩ := hc
    have HT : Hid (HtIs r f ⟨(r'.take n1).toArray⟩ (r'.drop n1) f') := ht_ok HI.out (by omega)
    have hrc : (n1 : Int) ≤ (rc' : Int) := by have := HX2.out.at_.1; omega
    have hz1 : (0 : Int) ≤ (n1 : Int) := by omega
    have hcv : (convert 27 9 (.slice ra' n1 rc')).run Tryd.prog w' = .ok (.string ⟨(r'.take n1).toArray⟩) w' := HX2.out.at_.part n1 (by omega)
    generalize (⟨(r'.take n1).toArray⟩ : ByteArray) = sx at *
    have HF : Hid (HrX H (w'.setCell ⟨H, 0, none⟩ (.slice (dropA ra' rc' n1) (r'.length - n1) (rc' - n1))) (dropA ra' rc' n1) (rc' - n1) (r'.drop n1) f') := HX2.out.set0 n1 (by omega)
    have HGf : Hid (Gx (fun k => k = H) w (w'.setCell ⟨H, 0, none⟩ (.slice (dropA ra' rc' n1) (r'.length - n1) (rc' - n1)))) := HG.out.trans (Gx.set _ H 0 _) (fun _ _ h => h)
    by_cases hrn : rc' = n1
    · have e : dropA ra' rc' n1 = ra' := if_pos hrn
      rw [e, hrn, Nat.sub_self] at HF HGf
      rw [hrn] at hrc hcv c0
      subst hrn
      clear e HX2 HG HI
      go_wp2_with fail
      go_ret
      exact ⟨sx, _, _, _, f', rfl, HT.out, HF.out, HGf.out⟩
    · have e : dropA ra' rc' n1 = ra'.map (·.add n1) := if_neg hrn
      rw [e] at HF HGf
      clear e HX2 HG HI
      go_wp2_with fail
      go_ret
      exact ⟨sx, _, _, _, f', rfl, HT.out, HF.out, HGf.out⟩
  · refine (between_no _ _ _ w2 hc).mono ?_
    rintro e w' ⟨rfl, rfl⟩
    have HT : Hid (HtIs r f ⟨#[]⟩ r' f') := ht_not HI.out hc
    go_wp2_with fail
    go_ret
    exact ⟨_, ra', rc', r', f', rfl, HT.out, HX2.out, HG.out⟩
end Go.Proofs.YtiidepafifodjaaDoor
