import Derived.Test.YtiidepafifodjaaDoorTlE
/-! The program's teller: numbers, texts. -/
namespace Go.Proofs.YtiidepafifodjaaDoor
open Go.RowKit
attribute [local go_sem] run_store_float
attribute [local go_sem ↓] Go.wp_at_zero Go.wp_at_succ

def numsL (q : Nat → Int) : Nat → List UInt8
  | 0 => []
  | k + 1 => numsL q k ++ numL (q k)
/-- one step of the teller: what it had told, what it has told -/
structure TS (N Tb : Nat) (w : World) (a : Option Addr) (l : List UInt8) (u : World) (a1 : Option Addr) (cap1 : Nat) (L1 : List UInt8) : Prop where
  t : TL N Tb u a1 cap1 L1
  e : L1 = tkM l
  o : ∀ j, j < w.heap.size → bkB a1 j → bkB a j
  g : Gx (tlB Tb a) w u
theorem TS.start {N Tb : Nat} {w : World} {a : Option Addr} {cap : Nat} {L l : List UInt8} (h : TL N Tb w a cap L) (e : L = tkM l) : TS N Tb w a l w a cap L := ⟨h, e, fun _ _ h => h, Gx.refl _ _⟩
theorem TS.below {N Tb : Nat} {w u u' : World} {a a1 : Option Addr} {cap1 : Nat} {L1 l : List UInt8} (h : TS N Tb w a l u a1 cap1 L1) (hb : Below u.heap.size u u') : TS N Tb w a l u' a1 cap1 L1 := ⟨h.t.keep hb, h.e, h.o, h.g.trans (Gx.below (tlB Tb a) hb) (fun _ _ h => h)⟩
theorem TS.write {N Tb : Nat} {w u u' : World} {a a1 a2 : Option Addr} {cap1 cap2 : Nat} {L1 L2 l s : List UInt8} (h : TS N Tb w a l u a1 cap1 L1) (e : L2 = L1 ++ s.take (1000001 - L1.length)) (ht : TL N Tb u' a2 cap2 L2) (ho : ∀ k, k < u.heap.size → bkB a2 k → bkB a1 k) (hg : Gx (tlB Tb a1) u u') : TS N Tb w a (l ++ s) u' a2 cap2 L2 := by
  refine ⟨ht, ?_, fun j hj hk => h.o j hj (ho j (Nat.lt_of_lt_of_le hj h.g.size) hk), h.g.trans hg (fun j hj e => ?_)⟩
  · rw [e, h.e, tkM_app]
  · rcases e with e | e
    · exact .inl e
    · exact .inr (h.o j hj e)
theorem TS.then {N Tb : Nat} {w u u' : World} {a a1 a2 : Option Addr} {cap1 cap2 : Nat} {L1 L2 l l' : List UInt8} (h : TS N Tb w a l u a1 cap1 L1) (k : TS N Tb u a1 l' u' a2 cap2 L2) : TS N Tb w a l' u' a2 cap2 L2 :=
  ⟨k.t, k.e, fun j hj hk => h.o j hj (k.o j (Nat.lt_of_lt_of_le hj h.g.size) hk), h.g.trans k.g (fun j hj e => by
    rcases e with e | e
    · exact .inl e
    · exact .inr (h.o j hj e))⟩
theorem TS.to {N Tb B0 : Nat} {w u : World} {a a1 : Option Addr} {cap cap1 : Nat} {L L1 l : List UInt8} (h : TS N Tb w a l u a1 cap1 L1) (h0 : TL N Tb w a cap L) (hB : B0 ≤ Tb) : Below B0 w u := h.g.to (by have := h0.lt; have := h0.sz; omega) (fun k e => by
  rcases e with e | e
  · omega
  · have := (bkB_lt h0.own e).1; have := h0.lt; omega)
theorem str_add (l : List UInt8) : (bA l ++ (⟨#[32]⟩ : ByteArray)).data.toList = l ++ [32] := by simp [bA, ByteArray.data_append]

set_option maxRecDepth 100000 in
set_option maxHeartbeats 4000000 in
theorem numbers_calls (N Tb B0 : Nat) (a : Option Addr) (cap : Nat) (L l : List UInt8) (a2 : Option Addr) (n cap2 : Nat) (q : Nat → Int) (w : World) (hn : n ≤ 100) (hT : TL N Tb w a cap L) (hL : L = tkM l) (hB : B0 ≤ Tb) (hP : ∀ u, Below B0 w u → TabP u) (hq : ∀ i, i < n → I64r (q i)) (hR : RowN 1 0 w a2 n fun i => #[.int .i64 (q i)]) (hx : ∀ b, a2 = some b → ¬ tlB Tb a b.block) :
    Calls Tryd.prog 23 #[.pointer (some ⟨Tb, 0, none⟩), .slice a2 n cap2] w fun e w' => e = .returned (.tuple #[]) ∧ ∃ a' cap' L', TS N Tb w a (l ++ numsL q n) w' a' cap' L' := by
  have HT0 : Hid (TL N Tb w a cap L) := hT
  have HS0 : Hid (TS N Tb w a (l ++ numsL q 0) w a cap L) := TS.start hT (by rw [hL]; simp [numsL])
  have HP : Hid (∀ u, Below B0 w u → TabP u) := hP
  have HQ : Hid (∀ i, i < n → I64r (q i)) := hq
  have HR : Hid (RowN 1 0 w a2 n fun i => #[.int .i64 (q i)]) := hR
  have HX : Hid (∀ b, a2 = some b → ¬ tlB Tb a b.block) := hx
  clear hT hL hP hq hR hx
  go_enter Tryd.func23, Tryd.ntmps23
  go_wp2_with fail
  go_loopw [8] (fun i wr => ∃ (k : Nat) (a1 : Option Addr) (cap1 : Nat) (L1 : List UInt8), k ≤ n ∧ i = .int .i64 k ∧ Hid (TS N Tb w a (l ++ numsL q k) wr a1 cap1 L1)) (fun i _ => n - (intOf i).toNat)
  case atStart => exact ⟨0, a, cap, L, Nat.zero_le _, rfl, HS0⟩
  case round =>
    clear HS0
    obtain ⟨k, a1, cap1, L1, hk, rfl, HS⟩ := hrel
    by_cases hkn : k < n
    · obtain ⟨b, off, rfl, _, hb, d0⟩ := cells1 (HS.out.g.row HR.out HX.out) hkn
      have hI := HQ.out k hkn
      have HPr : Hid (TabP wr) := HP.out wr (HS.out.to HT0.out hB)
      have hdl := decB_len (q k)
      have hsz : (bA (decB (q k))).size = (decB (q k)).length := bA_size _
      have hsp : (⟨#[32]⟩ : ByteArray).size = 1 := rfl
      have HE : Hid ((l ++ numsL q k) ++ (bA (decB (q k)) ++ (⟨#[32]⟩ : ByteArray)).data.toList = l ++ numsL q (k + 1)) := by show _ = _; rw [str_add, List.append_assoc]; rfl
      have hws : (bA (decB (q k)) ++ (⟨#[32]⟩ : ByteArray)).size ≤ 2000000 := by rw [ByteArray.size_append]; omega
      have hq2 : (bA (decB (q k)) ++ (⟨#[32]⟩ : ByteArray)).size ≤ maxLen := by unfold maxLen; omega
      go_wp2_with (first | (go_at_call 40; refine (itoa_calls (q k) _ hI HPr.out).mono ?_; rintro e w2 ⟨rfl, hb2⟩; replace HS : Hid (TS N Tb w a (l ++ numsL q k) w2 a1 cap1 L1) := HS.out.below hb2; clear hb2 d0 HPr) | (go_at_call 39; refine (write_calls N Tb a1 cap1 L1 (bA (decB (q k)) ++ (⟨#[32]⟩ : ByteArray)) _ hws HS.out.t).mono ?_; rintro e w3 ⟨rfl, ⟨a3, cap3, L3, he3, ht3, ho3⟩, hg3⟩; have HS3 : Hid (TS N Tb w a (l ++ numsL q (k + 1)) w3 a3 cap3 L3) := (by rw [← HE.out]; exact HS.out.write he3 ht3 ho3 hg3); clear he3 ht3 ho3 hg3 HS))
      go_roundw
      case rel => exact ⟨k + 1, a3, cap3, L3, by omega, by go_num, HS3⟩
      case measure => simp [intOf]; omega
    · obtain rfl : k = n := by omega
      go_wp2_with fail
      go_end0
      exact ⟨rfl, a1, cap1, L1, HS.out⟩

theorem numsL_one (q : Nat → Int) : numsL q 1 = numL (q 0) := by simp [numsL]
theorem row_new (w : World) (cs : Array Value) (t : TypeId) (q : Nat → Value) (n : Nat) (hq : ∀ i, i < n → cs[i]? = some (q i)) : RowN 1 0 (w.alloc (.cells cs t)) (some ⟨w.heap.size, 0, none⟩) n fun i => #[q i] := fun _ =>
  ⟨w.heap.size, 0, rfl, Nat.zero_le _, by simp, fun i hi j hj => by
    obtain rfl : j = 0 := by omega
    rw [show 0 + i * 1 + 0 = i by omega]
    exact ((Has.new w cs t).2 i).trans (hq i hi)⟩
theorem tlB_new {N Tb : Nat} {u : World} {a : Option Addr} {cap : Nat} {L : List UInt8} (h : TL N Tb u a cap L) : ∀ b : Addr, some (⟨u.heap.size, 0, none⟩ : Addr) = some b → ¬ tlB Tb a b.block := fun b e k => by
  cases e
  rcases k with k | k
  · have := h.lt; have := h.sz; dsimp at k; omega
  · have := (bkB_lt h.own k).2; dsimp at this; omega

set_option maxRecDepth 100000 in
set_option maxHeartbeats 4000000 in
theorem texts_calls (N Tb B0 : Nat) (a : Option Addr) (cap : Nat) (L l : List UInt8) (a2 : Option Addr) (n cap2 : Nat) (v : Nat → ByteArray) (w : World) (hn : n ≤ 1048576) (hT : TL N Tb w a cap L) (hL : L = tkM l) (hB : B0 ≤ Tb) (hP : ∀ u, Below B0 w u → TabP u) (hv : ∀ i, i < n → (v i).size ≤ 1048576) (hR : RowN 1 0 w a2 n fun i => #[.string (v i)]) (hx : 0 < n → ∀ b, a2 = some b → ¬ tlB Tb a b.block) :
    Calls Tryd.prog 24 #[.pointer (some ⟨Tb, 0, none⟩), .slice a2 n cap2] w fun e w' => e = .returned (.tuple #[]) ∧ ∃ a' cap' L', TS N Tb w a (l ++ txtsL v n) w' a' cap' L' := by
  have HT0 : Hid (TL N Tb w a cap L) := hT
  have HS0 : Hid (TS N Tb w a (l ++ txtsL v 0) w a cap L) := TS.start hT (by rw [hL]; simp [txtsL])
  have HP : Hid (∀ u, Below B0 w u → TabP u) := hP
  have HV : Hid (∀ i, i < n → (v i).size ≤ 1048576) := hv
  have HR : Hid (RowN 1 0 w a2 n fun i => #[.string (v i)]) := hR
  have HX : Hid (0 < n → ∀ b, a2 = some b → ¬ tlB Tb a b.block) := hx
  clear hT hL hP hv hR hx
  go_enter Tryd.func24, Tryd.ntmps24
  go_wp2_with fail
  go_loopw [8] (fun i wr => ∃ (k : Nat) (a1 : Option Addr) (cap1 : Nat) (L1 : List UInt8), k ≤ n ∧ i = .int .i64 k ∧ Hid (TS N Tb w a (l ++ txtsL v k) wr a1 cap1 L1)) (fun i _ => n - (intOf i).toNat)
  case atStart => exact ⟨0, a, cap, L, Nat.zero_le _, rfl, HS0⟩
  case round =>
    clear HS0
    obtain ⟨k, a1, cap1, L1, hk, rfl, HS⟩ := hrel
    by_cases hkn : k < n
    · obtain ⟨b, off, rfl, _, hb, d0⟩ := cells1 (HS.out.g.row HR.out (HX.out (by omega))) hkn
      have hs := HV.out k hkn
      have hI : I64r ((v k).size : Int) := by unfold I64r; omega
      have HSa : Hid (TS N Tb w a (l ++ txtsL v k) (wr.alloc (.cells #[.int .i64 ((v k).size : Int)] 3)) a1 cap1 L1) := HS.out.below (below_alloc _ _)
      have HRn : Hid (RowN 1 0 (wr.alloc (.cells #[.int .i64 ((v k).size : Int)] 3)) (some ⟨wr.heap.size, 0, none⟩) 1 fun i => #[.int .i64 ((fun _ => ((v k).size : Int)) i)]) := row_new wr _ _ (fun _ => .int .i64 ((v k).size : Int)) 1 (fun i hi => by rw [show i = 0 by omega]; rfl)
      have HXn : Hid (∀ b : Addr, some (⟨wr.heap.size, 0, none⟩ : Addr) = some b → ¬ tlB Tb a1 b.block) := tlB_new HS.out.t
      have HPr : Hid (∀ u, Below B0 (wr.alloc (.cells #[.int .i64 ((v k).size : Int)] 3)) u → TabP u) := fun u hu => HP.out u ((HSa.out.to HT0.out hB).trans hu)
      have HE : Hid (((l ++ txtsL v k) ++ numsL (fun _ => ((v k).size : Int)) 1) ++ (v k).data.toList = l ++ txtsL v (k + 1)) := by show _ = _; rw [numsL_one]; simp [txtsL, txtL, List.append_assoc]
      clear HS
      go_wp2_with (first | (go_at_call 23; refine (numbers_calls N Tb B0 a1 cap1 L1 (l ++ txtsL v k) _ 1 _ (fun _ => ((v k).size : Int)) _ (by omega) HSa.out.t HSa.out.e hB HPr.out (fun _ _ => hI) HRn.out HXn.out).mono ?_; rintro e w2 ⟨rfl, a3, cap3, L3, hs3⟩; have HS3 : Hid (TS N Tb w a ((l ++ txtsL v k) ++ numsL (fun _ => ((v k).size : Int)) 1) w2 a3 cap3 L3) := HSa.out.then hs3; clear hs3 d0 HSa HRn HXn HPr) | (go_at_call 39; refine (write_calls N Tb a3 cap3 L3 (v k) _ (by omega) HS3.out.t).mono ?_; rintro e w4 ⟨rfl, ⟨a4, cap4, L4, he4, ht4, ho4⟩, hg4⟩; have HS4 : Hid (TS N Tb w a (l ++ txtsL v (k + 1)) w4 a4 cap4 L4) := (by rw [← HE.out]; exact HS3.out.write he4 ht4 ho4 hg4); clear he4 ht4 ho4 hg4 HS3))
      go_roundw
      case rel => exact ⟨k + 1, a4, cap4, L4, by omega, by go_num, HS4⟩
      case measure => simp [intOf]; omega
    · obtain rfl : k = n := by omega
      go_wp2_with fail
      go_end0
      exact ⟨rfl, a1, cap1, L1, HS.out⟩
end Go.Proofs.YtiidepafifodjaaDoor
