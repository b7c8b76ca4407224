import Derived.Test.YtiidepafifodjaaPlain
/-! Profile: counts in ascending order, plain. -/
namespace Go.Proofs.Ytiidepafifodjaa

structure CT where
  f : Int
  l : Int
  h : Int
/-- by fn, then by line -/
def CT.lt (a b : CT) : Prop := a.f < b.f ∨ (a.f = b.f ∧ a.l < b.l)
def AscC (xs : List CT) : Prop := xs.Pairwise CT.lt
theorem CT.lt_asymm {a b : CT} (h : a.lt b) (k : b.lt a) : False := by unfold CT.lt at h k; omega
theorem ascC_same : ∀ {xs ys : List CT}, AscC xs → AscC ys → (∀ v, v ∈ xs ↔ v ∈ ys) → xs = ys
  | [], [], _, _, _ => rfl
  | [], y :: ys, _, _, h => absurd ((h y).2 (List.mem_cons_self ..)) (by simp)
  | x :: xs, [], _, _, h => absurd ((h x).1 (List.mem_cons_self ..)) (by simp)
  | x :: xs, y :: ys, hx, hy, h => by
    unfold AscC at hx hy
    rw [List.pairwise_cons] at hx hy
    have e : x = y := by
      rcases List.mem_cons.1 ((h x).1 (List.mem_cons_self ..)) with e | h1
      · exact e
      · rcases List.mem_cons.1 ((h y).2 (List.mem_cons_self ..)) with e | h2
        · exact e.symm
        · exact (CT.lt_asymm (hx.1 y h2) (hy.1 x h1)).elim
    subst e
    congr 1
    refine ascC_same hx.2 hy.2 fun v => ⟨fun hv => ?_, fun hv => ?_⟩
    · rcases List.mem_cons.1 ((h v).1 (List.mem_cons_of_mem _ hv)) with e | h1
      · subst e; exact (CT.lt_asymm (hx.1 v hv) (hx.1 v hv)).elim
      · exact h1
    · rcases List.mem_cons.1 ((h v).2 (List.mem_cons_of_mem _ hv)) with e | h1
      · subst e; exact (CT.lt_asymm (hy.1 v hv) (hy.1 v hv)).elim
      · exact h1
/-- the specification's own way: one more at (f, l) -/
def hitA (put : Bool) (f l : Int) : List CT → List CT
  | [] => if put then [] else [⟨f, l, 1⟩]
  | c :: r => if put = false ∧ (f < c.f ∨ (c.f = f ∧ l < c.l)) then ⟨f, l, 1⟩ :: c :: hitA true f l r else if c.f = f ∧ c.l = l then ⟨c.f, c.l, c.h + 1⟩ :: hitA true f l r else c :: hitA put f l r
theorem hitA_above (f l : Int) : ∀ r : List CT, (∀ c ∈ r, f < c.f ∨ (c.f = f ∧ l < c.l)) → hitA true f l r = r
  | [], _ => rfl
  | c :: r, h => by
    have h0 := h c (List.mem_cons_self ..)
    unfold hitA
    rw [if_neg (by simp), if_neg (by omega), hitA_above f l r fun c hc => h c (List.mem_cons_of_mem _ hc)]
/-- how often (f, l) is counted -/
def hitsOf (f l : Int) : List CT → Int
  | [] => 0
  | c :: r => if c.f = f ∧ c.l = l then c.h else hitsOf f l r
theorem asc_hitA (f l : Int) : ∀ xs : List CT, AscC xs → AscC (hitA false f l xs) ∧ ∀ c ∈ hitA false f l xs, (c.f = f ∧ c.l = l) ∨ c ∈ xs
  | [], _ => by unfold hitA AscC; simp
  | c :: r, h => by
    unfold AscC at h
    rw [List.pairwise_cons] at h
    have ih := asc_hitA f l r h.2
    unfold hitA
    by_cases c1 : f < c.f ∨ (c.f = f ∧ l < c.l)
    · have ha : ∀ x ∈ r, f < x.f ∨ (x.f = f ∧ l < x.l) := fun x hx => by have := h.1 x hx; unfold CT.lt at this; omega
      rw [if_pos ⟨rfl, c1⟩, hitA_above f l r ha]
      refine ⟨?_, fun x hx => ?_⟩
      · unfold AscC
        rw [List.pairwise_cons, List.pairwise_cons]
        refine ⟨fun x hx => ?_, h.1, h.2⟩
        unfold CT.lt
        rcases List.mem_cons.1 hx with rfl | hx
        · dsimp; omega
        · have := ha x hx; dsimp; omega
      · rcases List.mem_cons.1 hx with rfl | hx
        · exact .inl ⟨rfl, rfl⟩
        · exact .inr hx
    · rw [if_neg (fun d => c1 d.2)]
      by_cases c2 : c.f = f ∧ c.l = l
      · have ha : ∀ x ∈ r, f < x.f ∨ (x.f = f ∧ l < x.l) := fun x hx => by have := h.1 x hx; unfold CT.lt at this; omega
        rw [if_pos c2, hitA_above f l r ha]
        refine ⟨?_, fun x hx => ?_⟩
        · unfold AscC
          rw [List.pairwise_cons]
          exact ⟨fun x hx => by have := h.1 x hx; unfold CT.lt at this ⊢; exact this, h.2⟩
        · rcases List.mem_cons.1 hx with rfl | hx
          · exact .inl c2
          · exact .inr (List.mem_cons_of_mem _ hx)
      · rw [if_neg c2]
        refine ⟨?_, fun x hx => ?_⟩
        · unfold AscC
          rw [List.pairwise_cons]
          refine ⟨fun x hx => ?_, ih.1⟩
          rcases ih.2 x hx with e | hx
          · unfold CT.lt; omega
          · exact h.1 x hx
        · rcases List.mem_cons.1 hx with rfl | hx
          · exact .inr (List.mem_cons_self ..)
          · rcases ih.2 x hx with e | hx
            · exact .inl e
            · exact .inr (List.mem_cons_of_mem _ hx)
/-- what is counted behind one more -/
theorem mem_hitA (f l : Int) : ∀ xs : List CT, AscC xs → ∀ v : CT, v ∈ hitA false f l xs ↔ if v.f = f ∧ v.l = l then v.h = hitsOf f l xs + 1 else v ∈ xs
  | [], _, v => by
    unfold hitA hitsOf
    rw [if_neg (by simp), List.mem_singleton]
    by_cases e : v.f = f ∧ v.l = l
    · rw [if_pos e]
      exact ⟨fun h => by rw [h]; rfl, fun h => by cases v; simp_all⟩
    · rw [if_neg e]
      simp only [List.not_mem_nil, iff_false]
      exact fun h => e (by rw [h]; exact ⟨rfl, rfl⟩)
  | c :: r, h, v => by
    unfold AscC at h
    rw [List.pairwise_cons] at h
    have ih := mem_hitA f l r h.2 v
    unfold hitA
    have none : (∀ x ∈ r, f < x.f ∨ (x.f = f ∧ l < x.l)) → hitsOf f l r = 0 := by
      clear ih h
      intro ha
      induction r with
      | nil => rfl
      | cons x r ih2 =>
        have h0 := ha x (List.mem_cons_self ..)
        unfold hitsOf
        rw [if_neg (by omega)]
        exact ih2 fun c hc => ha c (List.mem_cons_of_mem _ hc)
    by_cases c1 : f < c.f ∨ (c.f = f ∧ l < c.l)
    · have ha : ∀ x ∈ r, f < x.f ∨ (x.f = f ∧ l < x.l) := fun x hx => by have := h.1 x hx; unfold CT.lt at this; omega
      rw [if_pos ⟨rfl, c1⟩, hitA_above f l r ha]
      have hz : hitsOf f l (c :: r) = 0 := by unfold hitsOf; rw [if_neg (by omega)]; exact none ha
      rw [hz]
      by_cases e : v.f = f ∧ v.l = l
      · rw [if_pos e]
        refine ⟨fun hv => ?_, fun hv => ?_⟩
        · rcases List.mem_cons.1 hv with rfl | hv
          · rfl
          · rcases List.mem_cons.1 hv with rfl | hv
            · omega
            · have := ha v hv; omega
        · have : v = ⟨f, l, 1⟩ := by cases v; simp_all
          rw [this]; exact List.mem_cons_self ..
      · rw [if_neg e]
        refine ⟨fun hv => ?_, fun hv => List.mem_cons_of_mem _ hv⟩
        rcases List.mem_cons.1 hv with rfl | hv
        · exact absurd ⟨rfl, rfl⟩ e
        · exact hv
    · rw [if_neg (fun d => c1 d.2)]
      by_cases c2 : c.f = f ∧ c.l = l
      · have ha : ∀ x ∈ r, f < x.f ∨ (x.f = f ∧ l < x.l) := fun x hx => by have := h.1 x hx; unfold CT.lt at this; omega
        rw [if_pos c2, hitA_above f l r ha]
        have hz : hitsOf f l (c :: r) = c.h := by unfold hitsOf; rw [if_pos c2]
        rw [hz]
        by_cases e : v.f = f ∧ v.l = l
        · rw [if_pos e]
          refine ⟨fun hv => ?_, fun hv => ?_⟩
          · rcases List.mem_cons.1 hv with rfl | hv
            · rfl
            · have := ha v hv; omega
          · have : v = ⟨c.f, c.l, c.h + 1⟩ := by cases v; simp_all
            rw [this]; exact List.mem_cons_self ..
        · rw [if_neg e]
          refine ⟨fun hv => ?_, fun hv => ?_⟩
          · rcases List.mem_cons.1 hv with rfl | hv
            · exact absurd c2 e
            · exact List.mem_cons_of_mem _ hv
          · rcases List.mem_cons.1 hv with rfl | hv
            · exact absurd c2 e
            · exact List.mem_cons_of_mem _ hv
      · rw [if_neg c2]
        have hz : hitsOf f l (c :: r) = hitsOf f l r := by
          conv => lhs; unfold hitsOf
          rw [if_neg c2]
        rw [hz]
        by_cases e : v.f = f ∧ v.l = l
        · rw [if_pos e] at ih ⊢
          rw [List.mem_cons, ih]
          exact ⟨fun hv => hv.resolve_left fun h => c2 (by rw [← h]; exact e), .inr⟩
        · rw [if_neg e] at ih ⊢
          rw [List.mem_cons, ih, List.mem_cons]
theorem hitsOf_mem (f l : Int) : ∀ xs : List CT, AscC xs → ∀ h, ⟨f, l, h⟩ ∈ xs → hitsOf f l xs = h
  | c :: r, ha, h, hm => by
    unfold AscC at ha
    rw [List.pairwise_cons] at ha
    unfold hitsOf
    rcases List.mem_cons.1 hm with rfl | hm
    · rw [if_pos ⟨rfl, rfl⟩]
    · have := ha.1 _ hm
      rw [if_neg (by unfold CT.lt at this; dsimp at this; omega)]
      exact hitsOf_mem f l r ha.2 h hm
theorem hitsOf_none (f l : Int) : ∀ xs : List CT, (∀ h, ⟨f, l, h⟩ ∉ xs) → hitsOf f l xs = 0
  | [], _ => rfl
  | c :: r, hn => by
    unfold hitsOf
    rw [if_neg (fun e => hn c.h (by cases c; simp_all)), hitsOf_none f l r fun h hm => hn h (List.mem_cons_of_mem _ hm)]
/-- of the first n of some records those that count: q i says whether it counts, at k i -/
def cntUp (q : Nat → Bool) (kf kl : Nat → Int) (f l : Int) : Nat → Nat
  | 0 => 0
  | n + 1 => cntUp q kf kl f l n + (if q n = true ∧ kf n = f ∧ kl n = l then 1 else 0)
/-- the counts of the first n records -/
def PfIs (q : Nat → Bool) (kf kl : Nat → Int) (n : Nat) (xs : List CT) : Prop := AscC xs ∧ ∀ v : CT, v ∈ xs ↔ v.h = cntUp q kf kl v.f v.l n ∧ 0 < v.h
theorem PfIs.uniq {q : Nat → Bool} {kf kl : Nat → Int} {n : Nat} {xs ys : List CT} (h : PfIs q kf kl n xs) (k : PfIs q kf kl n ys) : xs = ys := ascC_same h.1 k.1 fun v => (h.2 v).trans (k.2 v).symm
theorem PfIs.zero (q : Nat → Bool) (kf kl : Nat → Int) : PfIs q kf kl 0 [] := ⟨List.Pairwise.nil, fun v => ⟨fun h => absurd h (by simp), fun h => absurd h.2 (by rw [h.1]; simp [cntUp])⟩⟩
theorem PfIs.skip {q : Nat → Bool} {kf kl : Nat → Int} {n : Nat} {xs : List CT} (h : PfIs q kf kl n xs) (hq : q n = false) : PfIs q kf kl (n + 1) xs := ⟨h.1, fun v => by rw [h.2 v]; simp [cntUp, hq]⟩
theorem PfIs.hits {q : Nat → Bool} {kf kl : Nat → Int} {n : Nat} {xs : List CT} (h : PfIs q kf kl n xs) (f l : Int) : hitsOf f l xs = cntUp q kf kl f l n := by
  by_cases e : 0 < cntUp q kf kl f l n
  · exact hitsOf_mem f l xs h.1 _ ((h.2 ⟨f, l, cntUp q kf kl f l n⟩).2 ⟨rfl, by dsimp; omega⟩)
  · rw [hitsOf_none f l xs fun k hk => by have := (h.2 _).1 hk; dsimp at this; omega]
    omega
theorem PfIs.hit {q : Nat → Bool} {kf kl : Nat → Int} {n : Nat} {xs : List CT} (h : PfIs q kf kl n xs) (hq : q n = true) : PfIs q kf kl (n + 1) (hitA false (kf n) (kl n) xs) :=
  ⟨(asc_hitA _ _ _ h.1).1, fun v => by
    rw [mem_hitA _ _ _ h.1, h.hits]
    by_cases e : v.f = kf n ∧ v.l = kl n
    · rw [if_pos e]
      simp only [cntUp, hq, e.1, e.2, and_self, if_true]
      omega
    · rw [if_neg e, h.2 v]
      have : ¬ (q n = true ∧ kf n = v.f ∧ kl n = v.l) := fun c => e ⟨c.2.1.symm, c.2.2.symm⟩
      simp only [cntUp, if_neg this, Nat.add_zero]⟩
end Go.Proofs.Ytiidepafifodjaa
