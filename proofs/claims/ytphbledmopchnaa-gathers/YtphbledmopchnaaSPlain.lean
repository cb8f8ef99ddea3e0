/-
  PLAIN: ranges that rise, with a number or more between; what Add makes of them.
-/
namespace Go.Proofs.Ytphbledmopchnaa.St.Rg

/-- Ranges that rise, with a number or more between. -/
def Sorted : List (Nat × Nat) → Prop
  | [] => True
  | r :: t => r.1 ≤ r.2 ∧ (∀ x ∈ t, r.2 + 1 < x.1) ∧ Sorted t

def Mem (rs : List (Nat × Nat)) (x : Nat) : Prop := ∃ r ∈ rs, r.1 ≤ x ∧ x ≤ r.2

/-- lo to hi are in it. -/
def ins : Nat → Nat → List (Nat × Nat) → List (Nat × Nat)
  | lo, hi, [] => [(lo, hi)]
  | lo, hi, r :: t => if r.2 + 1 < lo then r :: ins lo hi t else if hi + 1 < r.1 then (lo, hi) :: r :: t else ins (min lo r.1) (max hi r.2) t

def fst' (lo : Nat) (rs : List (Nat × Nat)) : Nat := rs.countP (fun r => decide (r.2 + 1 < lo))
def end' (hi : Nat) (rs : List (Nat × Nat)) : Nat := rs.countP (fun r => decide (r.1 ≤ hi + 1))
def mgd (lo hi : Nat) (rs : List (Nat × Nat)) : Nat × Nat :=
  if fst' lo rs < end' hi rs then (min lo (rs.getD (fst' lo rs) (0, 0)).1, max hi (rs.getD (end' hi rs - 1) (0, 0)).2) else (lo, hi)

theorem Sorted.le {rs : List (Nat × Nat)} (h : Sorted rs) : ∀ r ∈ rs, r.1 ≤ r.2 := by
  induction rs with
  | nil => intro r hr; cases hr
  | cons a t ih =>
    intro r hr
    rcases List.mem_cons.1 hr with rfl | hr
    · exact h.1
    · exact ih h.2.2 r hr

theorem countP_zero {α : Type} (p : α → Bool) (l : List α) (h : ∀ x ∈ l, p x = false) : l.countP p = 0 := by
  rw [List.countP_eq_zero]; intro x hx; simp [h x hx]

theorem fst'_le_end' {lo hi : Nat} (h : lo ≤ hi) {rs : List (Nat × Nat)} (hs : Sorted rs) : fst' lo rs ≤ end' hi rs := by
  unfold fst' end'
  apply List.countP_mono_left
  intro r hr h1
  have := hs.le r hr
  simp at h1 ⊢
  omega

theorem end'_le (hi : Nat) (rs : List (Nat × Nat)) : end' hi rs ≤ rs.length := List.countP_le_length

/-- What the program does is what 'ins' does. -/
theorem ins_eq : ∀ (rs : List (Nat × Nat)) (lo hi : Nat), lo ≤ hi → Sorted rs → ins lo hi rs = rs.take (fst' lo rs) ++ mgd lo hi rs :: rs.drop (end' hi rs)
  | [], lo, hi, _, _ => by simp [ins, mgd, fst', end']
  | r :: t, lo, hi, hlh, hs => by
    obtain ⟨h1, h2, h3⟩ := hs
    rw [ins]
    by_cases c1 : r.2 + 1 < lo
    · have ef : fst' lo (r :: t) = fst' lo t + 1 := by simp [fst', c1]
      have ee : end' hi (r :: t) = end' hi t + 1 := by
        have : r.1 ≤ hi + 1 := by omega
        simp [end', this]
      rw [if_pos c1, ins_eq t lo hi hlh h3, ef, ee]
      simp only [List.take_succ_cons, List.drop_succ_cons, List.cons_append, mgd, ef, ee]
      by_cases c : fst' lo t < end' hi t
      · obtain ⟨e0, he0⟩ : ∃ e0, end' hi t = e0 + 1 := ⟨end' hi t - 1, by omega⟩
        simp [he0]
      · have c' : ¬ (fst' lo t + 1 < end' hi t + 1) := by omega
        rw [if_neg c, if_neg c']
    · have hz : ∀ x ∈ t, decide (x.2 + 1 < lo) = false := fun x hx => by
        have a1 := h2 x hx
        have a2 := h3.le x hx
        simp; omega
      have ef : fst' lo (r :: t) = 0 := by
        simp only [fst', List.countP_cons, countP_zero _ t hz]
        simp [c1]
      rw [if_neg c1]
      by_cases c2 : hi + 1 < r.1
      · have hz2 : ∀ x ∈ t, decide (x.1 ≤ hi + 1) = false := fun x hx => by
          have a1 := h2 x hx
          simp; omega
        have ee : end' hi (r :: t) = 0 := by
          have : ¬ r.1 ≤ hi + 1 := by omega
          simp only [end', List.countP_cons, countP_zero _ t hz2]
          simp [this]
        rw [if_pos c2]
        simp [mgd, ef, ee]
      · have ec : ∀ x ∈ t, decide (x.1 ≤ hi + 1) = decide (x.1 ≤ max hi r.2 + 1) := fun x hx => by
          have a1 := h2 x hx
          rw [decide_eq_decide]; omega
        have ee : end' hi (r :: t) = end' (max hi r.2) t + 1 := by
          have : r.1 ≤ hi + 1 := by omega
          simp only [end', List.countP_cons, this, decide_true, if_true]
          rw [List.countP_congr (fun x hx => by rw [ec x hx])]
        have ef' : fst' (min lo r.1) t = 0 := countP_zero _ t (fun x hx => by
          have a1 := h2 x hx
          have a2 := h3.le x hx
          simp; omega)
        rw [if_neg c2, ins_eq t _ _ (by omega) h3, ef, ee, ef']
        simp only [List.take_zero, List.nil_append, List.drop_succ_cons]
        congr 1
        simp only [mgd, ef, ee, ef']
        rw [if_pos (Nat.succ_pos _)]
        generalize he : end' (max hi r.2) t = e
        have hel : e ≤ t.length := he ▸ end'_le _ t
        cases e with
        | zero => simp
        | succ e =>
          have hx0 : t.getD 0 (0, 0) ∈ t := by
            cases t with
            | nil => simp at hel
            | cons a b => simp
          have hx1 : t.getD e (0, 0) ∈ t := by
            rw [List.getD_eq_getElem?_getD, List.getElem?_eq_getElem (by omega)]
            exact List.getElem_mem _
          have a0 := h2 _ hx0
          have a1 := h2 _ hx1
          have a2 := h3.le _ hx1
          simp only [Nat.succ_pos, if_true, Nat.add_sub_cancel, List.getD_cons_succ, List.getD_cons_zero, Prod.mk.injEq]
          constructor <;> omega

theorem mem_ins : ∀ (rs : List (Nat × Nat)) (lo hi x : Nat), lo ≤ hi → Sorted rs → (Mem (ins lo hi rs) x ↔ (lo ≤ x ∧ x ≤ hi) ∨ Mem rs x)
  | [], lo, hi, x, _, _ => by simp [ins, Mem]
  | r :: t, lo, hi, x, hlh, hs => by
    obtain ⟨h1, h2, h3⟩ := hs
    have hc : ∀ l : List (Nat × Nat), ∀ a : Nat × Nat, Mem (a :: l) x ↔ (a.1 ≤ x ∧ x ≤ a.2) ∨ Mem l x := fun l a => by simp [Mem]
    rw [ins]
    by_cases c1 : r.2 + 1 < lo
    · rw [if_pos c1, hc, mem_ins t lo hi x hlh h3, hc]
      constructor <;> (rintro (h | h | h) <;> simp [h])
    · rw [if_neg c1]
      by_cases c2 : hi + 1 < r.1
      · rw [if_pos c2, hc, hc]
      · rw [if_neg c2, mem_ins t _ _ x (by omega) h3, hc]
        constructor
        · rintro (h | h)
          · by_cases a : lo ≤ x ∧ x ≤ hi
            · exact .inl a
            · exact .inr (.inl (by omega))
          · exact .inr (.inr h)
        · rintro (h | h | h)
          · exact .inl (by omega)
          · exact .inl (by omega)
          · exact .inr h

theorem ins_low : ∀ (rs : List (Nat × Nat)) (lo hi b : Nat), lo ≤ hi → Sorted rs → b < lo → (∀ x ∈ rs, b < x.1) → ∀ x ∈ ins lo hi rs, b < x.1
  | [], lo, hi, b, _, _, hb, _ => by intro x hx; simp [ins] at hx; subst hx; exact hb
  | r :: t, lo, hi, b, hlh, hs, hb, ha => by
    obtain ⟨h1, h2, h3⟩ := hs
    have har := ha r (by simp)
    have hat : ∀ x ∈ t, b < x.1 := fun x hx => ha x (by simp [hx])
    rw [ins]
    by_cases c1 : r.2 + 1 < lo
    · rw [if_pos c1]
      intro x hx
      rcases List.mem_cons.1 hx with rfl | hx
      · exact har
      · exact ins_low t lo hi b hlh h3 hb hat x hx
    · rw [if_neg c1]
      by_cases c2 : hi + 1 < r.1
      · rw [if_pos c2]
        intro x hx
        rcases List.mem_cons.1 hx with rfl | hx
        · exact hb
        · exact ha x hx
      · rw [if_neg c2]
        exact ins_low t _ _ b (by omega) h3 (by omega) hat

theorem sorted_ins : ∀ (rs : List (Nat × Nat)) (lo hi : Nat), lo ≤ hi → Sorted rs → Sorted (ins lo hi rs)
  | [], lo, hi, h, _ => ⟨h, by simp, trivial⟩
  | r :: t, lo, hi, hlh, hs => by
    obtain ⟨h1, h2, h3⟩ := hs
    rw [ins]
    by_cases c1 : r.2 + 1 < lo
    · rw [if_pos c1]
      exact ⟨h1, ins_low t lo hi _ hlh h3 c1 h2, sorted_ins t lo hi hlh h3⟩
    · rw [if_neg c1]
      by_cases c2 : hi + 1 < r.1
      · rw [if_pos c2]
        refine ⟨hlh, ?_, h1, h2, h3⟩
        intro x hx
        rcases List.mem_cons.1 hx with rfl | hx
        · exact c2
        · have := h2 x hx
          show hi + 1 < x.1
          omega
      · rw [if_neg c2]
        exact sorted_ins t _ _ (by omega) h3

/-- No range ends above what the ranges and hi end at. -/
theorem ins_hi : ∀ (rs : List (Nat × Nat)) (lo hi B : Nat), hi ≤ B → (∀ x ∈ rs, x.2 ≤ B) → ∀ x ∈ ins lo hi rs, x.2 ≤ B
  | [], lo, hi, B, h, _ => by intro x hx; simp [ins] at hx; subst hx; exact h
  | r :: t, lo, hi, B, h, ha => by
    have har := ha r (by simp)
    have hat : ∀ x ∈ t, x.2 ≤ B := fun x hx => ha x (by simp [hx])
    rw [ins]
    by_cases c1 : r.2 + 1 < lo
    · rw [if_pos c1]
      intro x hx
      rcases List.mem_cons.1 hx with rfl | hx
      · exact har
      · exact ins_hi t lo hi B h hat x hx
    · rw [if_neg c1]
      by_cases c2 : hi + 1 < r.1
      · rw [if_pos c2]
        intro x hx
        rcases List.mem_cons.1 hx with rfl | hx
        · exact h
        · exact ha x hx
      · rw [if_neg c2]
        exact ins_hi t _ _ B (by omega) hat

theorem ins_length : ∀ (rs : List (Nat × Nat)) (lo hi : Nat), (ins lo hi rs).length ≤ rs.length + 1
  | [], lo, hi => by simp [ins]
  | r :: t, lo, hi => by
    rw [ins]
    by_cases c1 : r.2 + 1 < lo
    · rw [if_pos c1]; have := ins_length t lo hi; simp; omega
    · rw [if_neg c1]
      by_cases c2 : hi + 1 < r.1
      · rw [if_pos c2]; simp
      · rw [if_neg c2]; have := ins_length t (min lo r.1) (max hi r.2); simp; omega

/-- Has: the first range that ends at n or above begins at n or below. -/
def has (n : Nat) (rs : List (Nat × Nat)) : Bool :=
  let i := rs.countP (fun r => decide (r.2 < n))
  decide (i < rs.length) && decide ((rs.getD i (0, 0)).1 ≤ n)

theorem has_iff : ∀ (rs : List (Nat × Nat)) (n : Nat), Sorted rs → (has n rs = true ↔ Mem rs n)
  | [], n, _ => by simp [has, Mem]
  | r :: t, n, hs => by
    obtain ⟨h1, h2, h3⟩ := hs
    have ih := has_iff t n h3
    by_cases c : r.2 < n
    · have e : has n (r :: t) = has n t := by simp [has, c]
      rw [e, ih]
      simp only [Mem, List.mem_cons, exists_eq_or_imp]
      constructor
      · intro h; exact .inr h
      · rintro (h | h)
        · omega
        · exact h
    · have hz : ∀ x ∈ t, decide (x.2 < n) = false := fun x hx => by
        have a1 := h2 x hx
        have a2 := h3.le x hx
        simp; omega
      have e : has n (r :: t) = decide (r.1 ≤ n) := by
        simp [has, c, countP_zero _ t hz]
      rw [e, decide_eq_true_iff]
      simp only [Mem, List.mem_cons, exists_eq_or_imp]
      constructor
      · intro h; exact .inl ⟨h, by omega⟩
      · rintro (h | ⟨x, hx, h⟩)
        · exact h.1
        · have := h2 x hx; omega

end Go.Proofs.Ytphbledmopchnaa.St.Rg
