/-
  PLAIN: the document's Add is 'ins'; what a set is behind an Add; a walk down.
-/
import Derived.Test.YtphbledmopchnaaSPlain
namespace Go.Proofs.Ytphbledmopchnaa.St.Rg

/-- The document's loop: what it has come to. -/
def dGo : List (Nat × Nat) → Nat → Nat → Bool → List (Nat × Nat) → Nat × Nat × Bool × List (Nat × Nat)
  | [], lo, hi, done, out => (lo, hi, done, out)
  | r :: t, lo, hi, done, out =>
    if r.2 + 1 < lo then dGo t lo hi done (out ++ [r])
    else if hi + 1 < r.1 then dGo t lo hi true ((if done then out else out ++ [(lo, hi)]) ++ [r])
    else dGo t (min lo r.1) (max hi r.2) done out

def dFin (x : Nat × Nat × Bool × List (Nat × Nat)) : List (Nat × Nat) := if x.2.2.1 then x.2.2.2 else x.2.2.2 ++ [(x.1, x.2.1)]

theorem dGo_true : ∀ (t : List (Nat × Nat)) (lo hi : Nat) (out : List (Nat × Nat)), lo ≤ hi → Sorted t → (∀ x ∈ t, hi + 1 < x.1) → dGo t lo hi true out = (lo, hi, true, out ++ t)
  | [], lo, hi, out, _, _, _ => by simp [dGo]
  | r :: t, lo, hi, out, hlh, hs, ha => by
    obtain ⟨h1, h2, h3⟩ := hs
    have hr := ha r (by simp)
    have c1 : ¬ (r.2 + 1 < lo) := by omega
    rw [dGo, if_neg c1, if_pos hr, dGo_true t lo hi _ hlh h3 (fun x hx => ha x (by simp [hx]))]
    simp

theorem dGo_ins : ∀ (t : List (Nat × Nat)) (lo hi : Nat) (out : List (Nat × Nat)), lo ≤ hi → Sorted t → dFin (dGo t lo hi false out) = out ++ ins lo hi t
  | [], lo, hi, out, _, _ => by simp [dGo, dFin, ins]
  | r :: t, lo, hi, out, hlh, hs => by
    obtain ⟨h1, h2, h3⟩ := hs
    rw [dGo, ins]
    by_cases c1 : r.2 + 1 < lo
    · rw [if_pos c1, if_pos c1, dGo_ins t lo hi _ hlh h3]; simp
    · rw [if_neg c1, if_neg c1]
      by_cases c2 : hi + 1 < r.1
      · rw [if_pos c2, if_pos c2, dGo_true t lo hi _ hlh h3 (fun x hx => by have := h2 x hx; omega)]
        simp [dFin]
      · rw [if_neg c2, if_neg c2]
        exact dGo_ins t _ _ out (by omega) h3

/-- A set: floor and ranges, behind an Add (most: 1 or more). -/
def add (most : Nat) (fl : Nat) (rs : List (Nat × Nat)) (lo hi : Nat) : Nat × List (Nat × Nat) :=
  if hi < max lo fl then (fl, rs)
  else if most < (ins (max lo fl) hi rs).length then (((ins (max lo fl) hi rs).getD 0 (0, 0)).2 + 1, (ins (max lo fl) hi rs).tail)
  else (fl, ins (max lo fl) hi rs)

theorem Sorted.tail {l : List (Nat × Nat)} (h : Sorted l) : Sorted l.tail := by
  cases l with
  | nil => exact h
  | cons a t => exact h.2.2

theorem ins_pos (rs : List (Nat × Nat)) (lo hi : Nat) : 0 < (ins lo hi rs).length := by
  induction rs generalizing lo hi with
  | nil => simp [ins]
  | cons r t ih =>
    rw [ins]
    split
    · simp
    · split
      · simp
      · exact ih _ _

/-- What holds of a set: it rises, ends below B, has k ranges at the most; its floor is no more than B. -/
structure Ok (B : Nat) (k : Nat) (fl : Nat) (rs : List (Nat × Nat)) : Prop where
  sorted : Sorted rs
  hi : ∀ r ∈ rs, r.2 < B
  len : rs.length ≤ k
  fl : fl < B

theorem ins_two {l : List (Nat × Nat)} (h : Sorted l) {B : Nat} (hb : ∀ r ∈ l, r.2 < B) (h2 : 1 < l.length) : (l.getD 0 (0, 0)).2 + 1 < B := by
  match l, h2 with
  | a :: b :: t, _ =>
    have h1 := h.2.1 b (by simp)
    have h3 := h.2.2.1
    have h4 := hb b (by simp)
    simp only [List.getD_cons_zero]
    omega

theorem Ok.add {B k fl : Nat} {rs : List (Nat × Nat)} (h : Ok B k fl rs) {most lo hi : Nat} (hm : 1 ≤ most) (hhi : hi < B) : Ok B (k + 1) (add most fl rs lo hi).1 (add most fl rs lo hi).2 := by
  unfold Rg.add
  by_cases c1 : hi < max lo fl
  · rw [if_pos c1]; exact ⟨h.sorted, h.hi, by have := h.len; show rs.length ≤ k + 1; omega, h.fl⟩
  · rw [if_neg c1]
    have s1 := sorted_ins rs (max lo fl) hi (by omega) h.sorted
    have l1 := ins_length rs (max lo fl) hi
    have b1 : ∀ r ∈ ins (max lo fl) hi rs, r.2 < B := fun r hr => by
      have := ins_hi rs (max lo fl) hi (B - 1) (by omega) (fun x hx => by have := h.hi x hx; omega) r hr
      omega
    have hl := h.len
    by_cases c2 : most < (ins (max lo fl) hi rs).length
    · rw [if_pos c2]
      exact ⟨s1.tail, fun r hr => b1 r (List.mem_of_mem_tail hr), by simp; omega, ins_two s1 b1 (by omega)⟩
    · rw [if_neg c2]
      exact ⟨s1, b1, by show (ins (max lo fl) hi rs).length ≤ k + 1; omega, h.fl⟩

/-- The document's Has. -/
def dHas (n : Nat) (rs : List (Nat × Nat)) : Bool := rs.any fun r => decide (r.1 ≤ n) && decide (n ≤ r.2)
theorem dHas_eq (n : Nat) (rs : List (Nat × Nat)) (h : Sorted rs) : dHas n rs = has n rs := by
  rw [Bool.eq_iff_iff, has_iff rs n h]
  simp [dHas, Mem, List.any_eq_true]

/-- A walk: the last ones first; left behind so many (0: never). -/
def down (rs : List (Nat × Nat)) (left : Nat) : List (Nat × Nat) := if left = 0 then rs.reverse else rs.reverse.take left

end Go.Proofs.Ytphbledmopchnaa.St.Rg
