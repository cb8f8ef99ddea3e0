import Derived.Test.YtphbledmopchnaaGreatDoorProg
import Derived.WalkKit
import Derived.WalkLawsBesides
import Derived.Deep.LoopGhost
import Derived.Deep.Draws
import Derived.Deep.QuietTactic
import Derived.BigQuiet
import Derived.Shelf.Abstract
import Derived.Shelf.SlCmpFuncs.BinarySearchFunc
import Derived.Outline
import Derived.Test.YtphbledmopchnaaGreatDoorQa
import Derived.Shelf.Spec.SlicesInsert
import Derived.Deep.RegionLaw
import Derived.Deep.RegionWith
/-
  PLAIN: ranges that rise, with a number or more between; what Add makes of them.
-/
namespace Go.Proofs.YtphbledmopchnaaGreatDoor.St.Rg

/-- Ranges that rise, with a number or more between. -/
def Sorted : List (Nat × Nat) → Prop
  | [] => True
  | r :: t => r.1 ≤ r.2 ∧ (∀ x ∈ t, r.2 + 1 < x.1) ∧ Sorted t

def Mem (rs : List (Nat × Nat)) (x : Nat) : Prop := ∃ r ∈ rs, r.1 ≤ x ∧ x ≤ r.2

/-- lo to hi are in it. -/
def ins : Nat → Nat → List (Nat × Nat) → List (Nat × Nat)
  | lo, hi, [] => [(lo, hi)]
  | lo, hi, r :: t => if r.2 + 1 < lo then r :: ins lo hi t else if hi + 1 < r.1 then (lo, hi) :: r :: t else ins (min lo r.1) (max hi r.2) t

def fst' (lo : Nat) (rs : List (Nat × Nat)) : Nat := rs.countP (fun r => decide (r.2 + 1 < lo))
def end' (hi : Nat) (rs : List (Nat × Nat)) : Nat := rs.countP (fun r => decide (r.1 ≤ hi + 1))
def mgd (lo hi : Nat) (rs : List (Nat × Nat)) : Nat × Nat :=
  if fst' lo rs < end' hi rs then (min lo (rs.getD (fst' lo rs) (0, 0)).1, max hi (rs.getD (end' hi rs - 1) (0, 0)).2) else (lo, hi)

theorem Sorted.le {rs : List (Nat × Nat)} (h : Sorted rs) : ∀ r ∈ rs, r.1 ≤ r.2 := by
  induction rs with
  | nil => intro r hr; cases hr
  | cons a t ih =>
    intro r hr
    rcases List.mem_cons.1 hr with rfl | hr
    · exact h.1
    · exact ih h.2.2 r hr

theorem countP_zero {α : Type} (p : α → Bool) (l : List α) (h : ∀ x ∈ l, p x = false) : l.countP p = 0 := by
  rw [List.countP_eq_zero]; intro x hx; simp [h x hx]

theorem fst'_le_end' {lo hi : Nat} (h : lo ≤ hi) {rs : List (Nat × Nat)} (hs : Sorted rs) : fst' lo rs ≤ end' hi rs := by
  unfold fst' end'
  apply List.countP_mono_left
  intro r hr h1
  have := hs.le r hr
  simp at h1 ⊢
  omega

theorem end'_le (hi : Nat) (rs : List (Nat × Nat)) : end' hi rs ≤ rs.length := List.countP_le_length

/-- What the program does is what 'ins' does. -/
theorem ins_eq : ∀ (rs : List (Nat × Nat)) (lo hi : Nat), lo ≤ hi → Sorted rs → ins lo hi rs = rs.take (fst' lo rs) ++ mgd lo hi rs :: rs.drop (end' hi rs)
  | [], lo, hi, _, _ => by simp [ins, mgd, fst', end']
  | r :: t, lo, hi, hlh, hs => by
    obtain ⟨h1, h2, h3⟩ := hs
    rw [ins]
    by_cases c1 : r.2 + 1 < lo
    · have ef : fst' lo (r :: t) = fst' lo t + 1 := by simp [fst', c1]
      have ee : end' hi (r :: t) = end' hi t + 1 := by
        have : r.1 ≤ hi + 1 := by omega
        simp [end', this]
      rw [if_pos c1, ins_eq t lo hi hlh h3, ef, ee]
      simp only [List.take_succ_cons, List.drop_succ_cons, List.cons_append, mgd, ef, ee]
      by_cases c : fst' lo t < end' hi t
      · obtain ⟨e0, he0⟩ : ∃ e0, end' hi t = e0 + 1 := ⟨end' hi t - 1, by omega⟩
        simp [he0]
      · have c' : ¬ (fst' lo t + 1 < end' hi t + 1) := by omega
        rw [if_neg c, if_neg c']
    · have hz : ∀ x ∈ t, decide (x.2 + 1 < lo) = false := fun x hx => by
        have a1 := h2 x hx
        have a2 := h3.le x hx
        simp; omega
      have ef : fst' lo (r :: t) = 0 := by
        simp only [fst', List.countP_cons, countP_zero _ t hz]
        simp [c1]
      rw [if_neg c1]
      by_cases c2 : hi + 1 < r.1
      · have hz2 : ∀ x ∈ t, decide (x.1 ≤ hi + 1) = false := fun x hx => by
          have a1 := h2 x hx
          simp; omega
        have ee : end' hi (r :: t) = 0 := by
          have : ¬ r.1 ≤ hi + 1 := by omega
          simp only [end', List.countP_cons, countP_zero _ t hz2]
          simp [this]
        rw [if_pos c2]
        simp [mgd, ef, ee]
      · have ec : ∀ x ∈ t, decide (x.1 ≤ hi + 1) = decide (x.1 ≤ max hi r.2 + 1) := fun x hx => by
          have a1 := h2 x hx
          rw [decide_eq_decide]; omega
        have ee : end' hi (r :: t) = end' (max hi r.2) t + 1 := by
          have : r.1 ≤ hi + 1 := by omega
          simp only [end', List.countP_cons, this, decide_true, if_true]
          rw [List.countP_congr (fun x hx => by rw [ec x hx])]
        have ef' : fst' (min lo r.1) t = 0 := countP_zero _ t (fun x hx => by
          have a1 := h2 x hx
          have a2 := h3.le x hx
          simp; omega)
        rw [if_neg c2, ins_eq t _ _ (by omega) h3, ef, ee, ef']
        simp only [List.take_zero, List.nil_append, List.drop_succ_cons]
        congr 1
        simp only [mgd, ef, ee, ef']
        rw [if_pos (Nat.succ_pos _)]
        generalize he : end' (max hi r.2) t = e
        have hel : e ≤ t.length := he ▸ end'_le _ t
        cases e with
        | zero => simp
        | succ e =>
          have hx0 : t.getD 0 (0, 0) ∈ t := by
            cases t with
            | nil => simp at hel
            | cons a b => simp
          have hx1 : t.getD e (0, 0) ∈ t := by
            rw [List.getD_eq_getElem?_getD, List.getElem?_eq_getElem (by omega)]
            exact List.getElem_mem _
          have a0 := h2 _ hx0
          have a1 := h2 _ hx1
          have a2 := h3.le _ hx1
          simp only [Nat.succ_pos, if_true, Nat.add_sub_cancel, List.getD_cons_succ, List.getD_cons_zero, Prod.mk.injEq]
          constructor <;> omega

theorem mem_ins : ∀ (rs : List (Nat × Nat)) (lo hi x : Nat), lo ≤ hi → Sorted rs → (Mem (ins lo hi rs) x ↔ (lo ≤ x ∧ x ≤ hi) ∨ Mem rs x)
  | [], lo, hi, x, _, _ => by simp [ins, Mem]
  | r :: t, lo, hi, x, hlh, hs => by
    obtain ⟨h1, h2, h3⟩ := hs
    have hc : ∀ l : List (Nat × Nat), ∀ a : Nat × Nat, Mem (a :: l) x ↔ (a.1 ≤ x ∧ x ≤ a.2) ∨ Mem l x := fun l a => by simp [Mem]
    rw [ins]
    by_cases c1 : r.2 + 1 < lo
    · rw [if_pos c1, hc, mem_ins t lo hi x hlh h3, hc]
      constructor <;> (rintro (h | h | h) <;> simp [h])
    · rw [if_neg c1]
      by_cases c2 : hi + 1 < r.1
      · rw [if_pos c2, hc, hc]
      · rw [if_neg c2, mem_ins t _ _ x (by omega) h3, hc]
        constructor
        · rintro (h | h)
          · by_cases a : lo ≤ x ∧ x ≤ hi
            · exact .inl a
            · exact .inr (.inl (by omega))
          · exact .inr (.inr h)
        · rintro (h | h | h)
          · exact .inl (by omega)
          · exact .inl (by omega)
          · exact .inr h

theorem ins_low : ∀ (rs : List (Nat × Nat)) (lo hi b : Nat), lo ≤ hi → Sorted rs → b < lo → (∀ x ∈ rs, b < x.1) → ∀ x ∈ ins lo hi rs, b < x.1
  | [], lo, hi, b, _, _, hb, _ => by intro x hx; simp [ins] at hx; subst hx; exact hb
  | r :: t, lo, hi, b, hlh, hs, hb, ha => by
    obtain ⟨h1, h2, h3⟩ := hs
    have har := ha r (by simp)
    have hat : ∀ x ∈ t, b < x.1 := fun x hx => ha x (by simp [hx])
    rw [ins]
    by_cases c1 : r.2 + 1 < lo
    · rw [if_pos c1]
      intro x hx
      rcases List.mem_cons.1 hx with rfl | hx
      · exact har
      · exact ins_low t lo hi b hlh h3 hb hat x hx
    · rw [if_neg c1]
      by_cases c2 : hi + 1 < r.1
      · rw [if_pos c2]
        intro x hx
        rcases List.mem_cons.1 hx with rfl | hx
        · exact hb
        · exact ha x hx
      · rw [if_neg c2]
        exact ins_low t _ _ b (by omega) h3 (by omega) hat

theorem sorted_ins : ∀ (rs : List (Nat × Nat)) (lo hi : Nat), lo ≤ hi → Sorted rs → Sorted (ins lo hi rs)
  | [], lo, hi, h, _ => ⟨h, by simp, trivial⟩
  | r :: t, lo, hi, hlh, hs => by
    obtain ⟨h1, h2, h3⟩ := hs
    rw [ins]
    by_cases c1 : r.2 + 1 < lo
    · rw [if_pos c1]
      exact ⟨h1, ins_low t lo hi _ hlh h3 c1 h2, sorted_ins t lo hi hlh h3⟩
    · rw [if_neg c1]
      by_cases c2 : hi + 1 < r.1
      · rw [if_pos c2]
        refine ⟨hlh, ?_, h1, h2, h3⟩
        intro x hx
        rcases List.mem_cons.1 hx with rfl | hx
        · exact c2
        · have := h2 x hx
          show hi + 1 < x.1
          omega
      · rw [if_neg c2]
        exact sorted_ins t _ _ (by omega) h3

/-- No range ends above what the ranges and hi end at. -/
theorem ins_hi : ∀ (rs : List (Nat × Nat)) (lo hi B : Nat), hi ≤ B → (∀ x ∈ rs, x.2 ≤ B) → ∀ x ∈ ins lo hi rs, x.2 ≤ B
  | [], lo, hi, B, h, _ => by intro x hx; simp [ins] at hx; subst hx; exact h
  | r :: t, lo, hi, B, h, ha => by
    have har := ha r (by simp)
    have hat : ∀ x ∈ t, x.2 ≤ B := fun x hx => ha x (by simp [hx])
    rw [ins]
    by_cases c1 : r.2 + 1 < lo
    · rw [if_pos c1]
      intro x hx
      rcases List.mem_cons.1 hx with rfl | hx
      · exact har
      · exact ins_hi t lo hi B h hat x hx
    · rw [if_neg c1]
      by_cases c2 : hi + 1 < r.1
      · rw [if_pos c2]
        intro x hx
        rcases List.mem_cons.1 hx with rfl | hx
        · exact h
        · exact ha x hx
      · rw [if_neg c2]
        exact ins_hi t _ _ B (by omega) hat

theorem ins_length : ∀ (rs : List (Nat × Nat)) (lo hi : Nat), (ins lo hi rs).length ≤ rs.length + 1
  | [], lo, hi => by simp [ins]
  | r :: t, lo, hi => by
    rw [ins]
    by_cases c1 : r.2 + 1 < lo
    · rw [if_pos c1]; have := ins_length t lo hi; simp; omega
    · rw [if_neg c1]
      by_cases c2 : hi + 1 < r.1
      · rw [if_pos c2]; simp
      · rw [if_neg c2]; have := ins_length t (min lo r.1) (max hi r.2); simp; omega

/-- Has: the first range that ends at n or above begins at n or below. -/
def has (n : Nat) (rs : List (Nat × Nat)) : Bool :=
  let i := rs.countP (fun r => decide (r.2 < n))
  decide (i < rs.length) && decide ((rs.getD i (0, 0)).1 ≤ n)

theorem has_iff : ∀ (rs : List (Nat × Nat)) (n : Nat), Sorted rs → (has n rs = true ↔ Mem rs n)
  | [], n, _ => by simp [has, Mem]
  | r :: t, n, hs => by
    obtain ⟨h1, h2, h3⟩ := hs
    have ih := has_iff t n h3
    by_cases c : r.2 < n
    · have e : has n (r :: t) = has n t := by simp [has, c]
      rw [e, ih]
      simp only [Mem, List.mem_cons, exists_eq_or_imp]
      constructor
      · intro h; exact .inr h
      · rintro (h | h)
        · omega
        · exact h
    · have hz : ∀ x ∈ t, decide (x.2 < n) = false := fun x hx => by
        have a1 := h2 x hx
        have a2 := h3.le x hx
        simp; omega
      have e : has n (r :: t) = decide (r.1 ≤ n) := by
        simp [has, c, countP_zero _ t hz]
      rw [e, decide_eq_true_iff]
      simp only [Mem, List.mem_cons, exists_eq_or_imp]
      constructor
      · intro h; exact .inl ⟨h, by omega⟩
      · rintro (h | ⟨x, hx, h⟩)
        · exact h.1
        · have := h2 x hx; omega

end Go.Proofs.YtphbledmopchnaaGreatDoor.St.Rg

/-
  sort.Search, over this dump: a closure that only draws.
-/
namespace Go.Proofs.YtphbledmopchnaaGreatDoor.St
open Go.RowKit Go.Lib Go.Shelf

set_option maxHeartbeats 4000000 in
set_option maxRecDepth 1000000 in
theorem search_any (g : Nat) (cb : Array Value) (n : Nat) (p : Nat → Bool) (w : World) (eg : ∀ args w, (callFunc g args).run Tryz.prog w = .ok (.enter g args) w) (hsz : n < 4611686018427387904)
    (hf : ∀ (m : Nat) (i : Nat), i < n → Calls Tryz.prog g (#[.int .i64 i] ++ cb) (w.drewN m) fun e w' => e = .returned (.bool (p i)) ∧ ∃ q, w' = (w.drewN m).drewN q)
    (hmono : ∀ a b, a ≤ b → b < n → p a = true → p b = true) :
    Calls Tryz.prog 171 #[.int .i64 n, .func (.func g) #[] cb] w fun e w' => e = .returned (.int .i64 ((List.range n).countP (fun i => !p i) : Nat)) ∧ ∃ q, w' = w.drewN q := by
  have HF : Aside _ := hf
  have M : Aside _ := hmono
  clear hf hmono
  generalize hcnt : (List.range n).countP (fun i => !p i) = cnt
  have CN : Aside ((List.range n).countP (fun i => !p i) = cnt) := hcnt
  clear hcnt
  go_enter Tryz.func171, Tryz.ntmps171
  go_wp2
  go_loopg [5, 6] n (fun kx s5 s6 wr => ∃ (lo hi q : Nat), s5 = .int .i64 lo ∧ s6 = .int .i64 hi ∧ lo ≤ hi ∧ hi ≤ n ∧ hi - lo ≤ kx ∧ wr = w.drewN q ∧
    Aside ((∀ t, t < lo → p t = false) ∧ (∀ t, hi ≤ t → t < n → p t = true)))
  case atStart => exact ⟨0, n, 0, rfl, rfl, Nat.zero_le _, Nat.le_refl _, by omega, rfl, (⟨fun t ht => absurd ht (Nat.not_lt_zero _), fun t h1 h2 => by omega⟩ : (∀ t, t < 0 → p t = false) ∧ (∀ t, n ≤ t → t < n → p t = true))⟩
  case round =>
    obtain ⟨lo, hi, q, rfl, rfl, hlh, hin, hg, rfl, I⟩ := hrel
    by_cases hlt : lo < hi
    · have hc := HF.out q ((lo + hi) / 2) (by omega)
      rw [show (((lo + hi) / 2 : Nat) : Int) = ((lo : Int) + (hi : Int)) / 2 by omega] at hc
      cases hp : p ((lo + hi) / 2) <;> rw [hp] at hc
      · have HP : Aside (p ((lo + hi) / 2) = false) := hp
        clear hp
        go_wp2_with (go_at_fn g; refine hc.mono ?_; rintro e w' ⟨rfl, nq, rfl⟩)
        go_roundg (hi - ((lo + hi) / 2 + 1))
        case measure => omega
        case rel =>
          have I2 : Aside ((∀ t, t < (lo + hi) / 2 + 1 → p t = false) ∧ (∀ t, hi ≤ t → t < n → p t = true)) := ⟨fun t ht => (by
            cases h : p t with
            | false => rfl
            | true => have := M.out t ((lo + hi) / 2) (by omega) (by omega) h; rw [HP.out] at this; cases this), I.out.2⟩
          exact ⟨(lo + hi) / 2 + 1, hi, q + nq, by rw [show ((lo : Int) + (hi : Int)) / 2 + 1 = (((lo + hi) / 2 + 1 : Nat) : Int) by omega], rfl, by omega, hin, Nat.le_refl _, rfl, I2⟩
      · have HP : Aside (p ((lo + hi) / 2) = true) := hp
        clear hp
        go_wp2_with (go_at_fn g; refine hc.mono ?_; rintro e w' ⟨rfl, nq, rfl⟩)
        go_roundg ((lo + hi) / 2 - lo)
        case measure => omega
        case rel =>
          have I2 : Aside ((∀ t, t < lo → p t = false) ∧ (∀ t, (lo + hi) / 2 ≤ t → t < n → p t = true)) := ⟨I.out.1, fun t ht htn => M.out ((lo + hi) / 2) t ht htn HP.out⟩
          exact ⟨lo, (lo + hi) / 2, q + nq, rfl, by rw [show ((lo : Int) + (hi : Int)) / 2 = (((lo + hi) / 2 : Nat) : Int) by omega], by omega, by omega, Nat.le_refl _, rfl, I2⟩
    · obtain rfl : hi = lo := by omega
      have ecnt : cnt = hi := by
        rw [← CN.out]
        have hr : ∀ t, t < n → (List.range n)[t]! = t := fun t ht => by rw [getElem!_pos _ t (by simpa using ht)]; simp
        refine Lib.countP_boundary _ (List.range n) hi (by simpa using hin) (fun t ht => ?_) (fun t h3 h4 => ?_)
        · rw [hr t (by omega), I.out.1 t ht]; rfl
        · rw [hr t (by simpa using h4), I.out.2 t h3 (by simpa using h4)]; rfl
      subst ecnt
      go_wp2
      go_ret
      exact ⟨rfl, q, rfl⟩

end Go.Proofs.YtphbledmopchnaaGreatDoor.St

/-
  apart, and the three closures that sort.Search is handed.
-/
namespace Go.Proofs.YtphbledmopchnaaGreatDoor.St
open Go.RowKit Go.Lib

theorem ret_bool {a b : Bool} (h : a = b) : Ending.returned (.bool a) = .returned (.bool b) := by rw [h]
theorem ret_int {k : IntKind} {a b : Int} (h : a = b) : Ending.returned (.int k a) = .returned (.int k b) := by rw [h]

set_option maxHeartbeats 400000 in
theorem apart_any (a b : Nat) (ha : a < 18446744073709551616) (hb : b < 18446744073709551616) (w : World) :
    Calls Tryz.prog 222 #[.int .u64 a, .int .u64 b] w fun e w' => e = .returned (.bool (decide (a + 1 < b))) ∧ w' = w := by
  by_cases h : a < b
  · have h1 : decide ((a : Int) < (b : Int)) = true := by simp; omega
    go_enter Tryz.func222, Tryz.ntmps222
    go_wp2
    go_ret
    exact ⟨ret_bool (by rw [decide_eq_decide]; omega), rfl⟩
  · have h1 : decide ((a : Int) < (b : Int)) = false := by simp; omega
    go_enter Tryz.func222, Tryz.ntmps222
    go_wp2
    go_ret
    exact ⟨ret_bool (by symm; rw [decide_eq_false_iff_not]; omega), rfl⟩

set_option maxHeartbeats 1000000 in
theorem join1_any (bs br sp b c n i lo x : Nat) (W : World) (hi : i < n) (_hn : n < 4611686018427387904)
    (cs : W.cell? ⟨bs, 0, none⟩ = some (.pointer (some ⟨sp, 0, none⟩))) (cr : W.cell? ⟨br, 0, none⟩ = some (.int .u64 lo))
    (cl : W.cell? ⟨sp, 2, none⟩ = some (.slice (some ⟨b, 0, none⟩) n c)) (cx : W.cell? ⟨b, i * 2 + 1, none⟩ = some (.int .u64 x))
    (hlo : lo < 18446744073709551616) (hx : x < 18446744073709551616) :
    Calls Tryz.prog 221 (#[.int .i64 i] ++ #[.pointer (some ⟨bs, 0, none⟩), .pointer (some ⟨br, 0, none⟩)]) W fun e w' => e = .returned (.bool (!decide (x + 1 < lo))) ∧ ∃ q, w' = W.drewN q := by
  have hiz : (i : Int) < (n : Int) := by omega
  go_enter Tryz.func221, Tryz.ntmps221
  go_wp2
  go_quiet ((go_at_call 222; exact Calls.quiet_of_same (apart_any _ _ hx hlo _)))
  go_wp2
  go_ret
  exact ⟨rfl, nq, rfl⟩

set_option maxHeartbeats 1000000 in
theorem join2_any (bs br sp b c n i hi x : Nat) (W : World) (hin : i < n) (_hn : n < 4611686018427387904)
    (cs : W.cell? ⟨bs, 0, none⟩ = some (.pointer (some ⟨sp, 0, none⟩))) (cr : W.cell? ⟨br, 1, none⟩ = some (.int .u64 hi))
    (cl : W.cell? ⟨sp, 2, none⟩ = some (.slice (some ⟨b, 0, none⟩) n c)) (cx : W.cell? ⟨b, i * 2, none⟩ = some (.int .u64 x))
    (hhi : hi < 18446744073709551616) (hx : x < 18446744073709551616) :
    Calls Tryz.prog 223 (#[.int .i64 i] ++ #[.pointer (some ⟨br, 0, none⟩), .pointer (some ⟨bs, 0, none⟩)]) W fun e w' => e = .returned (.bool (decide (hi + 1 < x))) ∧ ∃ q, w' = W.drewN q := by
  have hiz : (i : Int) < (n : Int) := by omega
  go_enter Tryz.func223, Tryz.ntmps223
  go_wp2
  go_quiet ((go_at_call 222; exact Calls.quiet_of_same (apart_any _ _ hhi hx _)))
  go_wp2
  go_ret
  exact ⟨rfl, nq, rfl⟩

set_option maxHeartbeats 1000000 in
theorem has1_any (bs br sp b c n i v x : Nat) (W : World) (hin : i < n) (_hn : n < 4611686018427387904)
    (cs : W.cell? ⟨bs, 0, none⟩ = some (.pointer (some ⟨sp, 0, none⟩))) (cr : W.cell? ⟨br, 0, none⟩ = some (.int .u64 v))
    (cl : W.cell? ⟨sp, 2, none⟩ = some (.slice (some ⟨b, 0, none⟩) n c)) (cx : W.cell? ⟨b, i * 2 + 1, none⟩ = some (.int .u64 x)) :
    Calls Tryz.prog 172 (#[.int .i64 i] ++ #[.pointer (some ⟨bs, 0, none⟩), .pointer (some ⟨br, 0, none⟩)]) W fun e w' => e = .returned (.bool (decide (v ≤ x))) ∧ ∃ q, w' = W.drewN q := by
  have hiz : (i : Int) < (n : Int) := by omega
  go_enter Tryz.func172, Tryz.ntmps172
  go_wp2
  go_quiet (fail)
  go_wp2
  go_ret
  exact ⟨ret_bool (by simp), nq, rfl⟩
end Go.Proofs.YtphbledmopchnaaGreatDoor.St

/-
  slices.Insert of one element, over this dump, at elements of two cells.
-/
namespace Go.Proofs.YtphbledmopchnaaGreatDoor.St
open Go.RowKit Go.Lib Mm

theorem u31 : Tryz.prog.underlying 63 = some (.slice 170) := by kernel_rfl
theorem size36 : (Tryz.prog.info? 170).map (·.size) = some 2 := by kernel_rfl
theorem info36 : (Tryz.prog.info? 170).map (fun i => (i.zero, i.size, i.bytes)) = some (some (.agg #[.int .u64 0, .int .u64 0]), 2, 16) := by kernel_rfl
theorem sizeOf36 (w : World) : (Go.sizeOf 170).run Tryz.prog w = .ok 2 w := by kernel_rfl

theorem overlaps_no {w : World} {vb b off m vc lb cb : Nat} {vs l : List Value} (hv : Blk w vb 170 vs) (h : Blk w b 170 l) (hl : l.length ≠ 0) (hne : vb ≠ b) :
    (callFunc 290 #[.slice (some ⟨vb, 0, none⟩) m vc, .slice (some ⟨b, off, none⟩) lb cb]).run Tryz.prog w = .ok (.value (.bool false)) w := by
  rw [run_callFunc_extern Tryz.func290 (by kernel_rfl) (by kernel_rfl) (by kernel_rfl) (e := Extern.SlicesOverlaps.overlaps #[63, 63] #[4]) (by kernel_rfl),
    Lib.run_overlaps_apart w 63 4 170 u31 2 sizeOf36 ⟨vb, 0, none⟩ ⟨b, off, none⟩ m vc lb cb hne 170 170 vs.length l.length hv.shape h.shape hl (hv.frozen 0) (hv.frozen _)]
  rfl


theorem getElem_seg {l : List Value} {a k j : Nat} {v : Value} (h : ((l.drop a).take k)[j]? = some v) : l[a + j]? = some v := by
  rw [List.getElem?_take] at h
  split at h
  · rwa [List.getElem?_drop] at h
  · cases h

set_option maxHeartbeats 1000000 in
theorem insert_shift (b n c i vb : Nat) (l vs : List Value) (w : World) (hi : i < n) (hroom : n + 1 ≤ c) (hc : c ≤ 9223372036854775807) (hvb : vb ≠ b)
    (h : Blk w b 170 l) (hl : l.length = 2 * c) (hv : Blk w vb 170 vs) (hvl : vs.length = 2) (h1 : ∀ v ∈ l, v.oneCell' = true) (h1v : ∀ v ∈ vs, v.oneCell' = true) :
    Calls Tryz.prog 289 #[.slice (some ⟨b, 0, none⟩) n c, .int .i64 i, .slice (some ⟨vb, 0, none⟩) 1 1] w fun e w' =>
      e = .returned (.slice (some ⟨b, 0, none⟩) (n + 1) c) ∧ ∃ q, w' = put (put (w.drewN q) b (splice l (2 * (i + 1)) ((l.drop (2 * i)).take (2 * (n - i))))) b (splice (splice l (2 * (i + 1)) ((l.drop (2 * i)).take (2 * (n - i)))) (2 * i) vs) := by
  have hov : ∀ off lb cb, (callFunc 290 #[.slice (some ⟨vb, 0, none⟩) 1 1, .slice (some ⟨b, off, none⟩) lb cb]).run Tryz.prog w = .ok (.value (.bool false)) w := fun off lb cb =>
    overlaps_no hv h (by omega) hvb
  have hz2 : ¬ ((i : Int) = (n : Int)) := by omega
  have hz3 : (i : Int) ≤ (n : Int) := by omega
  generalize hmid : (l.drop (2 * i)).take (2 * (n - i)) = mid
  have hml : mid.length = (n - i) * 2 := by rw [← hmid]; simp; omega
  have hms : ∀ j v, mid[j]? = some v → w.cell? ⟨b, i * 2 + j, none⟩ = some v := fun j v hj => by
    rw [h.cell, Nat.mul_comm]; rw [← hmid] at hj; exact getElem_seg hj
  have hm1 : ∀ v ∈ mid, v.oneCell' = true := fun v hv => h1 v (by rw [← hmid] at hv; exact List.mem_of_mem_drop (List.mem_of_mem_take hv))
  generalize hl1 : splice l (2 * (i + 1)) mid = l1
  have hl1l : l1.length = 2 * c := by rw [← hl1, splice_length _ _ _ (by omega), hl]
  have hcp1 : ∀ (W : World), W.heap = w.heap → ∀ ty dc sc, (Builtin.copy_ #[63, 63] ty #[.slice (some ⟨b, (i + 1) * 2, none⟩) (n - i) dc, .slice (some ⟨b, i * 2, none⟩) (n + 1 - i) sc]).run Tryz.prog W = .ok (goInt ((n - i : Nat) : Int)) (put W b l1) := fun W hW ty dc sc => by
    have hB : Blk W b 170 l := h.of_heap (by rw [hW])
    rw [run_copy_blk 63 63 ty 170 hB ⟨b, i * 2, none⟩ (n + 1 - i) sc 2 (n - i) mid u31 size36 (by simp only [Nat.min_def]; split <;> omega) hml (fun j v hj => by rw [Addr.add_lit, hB.cell, ← h.cell]; exact hms j v hj) (by omega) hm1, ← hl1, Nat.mul_comm (i + 1) 2]
  have hcp2 : ∀ (W : World), Blk W b 170 l1 → Blk W vb 170 vs → ∀ ty dc, (Builtin.copy_ #[63, 63] ty #[.slice (some ⟨b, i * 2, none⟩) (n + 1 - i) dc, .slice (some ⟨vb, 0, none⟩) 1 1]).run Tryz.prog W = .ok (goInt ((1 : Nat) : Int)) (put W b (splice l1 (2 * i) vs)) := fun W hB hV ty dc => by
    rw [run_copy_blk 63 63 ty 170 hB ⟨vb, 0, none⟩ 1 1 2 1 vs u31 size36 (by simp only [Nat.min_def]; split <;> omega) (by omega) (fun j v hj => by rw [Addr.add_lit, hV.cell, Nat.zero_add]; exact hj) (by omega) h1v, Nat.mul_comm i 2]
  clear hmid hl1 hms
  have hw1 : IntKind.i64.wrap ((i : Int) + 1) = (i : Int) + 1 := by rw [IntKind.wrap_i64]; omega
  have hb1 : (0 : Int) ≤ (i : Int) + 1 := by omega
  have htn : ((i : Int) + 1).toNat = i + 1 := by omega
  have hb2 : ¬ (c = i + 1) := by omega
  have hb3 : (i : Int) + 1 ≤ (n : Int) + 1 := by omega
  have hb5 : (i : Int) ≤ (n : Int) + 1 := by omega
  have hb4 : ¬ (c = i) := by omega
  go_enter Tryz.func289, Tryz.ntmps289
  go_wp2_with (simp only [hov])
  have hcq := hcp1 w.drew rfl
  clear hcp1
  go_region
  have hcq2 := hcp2 (put w.drew b l1) (h.drew.put l1) (hv.drew.of_heap (put_other _ _ _ _ hvb))
  clear hcp2
  go_wp2
  go_ret
  exact ⟨rfl, 1, rfl⟩

/-- What such a call hands back: a slice of n' elements, whose cells are cs'; all but a block of the slice's own, and what is new, is as it was. -/
def Out (w w' : World) (row : Option Nat) (e : Ending) (n' : Nat) (cs' : List Value) : Prop :=
  ∃ b' c' l', e = .returned (.slice (some ⟨b', 0, none⟩) n' c') ∧ Blk w' b' 170 l' ∧ l'.length = 2 * c' ∧ n' ≤ c' ∧ c' ≤ 9223372036854775807 ∧ l'.take (2 * n') = cs' ∧ (∀ v ∈ l', v.oneCell' = true) ∧ w.grownBy w' row ∧ (some b' = row ∨ w.heap.size ≤ b')

set_option maxHeartbeats 1000000 in
theorem insert_room (b n c vb : Nat) (l vs : List Value) (w : World) (hroom : n + 1 ≤ c) (hc : c ≤ 9223372036854775807)
    (h : Blk w b 170 l) (hl : l.length = 2 * c) (hv : Blk w vb 170 vs) (hvl : vs.length = 2) (h1v : ∀ v ∈ vs, v.oneCell' = true) :
    Calls Tryz.prog 289 #[.slice (some ⟨b, 0, none⟩) n c, .int .i64 n, .slice (some ⟨vb, 0, none⟩) 1 1] w fun e w' =>
      e = .returned (.slice (some ⟨b, 0, none⟩) (n + 1) c) ∧ w' = put w b (splice l (n * 2) vs) := by
  have hap := fun ty => run_append_room_blk (P := Tryz.prog) (w := w) 63 63 ty 170 _ 2 16 u31 u31 info36 (n := n) (c := c) (m := 1) (mc := 1) h ⟨vb, 0, none⟩ (vs := vs) (by omega) (fun j v hj => by rw [Addr.add_lit, hv.cell, Nat.zero_add]; exact hj) h1v hroom (by omega)
  go_enter Tryz.func289, Tryz.ntmps289
  go_wp2_with (at_builtin; refine Lib.wpList_append_run _ rfl _ _ _ _ rfl _ _ rfl rfl _ _ (hap _) ?_)
  go_ret
  exact ⟨rfl, rfl⟩

set_option maxHeartbeats 1000000 in
theorem insert_end_grow (base : Option Addr) (n c vb : Nat) (cs vs : List Value) (w : World) (hnc : n ≤ c) (hroom : c < n + 1) (hbig : n ≤ 1000000)
    (hold : base = none ∧ cs = [] ∧ n = 0 ∨ ∃ b, base = some ⟨b, 0, none⟩ ∧ cs.length = n * 2 ∧ ∀ j v, cs[j]? = some v → w.cell? ⟨b, j, none⟩ = some v)
    (hv : Blk w vb 170 vs) (hvl : vs.length = 2) (h1v : ∀ v ∈ vs, v.oneCell' = true) :
    Calls Tryz.prog 289 #[.slice base n c, .int .i64 n, .slice (some ⟨vb, 0, none⟩) 1 1] w fun e w' =>
      e = .returned (.slice (some ⟨w.heap.size, 0, none⟩) (n + 1) (grownCap w (n + 1) c 170)) ∧
      w' = w.drew.alloc (.cells (cs ++ vs ++ (Builtin.zeroCells (Value.agg #[.int .u64 0, .int .u64 0]).cells (grownCap w (n + 1) c 170 - (n + 1))).toList).toArray 170) := by
  have hap := fun ty => run_append_grow_blk (P := Tryz.prog) (w := w) 63 63 ty 170 _ 2 16 u31 u31 info36 (base := base) (n := n) (c := c) (m := 1) (mc := 1) (cs := cs) (by
      rcases hold with ⟨h1, h2, _⟩ | ⟨b, h1, h2, h3⟩
      · exact .inl ⟨h1, h2⟩
      · exact .inr ⟨_, h1, h2, fun j v hj => by rw [Addr.add_lit, Nat.zero_add]; exact h3 j v hj⟩) ⟨vb, 0, none⟩ (vs := vs) (by omega) (fun j v hj => by rw [Addr.add_lit, hv.cell, Nat.zero_add]; exact hj) h1v hroom (by omega) (by omega)
  generalize hrow : cs ++ vs ++ (Builtin.zeroCells (Value.agg #[.int .u64 0, .int .u64 0]).cells (grownCap w (n + 1) c 170 - (n + 1))).toList = ROW at hap ⊢
  clear hrow
  generalize grownCap w (n + 1) c 170 = G at hap ⊢
  rcases hold with ⟨rfl, _, rfl⟩ | ⟨b, rfl, _, _⟩
  · go_enter Tryz.func289, Tryz.ntmps289
    go_wp2_with (at_builtin; refine Lib.wpList_append_run _ rfl _ _ _ _ rfl _ _ rfl rfl _ _ (hap _) ?_)
    go_ret
    exact ⟨rfl, rfl⟩
  · go_enter Tryz.func289, Tryz.ntmps289
    go_wp2_with (at_builtin; refine Lib.wpList_append_run _ rfl _ _ _ _ rfl _ _ rfl rfl _ _ (hap _) ?_)
    go_ret
    exact ⟨rfl, rfl⟩


set_option maxHeartbeats 2000000 in
theorem insert_grow (b n c i vb : Nat) (l vs : List Value) (w : World) (hi : i < n) (hnc : n ≤ c) (hroom : c < n + 1) (hbig : n ≤ 1000000)
    (h : Blk w b 170 l) (hl : l.length = 2 * c) (hv : Blk w vb 170 vs) (hvl : vs.length = 2) (h1 : ∀ v ∈ l, v.oneCell' = true) (h1v : ∀ v ∈ vs, v.oneCell' = true) :
    Calls Tryz.prog 289 #[.slice (some ⟨b, 0, none⟩) n c, .int .i64 i, .slice (some ⟨vb, 0, none⟩) 1 1] w fun e w' =>
      Out w w' none e (n + 1) ((l.take (2 * n)).take (2 * i) ++ vs ++ (l.take (2 * n)).drop (2 * i)) := by
  have hcn : c = n := by omega
  subst hcn
  have hz2 : ¬ ((i : Int) = (c : Int)) := by omega
  have hz3 : (i : Int) ≤ (c : Int) := by omega
  have hlt : l.take (2 * c) = l := List.take_of_length_le (by omega)
  rw [hlt]
  have hap := fun ty => run_append_zeros_blk (P := Tryz.prog) (w := w) 63 3 ty 170 _ 2 16 .i64 .i64 u31 (by kernel_rfl) info36 (by omega) ⟨b, 0, none⟩ (n := i) (c := c) (m := c + 1 - i) (cs := l.take (2 * i)) (by simp; omega)
    (fun j v hj => by
      rw [Addr.add_lit, Nat.zero_add, h.cell]
      rw [List.getElem?_take] at hj
      split at hj
      · exact hj
      · cases hj) (by omega) (by omega) (by omega) (by omega)
  rw [show i + (c + 1 - i) = c + 1 by omega, show ((c + 1 - i : Nat) : Int) = (c : Int) + 1 - (i : Int) by omega] at hap
  have hGn := grownCap_ge w (c + 1) c 170
  have hG63 := grownCap_le_maxLen w (c + 1) c 170 (by unfold maxLen; omega)
  unfold maxLen at hG63
  generalize hG : grownCap w (c + 1) c 170 = G at hap hGn hG63
  clear hG
  generalize hR : l.take (2 * i) ++ (Builtin.zeroCells (Value.agg #[.int .u64 0, .int .u64 0]).cells (c + 1 - i)).toList ++ (Builtin.zeroCells (Value.agg #[.int .u64 0, .int .u64 0]).cells (G - (c + 1))).toList = R at hap
  have hRl : R.length = 2 * G := by
    rw [← hR, List.length_append, List.length_append, zero2_len, zero2_len, List.length_take]; omega
  have hRt : R.take (2 * i) = l.take (2 * i) := by
    rw [← hR, List.append_assoc, List.take_append_of_le_length (by simp; omega), List.take_of_length_le (by simp; omega)]
  have hR1 : ∀ v ∈ R, v.oneCell' = true := by
    rw [← hR]
    intro v hv
    rcases List.mem_append.1 hv with hv | hv
    · rcases List.mem_append.1 hv with hv | hv
      · exact h1 v (List.mem_of_mem_take hv)
      · exact zero2_one _ v hv
    · exact zero2_one _ v hv
  clear hR
  have hbw : b < w.heap.size := h.lt
  have hvw : vb < w.heap.size := hv.lt
  have hB1 : Blk ((w.alloc (.cells R.toArray 170)).drew) w.heap.size 170 R := Blk.new w 170 R
  have hV1 : Blk ((w.alloc (.cells R.toArray 170)).drew) vb 170 vs := hv.alloc _
  have hO1 : Blk ((w.alloc (.cells R.toArray 170)).drew) b 170 l := h.alloc _
  have hcpA := fun ty dc => run_copy_blk (P := Tryz.prog) (o := i * 2) (dLen := c + 1 - i) (dCap := dc) 63 63 ty 170 hB1 ⟨vb, 0, none⟩ 1 1 2 1 vs u31 size36 (by simp only [Nat.min_def]; split <;> omega) (by omega) (fun j v hj => by rw [Addr.add_lit, hV1.cell, Nat.zero_add]; exact hj) (by omega) h1v
  have hB2 := (hB1.put (splice R (i * 2) vs)).drew
  have hO2 : Blk (put ((w.alloc (.cells R.toArray 170)).drew) w.heap.size (splice R (i * 2) vs)).drew b 170 l := hO1.of_heap (put_other _ _ _ _ (by omega))
  have htl : (l.drop (2 * i)).length = (c - i) * 2 := by simp; omega
  have hl2 : (splice R (i * 2) vs).length = 2 * G := by rw [splice_length _ _ _ (by omega), hRl]
  have hcpB := fun ty dc sc => run_copy_blk (P := Tryz.prog) (o := (i + 1) * 2) (dLen := c - i) (dCap := dc) 63 63 ty 170 hB2 ⟨b, i * 2, none⟩ (c - i) sc 2 (c - i) (l.drop (2 * i)) u31 size36 (by simp only [Nat.min_def]; split <;> omega) htl
    (fun j v hj => by rw [Addr.add_lit, hO2.cell]; rwa [List.getElem?_drop, Nat.mul_comm 2 i] at hj) (by omega) (fun v hv => h1 v (List.mem_of_mem_drop hv))
  have hfin : (splice (splice R (i * 2) vs) ((i + 1) * 2) (l.drop (2 * i))).take (2 * (c + 1)) = l.take (2 * i) ++ vs ++ l.drop (2 * i) := by
    have := two_take R vs (l.drop (2 * i)) (i * 2) 2 hvl (by omega)
    rw [show i * 2 + 2 = (i + 1) * 2 by omega, htl, show (i + 1) * 2 + (c - i) * 2 = 2 * (c + 1) by omega, show i * 2 = 2 * i by omega, hRt] at this
    rw [show i * 2 = 2 * i by omega]
    exact this
  have hl3 : (splice (splice R (i * 2) vs) ((i + 1) * 2) (l.drop (2 * i))).length = 2 * G := by rw [splice_length _ _ _ (by omega), hl2]
  have h13 : ∀ v ∈ splice (splice R (i * 2) vs) ((i + 1) * 2) (l.drop (2 * i)), v.oneCell' = true := splice_one (splice_one hR1 h1v) (fun v hv => h1 v (List.mem_of_mem_drop hv))
  have HB2 : Hid _ := hB2
  generalize splice (splice R (i * 2) vs) ((i + 1) * 2) (l.drop (2 * i)) = l3 at hcpB hfin hl3 h13
  generalize l.drop (2 * i) = tl at hcpB hfin htl
  generalize splice R (i * 2) vs = l2 at hcpA hcpB hB2 hO2 hl2 HB2
  have hw1 : IntKind.i64.wrap ((i : Int) + 1) = (i : Int) + 1 := by rw [IntKind.wrap_i64]; omega
  have hb1 : (0 : Int) ≤ (i : Int) + 1 := by omega
  have htn : ((i : Int) + 1).toNat = i + 1 := by omega
  have hb2 : ¬ (G = i + 1) := by omega
  have hb3 : (i : Int) + 1 ≤ (c : Int) + 1 := by omega
  have hb5 : (i : Int) ≤ (c : Int) + 1 := by omega
  have hb4 : ¬ (c = i) := by omega
  have hb6 : ¬ (G = i) := by omega
  have HF : Hid _ := hfin
  have H13 : Hid _ := h13
  have HL3 : Hid _ := hl3
  clear hfin h13 hl3 hlt hRt hR1 hRl hB1 hV1 hO1 hO2 hB2 htl hl2
  go_enter Tryz.func289, Tryz.ntmps289
  go_wp2_with (at_builtin; refine Lib.wpList_append_run _ rfl _ _ _ _ rfl _ _ rfl rfl _ _ (hap _) ?_)
  go_region
  go_wp2
  go_ret
  refine ⟨w.heap.size, G, l3, rfl, Blk.put HB2.out l3, HL3.out, by omega, hG63, HF.out, H13.out, ?_, .inr (Nat.le_refl _)⟩
  exact grown_put_new (grown_trans (grown_put_new (grown_trans (World.grownBy_alloc w _ none) (grown_drew _ none)) _ _ (Nat.le_refl _)) (grown_drew _ none)) _ _ (Nat.le_refl _)

/-- slices.Insert of one element at i: all its roads. -/
theorem insert_any (base : Option Addr) (n c i vb : Nat) (cs vs : List Value) (w : World) (hi : i ≤ n) (hnc : n ≤ c) (hc : c ≤ 9223372036854775807) (hbig : n ≤ 1000000)
    (hold : base = none ∧ cs = [] ∧ n = 0 ∧ c = 0 ∨ ∃ b l, base = some ⟨b, 0, none⟩ ∧ Blk w b 170 l ∧ l.length = 2 * c ∧ cs = l.take (2 * n) ∧ vb ≠ b ∧ ∀ v ∈ l, v.oneCell' = true)
    (hv : Blk w vb 170 vs) (hvl : vs.length = 2) (h1v : ∀ v ∈ vs, v.oneCell' = true) :
    Calls Tryz.prog 289 #[.slice base n c, .int .i64 i, .slice (some ⟨vb, 0, none⟩) 1 1] w fun e w' =>
      Out w w' (base.map (·.block)) e (n + 1) (cs.take (2 * i) ++ vs ++ cs.drop (2 * i)) := by
  rcases hold with ⟨rfl, rfl, rfl, rfl⟩ | ⟨b, l, rfl, h, hl, rfl, hvb, h1⟩
  · obtain rfl : i = 0 := by omega
    refine (insert_end_grow none 0 0 vb [] vs w (by omega) (by omega) (by omega) (.inl ⟨rfl, rfl, rfl⟩) hv hvl h1v).mono ?_
    rintro e w' ⟨rfl, rfl⟩
    have hGn := grownCap_ge w (0 + 1) 0 170
    have hG63 := grownCap_le_maxLen w (0 + 1) 0 170 (by unfold maxLen; omega)
    unfold maxLen at hG63
    refine ⟨w.heap.size, _, _, rfl, Blk.new w 170 _, ?_, hGn, hG63, ?_, ?_, grown_trans (World.grownBy_alloc w _ none) (grown_drew _ none), .inr (Nat.le_refl _)⟩
    · rw [List.nil_append, List.length_append, zero2_len]; omega
    · rw [List.nil_append, List.take_append_of_le_length (by omega), List.take_of_length_le (by omega)]; simp
    · intro v hv
      rw [List.nil_append] at hv
      rcases List.mem_append.1 hv with hv | hv
      · exact h1v v hv
      · exact zero2_one _ v hv
  · by_cases hr : n + 1 ≤ c
    · by_cases hin : i < n
      · refine (insert_shift b n c i vb l vs w hin hr hc hvb h hl hv hvl h1 h1v).mono ?_
        rintro e w' ⟨rfl, q, rfl⟩
        refine ⟨b, c, _, rfl, (Blk.put (w := w.drewN q) h _).put _, ?_, hr, hc, ?_, splice_one (splice_one h1 (fun v hv => h1 v (List.mem_of_mem_drop (List.mem_of_mem_take hv)))) h1v, ?_, .inl rfl⟩
        · rw [splice_length, splice_length, hl]
          · simp; omega
          · rw [splice_length]
            · omega
            · simp; omega
        · have := shift_take l vs (2 * i) (2 * n) 2 (by omega) (by omega) hvl
          rw [show 2 * n - 2 * i = 2 * (n - i) by omega, show 2 * i + 2 = 2 * (i + 1) by omega, show 2 * n + 2 = 2 * (n + 1) by omega] at this
          exact this
        · exact grown_trans (grown_drewN w q _) (grown_trans (put_grown _ b _) (put_grown _ b _))
      · obtain rfl : i = n := by omega
        refine (insert_room b i c vb l vs w hr hc h hl hv hvl h1v).mono ?_
        rintro e w' ⟨rfl, rfl⟩
        refine ⟨b, c, _, rfl, h.put _, ?_, hr, hc, ?_, splice_one h1 h1v, put_grown _ b _, .inl rfl⟩
        · rw [splice_length, hl]; omega
        · have := splice_end l vs (i * 2) (by omega)
          rw [hvl, show i * 2 + 2 = 2 * (i + 1) by omega, Nat.mul_comm i 2] at this
          rw [Nat.mul_comm i 2, this, List.take_of_length_le (l := l.take (2 * i)) (by simp; omega), List.drop_of_length_le (l := l.take (2 * i)) (by simp; omega)]
          simp
    · by_cases hin : i < n
      · refine (insert_grow b n c i vb l vs w hin hnc (by omega) hbig h hl hv hvl h1 h1v).mono ?_
        rintro e w' ⟨b', c', l', a1, a2, a3, a4, a5, a6, a7, a8, a9⟩
        refine ⟨b', c', l', a1, a2, a3, a4, a5, a6, a7, ⟨a8.os, a8.tape, a8.output, a8.size, fun k hk _ => a8.block k hk (by simp)⟩, .inr ?_⟩
        rcases a9 with a9 | a9
        · cases a9
        · exact a9
      · obtain rfl : i = n := by omega
        refine (insert_end_grow (some ⟨b, 0, none⟩) i c vb (l.take (2 * i)) vs w hnc (by omega) hbig (.inr ⟨b, rfl, by simp; omega, fun j v hj => by
          rw [h.cell]
          rw [List.getElem?_take] at hj
          split at hj
          · exact hj
          · cases hj⟩) hv hvl h1v).mono ?_
        rintro e w' ⟨rfl, rfl⟩
        have hGn := grownCap_ge w (i + 1) c 170
        have hG63 := grownCap_le_maxLen w (i + 1) c 170 (by unfold maxLen; omega)
        unfold maxLen at hG63
        refine ⟨w.heap.size, _, _, rfl, Blk.new w 170 _, ?_, hGn, hG63, ?_, ?_, grown_trans (World.grownBy_alloc w _ _) (grown_drew _ _), .inr (Nat.le_refl _)⟩
        · rw [List.length_append, List.length_append, zero2_len, List.length_take]; omega
        · rw [List.take_append_of_le_length (by simp; omega), List.take_of_length_le (by simp; omega), List.take_of_length_le (l := l.take (2 * i)) (by simp; omega), List.drop_of_length_le (l := l.take (2 * i)) (by simp; omega)]
          simp
        · intro v hv
          rcases List.mem_append.1 hv with hv | hv
          · rcases List.mem_append.1 hv with hv | hv
            · exact h1 v (List.mem_of_mem_take hv)
            · exact h1v v hv
          · exact zero2_one _ v hv

end Go.Proofs.YtphbledmopchnaaGreatDoor.St

/-
  slices.Replace by one element, over this dump.
-/
namespace Go.Proofs.YtphbledmopchnaaGreatDoor.St
open Go.RowKit Go.Lib Mm

theorem ret_slice {p : Option Addr} {n n' c c' : Nat} (h : n = n') (hc : c = c') : Ending.returned (.slice p n c) = .returned (.slice p n' c') := by rw [h, hc]

theorem zero36 (w : World) : (zeroValue 170).run Tryz.prog w = .ok (.agg #[.int .u64 0, .int .u64 0]) w := by kernel_rfl

set_option maxHeartbeats 1000000 in
set_option maxRecDepth 100000 in
theorem replace_same (base : Option Addr) (n c i vb : Nat) (cs vs : List Value) (w : World) (hi : i ≤ n) (hnc : n ≤ c) (hc : c ≤ 9223372036854775807) (hbig : n ≤ 1000000)
    (hold : base = none ∧ cs = [] ∧ n = 0 ∧ c = 0 ∨ ∃ b l, base = some ⟨b, 0, none⟩ ∧ Blk w b 170 l ∧ l.length = 2 * c ∧ cs = l.take (2 * n) ∧ vb ≠ b ∧ ∀ v ∈ l, v.oneCell' = true)
    (hv : Blk w vb 170 vs) (hvl : vs.length = 2) (h1v : ∀ v ∈ vs, v.oneCell' = true) :
    Calls Tryz.prog 224 #[.slice base n c, .int .i64 i, .int .i64 i, .slice (some ⟨vb, 0, none⟩) 1 1] w fun e w' =>
      Out w w' (base.map (·.block)) e (n + 1) (cs.take (2 * i) ++ vs ++ cs.drop (2 * i)) := by
  have hI := insert_any base n c i vb cs vs w hi hnc hc hbig hold hv hvl h1v
  generalize cs.take (2 * i) ++ vs ++ cs.drop (2 * i) = X at hI ⊢
  generalize base.map (·.block) = row at hI ⊢
  have hii : ((i : Int) == (i : Int)) = true := by simp
  have hi' : (i : Int) ≤ (n : Int) := by omega
  have hic : (i : Int) ≤ (c : Int) := by omega
  rcases hold with ⟨rfl, rfl, rfl, rfl⟩ | ⟨b, l, rfl, h, hl, rfl, hvb, h1⟩
  · obtain rfl : i = 0 := by omega
    go_enter Tryz.func224, Tryz.ntmps224
    go_wp2_with (go_at_call 289; refine hI.mono ?_; intro e w' hO; obtain ⟨b', c', l', rfl, a2⟩ := hO)
    go_ret
    exact ⟨b', c', l', rfl, a2⟩
  · by_cases hci : c = i
    · subst hci
      go_enter Tryz.func224, Tryz.ntmps224
      go_wp2_with (go_at_call 289; refine hI.mono ?_; intro e w' hO; obtain ⟨b', c', l', rfl, a2⟩ := hO)
      go_ret
      exact ⟨b', c', l', rfl, a2⟩
    · go_enter Tryz.func224, Tryz.ntmps224
      go_wp2_with (go_at_call 289; refine hI.mono ?_; intro e w' hO; obtain ⟨b', c', l', rfl, a2⟩ := hO)
      go_ret
      exact ⟨b', c', l', rfl, a2⟩

set_option maxHeartbeats 1000000 in
set_option maxRecDepth 100000 in
theorem replace_end (b n c i vb : Nat) (l vs : List Value) (w : World) (hi : i < n) (hnc : n ≤ c) (hc : c ≤ 9223372036854775807) (hbig : n ≤ 1000000)
    (h : Blk w b 170 l) (hl : l.length = 2 * c) (h1 : ∀ v ∈ l, v.oneCell' = true)
    (hv : Blk w vb 170 vs) (hvl : vs.length = 2) (h1v : ∀ v ∈ vs, v.oneCell' = true) :
    Calls Tryz.prog 224 #[.slice (some ⟨b, 0, none⟩) n c, .int .i64 i, .int .i64 n, .slice (some ⟨vb, 0, none⟩) 1 1] w fun e w' =>
      Out w w' (some b) e (i + 1) ((l.take (2 * n)).take (2 * i) ++ vs) := by
  have hap := fun ty => run_append_room_blk (P := Tryz.prog) (w := w) 63 63 ty 170 _ 2 16 u31 u31 info36 (n := i) (c := c) (m := 1) (mc := 1) h ⟨vb, 0, none⟩ (vs := vs) (by omega) (fun j v hj => by rw [Addr.add_lit, hv.cell, Nat.zero_add]; exact hj) h1v (by omega) (by omega)
  have hl1 : (splice l (i * 2) vs).length = 2 * c := by rw [splice_length _ _ _ (by omega), hl]
  have ht1 : (splice l (i * 2) vs).take (2 * (i + 1)) = (l.take (2 * n)).take (2 * i) ++ vs := by
    have := splice_end l vs (i * 2) (by omega)
    rw [hvl, show i * 2 + 2 = 2 * (i + 1) by omega] at this
    rw [this, List.take_take, Nat.mul_comm i 2, show min (2 * i) (2 * n) = 2 * i by omega]
  have h11 : ∀ v ∈ splice l (i * 2) vs, v.oneCell' = true := splice_one h1 h1v
  have hB1 := h.put (splice l (i * 2) vs)
  generalize splice l (i * 2) vs = l1 at hap hl1 ht1 h11 hB1
  have HT1 : Hid _ := ht1
  have H11 : Hid _ := h11
  have HB1 : Hid (Blk (put w b l1) b 170 l1) := hB1
  clear ht1 h11
  have hne : ¬ ((i : Int) = (n : Int)) := by omega
  have hi' : (i : Int) ≤ (n : Int) := by omega
  have hic : (n : Int) ≤ (c : Int) := by omega
  by_cases hlt : i + 1 < n
  · have hcl := fun ty cc => run_clear_blk (P := Tryz.prog) (o := (i + 1) * 2) (n := n - (i + 1)) (c := cc) 63 170 ty _ u31 zero36 hB1 (by omega) (by rw [zero2_len]; omega) (zero2_one _)
    have ht2 : (splice l1 ((i + 1) * 2) (Builtin.zeroCells (Value.agg #[.int .u64 0, .int .u64 0]).cells (n - (i + 1))).toList).take (2 * (i + 1)) = (l.take (2 * n)).take (2 * i) ++ vs := by
      rw [splice_take_below _ _ _ _ (by rw [zero2_len]; omega) (by omega), HT1.out]
    have hl2 : (splice l1 ((i + 1) * 2) (Builtin.zeroCells (Value.agg #[.int .u64 0, .int .u64 0]).cells (n - (i + 1))).toList).length = 2 * c := by rw [splice_length _ _ _ (by rw [zero2_len]; omega), hl1]
    have h12 : ∀ v ∈ splice l1 ((i + 1) * 2) (Builtin.zeroCells (Value.agg #[.int .u64 0, .int .u64 0]).cells (n - (i + 1))).toList, v.oneCell' = true := splice_one H11.out (zero2_one _)
    generalize splice l1 ((i + 1) * 2) (Builtin.zeroCells (Value.agg #[.int .u64 0, .int .u64 0]).cells (n - (i + 1))).toList = l2 at hcl ht2 hl2 h12
    have HT2 : Hid _ := ht2
    have H12 : Hid _ := h12
    have HL2 : Hid _ := hl2
    clear ht2 h12 hl2 hB1 h hv hl hvl hl1
    have hb2 : (i : Int) + 1 < (n : Int) := by omega
    go_enter Tryz.func224, Tryz.ntmps224
    go_wp2_with (at_builtin; refine Lib.wpList_append_run _ rfl _ _ _ _ rfl _ _ rfl rfl _ _ (hap _) ?_)
    go_ret
    exact ⟨b, c, l2, rfl, Blk.put HB1.out l2, HL2.out, by omega, hc, HT2.out, H12.out, grown_trans (put_grown w b l1) (put_grown _ b l2), .inl rfl⟩
  · have hb2 : (n : Int) ≤ (i : Int) + 1 := by omega
    clear hB1 h hv hl hvl
    have HL1 : Hid _ := hl1
    clear hl1
    go_enter Tryz.func224, Tryz.ntmps224
    go_wp2_with (at_builtin; refine Lib.wpList_append_run _ rfl _ _ _ _ rfl _ _ rfl rfl _ _ (hap _) ?_)
    go_ret
    exact ⟨b, c, l1, rfl, HB1.out, HL1.out, by omega, hc, HT1.out, H11.out, put_grown w b l1, .inl rfl⟩

theorem run_clear_nothing (w : World) (ty : TypeId) (a : Addr) (c : Nat) : (Builtin.clear_ #[63] ty #[.slice (some a) 0 c]).run Tryz.prog w = .ok (.tuple #[]) w := by
  simp [Builtin.clear_, run_underlying u31]

set_option maxHeartbeats 2000000 in
set_option maxRecDepth 100000 in
theorem replace_mid (b n c i j vb : Nat) (l vs : List Value) (w : World) (hij : i < j) (hjn : j < n) (hnc : n ≤ c) (hc : c ≤ 9223372036854775807) (hbig : n ≤ 1000000) (_hvb : vb ≠ b)
    (h : Blk w b 170 l) (hl : l.length = 2 * c) (h1 : ∀ v ∈ l, v.oneCell' = true)
    (hv : Blk w vb 170 vs) (hvl : vs.length = 2) (h1v : ∀ v ∈ vs, v.oneCell' = true) :
    Calls Tryz.prog 224 #[.slice (some ⟨b, 0, none⟩) n c, .int .i64 i, .int .i64 j, .slice (some ⟨vb, 0, none⟩) 1 1] w fun e w' =>
      Out w w' (some b) e (i + 1 + (n - j)) ((l.take (2 * n)).take (2 * i) ++ vs ++ (l.take (2 * n)).drop (2 * j)) := by
  have hne : ((i : Int) == (j : Int)) = false := by simp; omega
  have hne2 : ((j : Int) == (n : Int)) = false := by simp; omega
  have hi' : (i : Int) ≤ (n : Int) := by omega
  have hij' : (i : Int) ≤ (j : Int) := by omega
  have hjn' : (j : Int) ≤ (n : Int) := by omega
  have hic : (n : Int) ≤ (c : Int) := by omega
  have hjc : (j : Int) ≤ (c : Int) := by omega
  have hicc : (i : Int) ≤ (c : Int) := by omega
  have hcj : ¬ (c = j) := by omega
  have hci : ¬ (c = i) := by omega
  have hci1 : ¬ (c = i + 1) := by omega
  have hw1 : IntKind.i64.wrap ((i : Int) + 1) = (i : Int) + 1 := by rw [IntKind.wrap_i64]; omega
  have hw2 : IntKind.i64.wrap ((i : Int) + 1 + ((n - j : Nat) : Int)) = (i : Int) + 1 + ((n - j : Nat) : Int) := by rw [IntKind.wrap_i64]; omega
  have hb1 : (0 : Int) ≤ (i : Int) + 1 := by omega
  have hb2 : (i : Int) + 1 ≤ (i : Int) + 1 + ((n - j : Nat) : Int) := by omega
  have htn : ((i : Int) + 1).toNat = i + 1 := by omega
  -- the first store
  have hcpA : ∀ q ty dc, (Builtin.copy_ #[63, 63] ty #[.slice (some ⟨b, i * 2, none⟩) (i + 1 + (n - j) - i) dc, .slice (some ⟨vb, 0, none⟩) 1 1]).run Tryz.prog (w.drewN q) = .ok (goInt ((1 : Nat) : Int)) (put (w.drewN q) b (splice l (i * 2) vs)) := fun q ty dc =>
    run_copy_blk (w := w.drewN q) 63 63 ty 170 h ⟨vb, 0, none⟩ 1 1 2 1 vs u31 size36 (by simp only [Nat.min_def]; split <;> omega) (by omega) (fun k v hk => by rw [Addr.add_lit, Nat.zero_add]; rw [← hk]; exact hv.cell k) (by omega) h1v
  have hl1 : (splice l (i * 2) vs).length = 2 * c := by rw [splice_length _ _ _ (by omega), hl]
  have h11 : ∀ v ∈ splice l (i * 2) vs, v.oneCell' = true := splice_one h1 h1v
  have hB1 : ∀ q, Blk (put (w.drewN q) b (splice l (i * 2) vs)).drew b 170 (splice l (i * 2) vs) := fun q => (Blk.put (w := w.drewN q) h _).drew
  have hd1 : ((splice l (i * 2) vs).drop (2 * j)).take (2 * (n - j)) = (l.take (2 * n)).drop (2 * j) := by
    rw [splice_drop_above _ _ _ _ (by omega) (by omega), List.drop_take, show 2 * n - 2 * j = 2 * (n - j) by omega]
  -- the second
  generalize htl : (l.take (2 * n)).drop (2 * j) = tl at hd1 ⊢
  have htll : tl.length = (n - j) * 2 := by rw [← htl]; simp; omega
  have htl1 : ∀ v ∈ tl, v.oneCell' = true := fun v hv => h1 v (by rw [← htl] at hv; exact List.mem_of_mem_take (List.mem_of_mem_drop hv))
  clear htl
  have hfin : (splice (splice l (i * 2) vs) ((i + 1) * 2) tl).take (2 * (i + 1 + (n - j))) = (l.take (2 * n)).take (2 * i) ++ vs ++ tl := by
    have := two_take l vs tl (i * 2) 2 hvl (by omega)
    rw [show i * 2 + 2 = (i + 1) * 2 by omega, htll, show (i + 1) * 2 + (n - j) * 2 = 2 * (i + 1 + (n - j)) by omega, show i * 2 = 2 * i by omega] at this
    rw [show i * 2 = 2 * i by omega, this, List.take_take, show min (2 * i) (2 * n) = 2 * i by omega]
  generalize splice l (i * 2) vs = l1 at hcpA hl1 h11 hB1 hd1 hfin
  have hcpB : ∀ q ty dc sc, (Builtin.copy_ #[63, 63] ty #[.slice (some ⟨b, (i + 1) * 2, none⟩) (i + 1 + (n - j) - (i + 1)) dc, .slice (some ⟨b, j * 2, none⟩) (n - j) sc]).run Tryz.prog (put (w.drewN q) b l1).drew = .ok (goInt ((n - j : Nat) : Int)) (put (put (w.drewN q) b l1).drew b (splice l1 ((i + 1) * 2) tl)) := fun q ty dc sc =>
    run_copy_blk 63 63 ty 170 (hB1 q) ⟨b, j * 2, none⟩ (n - j) sc 2 (n - j) tl u31 size36 (by simp only [Nat.min_def]; split <;> omega) htll
      (fun k v hk => by rw [Addr.add_lit, (hB1 q).cell, Nat.mul_comm j 2]; rw [← hd1] at hk; exact getElem_seg hk) (by omega) htl1
  have hl2 : (splice l1 ((i + 1) * 2) tl).length = 2 * c := by rw [splice_length _ _ _ (by omega), hl1]
  have h12 : ∀ v ∈ splice l1 ((i + 1) * 2) tl, v.oneCell' = true := splice_one h11 htl1
  have hB2 : ∀ q, Blk (put (put (w.drewN q) b l1).drew b (splice l1 ((i + 1) * 2) tl)) b 170 (splice l1 ((i + 1) * 2) tl) := fun q => (hB1 q).put _
  generalize splice l1 ((i + 1) * 2) tl = l2 at hcpB hl2 h12 hB2 hfin
  generalize hT : i + 1 + (n - j) = T at *
  have hT2 : i + 1 ≤ T ∧ T ≤ n := by omega
  generalize (l.take (2 * n)).take (2 * i) ++ vs ++ tl = X at hfin ⊢
  have HF : Hid _ := hfin
  have H12 : Hid _ := h12
  have HL2 : Hid _ := hl2
  have HB2 : Hid _ := hB2
  clear hfin h12 hd1 hB1 h11 hl1 htll htl1 h hv hl h1 h1v hvl
  by_cases hlt : T < n
  · have hcl : ∀ q ty cc, (Builtin.clear_ #[63] ty #[.slice (some ⟨b, T * 2, none⟩) (n - T) cc]).run Tryz.prog (put (put (w.drewN q) b l1).drew b l2) = .ok (.tuple #[]) (put (put (put (w.drewN q) b l1).drew b l2) b (splice l2 (T * 2) (Builtin.zeroCells (Value.agg #[.int .u64 0, .int .u64 0]).cells (n - T)).toList)) := fun q ty cc =>
      run_clear_blk (P := Tryz.prog) 63 170 ty _ u31 zero36 (hB2 q) (by omega) (by rw [zero2_len]; omega) (zero2_one _)
    have hf3 : (splice l2 (T * 2) (Builtin.zeroCells (Value.agg #[.int .u64 0, .int .u64 0]).cells (n - T)).toList).take (2 * T) = X := by
      rw [splice_take_below _ _ _ _ (by rw [zero2_len]; omega) (by omega), HF.out]
    have hl3 : (splice l2 (T * 2) (Builtin.zeroCells (Value.agg #[.int .u64 0, .int .u64 0]).cells (n - T)).toList).length = 2 * c := by rw [splice_length _ _ _ (by rw [zero2_len]; omega), hl2]
    have h13 : ∀ v ∈ splice l2 (T * 2) (Builtin.zeroCells (Value.agg #[.int .u64 0, .int .u64 0]).cells (n - T)).toList, v.oneCell' = true := splice_one H12.out (zero2_one _)
    generalize splice l2 (T * 2) (Builtin.zeroCells (Value.agg #[.int .u64 0, .int .u64 0]).cells (n - T)).toList = l3 at hcl hf3 hl3 h13
    have HF3 : Hid _ := hf3
    have H13 : Hid _ := h13
    have HL3 : Hid _ := hl3
    clear hf3 h13 hl3 hl2 hB2
    go_enter Tryz.func224, Tryz.ntmps224
    go_wp2
    go_quiet (fail)
    go_wp2
    go_region
    go_wp2
    go_ret
    exact ⟨b, c, l3, ret_slice (by omega) rfl, Blk.put (HB2.out nq) l3, HL3.out, by omega, hc, HF3.out, H13.out, grown_trans (grown_drewN w nq _) (grown_trans (put_grown _ b _) (grown_trans (grown_drew _ _) (grown_trans (put_grown _ b _) (put_grown _ b _)))), .inl rfl⟩
  · obtain rfl : T = n := by omega
    have hcl : ∀ q ty cc, (Builtin.clear_ #[63] ty #[.slice (some ⟨b, T * 2, none⟩) 0 cc]).run Tryz.prog (put (put (w.drewN q) b l1).drew b l2) = .ok (.tuple #[]) (put (put (w.drewN q) b l1).drew b l2) := fun q ty cc => run_clear_nothing _ ty _ cc
    have hcl0 : ∀ q ty cc, (Builtin.clear_ #[63] ty #[.slice (some ⟨b, 0, none⟩) 0 cc]).run Tryz.prog (put (put (w.drewN q) b l1).drew b l2) = .ok (.tuple #[]) (put (put (w.drewN q) b l1).drew b l2) := fun q ty cc => run_clear_nothing _ ty _ cc
    clear hl2 hB2
    by_cases hcT : c = T
    all_goals
      go_enter Tryz.func224, Tryz.ntmps224
      go_wp2
      go_quiet (fail)
      go_wp2
      go_region
      go_wp2
      go_ret
      exact ⟨b, c, l2, ret_slice (by omega) (by omega), HB2.out nq, HL2.out, by omega, hc, HF.out, H12.out, grown_trans (grown_drewN w nq _) (grown_trans (put_grown _ b _) (grown_trans (grown_drew _ _) (put_grown _ b _))), .inl rfl⟩

/-- slices.Replace of the elements from i to ahead of j by one: all its roads. -/
theorem replace_any (base : Option Addr) (n c i j vb : Nat) (cs vs : List Value) (w : World) (hij : i ≤ j) (hjn : j ≤ n) (hnc : n ≤ c) (hc : c ≤ 9223372036854775807) (hbig : n ≤ 1000000)
    (hold : base = none ∧ cs = [] ∧ n = 0 ∧ c = 0 ∨ ∃ b l, base = some ⟨b, 0, none⟩ ∧ Blk w b 170 l ∧ l.length = 2 * c ∧ cs = l.take (2 * n) ∧ vb ≠ b ∧ ∀ v ∈ l, v.oneCell' = true)
    (hv : Blk w vb 170 vs) (hvl : vs.length = 2) (h1v : ∀ v ∈ vs, v.oneCell' = true) :
    Calls Tryz.prog 224 #[.slice base n c, .int .i64 i, .int .i64 j, .slice (some ⟨vb, 0, none⟩) 1 1] w fun e w' =>
      Out w w' (base.map (·.block)) e (i + 1 + (n - j)) (cs.take (2 * i) ++ vs ++ cs.drop (2 * j)) := by
  by_cases h : i = j
  · subst h
    have := replace_same base n c i vb cs vs w hjn hnc hc hbig hold hv hvl h1v
    rwa [show n + 1 = i + 1 + (n - i) by omega] at this
  · rcases hold with ⟨rfl, rfl, rfl, rfl⟩ | ⟨b, l, rfl, hB, hl, rfl, hvb, h1⟩
    · omega
    · by_cases h2 : j = n
      · subst h2
        have := replace_end b j c i vb l vs w (by omega) hnc hc hbig hB hl h1 hv hvl h1v
        rw [show i + 1 + (j - j) = i + 1 by omega, List.drop_of_length_le (by simp; omega), List.append_nil]
        exact this
      · exact replace_mid b n c i j vb l vs w (by omega) (by omega) hnc hc hbig hvb hB hl h1 hv hvl h1v

end Go.Proofs.YtphbledmopchnaaGreatDoor.St

/-
  A set in memory.
-/
namespace Go.Proofs.YtphbledmopchnaaGreatDoor.St
open Go.RowKit Go.Lib Mm

/-- Ranges as cells. -/
def rcells : List (Nat × Nat) → List Value
  | [] => []
  | r :: t => .int .u64 (r.1 : Int) :: .int .u64 (r.2 : Int) :: rcells t

theorem rcells_length : ∀ rs, (rcells rs).length = 2 * rs.length
  | [] => rfl
  | r :: t => by simp [rcells, rcells_length t]; omega
theorem rcells_lo : ∀ (rs : List (Nat × Nat)) (i : Nat), i < rs.length → (rcells rs)[i * 2]? = some (.int .u64 ((rs.getD i (0, 0)).1 : Int))
  | [], i, h => by simp at h
  | r :: t, 0, _ => by simp [rcells]
  | r :: t, i + 1, h => by
    rw [show (i + 1) * 2 = i * 2 + 1 + 1 by omega]
    simp only [rcells, List.getElem?_cons_succ, List.getD_cons_succ]
    exact rcells_lo t i (by simpa using h)
theorem rcells_hi : ∀ (rs : List (Nat × Nat)) (i : Nat), i < rs.length → (rcells rs)[i * 2 + 1]? = some (.int .u64 ((rs.getD i (0, 0)).2 : Int))
  | [], i, h => by simp at h
  | r :: t, 0, _ => by simp [rcells]
  | r :: t, i + 1, h => by
    rw [show (i + 1) * 2 + 1 = i * 2 + 1 + 1 + 1 by omega]
    simp only [rcells, List.getElem?_cons_succ, List.getD_cons_succ]
    exact rcells_hi t i (by simpa using h)
theorem rcells_append : ∀ a b, rcells (a ++ b) = rcells a ++ rcells b
  | [], _ => rfl
  | r :: t, b => by simp [rcells, rcells_append t b]
theorem rcells_take : ∀ (rs : List (Nat × Nat)) (i : Nat), (rcells rs).take (2 * i) = rcells (rs.take i)
  | [], i => by simp [rcells]
  | r :: t, 0 => by simp [rcells]
  | r :: t, i + 1 => by rw [show 2 * (i + 1) = 2 * i + 1 + 1 by omega]; simp [rcells, rcells_take t i]
theorem rcells_drop : ∀ (rs : List (Nat × Nat)) (i : Nat), (rcells rs).drop (2 * i) = rcells (rs.drop i)
  | [], i => by simp [rcells]
  | r :: t, 0 => by simp [rcells]
  | r :: t, i + 1 => by rw [show 2 * (i + 1) = 2 * i + 1 + 1 by omega]; simp [rcells, rcells_drop t i]
theorem rcells_one : ∀ (rs : List (Nat × Nat)), ∀ v ∈ rcells rs, v.oneCell' = true
  | [], v, h => by simp [rcells] at h
  | r :: t, v, h => by
    simp [rcells] at h
    rcases h with rfl | rfl | h
    · rfl
    · rfl
    · exact rcells_one t v h

theorem countP_range_list (rs : List (Nat × Nat)) (f : Nat × Nat → Bool) : (List.range rs.length).countP (fun i => f (rs.getD i (0, 0))) = rs.countP f := by
  have h : rs = (List.range rs.length).map (fun i => rs.getD i (0, 0)) := by
    apply List.ext_getElem
    · simp
    · intro i h1 h2
      simp [h1]
  conv => rhs; rw [h]
  rw [List.countP_map]
  rfl

/-- Where the ranges lie. -/
def RowAt (w : World) (sp : Nat) (base : Option Addr) (c : Nat) (rs : List (Nat × Nat)) : Prop :=
  base = none ∧ rs = [] ∧ c = 0 ∨ ∃ b l, base = some ⟨b, 0, none⟩ ∧ b ≠ sp ∧ Blk w b 170 l ∧ l.length = 2 * c ∧ l.take (2 * rs.length) = rcells rs ∧ ∀ v ∈ l, v.oneCell' = true

/-- A set: in block sp; its ranges in block row. -/
def SetAt (w : World) (sp : Nat) (most : Int) (fl : Nat) (rs : List (Nat × Nat)) (row : Option Nat) : Prop :=
  ∃ base c, Blk w sp 233 [.int .i64 most, .int .u64 (fl : Int), .slice base rs.length c] ∧ rs.length ≤ c ∧ c ≤ 9223372036854775807 ∧ row = base.map (·.block) ∧ RowAt w sp base c rs

/-- All but the set's own blocks is as it was. -/
structure Kept (w w' : World) (sp : Nat) (row : Option Nat) : Prop where
  os : w'.os = w.os
  tape : w'.tape = w.tape
  output : w'.output = w.output
  size : w.heap.size ≤ w'.heap.size
  block : ∀ k, k < w.heap.size → k ≠ sp → some k ≠ row → w'.heap[k]? = w.heap[k]?

theorem RowAt.cell_hi {w : World} {sp : Nat} {base : Option Addr} {c : Nat} {rs : List (Nat × Nat)} (h : RowAt w sp base c rs) {i : Nat} (hi : i < rs.length) :
    ∃ b, base = some ⟨b, 0, none⟩ ∧ b ≠ sp ∧ b < w.heap.size ∧ w.cell? ⟨b, i * 2 + 1, none⟩ = some (.int .u64 ((rs.getD i (0, 0)).2 : Int)) ∧ w.cell? ⟨b, i * 2, none⟩ = some (.int .u64 ((rs.getD i (0, 0)).1 : Int)) := by
  rcases h with ⟨_, rfl, _⟩ | ⟨b, l, h1, h2, h3, h4, h5, _⟩
  · simp at hi
  · refine ⟨b, h1, h2, h3.lt, ?_, ?_⟩
    · rw [h3.cell, ← rcells_hi rs i hi, ← h5, List.getElem?_take, if_pos (by omega)]
    · rw [h3.cell, ← rcells_lo rs i hi, ← h5, List.getElem?_take, if_pos (by omega)]

theorem RowAt.of_heap {w w' : World} {sp : Nat} {base : Option Addr} {c : Nat} {rs : List (Nat × Nat)} (h : RowAt w sp base c rs) (e : ∀ b, base = some ⟨b, 0, none⟩ → w'.heap[b]? = w.heap[b]?) : RowAt w' sp base c rs := by
  rcases h with ⟨h1, h2, h3⟩ | ⟨b, l, h1, h2, h3, h4⟩
  · exact .inl ⟨h1, h2, h3⟩
  · exact .inr ⟨b, l, h1, h2, h3.of_heap (e b h1), h4⟩

theorem _root_.Go.Proofs.YtphbledmopchnaaGreatDoor.Mm.Blk.stCell {w : World} {b : Nat} {t : TypeId} {l : List Value} (h : Blk w b t l) (o : Nat) (v : Value) : Blk (w.setCell ⟨b, o, none⟩ v) b t (l.set o v) := by
  rw [setCell_eq_setRow w b o l.toArray t (0, 0) v h]
  have := setRow_heap w b l.toArray (l.toArray.setIfInBounds o v) t (0, 0) h
  unfold Blk
  rw [this]
  simp
theorem _root_.Go.Proofs.YtphbledmopchnaaGreatDoor.Mm.Blk.stCell_other {w : World} {b : Nat} {t : TypeId} {l : List Value} (h : Blk w b t l) (a : Addr) (v : Value) (hne : b ≠ a.block) : Blk (w.setCell a v) b t l :=
  h.of_heap (Below.heap_setCell w a v b hne)

/-- What join comes to, once the new slice is stored. -/
theorem post_join {w W' w' : World} {sp : Nat} {base : Option Addr} {c : Nat} {most : Int} {fl : Nat} {rs rs' : List (Nat × Nat)} {b' c' : Nat} {l' : List Value}
    (hs : Blk w sp 233 [.int .i64 most, .int .u64 (fl : Int), .slice base rs.length c]) (R : RowAt w sp base c rs) (hE : Below w.heap.size w W')
    (o1 : Blk w' b' 170 l') (o2 : l'.length = 2 * c') (o3 : rs'.length ≤ c') (o4 : c' ≤ 9223372036854775807) (o5 : l'.take (2 * rs'.length) = rcells rs') (o6 : ∀ v ∈ l', v.oneCell' = true)
    (o7 : W'.grownBy w' (base.map (·.block))) (o8 : some b' = base.map (·.block) ∨ W'.heap.size ≤ b') :
    SetAt (w'.setCell ⟨sp, 2, none⟩ (.slice (some ⟨b', 0, none⟩) rs'.length c')) sp most fl rs' (some b') ∧ Kept w (w'.setCell ⟨sp, 2, none⟩ (.slice (some ⟨b', 0, none⟩) rs'.length c')) sp (base.map (·.block)) ∧ (some b' = base.map (·.block) ∨ w.heap.size ≤ b') := by
  have hlt := hs.lt
  have hsz := hE.size
  have hrow : ∀ k, base.map (·.block) = some k → k ≠ sp := by
    intro k hk
    rcases R with ⟨rfl, _⟩ | ⟨b, l, rfl, hb, _⟩
    · cases hk
    · simp at hk; rw [← hk]; exact hb
  have hb' : b' ≠ sp := by
    rcases o8 with h | h
    · exact hrow b' h.symm
    · omega
  have hsp' : Blk w' sp 233 [.int .i64 most, .int .u64 (fl : Int), .slice base rs.length c] :=
    (hs.of_heap (hE.block sp hlt)).of_heap (o7.block sp (by omega) (fun e => hrow sp e.symm rfl))
  refine ⟨⟨some ⟨b', 0, none⟩, c', hsp'.stCell 2 _, o3, o4, rfl, .inr ⟨b', l', rfl, hb', o1.stCell_other _ _ hb', o2, o5, o6⟩⟩, ⟨?_, ?_, ?_, ?_, ?_⟩, ?_⟩
  · exact o7.os.trans hE.os
  · exact o7.tape.trans hE.tape
  · exact o7.output.trans hE.output
  · have := o7.size
    show w.heap.size ≤ (w'.heap.modify _ _).size
    simp; omega
  · intro k hk hne hr
    rw [Below.heap_setCell _ _ _ _ hne, o7.block k (by omega) hr, hE.block k hk]
  · rcases o8 with h | h
    · exact .inl h
    · exact .inr (by omega)

end Go.Proofs.YtphbledmopchnaaGreatDoor.St

/-
  (*Set).join
-/
namespace Go.Proofs.YtphbledmopchnaaGreatDoor.St
open Go.RowKit Go.Lib Mm

theorem hid {p : Prop} (h : p) : Hid p := h

def Small (rs : List (Nat × Nat)) : Prop := ∀ r ∈ rs, r.1 < 18446744073709551616 ∧ r.2 < 18446744073709551616

theorem Small.get {rs : List (Nat × Nat)} (h : Small rs) {i : Nat} (hi : i < rs.length) : (rs.getD i (0, 0)).1 < 18446744073709551616 ∧ (rs.getD i (0, 0)).2 < 18446744073709551616 := by
  apply h
  rw [List.getD_eq_getElem?_getD, List.getElem?_eq_getElem hi]
  exact List.getElem_mem _

theorem sorted_get : ∀ {rs : List (Nat × Nat)}, Rg.Sorted rs → ∀ {a b : Nat}, a ≤ b → b < rs.length → (rs.getD a (0, 0)).1 ≤ (rs.getD b (0, 0)).1 ∧ (rs.getD a (0, 0)).2 ≤ (rs.getD b (0, 0)).2
  | [], _, a, b, _, hb => by simp at hb
  | r :: t, h, 0, 0, _, _ => ⟨Nat.le_refl _, Nat.le_refl _⟩
  | r :: t, h, 0, b + 1, _, hb => by
    have hm : t.getD b (0, 0) ∈ t := by
      rw [List.getD_eq_getElem?_getD, List.getElem?_eq_getElem (by simpa using hb)]
      exact List.getElem_mem _
    have h1 := h.2.1 _ hm
    have h2 := h.2.2.le _ hm
    have h3 := h.1
    simp only [List.getD_cons_zero, List.getD_cons_succ]
    omega
  | r :: t, h, a + 1, b + 1, hab, hb => by
    simp only [List.getD_cons_succ]
    exact sorted_get h.2.2 (by omega) (by simpa using hb)

theorem search1 (bs br sp lo : Nat) (base : Option Addr) (c : Nat) (rs : List (Nat × Nat)) (W : World) (hS : Rg.Sorted rs) (hB : Small rs) (hn : rs.length ≤ 1000000) (hlo : lo < 18446744073709551616)
    (cs : W.cell? ⟨bs, 0, none⟩ = some (.pointer (some ⟨sp, 0, none⟩))) (cr : W.cell? ⟨br, 0, none⟩ = some (.int .u64 (lo : Int)))
    (cl : W.cell? ⟨sp, 2, none⟩ = some (.slice base rs.length c)) (R : RowAt W sp base c rs) :
    Calls Tryz.prog 171 #[.int .i64 (rs.length : Nat), .func (.func 221) #[] #[.pointer (some ⟨bs, 0, none⟩), .pointer (some ⟨br, 0, none⟩)]] W fun e w' => e = .returned (.int .i64 (Rg.fst' lo rs : Nat)) ∧ ∃ q, w' = W.drewN q := by
  have hc : (List.range rs.length).countP (fun i => !(!decide ((rs.getD i (0, 0)).2 + 1 < lo))) = Rg.fst' lo rs := by
    simp only [Bool.not_not]
    exact countP_range_list rs (fun r => decide (r.2 + 1 < lo))
  rw [← hc]
  refine search_any 221 _ rs.length (fun i => !decide ((rs.getD i (0, 0)).2 + 1 < lo)) W (enters_of Tryz.func221 (by kernel_rfl) rfl) (by omega) (fun m i hi => ?_) (fun a b hab hb h => ?_)
  · obtain ⟨b, rfl, _, _, h1, h2⟩ := R.cell_hi hi
    exact join1_any bs br sp b c rs.length i lo _ (W.drewN m) hi (by omega) cs cr cl h1 hlo (hB.get hi).2
  · have := (sorted_get hS hab hb).2
    simp only [Bool.not_eq_true', decide_eq_false_iff_not] at h ⊢
    omega

theorem search2 (bs br sp hi : Nat) (base : Option Addr) (c : Nat) (rs : List (Nat × Nat)) (W : World) (hS : Rg.Sorted rs) (hB : Small rs) (hn : rs.length ≤ 1000000) (hhi : hi < 18446744073709551616)
    (cs : W.cell? ⟨bs, 0, none⟩ = some (.pointer (some ⟨sp, 0, none⟩))) (cr : W.cell? ⟨br, 1, none⟩ = some (.int .u64 (hi : Int)))
    (cl : W.cell? ⟨sp, 2, none⟩ = some (.slice base rs.length c)) (R : RowAt W sp base c rs) :
    Calls Tryz.prog 171 #[.int .i64 (rs.length : Nat), .func (.func 223) #[] #[.pointer (some ⟨br, 0, none⟩), .pointer (some ⟨bs, 0, none⟩)]] W fun e w' => e = .returned (.int .i64 (Rg.end' hi rs : Nat)) ∧ ∃ q, w' = W.drewN q := by
  have hc : (List.range rs.length).countP (fun i => !(decide (hi + 1 < (rs.getD i (0, 0)).1))) = Rg.end' hi rs := by
    rw [countP_range_list rs (fun r => !decide (hi + 1 < r.1))]
    unfold Rg.end'
    apply List.countP_congr
    intro x _
    simp
  rw [← hc]
  refine search_any 223 _ rs.length (fun i => decide (hi + 1 < (rs.getD i (0, 0)).1)) W (enters_of Tryz.func223 (by kernel_rfl) rfl) (by omega) (fun m i hi' => ?_) (fun a b hab hb h => ?_)
  · obtain ⟨b, rfl, _, _, h1, h2⟩ := R.cell_hi hi'
    exact join2_any bs br sp b c rs.length i hi _ (W.drewN m) hi' (by omega) cs cr cl h2 hhi (hB.get hi').1
  · have := (sorted_get hS hab hb).1
    simp only [decide_eq_true_eq] at h ⊢
    omega

/-- The call of slices.Replace that join makes: in whatever world. -/
theorem join_replace (sp lo hi : Nat) (base : Option Addr) (c : Nat) (most : Int) (fl : Nat) (rs : List (Nat × Nat)) (w W6 : World) (hS : Rg.Sorted rs) (hn : rs.length ≤ 1000000) (hlo : lo ≤ hi)
    (hs : Blk w sp 233 [.int .i64 most, .int .u64 (fl : Int), .slice base rs.length c]) (R : RowAt w sp base c rs) (hc : rs.length ≤ c) (hc63 : c ≤ 9223372036854775807)
    (hE : Below w.heap.size w W6) (W' : World) (hW' : W'.heap = (W6.alloc (.cells #[.int .u64 ((Rg.mgd lo hi rs).1 : Int), .int .u64 ((Rg.mgd lo hi rs).2 : Int)] 170)).heap) (hos : W'.os = W6.os) (htp : W'.tape = W6.tape) (hou : W'.output = W6.output) :
    Calls Tryz.prog 224 #[.slice base rs.length c, .int .i64 (Rg.fst' lo rs : Nat), .int .i64 (Rg.end' hi rs : Nat), .slice (some ⟨W6.heap.size, 0, none⟩) 1 1] W' fun e w' =>
      ∃ b' c', e = .returned (.slice (some ⟨b', 0, none⟩) (Rg.ins lo hi rs).length c') ∧ (SetAt (w'.setCell ⟨sp, 2, none⟩ (.slice (some ⟨b', 0, none⟩) (Rg.ins lo hi rs).length c')) sp most fl (Rg.ins lo hi rs) (some b') ∧ Kept w (w'.setCell ⟨sp, 2, none⟩ (.slice (some ⟨b', 0, none⟩) (Rg.ins lo hi rs).length c')) sp (base.map (·.block)) ∧ (some b' = base.map (·.block) ∨ w.heap.size ≤ b'))
        ∧ W'.grownBy w' (base.map (·.block)) := by
  have hfe0 := Rg.fst'_le_end' hlo hS
  have hel := Rg.end'_le hi rs
  have hsz := hE.size
  have hlt := hs.lt
  have hvb : Blk W' W6.heap.size 170 [.int .u64 ((Rg.mgd lo hi rs).1 : Int), .int .u64 ((Rg.mgd lo hi rs).2 : Int)] :=
    (Blk.new W6 170 _).of_heap (by rw [hW'])
  have hE' : Below w.heap.size w W' := ⟨hos.trans hE.os, htp.trans hE.tape, hou.trans hE.output, by rw [hW']; simp; omega, fun k hk => by rw [hW', Below.heap_alloc _ _ _ (by omega)]; exact hE.block k hk⟩
  have hlen : Rg.fst' lo rs + 1 + (rs.length - Rg.end' hi rs) = (Rg.ins lo hi rs).length := by
    rw [Rg.ins_eq rs lo hi hlo hS]; simp; omega
  have hcells : rcells (Rg.ins lo hi rs) = (rcells rs).take (2 * Rg.fst' lo rs) ++ [.int .u64 ((Rg.mgd lo hi rs).1 : Int), .int .u64 ((Rg.mgd lo hi rs).2 : Int)] ++ (rcells rs).drop (2 * Rg.end' hi rs) := by
    rw [Rg.ins_eq rs lo hi hlo hS, rcells_append, rcells_take, rcells_drop]
    simp [rcells]
  refine (replace_any base rs.length c (Rg.fst' lo rs) (Rg.end' hi rs) W6.heap.size (rcells rs) [.int .u64 ((Rg.mgd lo hi rs).1 : Int), .int .u64 ((Rg.mgd lo hi rs).2 : Int)] W' hfe0 hel hc hc63 hn ?_ hvb rfl ?_).mono ?_
  · rcases R with ⟨rfl, rfl, rfl⟩ | ⟨b, l, h1, h2, h3, h4, h5, h6⟩
    · exact .inl ⟨rfl, rfl, rfl, rfl⟩
    · have := h3.lt
      exact .inr ⟨b, l, h1, h3.of_heap (hE'.block b h3.lt), h4, h5.symm, by omega, h6⟩
  · intro v hv
    simp at hv
    rcases hv with rfl | rfl <;> rfl
  · rintro e w' ⟨b', c', l', rfl, o1, o2, o3, o4, o5, o6, o7, o8⟩
    rw [hlen] at o3 o5
    rw [hlen]
    exact ⟨b', c', rfl, post_join hs R hE' o1 o2 o3 o4 (by rw [o5, hcells]) o6 o7 o8, o7⟩

end Go.Proofs.YtphbledmopchnaaGreatDoor.St

/-
  NewSet, bound, Floor, pick, Has; Add out of join.
-/
namespace Go.Proofs.YtphbledmopchnaaGreatDoor.St
open Go.RowKit Go.Lib Mm

theorem ret_slot {v v' : Value} (h : v = v') : Ending.returned v = .returned v' := by rw [h]

theorem bound_any (sp : Nat) (most : Int) (hm1 : 1 ≤ most) (w : World) (h0 : w.cell? ⟨sp, 0, none⟩ = some (.int .i64 most)) :
    Calls Tryz.prog 169 #[.pointer (some ⟨sp, 0, none⟩)] w fun e w' => e = .returned (.int .i64 most) ∧ w' = w := by
  go_enter Tryz.func169, Tryz.ntmps169
  go_wp2
  go_ret
  exact ⟨ret_int (by omega), rfl⟩

theorem floor_any (sp : Nat) (fl : Nat) (w : World) (h0 : w.cell? ⟨sp, 1, none⟩ = some (.int .u64 (fl : Int))) :
    Calls Tryz.prog 129 #[.pointer (some ⟨sp, 0, none⟩)] w fun e w' => e = .returned (.int .u64 (fl : Int)) ∧ w' = w := by
  go_enter Tryz.func129, Tryz.ntmps129
  go_wp2
  go_ret
  exact ⟨rfl, rfl⟩

theorem search3 (bs br sp v : Nat) (base : Option Addr) (c : Nat) (rs : List (Nat × Nat)) (W : World) (hS : Rg.Sorted rs) (hn : rs.length ≤ 1000000)
    (cs : W.cell? ⟨bs, 0, none⟩ = some (.pointer (some ⟨sp, 0, none⟩))) (cr : W.cell? ⟨br, 0, none⟩ = some (.int .u64 (v : Int)))
    (cl : W.cell? ⟨sp, 2, none⟩ = some (.slice base rs.length c)) (R : RowAt W sp base c rs) :
    Calls Tryz.prog 171 #[.int .i64 (rs.length : Nat), .func (.func 172) #[] #[.pointer (some ⟨bs, 0, none⟩), .pointer (some ⟨br, 0, none⟩)]] W fun e w' => e = .returned (.int .i64 (rs.countP (fun r => decide (r.2 < v)) : Nat)) ∧ ∃ q, w' = W.drewN q := by
  have hc : (List.range rs.length).countP (fun i => !(decide (v ≤ (rs.getD i (0, 0)).2))) = rs.countP (fun r => decide (r.2 < v)) := by
    rw [countP_range_list rs (fun r => !decide (v ≤ r.2))]
    apply List.countP_congr
    intro x _
    simp
  rw [← hc]
  refine search_any 172 _ rs.length (fun i => decide (v ≤ (rs.getD i (0, 0)).2)) W (enters_of Tryz.func172 (by kernel_rfl) rfl) (by omega) (fun m i hi => ?_) (fun a b hab hb h => ?_)
  · obtain ⟨b, rfl, _, _, h1, h2⟩ := R.cell_hi hi
    exact has1_any bs br sp b c rs.length i v _ (W.drewN m) hi (by omega) cs cr cl h1
  · have := (sorted_get hS hab hb).2
    simp only [decide_eq_true_eq] at h ⊢
    omega

theorem row_ne {w : World} {sp : Nat} {base : Option Addr} {c : Nat} {rs : List (Nat × Nat)} (R : RowAt w sp base c rs) : ∀ k, base.map (·.block) = some k → k ≠ sp ∧ k < w.heap.size := by
  intro k hk
  rcases R with ⟨rfl, _⟩ | ⟨b, l, rfl, hb, hB, _⟩
  · cases hk
  · simp at hk; rw [← hk]; exact ⟨hb, hB.lt⟩

set_option maxHeartbeats 2000000 in
set_option maxRecDepth 100000 in
theorem has_any (sp v : Nat) (base : Option Addr) (c : Nat) (most : Int) (fl : Nat) (rs : List (Nat × Nat)) (w : World) (hS : Rg.Sorted rs) (hn : rs.length ≤ 1000000)
    (hs : Blk w sp 233 [.int .i64 most, .int .u64 (fl : Int), .slice base rs.length c]) (R : RowAt w sp base c rs) :
    Calls Tryz.prog 128 #[.pointer (some ⟨sp, 0, none⟩), .int .u64 (v : Int)] w fun e w' => e = .returned (.bool (decide (v < fl) || Rg.has v rs)) ∧ Below w.heap.size w w' := by
  obtain ⟨W, hW⟩ : ∃ W, W = (w.alloc (.cells #[.pointer (some ⟨sp, 0, none⟩)] 273)).alloc (.cells #[.int .u64 (v : Int)] 43) := ⟨_, rfl⟩
  have hbs : Blk W w.heap.size 273 [.pointer (some ⟨sp, 0, none⟩)] := by rw [hW]; exact (Blk.new w 273 _).alloc _
  have hbr : Blk W (w.heap.size + 1) 43 [.int .u64 (v : Int)] := by
    rw [hW]
    have := Blk.new (w.alloc (.cells #[.pointer (some ⟨sp, 0, none⟩)] 273)) 43 [.int .u64 (v : Int)]
    rwa [World.size_alloc] at this
  have hE : Below w.heap.size w W := by rw [hW]; exact ((Below.refl _ w).alloc (Nat.le_refl _) _).alloc (by simp) _
  have hsp : Blk W sp 233 [.int .i64 most, .int .u64 (fl : Int), .slice base rs.length c] := hs.of_heap (hE.block sp hs.lt)
  have RW : RowAt W sp base c rs := R.of_heap (fun b hb => hE.block b (row_ne R b (by rw [hb]; rfl)).2)
  have s1 := search3 w.heap.size (w.heap.size + 1) sp v base c rs W hS hn (hbs.cell 0) (hbr.cell 0) (hsp.cell 2) RW
  have hw2 : w.cell? ⟨sp, 2, none⟩ = some (.slice base rs.length c) := hs.cell 2
  have hlt : sp < w.heap.size := hs.lt
  have hhas := hid (show Rg.has v rs = (decide (rs.countP (fun r => decide (r.2 < v)) < rs.length) && decide ((rs.getD (rs.countP (fun r => decide (r.2 < v))) (0, 0)).1 ≤ v)) from rfl)
  have hIl : rs.countP (fun r => decide (r.2 < v)) ≤ rs.length := List.countP_le_length
  generalize rs.countP (fun r => decide (r.2 < v)) = I at s1 hhas hIl
  have k0 : W.cell? ⟨w.heap.size, 0, none⟩ = some (.pointer (some ⟨sp, 0, none⟩)) := hbs.cell 0
  have k1 : W.cell? ⟨w.heap.size + 1, 0, none⟩ = some (.int .u64 (v : Int)) := hbr.cell 0
  have k2 : W.cell? ⟨sp, 1, none⟩ = some (.int .u64 (fl : Int)) := hsp.cell 1
  have k3 : W.cell? ⟨sp, 2, none⟩ = some (.slice base rs.length c) := hsp.cell 2
  have HS1 := hid s1
  have HE := hid hE
  have HKK := hid (And.intro k0 (And.intro k1 (And.intro k2 k3)))
  have HR := hid RW
  clear s1 hE RW hbs hbr hsp hs k0 k1 k2 k3 R
  subst hW
  go_enter Tryz.func128, Tryz.ntmps128
  go_wp2_with fail
  refine HS1.out.mono ?_
  rintro e w' ⟨rfl, q1, rfl⟩
  go_wp2_with fail
  generalize hWq : ((w.alloc (.cells #[.pointer (some ⟨sp, 0, none⟩)] 273)).alloc (.cells #[.int .u64 (v : Int)] 43)).drewN q1 = Wq
  obtain ⟨k0, k1, k2, k3⟩ := HKK.out
  have HE2 : Hid (Below w.heap.size w Wq) := by rw [← hWq]; exact ⟨HE.out.os, HE.out.tape, HE.out.output, HE.out.size, HE.out.block⟩
  have j0 : Wq.cell? ⟨w.heap.size, 0, none⟩ = some (.pointer (some ⟨sp, 0, none⟩)) := by rw [← hWq]; exact k0
  have j1 : Wq.cell? ⟨w.heap.size + 1, 0, none⟩ = some (.int .u64 (v : Int)) := by rw [← hWq]; exact k1
  have j2 : Wq.cell? ⟨sp, 1, none⟩ = some (.int .u64 (fl : Int)) := by rw [← hWq]; exact k2
  have j3 : Wq.cell? ⟨sp, 2, none⟩ = some (.slice base rs.length c) := by rw [← hWq]; exact k3
  have HR2 : Hid (RowAt Wq sp base c rs) := by rw [← hWq]; exact RowAt.of_heap HR.out (fun _ _ => rfl)
  clear hWq HKK k0 k1 k2 k3 HS1 HR HE hw2
  by_cases h1 : v < fl
  · have g1 : (v : Int) < (fl : Int) := by omega
    have HF := hid h1
    clear h1
    go_quiet (fail)
    go_wp2
    go_ret
    exact ⟨ret_bool (by simp [HF.out]), HE2.out.os, HE2.out.tape, HE2.out.output, HE2.out.size, HE2.out.block⟩
  · have g1 : decide ((v : Int) < (fl : Int)) = false := by simp; omega
    by_cases h2 : I < rs.length
    · have g3 : (I : Int) < ((rs.length : Nat) : Int) := by omega
      obtain ⟨b, hb, _, _, _, k4⟩ := HR2.out.cell_hi h2
      subst hb
      generalize (rs.getD I (0, 0)).1 = x at k4 hhas
      go_quiet (fail)
      go_wp2
      go_ret
      exact ⟨ret_bool (by rw [hhas.out]; simp [h1, h2]), HE2.out.os, HE2.out.tape, HE2.out.output, HE2.out.size, HE2.out.block⟩
    · have g2 : decide ((I : Int) < ((rs.length : Nat) : Int)) = false := by simp; omega
      go_quiet (fail)
      go_wp2
      go_ret
      exact ⟨ret_bool (by rw [hhas.out]; simp [h1, h2]), HE2.out.os, HE2.out.tape, HE2.out.output, HE2.out.size, HE2.out.block⟩

end Go.Proofs.YtphbledmopchnaaGreatDoor.St

/-
  (*Set).Add, where no range is too many, out of join.
-/
namespace Go.Proofs.YtphbledmopchnaaGreatDoor.St
open Go.RowKit Go.Lib Mm

def JoinSaid : Prop := ∀ (sp lo hi : Nat) (base : Option Addr) (c : Nat) (most : Int) (fl : Nat) (rs : List (Nat × Nat)) (w : World), Rg.Sorted rs → Small rs → rs.length ≤ 1000000 → lo ≤ hi → hi < 18446744073709551616 →
    Blk w sp 233 [.int .i64 most, .int .u64 (fl : Int), .slice base rs.length c] → RowAt w sp base c rs → rs.length ≤ c → c ≤ 9223372036854775807 →
    Calls Tryz.prog 168 #[.pointer (some ⟨sp, 0, none⟩), .agg #[.int .u64 (lo : Int), .int .u64 (hi : Int)]] w fun e w' => e = .returned (.tuple #[]) ∧
      ∃ b', SetAt w' sp most fl (Rg.ins lo hi rs) (some b') ∧ Kept w w' sp (base.map (·.block)) ∧ (some b' = base.map (·.block) ∨ w.heap.size ≤ b')

theorem SetAt.cells {w : World} {sp : Nat} {most : Int} {fl : Nat} {rs : List (Nat × Nat)} {row : Option Nat} (h : SetAt w sp most fl rs row) :
    ∃ base c, w.cell? ⟨sp, 0, none⟩ = some (.int .i64 most) ∧ w.cell? ⟨sp, 1, none⟩ = some (.int .u64 (fl : Int)) ∧ w.cell? ⟨sp, 2, none⟩ = some (.slice base rs.length c) := by
  obtain ⟨base, c, h1, _⟩ := h
  exact ⟨base, c, h1.cell 0, h1.cell 1, h1.cell 2⟩

theorem SetAt.drewN {w : World} {sp : Nat} {most : Int} {fl : Nat} {rs : List (Nat × Nat)} {row : Option Nat} (h : SetAt w sp most fl rs row) (q : Nat) : SetAt (w.drewN q) sp most fl rs row := by
  obtain ⟨base, c, h1, h2, h3, h4, h5⟩ := h
  exact ⟨base, c, h1, h2, h3, h4, h5.of_heap (fun _ _ => rfl)⟩

theorem Kept.drewN {w w' : World} {sp : Nat} {row : Option Nat} (h : Kept w w' sp row) (q : Nat) : Kept w (w'.drewN q) sp row := ⟨h.os, h.tape, h.output, h.size, h.block⟩

set_option maxHeartbeats 2000000 in
set_option maxRecDepth 100000 in
theorem add_keep (hJ : JoinSaid) (sp lo hi : Nat) (most : Int) (fl : Nat) (rs : List (Nat × Nat)) (row : Option Nat) (w : World) (hset : SetAt w sp most fl rs row) (hS : Rg.Sorted rs) (hB : Small rs) (hn : rs.length ≤ 1000000)
    (hlh : max lo fl ≤ hi) (hhi : hi < 18446744073709551616) (hm : 1 ≤ most) (hle : ((Rg.ins (max lo fl) hi rs).length : Int) ≤ most) :
    Calls Tryz.prog 127 #[.pointer (some ⟨sp, 0, none⟩), .int .u64 (lo : Int), .int .u64 (hi : Int)] w fun e w' => e = .returned (.tuple #[]) ∧
      ∃ b', SetAt w' sp most fl (Rg.ins (max lo fl) hi rs) (some b') ∧ Kept w w' sp row ∧ (some b' = row ∨ w.heap.size ≤ b') := by
  obtain ⟨base, c, h1, h2, h3, h4, h5⟩ := hset
  have hj := hJ sp (max lo fl) hi base c most fl rs w hS hB hn hlh hhi h1 h5 h2 h3
  rw [← h4] at hj
  have hmx : ((max lo fl : Nat) : Int) = max (lo : Int) (fl : Int) := by omega
  rw [hmx] at hj
  have g2 : ¬ ((hi : Int) < max (lo : Int) (fl : Int)) := by omega
  have k1 : w.cell? ⟨sp, 1, none⟩ = some (.int .u64 (fl : Int)) := h1.cell 1
  have HJ := hid hj
  generalize Rg.ins (max lo fl) hi rs = rs' at *
  clear hj hmx h1 h2 h3 h4 h5 hJ hS hB hn hhi hlh
  go_enter Tryz.func127, Tryz.ntmps127
  go_wp2_with (go_at_call 168; refine HJ.out.mono ?_; rintro e w' ⟨rfl, b', hs', hk, hr⟩)
  obtain ⟨base', c', j0, j1, j2⟩ := hs'.cells
  have HS := hid hs'
  have HK := hid hk
  have HR := hid hr
  clear hs' hk hr HJ k1 g2
  go_quiet ((go_at_call 169; exact Calls.quiet_of_same (bound_any sp most hm _ (by simpa using j0))))
  go_wp2
  go_end0
  exact ⟨rfl, b', SetAt.drewN HS.out _, Kept.drewN HK.out _, HR.out⟩
end Go.Proofs.YtphbledmopchnaaGreatDoor.St

/-
  slices.Delete of the first element, over this dump.
-/
namespace Go.Proofs.YtphbledmopchnaaGreatDoor.St
open Go.RowKit Go.Lib Mm

set_option maxHeartbeats 2000000 in
set_option maxRecDepth 100000 in
theorem delete_first (b m c : Nat) (l : List Value) (w : World) (hm : 1 ≤ m) (hnc : m + 1 ≤ c) (hc : c ≤ 9223372036854775807) (hbig : m ≤ 1000000)
    (h : Blk w b 170 l) (hl : l.length = 2 * c) (h1 : ∀ v ∈ l, v.oneCell' = true) :
    Calls Tryz.prog 225 #[.slice (some ⟨b, 0, none⟩) (m + 1) c, .int .i64 0, .int .i64 1] w fun e w' =>
      Out w w' (some b) e m ((l.take (2 * (m + 1))).drop 2) := by
  have hvl : ((l.take (2 * (m + 1))).drop 2).length = 2 * m := by simp; omega
  have h1v : ∀ v ∈ (l.take (2 * (m + 1))).drop 2, v.oneCell' = true := fun v hv => h1 v (List.mem_of_mem_take (List.mem_of_mem_drop hv))
  have hsrc : ∀ j v, ((l.take (2 * (m + 1))).drop 2)[j]? = some v → l[2 + j]? = some v := fun j v hj => by
    rw [List.getElem?_drop, List.getElem?_take] at hj
    split at hj
    · exact hj
    · cases hj
  have hld : (loadCellsFrom ⟨b, 2, none⟩ 0 (m * 2) #[]).run Tryz.prog w.drew = .ok ((l.take (2 * (m + 1))).drop 2).toArray w.drew := by
    have hf := run_firstCells_some (P := Tryz.prog) w.drew 2 m ⟨b, 2, none⟩ m (c - 1) ((l.take (2 * (m + 1))).drop 2) (by omega) (fun j v hj => by
      rw [Addr.add_lit]; exact (Blk.cell h (2 + j)).trans (hsrc j v hj))
    simpa [Builtin.firstCells, loadCells] using hf
  have hst : (storeCells ⟨b, 0, none⟩ ((l.take (2 * (m + 1))).drop 2)).run Tryz.prog w.drew = .ok () (put w.drew b (splice l 0 ((l.take (2 * (m + 1))).drop 2))) :=
    run_storeCells_blk (P := Tryz.prog) (w := w.drew) (o := 0) h _ (by omega) h1v
  have hl1 : (splice l 0 ((l.take (2 * (m + 1))).drop 2)).length = 2 * c := by rw [splice_length _ _ _ (by omega), hl]
  have ht1 : (splice l 0 ((l.take (2 * (m + 1))).drop 2)).take (2 * m) = (l.take (2 * (m + 1))).drop 2 := by
    have := splice_end l ((l.take (2 * (m + 1))).drop 2) 0 (by omega)
    rw [hvl] at this
    simpa using this
  have h11 : ∀ v ∈ splice l 0 ((l.take (2 * (m + 1))).drop 2), v.oneCell' = true := splice_one h1 h1v
  have hB1 : Blk (put w.drew b (splice l 0 ((l.take (2 * (m + 1))).drop 2))) b 170 (splice l 0 ((l.take (2 * (m + 1))).drop 2)) := Blk.put (w := w.drew) h _
  generalize splice l 0 ((l.take (2 * (m + 1))).drop 2) = l1 at hst hl1 ht1 h11 hB1
  generalize (l.take (2 * (m + 1))).drop 2 = X at ht1 hld hst ⊢
  have hcl : ∀ ty cc, (Builtin.clear_ #[63] ty #[.slice (some ⟨b, m * 2, none⟩) 1 cc]).run Tryz.prog (put w.drew b l1) = .ok (.tuple #[]) (put (put w.drew b l1) b (splice l1 (m * 2) (Builtin.zeroCells (Value.agg #[.int .u64 0, .int .u64 0]).cells 1).toList)) := fun ty cc =>
    run_clear_blk (P := Tryz.prog) (o := m * 2) (n := 1) (c := cc) 63 170 ty _ u31 zero36 hB1 (by omega) (by rw [zero2_len]; omega) (zero2_one _)
  have ht2 : (splice l1 (m * 2) (Builtin.zeroCells (Value.agg #[.int .u64 0, .int .u64 0]).cells 1).toList).take (2 * m) = X := by
    rw [splice_take_below _ _ _ _ (by rw [zero2_len]; omega) (by omega), ht1]
  have hl2 : (splice l1 (m * 2) (Builtin.zeroCells (Value.agg #[.int .u64 0, .int .u64 0]).cells 1).toList).length = 2 * c := by rw [splice_length _ _ _ (by rw [zero2_len]; omega), hl1]
  have h12 : ∀ v ∈ splice l1 (m * 2) (Builtin.zeroCells (Value.agg #[.int .u64 0, .int .u64 0]).cells 1).toList, v.oneCell' = true := splice_one h11 (zero2_one _)
  generalize splice l1 (m * 2) (Builtin.zeroCells (Value.agg #[.int .u64 0, .int .u64 0]).cells 1).toList = l2 at hcl ht2 hl2 h12
  have HT2 : Hid _ := ht2
  have H12 : Hid _ := h12
  have HL2 : Hid _ := hl2
  have HB1 : Hid (Blk (put w.drew b l1) b 170 l1) := hB1
  have HG : Hid (w.grownBy (put (put w.drew b l1) b l2) (some b)) := grown_trans (grown_drew w _) (grown_trans (put_grown w.drew b l1) (put_grown _ b l2))
  clear ht1 ht2 h12 hl2 h11 hl1 hB1 h1v hsrc hvl h1 hl h
  have hmc : m ≤ c := by omega
  have hc1 : (1 : Int) ≤ (m : Int) + 1 := by omega
  have hc2 : (m : Int) + 1 ≤ (c : Int) := by omega
  have hcm : ¬ (c = m) := by omega
  have hcm1 : ¬ (c = 1) := by omega
  have e1 : m + 1 - m = 1 := by omega
  go_enter Tryz.func225, Tryz.ntmps225
  go_wp2
  go_region
  go_wp2
  go_ret
  exact ⟨b, c, l2, rfl, Blk.put (HB1.out) l2, HL2.out, by omega, hc, HT2.out, H12.out, HG.out, .inl rfl⟩

end Go.Proofs.YtphbledmopchnaaGreatDoor.St

/-
  (*Set).join: what is known where it calls slices.Replace
-/
namespace Go.Proofs.YtphbledmopchnaaGreatDoor.St
open Go.RowKit Go.Lib Mm

/-- What is known of the world in which join calls slices.Replace. -/
theorem join_facts {w W6 : World} {sp : Nat} {base : Option Addr} {c n : Nat} {most : Int} {fl : Nat} {a b : Int} (hs : Blk w sp 233 [.int .i64 most, .int .u64 (fl : Int), .slice base n c]) (hrow : ∀ k, base.map (·.block) = some k → k ≠ sp ∧ k < w.heap.size)
    (hE : Below w.heap.size w W6) (h1 : Blk W6 w.heap.size 273 [.pointer (some ⟨sp, 0, none⟩)]) (h2 : Blk W6 (w.heap.size + 1) 170 [.int .u64 a, .int .u64 b]) :
    W6.cell? ⟨w.heap.size, 0, none⟩ = some (.pointer (some ⟨sp, 0, none⟩)) ∧ W6.cell? ⟨w.heap.size + 1, 0, none⟩ = some (.int .u64 a) ∧ W6.cell? ⟨w.heap.size + 1, 1, none⟩ = some (.int .u64 b) ∧
    W6.cell? ⟨sp, 2, none⟩ = some (.slice base n c) ∧ sp < W6.heap.size ∧ w.heap.size < W6.heap.size ∧ w.heap.size + 1 < W6.heap.size ∧
    (∀ (W' w' : World) (o : Obj), W'.heap = (W6.alloc o).heap → W'.grownBy w' (base.map (·.block)) → (w'.cell? ⟨w.heap.size, 0, none⟩ = some (.pointer (some ⟨sp, 0, none⟩)) ∧ w'.cell? ⟨w.heap.size + 1, 0, none⟩ = some (.int .u64 a) ∧ w'.cell? ⟨w.heap.size + 1, 1, none⟩ = some (.int .u64 b)) ∧ w'.cell? ⟨sp, 2, none⟩ = some (.slice base n c) ∧ w'.frozen? ⟨sp, 2, none⟩ = false) := by
  have hsp : Blk W6 sp 233 _ := hs.of_heap (hE.block sp hs.lt)
  have l1 := h1.lt
  have l2 := h2.lt
  have l3 := hsp.lt
  have l4 := hs.lt
  refine ⟨h1.cell 0, h2.cell 0, h2.cell 1, hsp.cell 2, l3, l1, l2, ?_⟩
  intro W' w' o hW' hg
  have e : ∀ k, k < W6.heap.size → W'.heap[k]? = W6.heap[k]? := fun k hk => by rw [hW', Below.heap_alloc _ _ _ hk]
  have sz : W6.heap.size ≤ W'.heap.size := by rw [hW']; simp
  have a1 : Blk w' w.heap.size 273 _ := (h1.of_heap (e _ l1)).of_heap (hg.block _ (by omega) (fun h => by have := (hrow _ h.symm).2; omega))
  have a2 : Blk w' sp 233 _ := (hsp.of_heap (e _ l3)).of_heap (hg.block _ (by omega) (fun h => (hrow _ h.symm).1 rfl))
  have a3 : Blk w' (w.heap.size + 1) 170 _ := (h2.of_heap (e _ l2)).of_heap (hg.block _ (by omega) (fun h => by have := (hrow _ h.symm).2; omega))
  exact ⟨⟨a1.cell 0, a3.cell 0, a3.cell 1⟩, a2.cell 2, a2.frozen 2⟩

end Go.Proofs.YtphbledmopchnaaGreatDoor.St

/-
  PLAIN: the document's Add is 'ins'; what a set is behind an Add; a walk down.
-/
namespace Go.Proofs.YtphbledmopchnaaGreatDoor.St.Rg

/-- The document's loop: what it has come to. -/
def dGo : List (Nat × Nat) → Nat → Nat → Bool → List (Nat × Nat) → Nat × Nat × Bool × List (Nat × Nat)
  | [], lo, hi, done, out => (lo, hi, done, out)
  | r :: t, lo, hi, done, out =>
    if r.2 + 1 < lo then dGo t lo hi done (out ++ [r])
    else if hi + 1 < r.1 then dGo t lo hi true ((if done then out else out ++ [(lo, hi)]) ++ [r])
    else dGo t (min lo r.1) (max hi r.2) done out

def dFin (x : Nat × Nat × Bool × List (Nat × Nat)) : List (Nat × Nat) := if x.2.2.1 then x.2.2.2 else x.2.2.2 ++ [(x.1, x.2.1)]

theorem dGo_true : ∀ (t : List (Nat × Nat)) (lo hi : Nat) (out : List (Nat × Nat)), lo ≤ hi → Sorted t → (∀ x ∈ t, hi + 1 < x.1) → dGo t lo hi true out = (lo, hi, true, out ++ t)
  | [], lo, hi, out, _, _, _ => by simp [dGo]
  | r :: t, lo, hi, out, hlh, hs, ha => by
    obtain ⟨h1, h2, h3⟩ := hs
    have hr := ha r (by simp)
    have c1 : ¬ (r.2 + 1 < lo) := by omega
    rw [dGo, if_neg c1, if_pos hr, dGo_true t lo hi _ hlh h3 (fun x hx => ha x (by simp [hx]))]
    simp

theorem dGo_ins : ∀ (t : List (Nat × Nat)) (lo hi : Nat) (out : List (Nat × Nat)), lo ≤ hi → Sorted t → dFin (dGo t lo hi false out) = out ++ ins lo hi t
  | [], lo, hi, out, _, _ => by simp [dGo, dFin, ins]
  | r :: t, lo, hi, out, hlh, hs => by
    obtain ⟨h1, h2, h3⟩ := hs
    rw [dGo, ins]
    by_cases c1 : r.2 + 1 < lo
    · rw [if_pos c1, if_pos c1, dGo_ins t lo hi _ hlh h3]; simp
    · rw [if_neg c1, if_neg c1]
      by_cases c2 : hi + 1 < r.1
      · rw [if_pos c2, if_pos c2, dGo_true t lo hi _ hlh h3 (fun x hx => by have := h2 x hx; omega)]
        simp [dFin]
      · rw [if_neg c2, if_neg c2]
        exact dGo_ins t _ _ out (by omega) h3

/-- A set: floor and ranges, behind an Add (most: 1 or more). -/
def add (most : Nat) (fl : Nat) (rs : List (Nat × Nat)) (lo hi : Nat) : Nat × List (Nat × Nat) :=
  if hi < max lo fl then (fl, rs)
  else if most < (ins (max lo fl) hi rs).length then (((ins (max lo fl) hi rs).getD 0 (0, 0)).2 + 1, (ins (max lo fl) hi rs).tail)
  else (fl, ins (max lo fl) hi rs)

theorem Sorted.tail {l : List (Nat × Nat)} (h : Sorted l) : Sorted l.tail := by
  cases l with
  | nil => exact h
  | cons a t => exact h.2.2

theorem ins_pos (rs : List (Nat × Nat)) (lo hi : Nat) : 0 < (ins lo hi rs).length := by
  induction rs generalizing lo hi with
  | nil => simp [ins]
  | cons r t ih =>
    rw [ins]
    split
    · simp
    · split
      · simp
      · exact ih _ _

/-- What holds of a set: it rises, ends below B, has k ranges at the most; its floor is no more than B. -/
structure Ok (B : Nat) (k : Nat) (fl : Nat) (rs : List (Nat × Nat)) : Prop where
  sorted : Sorted rs
  hi : ∀ r ∈ rs, r.2 < B
  len : rs.length ≤ k
  fl : fl < B

theorem ins_two {l : List (Nat × Nat)} (h : Sorted l) {B : Nat} (hb : ∀ r ∈ l, r.2 < B) (h2 : 1 < l.length) : (l.getD 0 (0, 0)).2 + 1 < B := by
  match l, h2 with
  | a :: b :: t, _ =>
    have h1 := h.2.1 b (by simp)
    have h3 := h.2.2.1
    have h4 := hb b (by simp)
    simp only [List.getD_cons_zero]
    omega

theorem Ok.add {B k fl : Nat} {rs : List (Nat × Nat)} (h : Ok B k fl rs) {most lo hi : Nat} (hm : 1 ≤ most) (hhi : hi < B) : Ok B (k + 1) (add most fl rs lo hi).1 (add most fl rs lo hi).2 := by
  unfold Rg.add
  by_cases c1 : hi < max lo fl
  · rw [if_pos c1]; exact ⟨h.sorted, h.hi, by have := h.len; show rs.length ≤ k + 1; omega, h.fl⟩
  · rw [if_neg c1]
    have s1 := sorted_ins rs (max lo fl) hi (by omega) h.sorted
    have l1 := ins_length rs (max lo fl) hi
    have b1 : ∀ r ∈ ins (max lo fl) hi rs, r.2 < B := fun r hr => by
      have := ins_hi rs (max lo fl) hi (B - 1) (by omega) (fun x hx => by have := h.hi x hx; omega) r hr
      omega
    have hl := h.len
    by_cases c2 : most < (ins (max lo fl) hi rs).length
    · rw [if_pos c2]
      exact ⟨s1.tail, fun r hr => b1 r (List.mem_of_mem_tail hr), by simp; omega, ins_two s1 b1 (by omega)⟩
    · rw [if_neg c2]
      exact ⟨s1, b1, by show (ins (max lo fl) hi rs).length ≤ k + 1; omega, h.fl⟩

/-- The document's Has. -/
def dHas (n : Nat) (rs : List (Nat × Nat)) : Bool := rs.any fun r => decide (r.1 ≤ n) && decide (n ≤ r.2)
theorem dHas_eq (n : Nat) (rs : List (Nat × Nat)) (h : Sorted rs) : dHas n rs = has n rs := by
  rw [Bool.eq_iff_iff, has_iff rs n h]
  simp [dHas, Mem, List.any_eq_true]

/-- A walk: the last ones first; left behind so many (0: never). -/
def down (rs : List (Nat × Nat)) (left : Nat) : List (Nat × Nat) := if left = 0 then rs.reverse else rs.reverse.take left

end Go.Proofs.YtphbledmopchnaaGreatDoor.St.Rg
