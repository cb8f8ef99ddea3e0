/-
  A frame in memory; soundFrame.
-/
import Derived.Test.YtphbledmopchnaaDoorSound
namespace Go.Proofs.YtphbledmopchnaaDoor
open Go.RowKit Go.Lib Mm

structure Fr where
  kind : Int
  stream : Int
  offset : Nat
  reliable : Nat
  limit : Nat
  fin : Bool
  id : Nat
  deadline : Nat
  data : ByteArray
  ranges : List (Nat × Nat)

/-- A frame at ⟨b, off⟩. -/
structure FrAt (w : World) (b off : Nat) (f : Fr) (ra : Option Addr) (rc : Nat) : Prop where
  c0 : w.cell? ⟨b, off, none⟩ = some (.int .i64 f.kind)
  c1 : w.cell? ⟨b, off + 1, none⟩ = some (.int .i64 f.stream)
  c2 : w.cell? ⟨b, off + 2, none⟩ = some (.int .u64 (f.offset : Int))
  c3 : w.cell? ⟨b, off + 3, none⟩ = some (.int .u64 (f.reliable : Int))
  c4 : w.cell? ⟨b, off + 4, none⟩ = some (.int .u64 (f.limit : Int))
  c5 : w.cell? ⟨b, off + 5, none⟩ = some (.bool f.fin)
  c6 : w.cell? ⟨b, off + 6, none⟩ = some (.int .u64 (f.id : Int))
  c7 : w.cell? ⟨b, off + 7, none⟩ = some (.int .u64 (f.deadline : Int))
  c8 : w.cell? ⟨b, off + 8, none⟩ = some (.string f.data)
  c9 : w.cell? ⟨b, off + 9, none⟩ = some (.slice ra f.ranges.length rc)
  rng : RngAt w ra f.ranges
  rlen : f.ranges.length ≤ 1000000000
  dlen : f.data.size ≤ 1000000000
  k0 : -9223372036854775808 ≤ f.kind ∧ f.kind ≤ 9223372036854775807
  s0 : -9223372036854775808 ≤ f.stream ∧ f.stream ≤ 9223372036854775807
  u0 : f.offset < 18446744073709551616 ∧ f.reliable < 18446744073709551616 ∧ f.limit < 18446744073709551616 ∧ f.id < 18446744073709551616 ∧ f.deadline < 18446744073709551616

theorem FrAt.below {w w' : World} {b off : Nat} {f : Fr} {ra : Option Addr} {rc : Nat} (h : FrAt w b off f ra rc) (hb : Below w.heap.size w w') : FrAt w' b off f ra rc := by
  have hl := World.block_lt_of_cell? _ _ h.c0
  have e : ∀ o, w'.cell? ⟨b, o, none⟩ = w.cell? ⟨b, o, none⟩ := fun o => hb.cell (p := ⟨b, o, none⟩) hl
  exact ⟨by rw [e, h.c0], by rw [e, h.c1], by rw [e, h.c2], by rw [e, h.c3], by rw [e, h.c4], by rw [e, h.c5], by rw [e, h.c6], by rw [e, h.c7], by rw [e, h.c8], by rw [e, h.c9], h.rng.below hb, h.rlen, h.dlen, h.k0, h.s0, h.u0⟩
theorem FrAt.drewN {w : World} {b off : Nat} {f : Fr} {ra : Option Addr} {rc : Nat} (h : FrAt w b off f ra rc) (q : Nat) : FrAt (w.drewN q) b off f ra rc := h.below ⟨rfl, rfl, rfl, Nat.le_refl _, fun _ _ => rfl⟩

/-- All its numbers fit. -/
def sndN (f : Fr) : Bool := decide (f.offset ≤ M62) && decide (f.reliable ≤ M62) && decide (f.limit ≤ M62) && decide (f.id ≤ M62) && decide (f.deadline ≤ M62)
def sndT (f : Fr) : Bool :=
  if f.kind = 2 then sndR f.ranges else if f.kind = 3 then decide (f.reliable ≤ f.offset) else if f.kind = 4 then decide (f.data.size + f.offset ≤ M62) else true
def snd (f : Fr) : Bool := decide (1 ≤ f.kind ∧ f.kind ≤ 8) && sndN f && decide (0 ≤ f.stream ∧ f.stream < 8) && sndT f

theorem max5 (a b c d e : Nat) : ∃ mx : Nat, (∀ ts t w, (Builtin.max_ ts t #[.int .u64 (a : Int), .int .u64 (b : Int), .int .u64 (c : Int), .int .u64 (d : Int), .int .u64 (e : Int)]).run Tryd.prog w = .ok (.int .u64 (mx : Int)) w) ∧ ∀ B, mx ≤ B ↔ a ≤ B ∧ b ≤ B ∧ c ≤ B ∧ d ≤ B ∧ e ≤ B := by
  refine ⟨max (max (max (max a b) c) d) e, fun ts t w => ?_, fun B => by simp only [Nat.max_le, and_assoc]⟩
  simp only [Builtin.max_, List.foldlM_cons, List.foldlM_nil, Builtin.max2]
  simp only [Sem.run_bind, Sem.run_pure, Result.andThen_ok]
  congr 2
  split <;> (try split) <;> (try split) <;> (try split) <;> omega

set_option maxHeartbeats 1000000 in
set_option maxRecDepth 100000 in
theorem soundNumbers_any (b off : Nat) (f : Fr) (ra : Option Addr) (rc : Nat) (w : World) (h : FrAt w b off f ra rc) :
    Calls Tryd.prog 52 #[.pointer (some ⟨b, off, none⟩)] w fun e w' => e = .returned (.bool (sndN f)) ∧ ∃ q, w' = w.drewN q := by
  have HN : Hid (sndN f = (decide (f.offset ≤ M62) && decide (f.reliable ≤ M62) && decide (f.limit ≤ M62) && decide (f.id ≤ M62) && decide (f.deadline ≤ M62))) := rfl
  have c2 := h.c2
  have c3 := h.c3
  have c4 := h.c4
  have c6 := h.c6
  have c7 := h.c7
  obtain ⟨u1, u2, u3, u4, u5⟩ := h.u0
  obtain ⟨mx, hmx, hmx2⟩ := max5 f.offset f.reliable f.limit f.id f.deadline
  have HF : Hid (sndN f = decide ((mx : Int) ≤ 4611686018427387903)) := by
    rw [HN.out, Bool.eq_iff_iff]
    have := hmx2 4611686018427387903
    simp only [Bool.and_eq_true]
    constructor
    · rintro ⟨⟨⟨⟨a1, a2⟩, a3⟩, a4⟩, a5⟩
      have := this.2 ⟨of_decide_eq_true a1, of_decide_eq_true a2, of_decide_eq_true a3, of_decide_eq_true a4, of_decide_eq_true a5⟩
      exact decide_eq_true (by omega)
    · intro a
      have a' := of_decide_eq_true a
      obtain ⟨a1, a2, a3, a4, a5⟩ := this.1 (by omega)
      exact ⟨⟨⟨⟨decide_eq_true a1, decide_eq_true a2⟩, decide_eq_true a3⟩, decide_eq_true a4⟩, decide_eq_true a5⟩
  clear h HN hmx2
  go_enter Tryd.func52, Tryd.ntmps52
  go_wp2_with fail
  go_quiet (fail)
  go_wp2
  go_ret
  exact ⟨ret_bool HF.out.symm, nq, rfl⟩

set_option maxHeartbeats 1000000 in
set_option maxRecDepth 100000 in
theorem soundTogether_any (b off : Nat) (f : Fr) (ra : Option Addr) (rc : Nat) (w : World) (h : FrAt w b off f ra rc) (hN : f.offset ≤ M62) :
    Calls Tryd.prog 54 #[.pointer (some ⟨b, off, none⟩)] w fun e w' => e = .returned (.bool (sndT f)) ∧ Below w.heap.size w w' := by
  have HN : Hid (sndT f = if f.kind = 2 then sndR f.ranges else if f.kind = 3 then decide (f.reliable ≤ f.offset) else if f.kind = 4 then decide (f.data.size + f.offset ≤ M62) else true) := rfl
  have hR := soundRanges_any ra f.ranges rc w h.rlen h.rng
  have HR := hid hR
  clear hR
  have c0 := h.c0
  have c2 := h.c2
  have c3 := h.c3
  have c8 := h.c8
  have c9 := h.c9
  have hd := h.dlen
  obtain ⟨u1, u2, u3, u4, u5⟩ := h.u0
  clear h
  by_cases h2 : f.kind = 2
  · have HF : Hid (sndT f = sndR f.ranges) := by rw [HN.out, if_pos h2]; rfl
    have g2 : (f.kind == 2) = true := by simp [h2]
    clear HN h2
    go_enter Tryd.func54, Tryd.ntmps54
    go_wp2_with fail
    refine HR.out.mono ?_
    rintro e w' ⟨rfl, hb⟩
    have HB := hid hb
    clear hb
    go_wp2
    go_ret
    exact ⟨ret_bool HF.out.symm, HB.out⟩
  · have g2 : (f.kind == 2) = false := by simp [h2]
    by_cases h3 : f.kind = 3
    · have HF : Hid (sndT f = decide (f.reliable ≤ f.offset)) := by rw [HN.out, if_neg h2, if_pos h3]; rfl
      have g3 : (f.kind == 3) = true := by simp [h3]
      clear HN h2 h3 HR
      go_enter Tryd.func54, Tryd.ntmps54
      go_wp2_with fail
      go_quiet (fail)
      go_wp2
      go_ret
      exact ⟨ret_bool (by rw [HF.out, decide_eq_decide]), rfl, rfl, rfl, Nat.le_refl _, fun _ _ => rfl⟩
    · have g3 : (f.kind == 3) = false := by simp [h3]
      by_cases h4 : f.kind = 4
      · have HF : Hid (sndT f = decide (f.data.size + f.offset ≤ M62)) := by rw [HN.out, if_neg h2, if_neg h3, if_pos h4]; rfl
        have g4 : (f.kind == 4) = true := by simp [h4]
        have e1 : IntKind.u64.wrap (4611686018427387903 - (f.offset : Int)) = 4611686018427387903 - (f.offset : Int) := by rw [IntKind.wrap_u64]; unfold M62 at hN; omega
        have e2 : IntKind.u64.wrap ((f.data.size : Nat) : Int) = ((f.data.size : Nat) : Int) := by rw [IntKind.wrap_u64]; omega
        have HM := hid hN
        clear HN h2 h3 h4 HR hN
        go_enter Tryd.func54, Tryd.ntmps54
        go_wp2_with fail
        go_quiet (fail)
        go_wp2
        go_ret
        exact ⟨ret_bool (by rw [HF.out, decide_eq_decide]; have := HM.out; unfold M62 at *; omega), rfl, rfl, rfl, Nat.le_refl _, fun _ _ => rfl⟩
      · have HF : Hid (sndT f = true) := by rw [HN.out, if_neg h2, if_neg h3, if_neg h4]; rfl
        have g4 : (f.kind == 4) = false := by simp [h4]
        clear HN h2 h3 h4 HR
        go_enter Tryd.func54, Tryd.ntmps54
        go_wp2
        go_ret
        exact ⟨ret_bool HF.out.symm, Below.refl _ _⟩

set_option maxHeartbeats 1000000 in
set_option maxRecDepth 100000 in
theorem soundFrame_any (b off : Nat) (f : Fr) (ra : Option Addr) (rc : Nat) (w : World) (h : FrAt w b off f ra rc) :
    Calls Tryd.prog 29 #[.pointer (some ⟨b, off, none⟩)] w fun e w' => e = .returned (.bool (snd f)) ∧ Below w.heap.size w w' := by
  have HN : Hid (snd f = (decide (1 ≤ f.kind ∧ f.kind ≤ 8) && sndN f && decide (0 ≤ f.stream ∧ f.stream < 8) && sndT f)) := rfl
  have c0 := h.c0
  have c1 := h.c1
  have HK := hid (fun wx => isKind_any f.kind wx)
  have HS := hid (fun wx => isStream_any f.stream wx)
  have HNum := hid (soundNumbers_any b off f ra rc w h)
  have HT := hid (fun q hN => soundTogether_any b off f ra rc (w.drewN q) (h.drewN q) hN)
  have hNb : sndN f = true → f.offset ≤ M62 := fun hx => by
    unfold sndN at hx
    simp only [Bool.and_eq_true, decide_eq_true_eq] at hx
    exact hx.1.1.1.1
  have HNB := hid hNb
  clear h hNb
  generalize decide (1 ≤ f.kind ∧ f.kind ≤ 8) = B1 at *
  generalize sndN f = B2 at *
  generalize decide (0 ≤ f.stream ∧ f.stream < 8) = B3 at *
  generalize sndT f = B4 at *
  cases B1
  · have HF : Hid (snd f = false) := by rw [HN.out]; rfl
    clear HN
    go_enter Tryd.func29, Tryd.ntmps29
    go_wp2_with fail
    refine (HK.out _).mono ?_
    rintro e w1 ⟨rfl, hw1⟩
    subst hw1
    go_wp2
    go_ret
    exact ⟨ret_bool HF.out.symm, Below.refl _ _⟩
  · cases B2
    · have HF : Hid (snd f = false) := by rw [HN.out]; rfl
      clear HN
      go_enter Tryd.func29, Tryd.ntmps29
      go_wp2_with fail
      refine (HK.out _).mono ?_
      rintro e w1 ⟨rfl, hw1⟩
      subst hw1
      go_wp2_with fail
      refine HNum.out.mono ?_
      rintro e w2 ⟨rfl, q, rfl⟩
      go_wp2
      go_ret
      exact ⟨ret_bool HF.out.symm, rfl, rfl, rfl, Nat.le_refl _, fun _ _ => rfl⟩
    · cases B3
      · have HF : Hid (snd f = false) := by rw [HN.out]; rfl
        clear HN
        go_enter Tryd.func29, Tryd.ntmps29
        go_wp2_with fail
        refine (HK.out _).mono ?_
        rintro e w1 ⟨rfl, hw1⟩
        subst hw1
        go_wp2_with fail
        refine HNum.out.mono ?_
        rintro e w2 ⟨rfl, q, rfl⟩
        go_wp2_with fail
        refine (HS.out _).mono ?_
        rintro e w3 ⟨rfl, hw3⟩
        subst hw3
        go_wp2
        go_ret
        exact ⟨ret_bool HF.out.symm, rfl, rfl, rfl, Nat.le_refl _, fun _ _ => rfl⟩
      · have HF : Hid (snd f = B4) := by rw [HN.out]; rfl
        have hN := HNB.out rfl
        have HT2 := hid (fun q => HT.out q hN)
        clear HN HNB HT hN
        go_enter Tryd.func29, Tryd.ntmps29
        go_wp2_with fail
        refine (HK.out _).mono ?_
        rintro e w1 ⟨rfl, hw1⟩
        subst hw1
        go_wp2_with fail
        refine HNum.out.mono ?_
        rintro e w2 ⟨rfl, q, rfl⟩
        go_wp2_with fail
        refine (HS.out _).mono ?_
        rintro e w3 ⟨rfl, hw3⟩
        subst hw3
        go_wp2_with fail
        refine (HT2.out q).mono ?_
        rintro e w4 ⟨rfl, hb⟩
        have HB := hid hb
        clear hb
        go_wp2
        go_ret
        exact ⟨ret_bool HF.out.symm, HB.out.os, HB.out.tape, HB.out.output, HB.out.size, HB.out.block⟩

end Go.Proofs.YtphbledmopchnaaDoor
