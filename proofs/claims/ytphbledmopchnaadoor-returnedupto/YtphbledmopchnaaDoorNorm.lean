/-
  What is read of a frame that was written; kindOf.
-/
import Derived.Test.YtphbledmopchnaaDoorRdLay
namespace Go.Proofs.YtphbledmopchnaaDoor
open Go.RowKit Go.Lib Go.Shelf Mm

def frK (k : Int) : Fr := ⟨k, 0, 0, 0, 0, false, 0, 0, ⟨#[]⟩, []⟩
/-- A frame as it is read: what its kind doesn't write is 0. -/
def norm (f : Fr) : Fr := setAll f (tagsOf f.kind) (tagsOf f.kind).length (frK f.kind)

theorem kinds_of {f : Fr} (h : snd f = true) : f.kind = 1 ∨ f.kind = 2 ∨ f.kind = 3 ∨ f.kind = 4 ∨ f.kind = 5 ∨ f.kind = 6 ∨ f.kind = 7 ∨ f.kind = 8 := by
  obtain ⟨_, h1, h8, _⟩ := fit_of f h
  omega

theorem norm_eq (f : Fr) (h : snd f = true) : norm f =
    (if f.kind = 1 then frK 1 else if f.kind = 2 then { frK 2 with ranges := f.ranges } else if f.kind = 3 then { frK 3 with stream := f.stream, offset := f.offset, reliable := f.reliable } else if f.kind = 4 then { frK 4 with fin := f.fin, stream := f.stream, offset := f.offset, data := f.data }
     else if f.kind = 5 then { frK 5 with limit := f.limit } else if f.kind = 6 then { frK 6 with stream := f.stream, limit := f.limit } else if f.kind = 7 then { frK 7 with id := f.id, deadline := f.deadline, data := f.data } else { frK 8 with limit := f.limit }) := by
  unfold norm
  rcases kinds_of h with e | e | e | e | e | e | e | e <;> rw [e] <;> rfl

theorem norm_kind (f : Fr) (h : snd f = true) : (norm f).kind = f.kind := by
  rw [norm_eq f h]
  rcases kinds_of h with e | e | e | e | e | e | e | e <;> rw [e] <;> rfl

theorem norm_snd (f : Fr) (h : snd f = true) : snd (norm f) = true := by
  obtain ⟨⟨s0, s8, n0, n1, n2, n3, n4⟩, _, _, hT⟩ := fit_of f h
  rw [norm_eq f h]
  unfold sndT at hT
  rcases kinds_of h with e | e | e | e | e | e | e | e
  · rw [e]; rfl
  · rw [e] at hT ⊢
    simp only [show ((2 : Int) = 1) = False by decide, if_true, if_false] at hT ⊢
    unfold snd sndN sndT
    simp [frK, hT]
  · rw [e] at hT ⊢
    simp only [show ((3 : Int) = 1) = False by decide, show ((3 : Int) = 2) = False by decide, if_true, if_false] at hT ⊢
    unfold snd sndN sndT
    simp [frK, s0, s8, n0, n1]
    exact of_decide_eq_true hT
  · rw [e] at hT ⊢
    simp only [show ((4 : Int) = 1) = False by decide, show ((4 : Int) = 2) = False by decide, show ((4 : Int) = 3) = False by decide, if_true, if_false] at hT ⊢
    unfold snd sndN sndT
    simp [frK, s0, s8, n0]
    exact of_decide_eq_true hT
  · rw [e]
    simp only [show ((5 : Int) = 1) = False by decide, show ((5 : Int) = 2) = False by decide, show ((5 : Int) = 3) = False by decide, show ((5 : Int) = 4) = False by decide, if_true, if_false]
    unfold snd sndN sndT
    simp [frK, n2]
  · rw [e]
    simp only [show ((6 : Int) = 1) = False by decide, show ((6 : Int) = 2) = False by decide, show ((6 : Int) = 3) = False by decide, show ((6 : Int) = 4) = False by decide, show ((6 : Int) = 5) = False by decide, if_true, if_false]
    unfold snd sndN sndT
    simp [frK, n2, s0, s8]
  · rw [e]
    simp only [show ((7 : Int) = 1) = False by decide, show ((7 : Int) = 2) = False by decide, show ((7 : Int) = 3) = False by decide, show ((7 : Int) = 4) = False by decide, show ((7 : Int) = 5) = False by decide, show ((7 : Int) = 6) = False by decide, if_true, if_false]
    unfold snd sndN sndT
    simp [frK, n3, n4]
  · rw [e]
    simp only [show ((8 : Int) = 1) = False by decide, show ((8 : Int) = 2) = False by decide, show ((8 : Int) = 3) = False by decide, show ((8 : Int) = 4) = False by decide, show ((8 : Int) = 5) = False by decide, show ((8 : Int) = 6) = False by decide, show ((8 : Int) = 7) = False by decide, if_false]
    unfold snd sndN sndT
    simp [frK, n2]

theorem norm_bytes (f : Fr) (h : snd f = true) : frBytes (norm f) = frBytes f := by
  unfold frBytes
  rw [norm_kind f h, norm_eq f h]
  rcases kinds_of h with e | e | e | e | e | e | e | e <;> rw [e] <;> rfl

theorem norm_ok (f : Fr) (h : snd f = true) (ok : FrOk f) : FrOk (norm f) := by
  obtain ⟨r1, d1, k0, s0, ⟨u1, u2, u3, u4, u5⟩, r0⟩ := ok
  rw [norm_eq f h]
  have z : (0 : Nat) < 18446744073709551616 := by decide
  rcases kinds_of h with e | e | e | e | e | e | e | e <;> rw [e]
  · show FrOk ⟨1, 0, 0, 0, 0, false, 0, 0, ⟨#[]⟩, []⟩
    exact ⟨Nat.zero_le _, Nat.zero_le _, ⟨(by decide : (-9223372036854775808 : Int) ≤ 1), (by decide : (1 : Int) ≤ 9223372036854775807)⟩, ⟨(by decide : (-9223372036854775808 : Int) ≤ 0), (by decide : (0 : Int) ≤ 9223372036854775807)⟩, ⟨z, z, z, z, z⟩, fun j hj => absurd hj (Nat.not_lt_zero _)⟩
  · show FrOk ⟨2, 0, 0, 0, 0, false, 0, 0, ⟨#[]⟩, f.ranges⟩
    exact ⟨r1, Nat.zero_le _, ⟨(by decide : (-9223372036854775808 : Int) ≤ 2), (by decide : (2 : Int) ≤ 9223372036854775807)⟩, ⟨(by decide : (-9223372036854775808 : Int) ≤ 0), (by decide : (0 : Int) ≤ 9223372036854775807)⟩, ⟨z, z, z, z, z⟩, r0⟩
  · show FrOk ⟨3, f.stream, f.offset, f.reliable, 0, false, 0, 0, ⟨#[]⟩, []⟩
    exact ⟨Nat.zero_le _, Nat.zero_le _, ⟨(by decide : (-9223372036854775808 : Int) ≤ 3), (by decide : (3 : Int) ≤ 9223372036854775807)⟩, s0, ⟨u1, u2, z, z, z⟩, fun j hj => absurd hj (Nat.not_lt_zero _)⟩
  · show FrOk ⟨4, f.stream, f.offset, 0, 0, f.fin, 0, 0, f.data, []⟩
    exact ⟨Nat.zero_le _, d1, ⟨(by decide : (-9223372036854775808 : Int) ≤ 4), (by decide : (4 : Int) ≤ 9223372036854775807)⟩, s0, ⟨u1, z, z, z, z⟩, fun j hj => absurd hj (Nat.not_lt_zero _)⟩
  · show FrOk ⟨5, 0, 0, 0, f.limit, false, 0, 0, ⟨#[]⟩, []⟩
    exact ⟨Nat.zero_le _, Nat.zero_le _, ⟨(by decide : (-9223372036854775808 : Int) ≤ 5), (by decide : (5 : Int) ≤ 9223372036854775807)⟩, ⟨(by decide : (-9223372036854775808 : Int) ≤ 0), (by decide : (0 : Int) ≤ 9223372036854775807)⟩, ⟨z, z, u3, z, z⟩, fun j hj => absurd hj (Nat.not_lt_zero _)⟩
  · show FrOk ⟨6, f.stream, 0, 0, f.limit, false, 0, 0, ⟨#[]⟩, []⟩
    exact ⟨Nat.zero_le _, Nat.zero_le _, ⟨(by decide : (-9223372036854775808 : Int) ≤ 6), (by decide : (6 : Int) ≤ 9223372036854775807)⟩, s0, ⟨z, z, u3, z, z⟩, fun j hj => absurd hj (Nat.not_lt_zero _)⟩
  · show FrOk ⟨7, 0, 0, 0, 0, false, f.id, f.deadline, f.data, []⟩
    exact ⟨Nat.zero_le _, d1, ⟨(by decide : (-9223372036854775808 : Int) ≤ 7), (by decide : (7 : Int) ≤ 9223372036854775807)⟩, ⟨(by decide : (-9223372036854775808 : Int) ≤ 0), (by decide : (0 : Int) ≤ 9223372036854775807)⟩, ⟨z, z, z, u4, u5⟩, fun j hj => absurd hj (Nat.not_lt_zero _)⟩
  · show FrOk ⟨8, 0, 0, 0, f.limit, false, 0, 0, ⟨#[]⟩, []⟩
    exact ⟨Nat.zero_le _, Nat.zero_le _, ⟨(by decide : (-9223372036854775808 : Int) ≤ 8), (by decide : (8 : Int) ≤ 9223372036854775807)⟩, ⟨(by decide : (-9223372036854775808 : Int) ≤ 0), (by decide : (0 : Int) ≤ 9223372036854775807)⟩, ⟨z, z, u3, z, z⟩, fun j hj => absurd hj (Nat.not_lt_zero _)⟩

theorem kindOf_1 (w : World) : Calls Tryd.prog 71 #[.int .u8 1] w fun e w' => e = .returned (.int .i64 1) ∧ w' = w := by
  go_enter Tryd.func71, Tryd.ntmps71
  go_wp2
  go_ret
  exact ⟨rfl, rfl⟩
theorem kindOf_2 (w : World) : Calls Tryd.prog 71 #[.int .u8 2] w fun e w' => e = .returned (.int .i64 2) ∧ w' = w := by
  go_enter Tryd.func71, Tryd.ntmps71
  go_wp2
  go_ret
  exact ⟨rfl, rfl⟩
theorem kindOf_36 (w : World) : Calls Tryd.prog 71 #[.int .u8 36] w fun e w' => e = .returned (.int .i64 3) ∧ w' = w := by
  go_enter Tryd.func71, Tryd.ntmps71
  go_wp2
  go_ret
  exact ⟨rfl, rfl⟩
theorem kindOf_8 (w : World) : Calls Tryd.prog 71 #[.int .u8 8] w fun e w' => e = .returned (.int .i64 4) ∧ w' = w := by
  go_enter Tryd.func71, Tryd.ntmps71
  go_wp2
  go_ret
  exact ⟨rfl, rfl⟩
theorem kindOf_9 (w : World) : Calls Tryd.prog 71 #[.int .u8 9] w fun e w' => e = .returned (.int .i64 4) ∧ w' = w := by
  go_enter Tryd.func71, Tryd.ntmps71
  go_wp2
  go_ret
  exact ⟨rfl, rfl⟩
theorem kindOf_16 (w : World) : Calls Tryd.prog 71 #[.int .u8 16] w fun e w' => e = .returned (.int .i64 5) ∧ w' = w := by
  go_enter Tryd.func71, Tryd.ntmps71
  go_wp2
  go_ret
  exact ⟨rfl, rfl⟩
theorem kindOf_17 (w : World) : Calls Tryd.prog 71 #[.int .u8 17] w fun e w' => e = .returned (.int .i64 6) ∧ w' = w := by
  go_enter Tryd.func71, Tryd.ntmps71
  go_wp2
  go_ret
  exact ⟨rfl, rfl⟩
theorem kindOf_48 (w : World) : Calls Tryd.prog 71 #[.int .u8 48] w fun e w' => e = .returned (.int .i64 7) ∧ w' = w := by
  go_enter Tryd.func71, Tryd.ntmps71
  go_wp2
  go_ret
  exact ⟨rfl, rfl⟩
theorem kindOf_28 (w : World) : Calls Tryd.prog 71 #[.int .u8 28] w fun e w' => e = .returned (.int .i64 8) ∧ w' = w := by
  go_enter Tryd.func71, Tryd.ntmps71
  go_wp2
  go_ret
  exact ⟨rfl, rfl⟩

/-- A frame's first byte tells its kind. -/
theorem first_byte (f : Fr) (h : snd f = true) : ∃ x t, frBytes f = x :: t ∧ ∀ w, Calls Tryd.prog 71 #[.int .u8 ((x.toNat : Nat) : Int)] w fun e w' => e = .returned (.int .i64 f.kind) ∧ w' = w := by
  have hd : ∀ (l : List (List UInt8)) n, partsTo l (n + 1) = l.getD 0 [] ++ partsFrom l (n + 1) 1 := fun l n => by
    have := partsFrom_step l (n + 1) 0 (by omega)
    rw [partsFrom_zero] at this
    exact this
  unfold frBytes
  rcases kinds_of h with e | e | e | e | e | e | e | e <;> rw [e]
  · exact ⟨1, [], rfl, kindOf_1⟩
  · exact ⟨2, _, hd _ 1, kindOf_2⟩
  · exact ⟨36, _, hd _ 3, kindOf_36⟩
  · cases hf : f.fin
    · refine ⟨8, partsFrom ((tagsOf 4).map (partBytes f)) 4 1, ?_, kindOf_8⟩
      have := hd ((tagsOf 4).map (partBytes f)) 3
      have e2 : ((tagsOf 4).map (partBytes f)).getD 0 [] = [8] := by
        show partBytes f (1, 0) = [8]
        unfold partBytes; rw [hf]; rfl
      rw [e2] at this
      exact this
    · refine ⟨9, partsFrom ((tagsOf 4).map (partBytes f)) 4 1, ?_, kindOf_9⟩
      have := hd ((tagsOf 4).map (partBytes f)) 3
      have e2 : ((tagsOf 4).map (partBytes f)).getD 0 [] = [9] := by
        show partBytes f (1, 0) = [9]
        unfold partBytes; rw [hf]; rfl
      rw [e2] at this
      exact this
  · exact ⟨16, _, hd _ 1, kindOf_16⟩
  · exact ⟨17, _, hd _ 2, kindOf_17⟩
  · exact ⟨48, _, hd _ 3, kindOf_48⟩
  · exact ⟨28, _, hd _ 1, kindOf_28⟩

end Go.Proofs.YtphbledmopchnaaDoor
