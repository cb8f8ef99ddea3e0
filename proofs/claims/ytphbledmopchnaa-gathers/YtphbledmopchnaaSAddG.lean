/-
  The program's sets: NewSet, Add, Has, Floor, as mediawire has them.
-/
import Derived.Test.YtphbledmopchnaaSAddF
import Derived.Test.YtphbledmopchnaaDPure
namespace Go.Proofs.Ytphbledmopchnaa.St
open Go.RowKit Go.Lib Mm

theorem small_of {rs : List (Nat × Nat)} (hS : Rg.Sorted rs) (h : ∀ r ∈ rs, r.2 < 18446744073709551616) : Small rs := fun r hr => by
  have h1 := hS.le r hr
  have h2 := h r hr
  omega

theorem Kept.trans {w w1 w2 : World} {sp : Nat} {row row1 : Option Nat} (h : Kept w w1 sp row) (k : Kept w1 w2 sp row1) (hr : row1 = row ∨ ∃ b, row1 = some b ∧ w.heap.size ≤ b) : Kept w w2 sp row :=
  ⟨k.os.trans h.os, k.tape.trans h.tape, k.output.trans h.output, Nat.le_trans h.size k.size, fun j hj hn hne => by
    have hs := h.size
    rw [k.block j (by omega) hn (fun e => by
      rcases hr with r | ⟨b, r, hb⟩
      · exact hne (by rw [e, r])
      · rw [r] at e; cases e; omega), h.block j hj hn hne]⟩

/-- What Add comes to. -/
def PPost (sp : Nat) (most : Int) (row : Option Nat) (w : World) (x : Nat × List (Nat × Nat)) (w' : World) : Prop :=
  ∃ row1, SetAt w' sp most x.1 x.2 row1 ∧ Kept w w' sp row ∧ (row1 = row ∨ ∃ b, row1 = some b ∧ w.heap.size ≤ b)

set_option maxHeartbeats 4000000 in
set_option maxRecDepth 100000 in
theorem add_full (sp lo hi : Nat) (most : Int) (fl : Nat) (rs : List (Nat × Nat)) (row : Option Nat) (w : World) (hset : SetAt w sp most fl rs row) (hok : Rg.Ok 18446744073709551616 1000000 fl rs) (hhi : hi < 18446744073709551616) :
    Calls Try.prog 10 #[.pointer (some ⟨sp, 0, none⟩), .int .u64 (lo : Int), .int .u64 (hi : Int)] w fun e w' => e = .returned (.tuple #[]) ∧ PPost sp most row w (Rg.add (max most 1).toNat fl rs lo hi) w' := by
  have hset' := hset
  obtain ⟨base, c, h1, h2, h3, h4, h5⟩ := hset
  have k1 : w.cell? ⟨sp, 1, none⟩ = some (.int .u64 (fl : Int)) := h1.cell 1
  have hmx : ((max lo fl : Nat) : Int) = max (lo : Int) (fl : Int) := by omega
  by_cases hgt : hi < max lo fl
  · have HF : Hid (PPost sp most row w (Rg.add (max most 1).toNat fl rs lo hi) w) := by
      unfold Hid Rg.add
      rw [if_pos hgt]
      exact ⟨row, hset', ⟨rfl, rfl, rfl, Nat.le_refl _, fun _ _ _ _ => rfl⟩, .inl rfl⟩
    have g2 : (hi : Int) < max (lo : Int) (fl : Int) := by omega
    clear h1 h2 h3 h4 h5 hset' hmx hgt
    go_enter Try.func10, Try.ntmps10
    go_wp2_with fail
    refine bodyPost_ret (results_none rfl _ _ _) rfl ?_
    exact ⟨rfl, HF.out⟩
  · have hlen := hok.len
    have hj := joins sp (max lo fl) hi base c most fl rs w hok.sorted (small_of hok.sorted hok.hi) hlen (by omega) hhi h1 h5 h2 h3
    rw [← h4, hmx] at hj
    have g2 : ¬ ((hi : Int) < max (lo : Int) (fl : Int)) := by omega
    have HADD : Hid (Rg.add (max most 1).toNat fl rs lo hi = if (max most 1).toNat < (Rg.ins (max lo fl) hi rs).length then (((Rg.ins (max lo fl) hi rs).getD 0 (0, 0)).2 + 1, (Rg.ins (max lo fl) hi rs).tail) else (fl, Rg.ins (max lo fl) hi rs)) := by
      unfold Hid Rg.add; rw [if_neg hgt]
    have HSRT := hid (Rg.sorted_ins rs (max lo fl) hi (by omega) hok.sorted)
    have HHI : Hid (∀ r ∈ Rg.ins (max lo fl) hi rs, r.2 < 18446744073709551616) := fun r hr => by
      have := Rg.ins_hi rs (max lo fl) hi 18446744073709551615 (by omega) (fun x hx => by have := hok.hi x hx; omega) r hr
      omega
    have hRl := Rg.ins_length rs (max lo fl) hi
    have HJ := hid hj
    generalize Rg.ins (max lo fl) hi rs = R at *
    generalize Rg.add (max most 1).toNat fl rs lo hi = A at *
    clear hj hmx h1 h2 h3 h4 h5 hset' hgt hok hhi
    by_cases hdr : max most 1 < (R.length : Int)
    · have HA : Hid (A = ((R.getD 0 (0, 0)).2 + 1, R.tail)) := by unfold Hid; rw [HADD.out, if_pos (by omega)]
      have hx : (R.getD 0 (0, 0)).2 + 1 < 18446744073709551616 := Rg.ins_two HSRT.out HHI.out (by omega)
      have HD : Hid (∀ W row1, SetAt W sp most fl R row1 → Calls Try.prog 15 #[.pointer (some ⟨sp, 0, none⟩)] W fun e w' => e = .returned (.tuple #[]) ∧ ∃ b', SetAt w' sp most ((R.getD 0 (0, 0)).2 + 1) R.tail (some b') ∧ Kept W w' sp row1 ∧ (some b' = row1 ∨ W.heap.size ≤ b')) :=
        fun W row1 hs => drop_any sp most fl R row1 W hs (by omega) (by omega) hx
      clear HADD HSRT HHI
      go_enter Try.func10, Try.ntmps10
      go_wp2_with (go_at_call 13; refine HJ.out.mono ?_; rintro e w' ⟨rfl, b', hs', hk, hr⟩)
      obtain ⟨base', c', j0, j1, j2⟩ := hs'.cells
      have HS := hid hs'
      have HK := hid hk
      have HR := hid hr
      clear hs' hk hr HJ k1 g2
      go_quiet ((go_at_call 14; exact Calls.quiet_of_same (bound_gen sp most _ (by simpa using j0))))
      have HD2 := hid (HD.out _ _ (SetAt.drewN HS.out nq))
      go_wp2_with (go_at_call 15; refine HD2.out.mono ?_; rintro e w2 ⟨rfl, b2, hs2, hk2, hr2⟩)
      go_end0
      refine ⟨rfl, some b2, by rw [HA.out]; exact hs2, ?_, ?_⟩
      · refine (Kept.drewN HK.out nq).trans hk2 ?_
        rcases HR.out with h | h
        · exact .inl h
        · exact .inr ⟨b', rfl, h⟩
      · have hsz := HK.out.size
        rcases hr2 with h | h
        · rw [h]
          rcases HR.out with h' | h'
          · exact .inl h'
          · exact .inr ⟨b', rfl, h'⟩
        · exact .inr ⟨b2, rfl, Nat.le_trans hsz h⟩
    · have HA : Hid (A = (fl, R)) := by unfold Hid; rw [HADD.out, if_neg (by omega)]
      clear HADD HSRT HHI
      go_enter Try.func10, Try.ntmps10
      go_wp2_with (go_at_call 13; refine HJ.out.mono ?_; rintro e w' ⟨rfl, b', hs', hk, hr⟩)
      obtain ⟨base', c', j0, j1, j2⟩ := hs'.cells
      have HS := hid hs'
      have HK := hid hk
      have HR := hid hr
      clear hs' hk hr HJ k1 g2
      go_quiet ((go_at_call 14; exact Calls.quiet_of_same (bound_gen sp most _ (by simpa using j0))))
      go_wp2
      go_end0
      refine ⟨rfl, some b', by rw [HA.out]; exact SetAt.drewN HS.out _, Kept.drewN HK.out _, ?_⟩
      rcases HR.out with h | h
      · exact .inl h
      · exact .inr ⟨b', rfl, h⟩

/-- (*mediawire.Set).Add. -/
theorem padd_any (sp lo hi : Nat) (most : Int) (fl : Nat) (rs : List (Nat × Nat)) (row : Option Nat) (w : World) (hset : SetAt w sp most fl rs row) (hok : Rg.Ok 18446744073709551616 1000000 fl rs) (hhi : hi < 18446744073709551616) :
    Calls Try.prog 6 #[.pointer (some ⟨sp, 0, none⟩), .int .u64 (lo : Int), .int .u64 (hi : Int)] w fun e w' => e = .returned (.tuple #[]) ∧ PPost sp most row w (Rg.add (max most 1).toNat fl rs lo hi) w' := by
  have HA := hid (add_full sp lo hi most fl rs row w hset hok hhi)
  clear hset hok hhi
  go_enter Try.func6, Try.ntmps6
  go_wp2_with (go_at_call 10; refine HA.out.mono ?_; rintro e w' ⟨rfl, hP⟩)
  go_end0
  exact ⟨rfl, hP⟩

/-- (*mediawire.Set).Floor. -/
theorem pfloor_any (sp : Nat) (fl : Nat) (w : World) (h0 : w.cell? ⟨sp, 1, none⟩ = some (.int .u64 (fl : Int))) :
    Calls Try.prog 8 #[.pointer (some ⟨sp, 0, none⟩)] w fun e w' => e = .returned (.int .u64 (fl : Int)) ∧ w' = w := by
  have HA := hid (floor_any sp fl w h0)
  clear h0
  go_enter Try.func8, Try.ntmps8
  go_wp2_with (go_at_call 12; refine HA.out.mono ?_; rintro e w' ⟨rfl, rfl⟩)
  go_ret
  exact ⟨rfl, rfl⟩

/-- (*mediawire.Set).Has. -/
theorem phas_any (sp v : Nat) (most : Int) (fl : Nat) (rs : List (Nat × Nat)) (row : Option Nat) (w : World) (hset : SetAt w sp most fl rs row) (hS : Rg.Sorted rs) (hn : rs.length ≤ 1000000) :
    Calls Try.prog 7 #[.pointer (some ⟨sp, 0, none⟩), .int .u64 (v : Int)] w fun e w' => e = .returned (.bool (decide (v < fl) || Rg.has v rs)) ∧ Below w.heap.size w w' := by
  obtain ⟨base, c, h1, h2, h3, h4, h5⟩ := hset
  have HA := hid (has_any sp v base c most fl rs w hS hn h1 h5)
  generalize (decide (v < fl) || Rg.has v rs) = B at *
  clear h1 h2 h3 h4 h5 hS hn
  go_enter Try.func7, Try.ntmps7
  go_wp2_with (go_at_call 11; refine HA.out.mono ?_; rintro e w' ⟨rfl, hb⟩)
  go_ret
  exact ⟨rfl, hb⟩

/-- mediawire.NewSet. -/
theorem pnew_any (most : Int) (w : World) :
    Calls Try.prog 4 #[.int .i64 most] w fun e w' => ∃ p, e = .returned (.pointer (some ⟨p, 0, none⟩)) ∧ SetAt w' p most 0 [] none ∧ w.heap.size ≤ p ∧ Below w.heap.size w w' := by
  have HN : Hid (Calls Try.prog 9 #[.int .i64 most] w fun e w' => e = .returned (.agg #[.int .i64 most, .int .u64 0, .slice none 0 0]) ∧ Below w.heap.size w w') := by
    unfold Hid
    go_enter Try.func9, Try.ntmps9
    go_wp2
    have hB := Blk.new w 33 [.int .i64 most, .int .u64 0, .slice none 0 0]
    have i0 : (w.alloc (.cells #[.int .i64 most, .int .u64 0, .slice none 0 0] 33)).cell? ⟨w.heap.size, 0, none⟩ = some (.int .i64 most) := hB.cell 0
    have i1 : (w.alloc (.cells #[.int .i64 most, .int .u64 0, .slice none 0 0] 33)).cell? ⟨w.heap.size, 1, none⟩ = some (.int .u64 0) := hB.cell 1
    have i2 : (w.alloc (.cells #[.int .i64 most, .int .u64 0, .slice none 0 0] 33)).cell? ⟨w.heap.size, 2, none⟩ = some (.slice none 0 0) := hB.cell 2
    refine bodyPost_ret (v := .agg #[.int .i64 most, .int .u64 0, .slice none 0 0]) (by simp [results, Try.results9, go_sem, i0, i1, i2]) rfl ⟨rfl, (Below.refl _ w).alloc (Nat.le_refl _) _⟩
  go_enter Try.func4, Try.ntmps4
  go_wp2_with (go_at_call 9; refine HN.out.mono ?_; rintro e w' ⟨rfl, hb⟩)
  go_ret
  exact ⟨_, rfl, ⟨none, 0, Blk.new w' 36 [.int .i64 most, .int .u64 0, .slice none 0 0], Nat.le_refl _, by omega, rfl, .inl ⟨rfl, rfl, rfl⟩⟩, hb.size, hb.alloc hb.size _⟩

end Go.Proofs.Ytphbledmopchnaa.St
