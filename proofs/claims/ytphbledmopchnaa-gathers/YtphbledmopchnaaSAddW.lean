/-
  (*Set).Add, where no range is too many, out of join.
-/
import Derived.Test.YtphbledmopchnaaSAdd
namespace Go.Proofs.Ytphbledmopchnaa.St
open Go.RowKit Go.Lib Mm

def JoinSaid : Prop := ∀ (sp lo hi : Nat) (base : Option Addr) (c : Nat) (most : Int) (fl : Nat) (rs : List (Nat × Nat)) (w : World), Rg.Sorted rs → Small rs → rs.length ≤ 1000000 → lo ≤ hi → hi < 18446744073709551616 →
    Blk w sp 36 [.int .i64 most, .int .u64 (fl : Int), .slice base rs.length c] → RowAt w sp base c rs → rs.length ≤ c → c ≤ 9223372036854775807 →
    Calls Try.prog 13 #[.pointer (some ⟨sp, 0, none⟩), .agg #[.int .u64 (lo : Int), .int .u64 (hi : Int)]] w fun e w' => e = .returned (.tuple #[]) ∧
      ∃ b', SetAt w' sp most fl (Rg.ins lo hi rs) (some b') ∧ Kept w w' sp (base.map (·.block)) ∧ (some b' = base.map (·.block) ∨ w.heap.size ≤ b')

theorem SetAt.cells {w : World} {sp : Nat} {most : Int} {fl : Nat} {rs : List (Nat × Nat)} {row : Option Nat} (h : SetAt w sp most fl rs row) :
    ∃ base c, w.cell? ⟨sp, 0, none⟩ = some (.int .i64 most) ∧ w.cell? ⟨sp, 1, none⟩ = some (.int .u64 (fl : Int)) ∧ w.cell? ⟨sp, 2, none⟩ = some (.slice base rs.length c) := by
  obtain ⟨base, c, h1, _⟩ := h
  exact ⟨base, c, h1.cell 0, h1.cell 1, h1.cell 2⟩

theorem SetAt.drewN {w : World} {sp : Nat} {most : Int} {fl : Nat} {rs : List (Nat × Nat)} {row : Option Nat} (h : SetAt w sp most fl rs row) (q : Nat) : SetAt (w.drewN q) sp most fl rs row := by
  obtain ⟨base, c, h1, h2, h3, h4, h5⟩ := h
  exact ⟨base, c, h1, h2, h3, h4, h5.of_heap (fun _ _ => rfl)⟩

theorem Kept.drewN {w w' : World} {sp : Nat} {row : Option Nat} (h : Kept w w' sp row) (q : Nat) : Kept w (w'.drewN q) sp row := ⟨h.os, h.tape, h.output, h.size, h.block⟩

set_option maxHeartbeats 2000000 in
set_option maxRecDepth 100000 in
theorem add_keep (hJ : JoinSaid) (sp lo hi : Nat) (most : Int) (fl : Nat) (rs : List (Nat × Nat)) (row : Option Nat) (w : World) (hset : SetAt w sp most fl rs row) (hS : Rg.Sorted rs) (hB : Small rs) (hn : rs.length ≤ 1000000)
    (hlh : max lo fl ≤ hi) (hhi : hi < 18446744073709551616) (hm : 1 ≤ most) (hle : ((Rg.ins (max lo fl) hi rs).length : Int) ≤ most) :
    Calls Try.prog 10 #[.pointer (some ⟨sp, 0, none⟩), .int .u64 (lo : Int), .int .u64 (hi : Int)] w fun e w' => e = .returned (.tuple #[]) ∧
      ∃ b', SetAt w' sp most fl (Rg.ins (max lo fl) hi rs) (some b') ∧ Kept w w' sp row ∧ (some b' = row ∨ w.heap.size ≤ b') := by
  obtain ⟨base, c, h1, h2, h3, h4, h5⟩ := hset
  have hj := hJ sp (max lo fl) hi base c most fl rs w hS hB hn hlh hhi h1 h5 h2 h3
  rw [← h4] at hj
  have hmx : ((max lo fl : Nat) : Int) = max (lo : Int) (fl : Int) := by omega
  rw [hmx] at hj
  have g2 : ¬ ((hi : Int) < max (lo : Int) (fl : Int)) := by omega
  have k1 : w.cell? ⟨sp, 1, none⟩ = some (.int .u64 (fl : Int)) := h1.cell 1
  have HJ := hid hj
  generalize Rg.ins (max lo fl) hi rs = rs' at *
  clear hj hmx h1 h2 h3 h4 h5 hJ hS hB hn hhi hlh
  go_enter Try.func10, Try.ntmps10
  go_wp2_with (go_at_call 13; refine HJ.out.mono ?_; rintro e w' ⟨rfl, b', hs', hk, hr⟩)
  obtain ⟨base', c', j0, j1, j2⟩ := hs'.cells
  have HS := hid hs'
  have HK := hid hk
  have HR := hid hr
  clear hs' hk hr HJ k1 g2
  go_quiet ((go_at_call 14; exact Calls.quiet_of_same (bound_any sp most hm _ (by simpa using j0))))
  go_wp2
  go_end0
  exact ⟨rfl, b', SetAt.drewN HS.out _, Kept.drewN HK.out _, HR.out⟩
end Go.Proofs.Ytphbledmopchnaa.St
