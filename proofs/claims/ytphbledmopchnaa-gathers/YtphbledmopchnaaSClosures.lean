/-
  apart, and the three closures that sort.Search is handed.
-/
import Derived.Test.YtphbledmopchnaaProg
import Derived.WalkKit
import Derived.WalkLawsBesides
import Derived.Deep.Draws
import Derived.Deep.QuietTactic
import Derived.BigQuiet
import Derived.Outline
namespace Go.Proofs.Ytphbledmopchnaa.St
open Go.RowKit Go.Lib

theorem ret_bool {a b : Bool} (h : a = b) : Ending.returned (.bool a) = .returned (.bool b) := by rw [h]
theorem ret_int {k : IntKind} {a b : Int} (h : a = b) : Ending.returned (.int k a) = .returned (.int k b) := by rw [h]

set_option maxHeartbeats 400000 in
theorem apart_any (a b : Nat) (ha : a < 18446744073709551616) (hb : b < 18446744073709551616) (w : World) :
    Calls Try.prog 19 #[.int .u64 a, .int .u64 b] w fun e w' => e = .returned (.bool (decide (a + 1 < b))) ∧ w' = w := by
  by_cases h : a < b
  · have h1 : decide ((a : Int) < (b : Int)) = true := by simp; omega
    go_enter Try.func19, Try.ntmps19
    go_wp2
    go_ret
    exact ⟨ret_bool (by rw [decide_eq_decide]; omega), rfl⟩
  · have h1 : decide ((a : Int) < (b : Int)) = false := by simp; omega
    go_enter Try.func19, Try.ntmps19
    go_wp2
    go_ret
    exact ⟨ret_bool (by symm; rw [decide_eq_false_iff_not]; omega), rfl⟩

set_option maxHeartbeats 1000000 in
theorem join1_any (bs br sp b c n i lo x : Nat) (W : World) (hi : i < n) (_hn : n < 4611686018427387904)
    (cs : W.cell? ⟨bs, 0, none⟩ = some (.pointer (some ⟨sp, 0, none⟩))) (cr : W.cell? ⟨br, 0, none⟩ = some (.int .u64 lo))
    (cl : W.cell? ⟨sp, 2, none⟩ = some (.slice (some ⟨b, 0, none⟩) n c)) (cx : W.cell? ⟨b, i * 2 + 1, none⟩ = some (.int .u64 x))
    (hlo : lo < 18446744073709551616) (hx : x < 18446744073709551616) :
    Calls Try.prog 18 (#[.int .i64 i] ++ #[.pointer (some ⟨bs, 0, none⟩), .pointer (some ⟨br, 0, none⟩)]) W fun e w' => e = .returned (.bool (!decide (x + 1 < lo))) ∧ ∃ q, w' = W.drewN q := by
  have hiz : (i : Int) < (n : Int) := by omega
  go_enter Try.func18, Try.ntmps18
  go_wp2
  go_quiet ((go_at_call 19; exact Calls.quiet_of_same (apart_any _ _ hx hlo _)))
  go_wp2
  go_ret
  exact ⟨rfl, nq, rfl⟩

set_option maxHeartbeats 1000000 in
theorem join2_any (bs br sp b c n i hi x : Nat) (W : World) (hin : i < n) (_hn : n < 4611686018427387904)
    (cs : W.cell? ⟨bs, 0, none⟩ = some (.pointer (some ⟨sp, 0, none⟩))) (cr : W.cell? ⟨br, 1, none⟩ = some (.int .u64 hi))
    (cl : W.cell? ⟨sp, 2, none⟩ = some (.slice (some ⟨b, 0, none⟩) n c)) (cx : W.cell? ⟨b, i * 2, none⟩ = some (.int .u64 x))
    (hhi : hi < 18446744073709551616) (hx : x < 18446744073709551616) :
    Calls Try.prog 20 (#[.int .i64 i] ++ #[.pointer (some ⟨br, 0, none⟩), .pointer (some ⟨bs, 0, none⟩)]) W fun e w' => e = .returned (.bool (decide (hi + 1 < x))) ∧ ∃ q, w' = W.drewN q := by
  have hiz : (i : Int) < (n : Int) := by omega
  go_enter Try.func20, Try.ntmps20
  go_wp2
  go_quiet ((go_at_call 19; exact Calls.quiet_of_same (apart_any _ _ hhi hx _)))
  go_wp2
  go_ret
  exact ⟨rfl, nq, rfl⟩

set_option maxHeartbeats 1000000 in
theorem has1_any (bs br sp b c n i v x : Nat) (W : World) (hin : i < n) (_hn : n < 4611686018427387904)
    (cs : W.cell? ⟨bs, 0, none⟩ = some (.pointer (some ⟨sp, 0, none⟩))) (cr : W.cell? ⟨br, 0, none⟩ = some (.int .u64 v))
    (cl : W.cell? ⟨sp, 2, none⟩ = some (.slice (some ⟨b, 0, none⟩) n c)) (cx : W.cell? ⟨b, i * 2 + 1, none⟩ = some (.int .u64 x)) :
    Calls Try.prog 17 (#[.int .i64 i] ++ #[.pointer (some ⟨bs, 0, none⟩), .pointer (some ⟨br, 0, none⟩)]) W fun e w' => e = .returned (.bool (decide (v ≤ x))) ∧ ∃ q, w' = W.drewN q := by
  have hiz : (i : Int) < (n : Int) := by omega
  go_enter Try.func17, Try.ntmps17
  go_wp2
  go_quiet (fail)
  go_wp2
  go_ret
  exact ⟨ret_bool (by simp), nq, rfl⟩
end Go.Proofs.Ytphbledmopchnaa.St
