/-
  Frames in memory; what may be written.
-/
import Derived.Test.YtphbledmopchnaaDoorAppSum
import Derived.OpenShut
namespace Go.Proofs.YtphbledmopchnaaDoor
open Go.RowKit Go.Lib Mm

def M62 : Nat := 4611686018427387903

/-- Is the i-th range such as an Ack may have? -/
def okAt (rs : List (Nat × Nat)) (i : Nat) : Bool :=
  decide ((rs.getD i (0, 0)).1 ≤ (rs.getD i (0, 0)).2) && decide ((rs.getD i (0, 0)).2 ≤ M62) && (decide (i = 0) || decide ((rs.getD i (0, 0)).2 + 1 < (rs.getD (i - 1) (0, 0)).1))
def sndR (rs : List (Nat × Nat)) : Bool := (List.range rs.length).all (okAt rs) && decide (0 < rs.length)

/-- Ranges that are read. -/
def RngAt (w : World) (a : Option Addr) (rs : List (Nat × Nat)) : Prop :=
  ∀ j, j < rs.length → ∃ b off, a = some ⟨b, off, none⟩ ∧ w.cell? ⟨b, off + j * 2, none⟩ = some (.int .u64 ((rs.getD j (0, 0)).1 : Int)) ∧ w.cell? ⟨b, off + j * 2 + 1, none⟩ = some (.int .u64 ((rs.getD j (0, 0)).2 : Int)) ∧
    (rs.getD j (0, 0)).1 < 18446744073709551616 ∧ (rs.getD j (0, 0)).2 < 18446744073709551616

theorem RngAt.below {w w' : World} {a : Option Addr} {rs : List (Nat × Nat)} (h : RngAt w a rs) (hb : Below w.heap.size w w') : RngAt w' a rs := fun j hj => by
  obtain ⟨b, off, ha, h1, h2, h3⟩ := h j hj
  exact ⟨b, off, ha, (hb.cell (p := ⟨b, off + j * 2, none⟩) (World.block_lt_of_cell? _ _ h1)).trans h1, (hb.cell (p := ⟨b, off + j * 2 + 1, none⟩) (World.block_lt_of_cell? _ _ h2)).trans h2, h3⟩

theorem isKind_any (k : Int) (w : World) : Calls Tryd.prog 51 #[.int .i64 k] w fun e w' => e = .returned (.bool (decide (1 ≤ k ∧ k ≤ 8))) ∧ w' = w := by
  by_cases h : 1 ≤ k
  · go_enter Tryd.func51, Tryd.ntmps51
    go_wp2
    go_ret
    exact ⟨ret_bool (by rw [decide_eq_decide]; omega), rfl⟩
  · have h' : decide (1 ≤ k) = false := by simp; omega
    go_enter Tryd.func51, Tryd.ntmps51
    go_wp2
    go_ret
    exact ⟨ret_bool (by first | rfl | (symm; rw [decide_eq_false_iff_not]; omega)), rfl⟩

theorem isStream_any (k : Int) (w : World) : Calls Tryd.prog 53 #[.int .i64 k] w fun e w' => e = .returned (.bool (decide (0 ≤ k ∧ k < 8))) ∧ w' = w := by
  by_cases h : 0 ≤ k
  · go_enter Tryd.func53, Tryd.ntmps53
    go_wp2
    go_ret
    exact ⟨ret_bool (by rw [decide_eq_decide]; omega), rfl⟩
  · have h' : decide (0 ≤ k) = false := by simp; omega
    go_enter Tryd.func53, Tryd.ntmps53
    go_wp2
    go_ret
    exact ⟨ret_bool (by first | rfl | (symm; rw [decide_eq_false_iff_not]; omega)), rfl⟩

set_option maxHeartbeats 1000000 in
set_option maxRecDepth 100000 in
theorem soundRanges_any (a : Option Addr) (rs : List (Nat × Nat)) (c : Nat) (w : World) (hl : rs.length ≤ 1000000000) (hr : RngAt w a rs) :
    Calls Tryd.prog 72 #[.slice a rs.length c] w fun e w' => e = .returned (.bool (sndR rs)) ∧ Below w.heap.size w w' := by
  have HR := hid hr
  clear hr
  have HSR : Hid (sndR rs = ((List.range rs.length).all (okAt rs) && decide (0 < rs.length))) := rfl
  go_enter Tryd.func72, Tryd.ntmps72
  go_wp2_with fail
  go_loopw [7] (fun s7 wr => ∃ k : Nat, k ≤ rs.length ∧ s7 = .int .i64 k ∧ Hid (∀ i, i < k → okAt rs i = true) ∧ Hid (Below w.heap.size w wr)) (fun s7 _ => rs.length - (intOf s7).toNat)
  case atStart => exact ⟨0, Nat.zero_le _, rfl, fun i hi => absurd hi (Nat.not_lt_zero _), Below.refl _ _⟩
  case round =>
    obtain ⟨k, hk, rfl, HOK, HB⟩ := hrel
    by_cases hlt : k < rs.length
    · have hlt' : (k : Int) < (rs.length : Int) := by omega
      obtain ⟨b, off, ha, k1, k2, hb1, hb2⟩ := HR.out.below HB.out k hlt
      subst ha
      have hprev : 0 < k → wr.cell? ⟨b, off + (k - 1) * 2, none⟩ = some (.int .u64 ((rs.getD (k - 1) (0, 0)).1 : Int)) := fun h0 => by
        obtain ⟨b', off', ha', k1', _⟩ := HR.out.below HB.out (k - 1) (by omega)
        simp at ha'
        obtain ⟨rfl, rfl⟩ := ha'
        exact k1'
      have hok : Hid (okAt rs k = (decide ((rs.getD k (0, 0)).1 ≤ (rs.getD k (0, 0)).2) && decide ((rs.getD k (0, 0)).2 ≤ M62) && (decide (k = 0) || decide ((rs.getD k (0, 0)).2 + 1 < (rs.getD (k - 1) (0, 0)).1)))) := rfl
      have hbad : okAt rs k = false → Hid (sndR rs = false) := fun h => by
        have : (List.range rs.length).all (okAt rs) = false := by
          rw [List.all_eq_false]
          exact ⟨k, by simpa using hlt, by simp [h]⟩
        rw [HSR.out, this]; rfl
      have hgood : okAt rs k = true → Hid (∀ i, i < k + 1 → okAt rs i = true) := fun h i hi => by
        by_cases e : i = k
        · rw [e]; exact h
        · exact HOK.out i (by omega)
      generalize (rs.getD k (0, 0)).1 = x at k1 hb1 hok
      generalize (rs.getD k (0, 0)).2 = y at k2 hb2 hok
      generalize (rs.getD (k - 1) (0, 0)).1 = z at hprev hok
      generalize okAt rs k = okk at hok hbad hgood
      have HBB := hid (HB.out.size)
      have HHB := hid hbad
      have HHG := hid hgood
      clear hbad hgood HR HOK
      by_cases h1 : x ≤ y
      · have g1 : ¬ ((y : Int) < (x : Int)) := by omega
        by_cases h2 : y ≤ M62
        · have g2 : ¬ ((4611686018427387903 : Int) < (y : Int)) := by unfold M62 at h2; omega
          by_cases h3 : 0 < k
          · have g3 : (0 : Int) < (k : Int) := by omega
            have k3 := hprev h3
            have hbl : b < wr.heap.size := World.block_lt_of_cell? _ _ k3
            have e5 : ((k : Int) - 1).toNat = k - 1 := by omega
            have e6 : IntKind.i64.wrap ((k : Int) - 1) = (k : Int) - 1 := by rw [IntKind.wrap_i64]; omega
            have e7 : (k : Int) - 1 < (rs.length : Int) := by omega
            have e8 : 0 ≤ (k : Int) - 1 := by omega
            have e9 : IntKind.u64.wrap ((y : Int) + 1) = (y : Int) + 1 := by rw [IntKind.wrap_u64]; unfold M62 at h2; omega
            clear hprev
            by_cases h4 : y + 1 < z
            · have hk1 : okk = true := by rw [hok.out]; simp [h1, h2, h4]
              have HG2 := HHG.out hk1
              have g4 : ¬ ((z : Int) ≤ (y : Int) + 1) := by omega
              clear hok HHB HHG hk1
              go_wp2_with fail
              generalize hWq : wr.alloc (.cells #[.int .u64 (x : Int), .int .u64 (y : Int)] 50) = Wq
              have HBq : Hid (Below w.heap.size w Wq) := by rw [← hWq]; exact HB.out.alloc HBB.out _
              have j1 : Wq.cell? ⟨wr.heap.size, 1, none⟩ = some (.int .u64 (y : Int)) := by rw [← hWq]; exact (Blk.new wr 50 [.int .u64 (x : Int), .int .u64 (y : Int)]).cell 1
              have j2 : Wq.cell? ⟨b, off + (k - 1) * 2, none⟩ = some (.int .u64 (z : Int)) := by rw [← hWq, World.cell?_alloc_past _ b _ hbl]; exact k3
              clear hWq
              go_quiet (fail)
              go_wp2
              go_roundw
              case rel => exact ⟨k + 1, by omega, by go_num, HG2, HBq.out.os, HBq.out.tape, HBq.out.output, HBq.out.size, HBq.out.block⟩
              case measure => simp [intOf]; omega
            · have hk1 : okk = false := by rw [hok.out]; simp [h4]; omega
              have HG2 := HHB.out hk1
              have g4 : (z : Int) ≤ (y : Int) + 1 := by omega
              clear hok HHB HHG hk1
              go_wp2_with fail
              generalize hWq : wr.alloc (.cells #[.int .u64 (x : Int), .int .u64 (y : Int)] 50) = Wq
              have HBq : Hid (Below w.heap.size w Wq) := by rw [← hWq]; exact HB.out.alloc HBB.out _
              have j1 : Wq.cell? ⟨wr.heap.size, 1, none⟩ = some (.int .u64 (y : Int)) := by rw [← hWq]; exact (Blk.new wr 50 [.int .u64 (x : Int), .int .u64 (y : Int)]).cell 1
              have j2 : Wq.cell? ⟨b, off + (k - 1) * 2, none⟩ = some (.int .u64 (z : Int)) := by rw [← hWq, World.cell?_alloc_past _ b _ hbl]; exact k3
              clear hWq
              go_quiet (fail)
              go_wp2
              go_ret
              exact ⟨ret_bool HG2.out.symm, HBq.out.os, HBq.out.tape, HBq.out.output, HBq.out.size, HBq.out.block⟩
          · have g3 : decide ((0 : Int) < (k : Int)) = false := by simp; omega
            have hk1 : okk = true := by rw [hok.out]; simp [h1, h2]; omega
            have HG2 := HHG.out hk1
            clear hok HHB HHG hk1 hprev
            go_wp2_with fail
            generalize hWq : wr.alloc (.cells #[.int .u64 (x : Int), .int .u64 (y : Int)] 50) = Wq
            have HBq : Hid (Below w.heap.size w Wq) := by rw [← hWq]; exact HB.out.alloc HBB.out _
            have j1 : Wq.cell? ⟨wr.heap.size, 1, none⟩ = some (.int .u64 (y : Int)) := by rw [← hWq]; exact (Blk.new wr 50 [.int .u64 (x : Int), .int .u64 (y : Int)]).cell 1
            clear hWq
            go_quiet (fail)
            go_wp2
            go_roundw
            case rel => exact ⟨k + 1, by omega, by go_num, HG2, HBq.out.os, HBq.out.tape, HBq.out.output, HBq.out.size, HBq.out.block⟩
            case measure => simp [intOf]; omega
        · have g2 : (4611686018427387903 : Int) < (y : Int) := by unfold M62 at h2; omega
          have hk1 : okk = false := by rw [hok.out]; simp [h2]
          have HG2 := HHB.out hk1
          clear hok HHB HHG hk1 hprev
          go_wp2
          go_ret
          exact ⟨ret_bool HG2.out.symm, HB.out.alloc HBB.out _⟩
      · have g1 : (y : Int) < (x : Int) := by omega
        have hk1 : okk = false := by rw [hok.out]; simp [h1]
        have HG2 := HHB.out hk1
        clear hok HHB HHG hk1 hprev
        go_wp2
        go_ret
        exact ⟨ret_bool HG2.out.symm, HB.out.alloc HBB.out _⟩
    · obtain rfl : k = rs.length := by omega
      have hall : Hid (sndR rs = decide (0 < rs.length)) := by
        have : (List.range rs.length).all (okAt rs) = true := by
          rw [List.all_eq_true]
          intro i hi
          exact HOK.out i (by simpa using hi)
        rw [HSR.out, this]; rfl
      clear HSR HOK
      go_wp2
      go_ret
      exact ⟨ret_bool (by rw [hall.out, decide_eq_decide]), HB.out⟩

end Go.Proofs.YtphbledmopchnaaDoor
