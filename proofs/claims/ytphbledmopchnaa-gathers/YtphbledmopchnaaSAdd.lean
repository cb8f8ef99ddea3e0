/-
  NewSet, bound, Floor, pick, Has; Add out of join.
-/
import Derived.Test.YtphbledmopchnaaSJoin
namespace Go.Proofs.Ytphbledmopchnaa.St
open Go.RowKit Go.Lib Mm

theorem ret_slot {v v' : Value} (h : v = v') : Ending.returned v = .returned v' := by rw [h]

theorem bound_any (sp : Nat) (most : Int) (hm1 : 1 ≤ most) (w : World) (h0 : w.cell? ⟨sp, 0, none⟩ = some (.int .i64 most)) :
    Calls Try.prog 14 #[.pointer (some ⟨sp, 0, none⟩)] w fun e w' => e = .returned (.int .i64 most) ∧ w' = w := by
  go_enter Try.func14, Try.ntmps14
  go_wp2
  go_ret
  exact ⟨ret_int (by omega), rfl⟩

theorem floor_any (sp : Nat) (fl : Nat) (w : World) (h0 : w.cell? ⟨sp, 1, none⟩ = some (.int .u64 (fl : Int))) :
    Calls Try.prog 12 #[.pointer (some ⟨sp, 0, none⟩)] w fun e w' => e = .returned (.int .u64 (fl : Int)) ∧ w' = w := by
  go_enter Try.func12, Try.ntmps12
  go_wp2
  go_ret
  exact ⟨rfl, rfl⟩

theorem search3 (bs br sp v : Nat) (base : Option Addr) (c : Nat) (rs : List (Nat × Nat)) (W : World) (hS : Rg.Sorted rs) (hn : rs.length ≤ 1000000)
    (cs : W.cell? ⟨bs, 0, none⟩ = some (.pointer (some ⟨sp, 0, none⟩))) (cr : W.cell? ⟨br, 0, none⟩ = some (.int .u64 (v : Int)))
    (cl : W.cell? ⟨sp, 2, none⟩ = some (.slice base rs.length c)) (R : RowAt W sp base c rs) :
    Calls Try.prog 16 #[.int .i64 (rs.length : Nat), .func (.func 17) #[] #[.pointer (some ⟨bs, 0, none⟩), .pointer (some ⟨br, 0, none⟩)]] W fun e w' => e = .returned (.int .i64 (rs.countP (fun r => decide (r.2 < v)) : Nat)) ∧ ∃ q, w' = W.drewN q := by
  have hc : (List.range rs.length).countP (fun i => !(decide (v ≤ (rs.getD i (0, 0)).2))) = rs.countP (fun r => decide (r.2 < v)) := by
    rw [countP_range_list rs (fun r => !decide (v ≤ r.2))]
    apply List.countP_congr
    intro x _
    simp
  rw [← hc]
  refine search_any 17 _ rs.length (fun i => decide (v ≤ (rs.getD i (0, 0)).2)) W (enters_of Try.func17 (by kernel_rfl) rfl) (by omega) (fun m i hi => ?_) (fun a b hab hb h => ?_)
  · obtain ⟨b, rfl, _, _, h1, h2⟩ := R.cell_hi hi
    exact has1_any bs br sp b c rs.length i v _ (W.drewN m) hi (by omega) cs cr cl h1
  · have := (sorted_get hS hab hb).2
    simp only [decide_eq_true_eq] at h ⊢
    omega

theorem row_ne {w : World} {sp : Nat} {base : Option Addr} {c : Nat} {rs : List (Nat × Nat)} (R : RowAt w sp base c rs) : ∀ k, base.map (·.block) = some k → k ≠ sp ∧ k < w.heap.size := by
  intro k hk
  rcases R with ⟨rfl, _⟩ | ⟨b, l, rfl, hb, hB, _⟩
  · cases hk
  · simp at hk; rw [← hk]; exact ⟨hb, hB.lt⟩

set_option maxHeartbeats 2000000 in
set_option maxRecDepth 100000 in
theorem has_any (sp v : Nat) (base : Option Addr) (c : Nat) (most : Int) (fl : Nat) (rs : List (Nat × Nat)) (w : World) (hS : Rg.Sorted rs) (hn : rs.length ≤ 1000000)
    (hs : Blk w sp 36 [.int .i64 most, .int .u64 (fl : Int), .slice base rs.length c]) (R : RowAt w sp base c rs) :
    Calls Try.prog 11 #[.pointer (some ⟨sp, 0, none⟩), .int .u64 (v : Int)] w fun e w' => e = .returned (.bool (decide (v < fl) || Rg.has v rs)) ∧ Below w.heap.size w w' := by
  obtain ⟨W, hW⟩ : ∃ W, W = (w.alloc (.cells #[.pointer (some ⟨sp, 0, none⟩)] 37)).alloc (.cells #[.int .u64 (v : Int)] 25) := ⟨_, rfl⟩
  have hbs : Blk W w.heap.size 37 [.pointer (some ⟨sp, 0, none⟩)] := by rw [hW]; exact (Blk.new w 37 _).alloc _
  have hbr : Blk W (w.heap.size + 1) 25 [.int .u64 (v : Int)] := by
    rw [hW]
    have := Blk.new (w.alloc (.cells #[.pointer (some ⟨sp, 0, none⟩)] 37)) 25 [.int .u64 (v : Int)]
    rwa [World.size_alloc] at this
  have hE : Below w.heap.size w W := by rw [hW]; exact ((Below.refl _ w).alloc (Nat.le_refl _) _).alloc (by simp) _
  have hsp : Blk W sp 36 [.int .i64 most, .int .u64 (fl : Int), .slice base rs.length c] := hs.of_heap (hE.block sp hs.lt)
  have RW : RowAt W sp base c rs := R.of_heap (fun b hb => hE.block b (row_ne R b (by rw [hb]; rfl)).2)
  have s1 := search3 w.heap.size (w.heap.size + 1) sp v base c rs W hS hn (hbs.cell 0) (hbr.cell 0) (hsp.cell 2) RW
  have hw2 : w.cell? ⟨sp, 2, none⟩ = some (.slice base rs.length c) := hs.cell 2
  have hlt : sp < w.heap.size := hs.lt
  have hhas := hid (show Rg.has v rs = (decide (rs.countP (fun r => decide (r.2 < v)) < rs.length) && decide ((rs.getD (rs.countP (fun r => decide (r.2 < v))) (0, 0)).1 ≤ v)) from rfl)
  have hIl : rs.countP (fun r => decide (r.2 < v)) ≤ rs.length := List.countP_le_length
  generalize rs.countP (fun r => decide (r.2 < v)) = I at s1 hhas hIl
  have k0 : W.cell? ⟨w.heap.size, 0, none⟩ = some (.pointer (some ⟨sp, 0, none⟩)) := hbs.cell 0
  have k1 : W.cell? ⟨w.heap.size + 1, 0, none⟩ = some (.int .u64 (v : Int)) := hbr.cell 0
  have k2 : W.cell? ⟨sp, 1, none⟩ = some (.int .u64 (fl : Int)) := hsp.cell 1
  have k3 : W.cell? ⟨sp, 2, none⟩ = some (.slice base rs.length c) := hsp.cell 2
  have HS1 := hid s1
  have HE := hid hE
  have HKK := hid (And.intro k0 (And.intro k1 (And.intro k2 k3)))
  have HR := hid RW
  clear s1 hE RW hbs hbr hsp hs k0 k1 k2 k3 R
  subst hW
  go_enter Try.func11, Try.ntmps11
  go_wp2_with fail
  refine HS1.out.mono ?_
  rintro e w' ⟨rfl, q1, rfl⟩
  go_wp2_with fail
  generalize hWq : ((w.alloc (.cells #[.pointer (some ⟨sp, 0, none⟩)] 37)).alloc (.cells #[.int .u64 (v : Int)] 25)).drewN q1 = Wq
  obtain ⟨k0, k1, k2, k3⟩ := HKK.out
  have HE2 : Hid (Below w.heap.size w Wq) := by rw [← hWq]; exact ⟨HE.out.os, HE.out.tape, HE.out.output, HE.out.size, HE.out.block⟩
  have j0 : Wq.cell? ⟨w.heap.size, 0, none⟩ = some (.pointer (some ⟨sp, 0, none⟩)) := by rw [← hWq]; exact k0
  have j1 : Wq.cell? ⟨w.heap.size + 1, 0, none⟩ = some (.int .u64 (v : Int)) := by rw [← hWq]; exact k1
  have j2 : Wq.cell? ⟨sp, 1, none⟩ = some (.int .u64 (fl : Int)) := by rw [← hWq]; exact k2
  have j3 : Wq.cell? ⟨sp, 2, none⟩ = some (.slice base rs.length c) := by rw [← hWq]; exact k3
  have HR2 : Hid (RowAt Wq sp base c rs) := by rw [← hWq]; exact RowAt.of_heap HR.out (fun _ _ => rfl)
  clear hWq HKK k0 k1 k2 k3 HS1 HR HE hw2
  by_cases h1 : v < fl
  · have g1 : (v : Int) < (fl : Int) := by omega
    have HF := hid h1
    clear h1
    go_quiet (fail)
    go_wp2
    go_ret
    exact ⟨ret_bool (by simp [HF.out]), HE2.out.os, HE2.out.tape, HE2.out.output, HE2.out.size, HE2.out.block⟩
  · have g1 : decide ((v : Int) < (fl : Int)) = false := by simp; omega
    by_cases h2 : I < rs.length
    · have g3 : (I : Int) < ((rs.length : Nat) : Int) := by omega
      obtain ⟨b, hb, _, _, _, k4⟩ := HR2.out.cell_hi h2
      subst hb
      generalize (rs.getD I (0, 0)).1 = x at k4 hhas
      go_quiet (fail)
      go_wp2
      go_ret
      exact ⟨ret_bool (by rw [hhas.out]; simp [h1, h2]), HE2.out.os, HE2.out.tape, HE2.out.output, HE2.out.size, HE2.out.block⟩
    · have g2 : decide ((I : Int) < ((rs.length : Nat) : Int)) = false := by simp; omega
      go_quiet (fail)
      go_wp2
      go_ret
      exact ⟨ret_bool (by rw [hhas.out]; simp [h1, h2]), HE2.out.os, HE2.out.tape, HE2.out.output, HE2.out.size, HE2.out.block⟩

end Go.Proofs.Ytphbledmopchnaa.St
