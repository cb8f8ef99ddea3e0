/-
  plain.Told, plain.number.
-/
import Derived.Test.YtphbledmopchnaaDoorAs
namespace Go.Proofs.YtphbledmopchnaaDoor
open Go.RowKit Go.Lib Go.Shelf Mm

theorem told_nil (w : World) : Calls Tryd.prog 12 #[.nilIface] w fun e w' => e = .returned (.tuple #[.int .i64 0, .int .i64 (-1)]) ∧ Below w.heap.size w w' := by
  go_enter Tryd.func12, Tryd.ntmps12
  go_wp2
  go_ret2
  exact ⟨rfl, ((Below.refl _ w).alloc (Nat.le_refl _) _).alloc (by simp) _⟩

set_option maxHeartbeats 1000000 in
theorem told_errno (x : Int) (heq : ∀ w, (binOp .eql 40 (.iface 30 (.int .i64 x)) (.iface 30 (.int .i64 x))).run Tryd.prog w = .ok (.bool true) w) (w : World) (hg : ErrAt w) :
    Calls Tryd.prog 12 #[.iface 30 (.int .i64 x)] w fun e w' => e = .returned (.tuple #[.int .i64 x, .int .i64 (-1)]) ∧ Below w.heap.size w w' := by
  obtain ⟨W1, hW1⟩ : ∃ W1, W1 = (w.alloc (.cells #[.pointer none] 51)).alloc (.cells #[.int .i64 0] 30) := ⟨_, rfl⟩
  have hs : W1.heap.size = w.heap.size + 2 := by rw [hW1]; simp
  have hb : Below w.heap.size w W1 := by rw [hW1]; exact ((Below.refl _ w).alloc (Nat.le_refl _) _).alloc (by simp) _
  have h0 : 0 < w.heap.size := World.block_lt_of_cell? _ _ hg
  have hg1 : ErrAt W1 := cell_of hg (hb.block 0 h0)
  have hB : Blk W1 (w.heap.size + 1) 30 [.int .i64 0] := by rw [hW1]; have := Blk.new (w.alloc (.cells #[.pointer none] 51)) 30 [.int .i64 0]; simpa using this
  have HM := hid (as_miss x ⟨w.heap.size, 0, none⟩ W1 hg1)
  obtain ⟨W2, hW2⟩ : ∃ W2, W2 = (((W1.alloc (.cells #[.pointer (some ⟨w.heap.size, 0, none⟩)] 53)).alloc (.cells #[.pointer (some ⟨2, 53, none⟩), .pointer (some ⟨W1.heap.size, 0, none⟩), .int .u64 150] 72)).alloc (.cells #[.pointer (some ⟨2, 53, none⟩), .pointer (some ⟨W1.heap.size, 0, none⟩), .int .u64 150] 72)) := ⟨_, rfl⟩
  have hb2 : Below W1.heap.size W1 W2 := by rw [hW2]; exact (((Below.refl _ W1).alloc (Nat.le_refl _) _).alloc (by simp) _).alloc (by simp; omega) _
  have hB2 : Blk W2 (w.heap.size + 1) 30 [.int .i64 0] := hB.of_heap (hb2.block _ (by omega))
  have hg2 : ErrAt W2 := cell_of hg1 (hb2.block 0 (by omega))
  have HH := hid (as_hit x ⟨w.heap.size + 1, 0, none⟩ (.int .i64 0) W2 hg2 (hB2.cell 0) (hB2.frozen 0))
  have HI := hid (fun w => is_same x w heq)
  obtain ⟨W3, hW3⟩ : ∃ W3, W3 = ((((W2.alloc (.cells #[.pointer (some ⟨w.heap.size + 1, 0, none⟩)] 57)).alloc (.cells #[.pointer (some ⟨2, 57, none⟩), .pointer (some ⟨W2.heap.size, 0, none⟩), .int .u64 150] 72)).alloc (.cells #[.pointer (some ⟨2, 57, none⟩), .pointer (some ⟨W2.heap.size, 0, none⟩), .int .u64 150] 72)).alloc (.cells #[.int .i64 x] 30)) := ⟨_, rfl⟩
  have hb3 : Below W2.heap.size W2 W3 := by rw [hW3]; exact ((((Below.refl _ W2).alloc (Nat.le_refl _) _).alloc (by simp) _).alloc (by simp; omega) _).alloc (by simp; omega) _
  have hB3 : Blk W3 (w.heap.size + 1) 30 [.int .i64 0] := hB2.of_heap (hb3.block _ (by have := hb2.size; omega))
  have k1 : (W3.setCell ⟨w.heap.size + 1, 0, none⟩ (.int .i64 x)).cell? ⟨w.heap.size + 1, 0, none⟩ = some (.int .i64 x) := World.cell?_setCell_same' _ _ _ (by rw [hB3.cell 0]; rfl)
  have HF : Hid (Below w.heap.size w (W3.setCell ⟨w.heap.size + 1, 0, none⟩ (.int .i64 x))) := (((hb.trans (hb2.mono (by omega))).trans (hb3.mono (by have := hb2.size; omega))).setCell (p := ⟨w.heap.size + 1, 0, none⟩) (by simp) _)
  rw [← hW2] at HM
  rw [← hW3] at HH
  have HW1 := hid hW1
  clear hW1 hW2 hW3 hs hb hg hg1 hB hb2 hB2 hg2 hb3 hB3
  go_enter Tryd.func12, Tryd.ntmps12
  go_wp2_with fail
  rw [← HW1.out]
  refine HM.out.mono ?_
  rintro e w2 ⟨rfl, hw2⟩
  subst hw2
  go_wp2_with fail
  refine HH.out.mono ?_
  rintro e w3 ⟨rfl, hw3⟩
  subst hw3
  go_wp2_with fail
  refine (HI.out _).mono ?_
  rintro e w4 ⟨rfl, hw4⟩
  subst hw4
  go_wp2
  go_ret2
  exact ⟨rfl, HF.out⟩

theorem number_of (v : Value) (x at_ : Int) (w : World) (P : World → Prop) (h : Calls Tryd.prog 12 #[v] w fun e w' => e = .returned (.tuple #[.int .i64 x, .int .i64 at_]) ∧ P w') :
    Calls Tryd.prog 10 #[v] w fun e w' => e = .returned (.int .i64 x) ∧ P w' := by
  have H := hid h
  clear h
  go_enter Tryd.func10, Tryd.ntmps10
  go_wp2_with fail
  refine H.out.mono ?_
  rintro e w2 ⟨rfl, hw2⟩
  have H2 := hid hw2
  clear hw2
  go_wp2
  go_ret
  exact ⟨rfl, H2.out⟩

end Go.Proofs.YtphbledmopchnaaDoor
