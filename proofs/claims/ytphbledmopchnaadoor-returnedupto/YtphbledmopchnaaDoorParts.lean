/-
  The layouts of parts of frames, as they are made.
-/
import Derived.Test.YtphbledmopchnaaDoorInOrder
namespace Go.Proofs.YtphbledmopchnaaDoor
open Go.RowKit Go.Lib Go.Shelf Mm

/-- A box of one cell, laid at B0 or behind. -/
def Box (B0 : Nat) (w : World) (xb : Nat) (v : Value) : Prop := B0 ≤ xb ∧ w.cell? ⟨xb, 0, none⟩ = some v
theorem Box.below {B0 : Nat} {w w' : World} {xb : Nat} {v : Value} (h : Box B0 w xb v) (hb : Below w.heap.size w w') : Box B0 w' xb v :=
  ⟨h.1, (hb.cell (p := ⟨xb, 0, none⟩) (World.block_lt_of_cell? _ _ h.2)).trans h.2⟩
theorem Box.mono {B0 B1 : Nat} {w : World} {xb : Nat} {v : Value} (h : Box B1 w xb v) (hb : B0 ≤ B1) : Box B0 w xb v := ⟨Nat.le_trans hb h.1, h.2⟩

/-- A part of a frame: what its layout's two functions are. (0, x): a first byte x; (1, _): that of Data; (2, _): Stream; (3, p): the number at the place p; (4, _): bytes; (5, _): ranges. -/
def PartIs (B0 : Nat) (w : World) (tag : Nat × Nat) (fw fr : Value) : Prop :=
  (tag.1 = 0 ∧ ∃ xb, Box B0 w xb (.int .u8 (tag.2 : Int)) ∧ fw = .func (.func 55) #[] #[.pointer (some ⟨xb, 0, none⟩)] ∧ fr = .func (.func 56) #[] #[]) ∨
  (tag.1 = 1 ∧ fw = .func (.func 66) #[] #[] ∧ fr = .func (.func 67) #[] #[]) ∨
  (tag.1 = 2 ∧ fw = .func (.func 62) #[] #[] ∧ fr = .func (.func 63) #[] #[]) ∨
  (tag.1 = 3 ∧ ∃ xb, Box B0 w xb (.func (.func tag.2) #[] #[]) ∧ fw = .func (.func 64) #[] #[.pointer (some ⟨xb, 0, none⟩)] ∧ fr = .func (.func 65) #[] #[.pointer (some ⟨xb, 0, none⟩)]) ∨
  (tag.1 = 4 ∧ fw = .func (.func 68) #[] #[] ∧ fr = .func (.func 69) #[] #[]) ∨
  (tag.1 = 5 ∧ fw = .func (.func 60) #[] #[] ∧ fr = .func (.func 61) #[] #[])

theorem PartIs.below {B0 : Nat} {w w' : World} {tag : Nat × Nat} {fw fr : Value} (h : PartIs B0 w tag fw fr) (hb : Below w.heap.size w w') : PartIs B0 w' tag fw fr := by
  rcases h with ⟨h, xb, hx, h2⟩ | h | h | ⟨h, xb, hx, h2⟩ | h | h
  · exact .inl ⟨h, xb, hx.below hb, h2⟩
  · exact .inr (.inl h)
  · exact .inr (.inr (.inl h))
  · exact .inr (.inr (.inr (.inl ⟨h, xb, hx.below hb, h2⟩)))
  · exact .inr (.inr (.inr (.inr (.inl h))))
  · exact .inr (.inr (.inr (.inr (.inr h))))
theorem PartIs.mono {B0 B1 : Nat} {w : World} {tag : Nat × Nat} {fw fr : Value} (h : PartIs B1 w tag fw fr) (hb : B0 ≤ B1) : PartIs B0 w tag fw fr := by
  rcases h with ⟨h, xb, hx, h2⟩ | h | h | ⟨h, xb, hx, h2⟩ | h | h
  · exact .inl ⟨h, xb, hx.mono hb, h2⟩
  · exact .inr (.inl h)
  · exact .inr (.inr (.inl h))
  · exact .inr (.inr (.inr (.inl ⟨h, xb, hx.mono hb, h2⟩)))
  · exact .inr (.inr (.inr (.inr (.inl h))))
  · exact .inr (.inr (.inr (.inr (.inr h))))

/-- What a call that makes a part hands back. -/
def Made (w w' : World) (tag : Nat × Nat) (e : Ending) : Prop := ∃ fw fr, e = .returned (.agg #[fw, fr]) ∧ PartIs w.heap.size w' tag fw fr ∧ Below w.heap.size w w'

theorem first_made (x : Nat) (w : World) : Calls Tryd.prog 31 #[.int .u8 (x : Int)] w fun e w' => Made w w' (0, x) e := by
  go_enter Tryd.func31, Tryd.ntmps31
  go_wp2
  refine bodyPost_ret (v := .agg #[.func (.func 55) #[] #[.pointer (some ⟨w.heap.size, 0, none⟩)], .func (.func 56) #[] #[]]) (by simp [results, Tryd.results31, go_sem]) rfl ⟨_, _, rfl, .inl ⟨rfl, w.heap.size, ⟨Nat.le_refl _, ?_⟩, rfl, rfl⟩, ?_⟩
  · exact ((Blk.new w 5 [.int .u8 (x : Int)]).alloc _).cell 0
  · exact ((Below.refl _ w).alloc (Nat.le_refl _) _).alloc (by simp) _

theorem ranges_made (w : World) : Calls Tryd.prog 33 #[] w fun e w' => Made w w' (5, 0) e := by
  go_enter Tryd.func33, Tryd.ntmps33
  go_wp2
  exact bodyPost_ret (v := .agg #[.func (.func 60) #[] #[], .func (.func 61) #[] #[]]) (by simp [results, Tryd.results33, go_sem]) rfl ⟨_, _, rfl, .inr (.inr (.inr (.inr (.inr ⟨rfl, rfl, rfl⟩)))), (Below.refl _ w).alloc (Nat.le_refl _) _⟩

theorem stream_made (w : World) : Calls Tryd.prog 34 #[] w fun e w' => Made w w' (2, 0) e := by
  go_enter Tryd.func34, Tryd.ntmps34
  go_wp2
  exact bodyPost_ret (v := .agg #[.func (.func 62) #[] #[], .func (.func 63) #[] #[]]) (by simp [results, Tryd.results34, go_sem]) rfl ⟨_, _, rfl, .inr (.inr (.inl ⟨rfl, rfl, rfl⟩)), (Below.refl _ w).alloc (Nat.le_refl _) _⟩

theorem fdata_made (w : World) : Calls Tryd.prog 38 #[] w fun e w' => Made w w' (1, 0) e := by
  go_enter Tryd.func38, Tryd.ntmps38
  go_wp2
  exact bodyPost_ret (v := .agg #[.func (.func 66) #[] #[], .func (.func 67) #[] #[]]) (by simp [results, Tryd.results38, go_sem]) rfl ⟨_, _, rfl, .inr (.inl ⟨rfl, rfl, rfl⟩), (Below.refl _ w).alloc (Nat.le_refl _) _⟩

theorem text_made (w : World) : Calls Tryd.prog 39 #[] w fun e w' => Made w w' (4, 0) e := by
  go_enter Tryd.func39, Tryd.ntmps39
  go_wp2
  exact bodyPost_ret (v := .agg #[.func (.func 68) #[] #[], .func (.func 69) #[] #[]]) (by simp [results, Tryd.results39, go_sem]) rfl ⟨_, _, rfl, .inr (.inr (.inr (.inr (.inl ⟨rfl, rfl, rfl⟩)))), (Below.refl _ w).alloc (Nat.le_refl _) _⟩

theorem number_made (pf : Nat) (w : World) : Calls Tryd.prog 35 #[.func (.func pf) #[] #[]] w fun e w' => Made w w' (3, pf) e := by
  go_enter Tryd.func35, Tryd.ntmps35
  go_wp2
  refine bodyPost_ret (v := .agg #[.func (.func 64) #[] #[.pointer (some ⟨w.heap.size, 0, none⟩)], .func (.func 65) #[] #[.pointer (some ⟨w.heap.size, 0, none⟩)]]) (by simp [results, Tryd.results35, go_sem]) rfl ⟨_, _, rfl, .inr (.inr (.inr (.inl ⟨rfl, w.heap.size, ⟨Nat.le_refl _, ?_⟩, rfl, rfl⟩))), ?_⟩
  · exact ((Blk.new w 90 [.func (.func pf) #[] #[]]).alloc _).cell 0
  · exact ((Below.refl _ w).alloc (Nat.le_refl _) _).alloc (by simp) _

theorem inOrder_made (s : Value) (hs : ∃ a n c, s = .slice a n c) (w : World) : Calls Tryd.prog 32 #[s] w fun e w' => ∃ pb, e = .returned (.agg #[.func (.func 58) #[] #[.pointer (some ⟨pb, 0, none⟩)], .func (.func 59) #[] #[.pointer (some ⟨pb, 0, none⟩)]]) ∧ Box w.heap.size w' pb s ∧ Below w.heap.size w w' := by
  obtain ⟨a, n, c, rfl⟩ := hs
  go_enter Tryd.func32, Tryd.ntmps32
  go_wp2
  refine bodyPost_ret (v := .agg #[.func (.func 58) #[] #[.pointer (some ⟨w.heap.size, 0, none⟩)], .func (.func 59) #[] #[.pointer (some ⟨w.heap.size, 0, none⟩)]]) (by simp [results, Tryd.results32, go_sem]) rfl ⟨w.heap.size, rfl, ⟨Nat.le_refl _, ?_⟩, ?_⟩
  · exact ((Blk.new w 116 [.slice a n c]).alloc _).cell 0
  · exact ((Below.refl _ w).alloc (Nat.le_refl _) _).alloc (by simp) _

end Go.Proofs.YtphbledmopchnaaDoor
