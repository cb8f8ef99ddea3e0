/-
  layoutOf: how the frames of each kind are laid out.
-/
import Derived.Test.YtphbledmopchnaaDoorParts
namespace Go.Proofs.YtphbledmopchnaaDoor
open Go.RowKit Go.Lib Go.Shelf Mm

theorem Box.of {B0 : Nat} {w w' : World} {xb : Nat} {v : Value} (h : Box B0 w xb v) (e : ∀ k, B0 ≤ k → w'.heap[k]? = w.heap[k]?) : Box B0 w' xb v := ⟨h.1, cell_of h.2 (e xb h.1)⟩
theorem PartIs.of {B0 : Nat} {w w' : World} {tag : Nat × Nat} {fw fr : Value} (h : PartIs B0 w tag fw fr) (e : ∀ k, B0 ≤ k → w'.heap[k]? = w.heap[k]?) : PartIs B0 w' tag fw fr := by
  rcases h with ⟨h, xb, hx, h2⟩ | h | h | ⟨h, xb, hx, h2⟩ | h | h
  · exact .inl ⟨h, xb, hx.of e, h2⟩
  · exact .inr (.inl h)
  · exact .inr (.inr (.inl h))
  · exact .inr (.inr (.inr (.inl ⟨h, xb, hx.of e, h2⟩)))
  · exact .inr (.inr (.inr (.inr (.inl h))))
  · exact .inr (.inr (.inr (.inr (.inr h))))

/-- A layout of parts in their order. -/
def LayIs (B0 : Nat) (w : World) (tags : List (Nat × Nat)) (fw fr : Value) : Prop :=
  ∃ pb qb, fw = .func (.func 58) #[] #[.pointer (some ⟨pb, 0, none⟩)] ∧ fr = .func (.func 59) #[] #[.pointer (some ⟨pb, 0, none⟩)] ∧ Box B0 w pb (.slice (some ⟨qb, 0, none⟩) tags.length tags.length) ∧ B0 ≤ qb ∧
    ∀ j, j < tags.length → ∃ fw fr, w.cell? ⟨qb, j * 2, none⟩ = some fw ∧ w.cell? ⟨qb, j * 2 + 1, none⟩ = some fr ∧ PartIs B0 w (tags.getD j (0, 0)) fw fr

/-- What layoutOf hands back. -/
def Laid (w w' : World) (tags : List (Nat × Nat)) (e : Ending) : Prop := ∃ fw fr, e = .returned (.agg #[fw, fr]) ∧ LayIs (w.heap.size + 1) w' tags fw fr ∧ Below w.heap.size w w'

/-- The result's own cell is written last. -/
theorem fin_world {w y : World} {Z : Obj} (h : Below (w.heap.size + 1) (w.alloc Z) y) (a b : Value) :
    Below w.heap.size w ((y.setCell ⟨w.heap.size, 0, none⟩ a).setCell ⟨w.heap.size, 1, none⟩ b) ∧ ∀ k, w.heap.size + 1 ≤ k → ((y.setCell ⟨w.heap.size, 0, none⟩ a).setCell ⟨w.heap.size, 1, none⟩ b).heap[k]? = y.heap[k]? := by
  refine ⟨?_, fun k hk => ?_⟩
  · have h1 : Below w.heap.size w y := ((Below.refl _ w).alloc (Nat.le_refl _) Z).trans (h.mono (by omega))
    exact (h1.setCell (p := ⟨w.heap.size, 0, none⟩) (Nat.le_refl _) a).setCell (p := ⟨w.heap.size, 1, none⟩) (Nat.le_refl _) b
  · rw [Below.heap_setCell _ _ _ _ (by simp; omega), Below.heap_setCell _ _ _ _ (by simp; omega)]

theorem first_made' (x : Nat) (X : Int) (hX : X = (x : Int)) (w : World) : Calls Tryd.prog 31 #[.int .u8 X] w fun e w' => Made w w' (0, x) e := by
  subst hX; exact first_made x w

/-- One part more: what is known of the world. -/
theorem chain_step {B : Nat} {W0 y y' : World} (h : Below B W0 y) (hB : B ≤ W0.heap.size) (h' : Below y.heap.size y y') : Below B W0 y' := h.trans (h'.mono (Nat.le_trans hB h.size))

theorem fin_facts {w z : World} (h : Below (w.heap.size + 1) (w.alloc (.cells #[.nilFunc, .nilFunc] 64)) z) :
    z.cell? ⟨w.heap.size, 0, none⟩ = some .nilFunc ∧ z.cell? ⟨w.heap.size, 1, none⟩ = some .nilFunc ∧ z.frozen? ⟨w.heap.size, 0, none⟩ = false ∧ z.frozen? ⟨w.heap.size, 1, none⟩ = false := by
  have hb : Blk z w.heap.size 64 [.nilFunc, .nilFunc] := (Blk.new w 64 [.nilFunc, .nilFunc]).of_heap (h.block _ (by omega))
  exact ⟨hb.cell 0, hb.cell 1, hb.frozen 0, hb.frozen 1⟩

set_option maxHeartbeats 1000000 in
set_option maxRecDepth 100000 in
theorem layout2 (w : World) : Calls Tryd.prog 19 #[.int .i64 2] w fun e w' => Laid w w' [(0, 2), (5, 0)] e := by
  go_enter Tryd.func19, Tryd.ntmps19
  go_wp2_with fail
  refine (first_made' 2 _ rfl _).mono ?_
  rintro e y1 ⟨fw1, fr1, rfl, hP1, hB1⟩
  have C1 : Hid (Below (w.heap.size + 1) (w.alloc (.cells #[.nilFunc, .nilFunc] 64)) y1) := hB1.mono (by simp)
  have HP1 := hid hP1
  have HB1 := hid hB1
  clear hP1 hB1
  go_wp2_with fail
  refine (ranges_made _).mono ?_
  rintro e y2 ⟨fw2, fr2, rfl, hP2, hB2⟩
  have C2 : Hid (Below (w.heap.size + 1) (w.alloc (.cells #[.nilFunc, .nilFunc] 64)) y2) := chain_step C1.out (by simp) hB2
  have HP2 := hid hP2
  have HB2 := hid hB2
  clear hP2 hB2
  go_wp2_with fail
  refine (inOrder_made _ ⟨_, _, _, rfl⟩ _).mono ?_
  rintro e z ⟨pb, rfl, hBox, hBz⟩
  have hBA : Below y2.heap.size y2 (y2.alloc (.cells #[fw1, fr1, fw2, fr2] 64)) := (Below.refl _ _).alloc (Nat.le_refl _) _
  have CA : Below (w.heap.size + 1) (w.alloc (.cells #[.nilFunc, .nilFunc] 64)) (y2.alloc (.cells #[fw1, fr1, fw2, fr2] 64)) := chain_step C2.out (by simp) hBA
  have CZ : Below (w.heap.size + 1) (w.alloc (.cells #[.nilFunc, .nilFunc] 64)) z := chain_step CA (by simp) hBz
  obtain ⟨i0, i1, i2, i3⟩ := fin_facts CZ
  have hq : Blk z y2.heap.size 64 [fw1, fr1, fw2, fr2] := (Blk.new y2 64 [fw1, fr1, fw2, fr2]).of_heap (hBz.block _ (by simp))
  have Q1 := hid ((((HP1.out.below HB2.out).below hBA).below hBz).mono (B0 := w.heap.size + 1) (by simp))
  have Q2 := hid (((HP2.out.below hBA).below hBz).mono (B0 := w.heap.size + 1) (by have := C1.out.size; simp at this; omega))
  have hszn : w.heap.size + 1 ≤ y2.heap.size := by have := C2.out.size; simp at this; omega
  have HBX := hid (hBox.mono (B0 := w.heap.size + 1) (by simp; omega))
  have HQ := hid hq
  have HCZ := hid CZ
  have HSZ := hid hszn
  clear hBox hq CZ CA hBA hBz hszn
  go_wp2_with fail
  obtain ⟨f1, f2⟩ := fin_world HCZ.out (.func (.func 58) #[] #[.pointer (some ⟨pb, 0, none⟩)]) (.func (.func 59) #[] #[.pointer (some ⟨pb, 0, none⟩)])
  refine bodyPost_ret (v := .agg #[.func (.func 58) #[] #[.pointer (some ⟨pb, 0, none⟩)], .func (.func 59) #[] #[.pointer (some ⟨pb, 0, none⟩)]]) (by simp [results, Tryd.results19, go_sem, i0, i1]) rfl ⟨_, _, rfl, ⟨pb, y2.heap.size, rfl, rfl, HBX.out.of f2, HSZ.out, ?_⟩, f1⟩
  intro j hj
  have hq2 : Blk _ y2.heap.size 64 [fw1, fr1, fw2, fr2] := HQ.out.of_heap (f2 _ HSZ.out)
  match j, hj with
  | 0, _ => exact ⟨fw1, fr1, hq2.cell 0, hq2.cell 1, Q1.out.of f2⟩
  | 1, _ => exact ⟨fw2, fr2, hq2.cell 2, hq2.cell 3, Q2.out.of f2⟩
  | (m + 2), hm => exact absurd hm (by simp)

set_option maxHeartbeats 1000000 in
set_option maxRecDepth 100000 in
theorem layout3 (w : World) : Calls Tryd.prog 19 #[.int .i64 3] w fun e w' => Laid w w' [(0, 36), (2, 0), (3, 36), (3, 37)] e := by
  go_enter Tryd.func19, Tryd.ntmps19
  go_wp2_with fail
  refine (first_made' 36 _ rfl _).mono ?_
  rintro e y1 ⟨fw1, fr1, rfl, hP1, hB1⟩
  have C1 : Hid (Below (w.heap.size + 1) (w.alloc (.cells #[.nilFunc, .nilFunc] 64)) y1) := hB1.mono (by simp)
  have HP1 := hid hP1
  have HB1 := hid hB1
  clear hP1 hB1
  go_wp2_with fail
  refine (stream_made _).mono ?_
  rintro e y2 ⟨fw2, fr2, rfl, hP2, hB2⟩
  have C2 : Hid (Below (w.heap.size + 1) (w.alloc (.cells #[.nilFunc, .nilFunc] 64)) y2) := chain_step C1.out (by simp) hB2
  have HP2 := hid hP2
  have HB2 := hid hB2
  clear hP2 hB2
  go_wp2_with fail
  refine (number_made 36 _).mono ?_
  rintro e y3 ⟨fw3, fr3, rfl, hP3, hB3⟩
  have C3 : Hid (Below (w.heap.size + 1) (w.alloc (.cells #[.nilFunc, .nilFunc] 64)) y3) := chain_step C2.out (by simp) hB3
  have HP3 := hid hP3
  have HB3 := hid hB3
  clear hP3 hB3
  go_wp2_with fail
  refine (number_made 37 _).mono ?_
  rintro e y4 ⟨fw4, fr4, rfl, hP4, hB4⟩
  have C4 : Hid (Below (w.heap.size + 1) (w.alloc (.cells #[.nilFunc, .nilFunc] 64)) y4) := chain_step C3.out (by simp) hB4
  have HP4 := hid hP4
  have HB4 := hid hB4
  clear hP4 hB4
  go_wp2_with fail
  refine (inOrder_made _ ⟨_, _, _, rfl⟩ _).mono ?_
  rintro e z ⟨pb, rfl, hBox, hBz⟩
  have hBA : Below y4.heap.size y4 (y4.alloc (.cells #[fw1, fr1, fw2, fr2, fw3, fr3, fw4, fr4] 64)) := (Below.refl _ _).alloc (Nat.le_refl _) _
  have CA : Below (w.heap.size + 1) (w.alloc (.cells #[.nilFunc, .nilFunc] 64)) (y4.alloc (.cells #[fw1, fr1, fw2, fr2, fw3, fr3, fw4, fr4] 64)) := chain_step C4.out (by simp) hBA
  have CZ : Below (w.heap.size + 1) (w.alloc (.cells #[.nilFunc, .nilFunc] 64)) z := chain_step CA (by simp) hBz
  obtain ⟨i0, i1, i2, i3⟩ := fin_facts CZ
  have hq : Blk z y4.heap.size 64 [fw1, fr1, fw2, fr2, fw3, fr3, fw4, fr4] := (Blk.new y4 64 [fw1, fr1, fw2, fr2, fw3, fr3, fw4, fr4]).of_heap (hBz.block _ (by simp))
  have Q1 := hid ((((((HP1.out.below HB2.out).below HB3.out).below HB4.out).below hBA).below hBz).mono (B0 := w.heap.size + 1) (by simp))
  have Q2 := hid (((((HP2.out.below HB3.out).below HB4.out).below hBA).below hBz).mono (B0 := w.heap.size + 1) (by have := C1.out.size; simp at this; omega))
  have Q3 := hid ((((HP3.out.below HB4.out).below hBA).below hBz).mono (B0 := w.heap.size + 1) (by have := C2.out.size; simp at this; omega))
  have Q4 := hid (((HP4.out.below hBA).below hBz).mono (B0 := w.heap.size + 1) (by have := C3.out.size; simp at this; omega))
  have hszn : w.heap.size + 1 ≤ y4.heap.size := by have := C4.out.size; simp at this; omega
  have HBX := hid (hBox.mono (B0 := w.heap.size + 1) (by simp; omega))
  have HQ := hid hq
  have HCZ := hid CZ
  have HSZ := hid hszn
  clear hBox hq CZ CA hBA hBz hszn
  go_wp2_with fail
  obtain ⟨f1, f2⟩ := fin_world HCZ.out (.func (.func 58) #[] #[.pointer (some ⟨pb, 0, none⟩)]) (.func (.func 59) #[] #[.pointer (some ⟨pb, 0, none⟩)])
  refine bodyPost_ret (v := .agg #[.func (.func 58) #[] #[.pointer (some ⟨pb, 0, none⟩)], .func (.func 59) #[] #[.pointer (some ⟨pb, 0, none⟩)]]) (by simp [results, Tryd.results19, go_sem, i0, i1]) rfl ⟨_, _, rfl, ⟨pb, y4.heap.size, rfl, rfl, HBX.out.of f2, HSZ.out, ?_⟩, f1⟩
  intro j hj
  have hq2 : Blk _ y4.heap.size 64 [fw1, fr1, fw2, fr2, fw3, fr3, fw4, fr4] := HQ.out.of_heap (f2 _ HSZ.out)
  match j, hj with
  | 0, _ => exact ⟨fw1, fr1, hq2.cell 0, hq2.cell 1, Q1.out.of f2⟩
  | 1, _ => exact ⟨fw2, fr2, hq2.cell 2, hq2.cell 3, Q2.out.of f2⟩
  | 2, _ => exact ⟨fw3, fr3, hq2.cell 4, hq2.cell 5, Q3.out.of f2⟩
  | 3, _ => exact ⟨fw4, fr4, hq2.cell 6, hq2.cell 7, Q4.out.of f2⟩
  | (m + 4), hm => exact absurd hm (by simp)

set_option maxHeartbeats 1000000 in
set_option maxRecDepth 100000 in
theorem layout4 (w : World) : Calls Tryd.prog 19 #[.int .i64 4] w fun e w' => Laid w w' [(1, 0), (2, 0), (3, 36), (4, 0)] e := by
  go_enter Tryd.func19, Tryd.ntmps19
  go_wp2_with fail
  refine (fdata_made _).mono ?_
  rintro e y1 ⟨fw1, fr1, rfl, hP1, hB1⟩
  have C1 : Hid (Below (w.heap.size + 1) (w.alloc (.cells #[.nilFunc, .nilFunc] 64)) y1) := hB1.mono (by simp)
  have HP1 := hid hP1
  have HB1 := hid hB1
  clear hP1 hB1
  go_wp2_with fail
  refine (stream_made _).mono ?_
  rintro e y2 ⟨fw2, fr2, rfl, hP2, hB2⟩
  have C2 : Hid (Below (w.heap.size + 1) (w.alloc (.cells #[.nilFunc, .nilFunc] 64)) y2) := chain_step C1.out (by simp) hB2
  have HP2 := hid hP2
  have HB2 := hid hB2
  clear hP2 hB2
  go_wp2_with fail
  refine (number_made 36 _).mono ?_
  rintro e y3 ⟨fw3, fr3, rfl, hP3, hB3⟩
  have C3 : Hid (Below (w.heap.size + 1) (w.alloc (.cells #[.nilFunc, .nilFunc] 64)) y3) := chain_step C2.out (by simp) hB3
  have HP3 := hid hP3
  have HB3 := hid hB3
  clear hP3 hB3
  go_wp2_with fail
  refine (text_made _).mono ?_
  rintro e y4 ⟨fw4, fr4, rfl, hP4, hB4⟩
  have C4 : Hid (Below (w.heap.size + 1) (w.alloc (.cells #[.nilFunc, .nilFunc] 64)) y4) := chain_step C3.out (by simp) hB4
  have HP4 := hid hP4
  have HB4 := hid hB4
  clear hP4 hB4
  go_wp2_with fail
  refine (inOrder_made _ ⟨_, _, _, rfl⟩ _).mono ?_
  rintro e z ⟨pb, rfl, hBox, hBz⟩
  have hBA : Below y4.heap.size y4 (y4.alloc (.cells #[fw1, fr1, fw2, fr2, fw3, fr3, fw4, fr4] 64)) := (Below.refl _ _).alloc (Nat.le_refl _) _
  have CA : Below (w.heap.size + 1) (w.alloc (.cells #[.nilFunc, .nilFunc] 64)) (y4.alloc (.cells #[fw1, fr1, fw2, fr2, fw3, fr3, fw4, fr4] 64)) := chain_step C4.out (by simp) hBA
  have CZ : Below (w.heap.size + 1) (w.alloc (.cells #[.nilFunc, .nilFunc] 64)) z := chain_step CA (by simp) hBz
  obtain ⟨i0, i1, i2, i3⟩ := fin_facts CZ
  have hq : Blk z y4.heap.size 64 [fw1, fr1, fw2, fr2, fw3, fr3, fw4, fr4] := (Blk.new y4 64 [fw1, fr1, fw2, fr2, fw3, fr3, fw4, fr4]).of_heap (hBz.block _ (by simp))
  have Q1 := hid ((((((HP1.out.below HB2.out).below HB3.out).below HB4.out).below hBA).below hBz).mono (B0 := w.heap.size + 1) (by simp))
  have Q2 := hid (((((HP2.out.below HB3.out).below HB4.out).below hBA).below hBz).mono (B0 := w.heap.size + 1) (by have := C1.out.size; simp at this; omega))
  have Q3 := hid ((((HP3.out.below HB4.out).below hBA).below hBz).mono (B0 := w.heap.size + 1) (by have := C2.out.size; simp at this; omega))
  have Q4 := hid (((HP4.out.below hBA).below hBz).mono (B0 := w.heap.size + 1) (by have := C3.out.size; simp at this; omega))
  have hszn : w.heap.size + 1 ≤ y4.heap.size := by have := C4.out.size; simp at this; omega
  have HBX := hid (hBox.mono (B0 := w.heap.size + 1) (by simp; omega))
  have HQ := hid hq
  have HCZ := hid CZ
  have HSZ := hid hszn
  clear hBox hq CZ CA hBA hBz hszn
  go_wp2_with fail
  obtain ⟨f1, f2⟩ := fin_world HCZ.out (.func (.func 58) #[] #[.pointer (some ⟨pb, 0, none⟩)]) (.func (.func 59) #[] #[.pointer (some ⟨pb, 0, none⟩)])
  refine bodyPost_ret (v := .agg #[.func (.func 58) #[] #[.pointer (some ⟨pb, 0, none⟩)], .func (.func 59) #[] #[.pointer (some ⟨pb, 0, none⟩)]]) (by simp [results, Tryd.results19, go_sem, i0, i1]) rfl ⟨_, _, rfl, ⟨pb, y4.heap.size, rfl, rfl, HBX.out.of f2, HSZ.out, ?_⟩, f1⟩
  intro j hj
  have hq2 : Blk _ y4.heap.size 64 [fw1, fr1, fw2, fr2, fw3, fr3, fw4, fr4] := HQ.out.of_heap (f2 _ HSZ.out)
  match j, hj with
  | 0, _ => exact ⟨fw1, fr1, hq2.cell 0, hq2.cell 1, Q1.out.of f2⟩
  | 1, _ => exact ⟨fw2, fr2, hq2.cell 2, hq2.cell 3, Q2.out.of f2⟩
  | 2, _ => exact ⟨fw3, fr3, hq2.cell 4, hq2.cell 5, Q3.out.of f2⟩
  | 3, _ => exact ⟨fw4, fr4, hq2.cell 6, hq2.cell 7, Q4.out.of f2⟩
  | (m + 4), hm => exact absurd hm (by simp)

set_option maxHeartbeats 1000000 in
set_option maxRecDepth 100000 in
theorem layout5 (w : World) : Calls Tryd.prog 19 #[.int .i64 5] w fun e w' => Laid w w' [(0, 16), (3, 40)] e := by
  go_enter Tryd.func19, Tryd.ntmps19
  go_wp2_with fail
  refine (first_made' 16 _ rfl _).mono ?_
  rintro e y1 ⟨fw1, fr1, rfl, hP1, hB1⟩
  have C1 : Hid (Below (w.heap.size + 1) (w.alloc (.cells #[.nilFunc, .nilFunc] 64)) y1) := hB1.mono (by simp)
  have HP1 := hid hP1
  have HB1 := hid hB1
  clear hP1 hB1
  go_wp2_with fail
  refine (number_made 40 _).mono ?_
  rintro e y2 ⟨fw2, fr2, rfl, hP2, hB2⟩
  have C2 : Hid (Below (w.heap.size + 1) (w.alloc (.cells #[.nilFunc, .nilFunc] 64)) y2) := chain_step C1.out (by simp) hB2
  have HP2 := hid hP2
  have HB2 := hid hB2
  clear hP2 hB2
  go_wp2_with fail
  refine (inOrder_made _ ⟨_, _, _, rfl⟩ _).mono ?_
  rintro e z ⟨pb, rfl, hBox, hBz⟩
  have hBA : Below y2.heap.size y2 (y2.alloc (.cells #[fw1, fr1, fw2, fr2] 64)) := (Below.refl _ _).alloc (Nat.le_refl _) _
  have CA : Below (w.heap.size + 1) (w.alloc (.cells #[.nilFunc, .nilFunc] 64)) (y2.alloc (.cells #[fw1, fr1, fw2, fr2] 64)) := chain_step C2.out (by simp) hBA
  have CZ : Below (w.heap.size + 1) (w.alloc (.cells #[.nilFunc, .nilFunc] 64)) z := chain_step CA (by simp) hBz
  obtain ⟨i0, i1, i2, i3⟩ := fin_facts CZ
  have hq : Blk z y2.heap.size 64 [fw1, fr1, fw2, fr2] := (Blk.new y2 64 [fw1, fr1, fw2, fr2]).of_heap (hBz.block _ (by simp))
  have Q1 := hid ((((HP1.out.below HB2.out).below hBA).below hBz).mono (B0 := w.heap.size + 1) (by simp))
  have Q2 := hid (((HP2.out.below hBA).below hBz).mono (B0 := w.heap.size + 1) (by have := C1.out.size; simp at this; omega))
  have hszn : w.heap.size + 1 ≤ y2.heap.size := by have := C2.out.size; simp at this; omega
  have HBX := hid (hBox.mono (B0 := w.heap.size + 1) (by simp; omega))
  have HQ := hid hq
  have HCZ := hid CZ
  have HSZ := hid hszn
  clear hBox hq CZ CA hBA hBz hszn
  go_wp2_with fail
  obtain ⟨f1, f2⟩ := fin_world HCZ.out (.func (.func 58) #[] #[.pointer (some ⟨pb, 0, none⟩)]) (.func (.func 59) #[] #[.pointer (some ⟨pb, 0, none⟩)])
  refine bodyPost_ret (v := .agg #[.func (.func 58) #[] #[.pointer (some ⟨pb, 0, none⟩)], .func (.func 59) #[] #[.pointer (some ⟨pb, 0, none⟩)]]) (by simp [results, Tryd.results19, go_sem, i0, i1]) rfl ⟨_, _, rfl, ⟨pb, y2.heap.size, rfl, rfl, HBX.out.of f2, HSZ.out, ?_⟩, f1⟩
  intro j hj
  have hq2 : Blk _ y2.heap.size 64 [fw1, fr1, fw2, fr2] := HQ.out.of_heap (f2 _ HSZ.out)
  match j, hj with
  | 0, _ => exact ⟨fw1, fr1, hq2.cell 0, hq2.cell 1, Q1.out.of f2⟩
  | 1, _ => exact ⟨fw2, fr2, hq2.cell 2, hq2.cell 3, Q2.out.of f2⟩
  | (m + 2), hm => exact absurd hm (by simp)

set_option maxHeartbeats 1000000 in
set_option maxRecDepth 100000 in
theorem layout6 (w : World) : Calls Tryd.prog 19 #[.int .i64 6] w fun e w' => Laid w w' [(0, 17), (2, 0), (3, 40)] e := by
  go_enter Tryd.func19, Tryd.ntmps19
  go_wp2_with fail
  refine (first_made' 17 _ rfl _).mono ?_
  rintro e y1 ⟨fw1, fr1, rfl, hP1, hB1⟩
  have C1 : Hid (Below (w.heap.size + 1) (w.alloc (.cells #[.nilFunc, .nilFunc] 64)) y1) := hB1.mono (by simp)
  have HP1 := hid hP1
  have HB1 := hid hB1
  clear hP1 hB1
  go_wp2_with fail
  refine (stream_made _).mono ?_
  rintro e y2 ⟨fw2, fr2, rfl, hP2, hB2⟩
  have C2 : Hid (Below (w.heap.size + 1) (w.alloc (.cells #[.nilFunc, .nilFunc] 64)) y2) := chain_step C1.out (by simp) hB2
  have HP2 := hid hP2
  have HB2 := hid hB2
  clear hP2 hB2
  go_wp2_with fail
  refine (number_made 40 _).mono ?_
  rintro e y3 ⟨fw3, fr3, rfl, hP3, hB3⟩
  have C3 : Hid (Below (w.heap.size + 1) (w.alloc (.cells #[.nilFunc, .nilFunc] 64)) y3) := chain_step C2.out (by simp) hB3
  have HP3 := hid hP3
  have HB3 := hid hB3
  clear hP3 hB3
  go_wp2_with fail
  refine (inOrder_made _ ⟨_, _, _, rfl⟩ _).mono ?_
  rintro e z ⟨pb, rfl, hBox, hBz⟩
  have hBA : Below y3.heap.size y3 (y3.alloc (.cells #[fw1, fr1, fw2, fr2, fw3, fr3] 64)) := (Below.refl _ _).alloc (Nat.le_refl _) _
  have CA : Below (w.heap.size + 1) (w.alloc (.cells #[.nilFunc, .nilFunc] 64)) (y3.alloc (.cells #[fw1, fr1, fw2, fr2, fw3, fr3] 64)) := chain_step C3.out (by simp) hBA
  have CZ : Below (w.heap.size + 1) (w.alloc (.cells #[.nilFunc, .nilFunc] 64)) z := chain_step CA (by simp) hBz
  obtain ⟨i0, i1, i2, i3⟩ := fin_facts CZ
  have hq : Blk z y3.heap.size 64 [fw1, fr1, fw2, fr2, fw3, fr3] := (Blk.new y3 64 [fw1, fr1, fw2, fr2, fw3, fr3]).of_heap (hBz.block _ (by simp))
  have Q1 := hid (((((HP1.out.below HB2.out).below HB3.out).below hBA).below hBz).mono (B0 := w.heap.size + 1) (by simp))
  have Q2 := hid ((((HP2.out.below HB3.out).below hBA).below hBz).mono (B0 := w.heap.size + 1) (by have := C1.out.size; simp at this; omega))
  have Q3 := hid (((HP3.out.below hBA).below hBz).mono (B0 := w.heap.size + 1) (by have := C2.out.size; simp at this; omega))
  have hszn : w.heap.size + 1 ≤ y3.heap.size := by have := C3.out.size; simp at this; omega
  have HBX := hid (hBox.mono (B0 := w.heap.size + 1) (by simp; omega))
  have HQ := hid hq
  have HCZ := hid CZ
  have HSZ := hid hszn
  clear hBox hq CZ CA hBA hBz hszn
  go_wp2_with fail
  obtain ⟨f1, f2⟩ := fin_world HCZ.out (.func (.func 58) #[] #[.pointer (some ⟨pb, 0, none⟩)]) (.func (.func 59) #[] #[.pointer (some ⟨pb, 0, none⟩)])
  refine bodyPost_ret (v := .agg #[.func (.func 58) #[] #[.pointer (some ⟨pb, 0, none⟩)], .func (.func 59) #[] #[.pointer (some ⟨pb, 0, none⟩)]]) (by simp [results, Tryd.results19, go_sem, i0, i1]) rfl ⟨_, _, rfl, ⟨pb, y3.heap.size, rfl, rfl, HBX.out.of f2, HSZ.out, ?_⟩, f1⟩
  intro j hj
  have hq2 : Blk _ y3.heap.size 64 [fw1, fr1, fw2, fr2, fw3, fr3] := HQ.out.of_heap (f2 _ HSZ.out)
  match j, hj with
  | 0, _ => exact ⟨fw1, fr1, hq2.cell 0, hq2.cell 1, Q1.out.of f2⟩
  | 1, _ => exact ⟨fw2, fr2, hq2.cell 2, hq2.cell 3, Q2.out.of f2⟩
  | 2, _ => exact ⟨fw3, fr3, hq2.cell 4, hq2.cell 5, Q3.out.of f2⟩
  | (m + 3), hm => exact absurd hm (by simp)

set_option maxHeartbeats 1000000 in
set_option maxRecDepth 100000 in
theorem layout7 (w : World) : Calls Tryd.prog 19 #[.int .i64 7] w fun e w' => Laid w w' [(0, 48), (3, 41), (3, 42), (4, 0)] e := by
  go_enter Tryd.func19, Tryd.ntmps19
  go_wp2_with fail
  refine (first_made' 48 _ rfl _).mono ?_
  rintro e y1 ⟨fw1, fr1, rfl, hP1, hB1⟩
  have C1 : Hid (Below (w.heap.size + 1) (w.alloc (.cells #[.nilFunc, .nilFunc] 64)) y1) := hB1.mono (by simp)
  have HP1 := hid hP1
  have HB1 := hid hB1
  clear hP1 hB1
  go_wp2_with fail
  refine (number_made 41 _).mono ?_
  rintro e y2 ⟨fw2, fr2, rfl, hP2, hB2⟩
  have C2 : Hid (Below (w.heap.size + 1) (w.alloc (.cells #[.nilFunc, .nilFunc] 64)) y2) := chain_step C1.out (by simp) hB2
  have HP2 := hid hP2
  have HB2 := hid hB2
  clear hP2 hB2
  go_wp2_with fail
  refine (number_made 42 _).mono ?_
  rintro e y3 ⟨fw3, fr3, rfl, hP3, hB3⟩
  have C3 : Hid (Below (w.heap.size + 1) (w.alloc (.cells #[.nilFunc, .nilFunc] 64)) y3) := chain_step C2.out (by simp) hB3
  have HP3 := hid hP3
  have HB3 := hid hB3
  clear hP3 hB3
  go_wp2_with fail
  refine (text_made _).mono ?_
  rintro e y4 ⟨fw4, fr4, rfl, hP4, hB4⟩
  have C4 : Hid (Below (w.heap.size + 1) (w.alloc (.cells #[.nilFunc, .nilFunc] 64)) y4) := chain_step C3.out (by simp) hB4
  have HP4 := hid hP4
  have HB4 := hid hB4
  clear hP4 hB4
  go_wp2_with fail
  refine (inOrder_made _ ⟨_, _, _, rfl⟩ _).mono ?_
  rintro e z ⟨pb, rfl, hBox, hBz⟩
  have hBA : Below y4.heap.size y4 (y4.alloc (.cells #[fw1, fr1, fw2, fr2, fw3, fr3, fw4, fr4] 64)) := (Below.refl _ _).alloc (Nat.le_refl _) _
  have CA : Below (w.heap.size + 1) (w.alloc (.cells #[.nilFunc, .nilFunc] 64)) (y4.alloc (.cells #[fw1, fr1, fw2, fr2, fw3, fr3, fw4, fr4] 64)) := chain_step C4.out (by simp) hBA
  have CZ : Below (w.heap.size + 1) (w.alloc (.cells #[.nilFunc, .nilFunc] 64)) z := chain_step CA (by simp) hBz
  obtain ⟨i0, i1, i2, i3⟩ := fin_facts CZ
  have hq : Blk z y4.heap.size 64 [fw1, fr1, fw2, fr2, fw3, fr3, fw4, fr4] := (Blk.new y4 64 [fw1, fr1, fw2, fr2, fw3, fr3, fw4, fr4]).of_heap (hBz.block _ (by simp))
  have Q1 := hid ((((((HP1.out.below HB2.out).below HB3.out).below HB4.out).below hBA).below hBz).mono (B0 := w.heap.size + 1) (by simp))
  have Q2 := hid (((((HP2.out.below HB3.out).below HB4.out).below hBA).below hBz).mono (B0 := w.heap.size + 1) (by have := C1.out.size; simp at this; omega))
  have Q3 := hid ((((HP3.out.below HB4.out).below hBA).below hBz).mono (B0 := w.heap.size + 1) (by have := C2.out.size; simp at this; omega))
  have Q4 := hid (((HP4.out.below hBA).below hBz).mono (B0 := w.heap.size + 1) (by have := C3.out.size; simp at this; omega))
  have hszn : w.heap.size + 1 ≤ y4.heap.size := by have := C4.out.size; simp at this; omega
  have HBX := hid (hBox.mono (B0 := w.heap.size + 1) (by simp; omega))
  have HQ := hid hq
  have HCZ := hid CZ
  have HSZ := hid hszn
  clear hBox hq CZ CA hBA hBz hszn
  go_wp2_with fail
  obtain ⟨f1, f2⟩ := fin_world HCZ.out (.func (.func 58) #[] #[.pointer (some ⟨pb, 0, none⟩)]) (.func (.func 59) #[] #[.pointer (some ⟨pb, 0, none⟩)])
  refine bodyPost_ret (v := .agg #[.func (.func 58) #[] #[.pointer (some ⟨pb, 0, none⟩)], .func (.func 59) #[] #[.pointer (some ⟨pb, 0, none⟩)]]) (by simp [results, Tryd.results19, go_sem, i0, i1]) rfl ⟨_, _, rfl, ⟨pb, y4.heap.size, rfl, rfl, HBX.out.of f2, HSZ.out, ?_⟩, f1⟩
  intro j hj
  have hq2 : Blk _ y4.heap.size 64 [fw1, fr1, fw2, fr2, fw3, fr3, fw4, fr4] := HQ.out.of_heap (f2 _ HSZ.out)
  match j, hj with
  | 0, _ => exact ⟨fw1, fr1, hq2.cell 0, hq2.cell 1, Q1.out.of f2⟩
  | 1, _ => exact ⟨fw2, fr2, hq2.cell 2, hq2.cell 3, Q2.out.of f2⟩
  | 2, _ => exact ⟨fw3, fr3, hq2.cell 4, hq2.cell 5, Q3.out.of f2⟩
  | 3, _ => exact ⟨fw4, fr4, hq2.cell 6, hq2.cell 7, Q4.out.of f2⟩
  | (m + 4), hm => exact absurd hm (by simp)

set_option maxHeartbeats 1000000 in
set_option maxRecDepth 100000 in
theorem layout8 (w : World) : Calls Tryd.prog 19 #[.int .i64 8] w fun e w' => Laid w w' [(0, 28), (3, 40)] e := by
  go_enter Tryd.func19, Tryd.ntmps19
  go_wp2_with fail
  refine (first_made' 28 _ rfl _).mono ?_
  rintro e y1 ⟨fw1, fr1, rfl, hP1, hB1⟩
  have C1 : Hid (Below (w.heap.size + 1) (w.alloc (.cells #[.nilFunc, .nilFunc] 64)) y1) := hB1.mono (by simp)
  have HP1 := hid hP1
  have HB1 := hid hB1
  clear hP1 hB1
  go_wp2_with fail
  refine (number_made 40 _).mono ?_
  rintro e y2 ⟨fw2, fr2, rfl, hP2, hB2⟩
  have C2 : Hid (Below (w.heap.size + 1) (w.alloc (.cells #[.nilFunc, .nilFunc] 64)) y2) := chain_step C1.out (by simp) hB2
  have HP2 := hid hP2
  have HB2 := hid hB2
  clear hP2 hB2
  go_wp2_with fail
  refine (inOrder_made _ ⟨_, _, _, rfl⟩ _).mono ?_
  rintro e z ⟨pb, rfl, hBox, hBz⟩
  have hBA : Below y2.heap.size y2 (y2.alloc (.cells #[fw1, fr1, fw2, fr2] 64)) := (Below.refl _ _).alloc (Nat.le_refl _) _
  have CA : Below (w.heap.size + 1) (w.alloc (.cells #[.nilFunc, .nilFunc] 64)) (y2.alloc (.cells #[fw1, fr1, fw2, fr2] 64)) := chain_step C2.out (by simp) hBA
  have CZ : Below (w.heap.size + 1) (w.alloc (.cells #[.nilFunc, .nilFunc] 64)) z := chain_step CA (by simp) hBz
  obtain ⟨i0, i1, i2, i3⟩ := fin_facts CZ
  have hq : Blk z y2.heap.size 64 [fw1, fr1, fw2, fr2] := (Blk.new y2 64 [fw1, fr1, fw2, fr2]).of_heap (hBz.block _ (by simp))
  have Q1 := hid ((((HP1.out.below HB2.out).below hBA).below hBz).mono (B0 := w.heap.size + 1) (by simp))
  have Q2 := hid (((HP2.out.below hBA).below hBz).mono (B0 := w.heap.size + 1) (by have := C1.out.size; simp at this; omega))
  have hszn : w.heap.size + 1 ≤ y2.heap.size := by have := C2.out.size; simp at this; omega
  have HBX := hid (hBox.mono (B0 := w.heap.size + 1) (by simp; omega))
  have HQ := hid hq
  have HCZ := hid CZ
  have HSZ := hid hszn
  clear hBox hq CZ CA hBA hBz hszn
  go_wp2_with fail
  obtain ⟨f1, f2⟩ := fin_world HCZ.out (.func (.func 58) #[] #[.pointer (some ⟨pb, 0, none⟩)]) (.func (.func 59) #[] #[.pointer (some ⟨pb, 0, none⟩)])
  refine bodyPost_ret (v := .agg #[.func (.func 58) #[] #[.pointer (some ⟨pb, 0, none⟩)], .func (.func 59) #[] #[.pointer (some ⟨pb, 0, none⟩)]]) (by simp [results, Tryd.results19, go_sem, i0, i1]) rfl ⟨_, _, rfl, ⟨pb, y2.heap.size, rfl, rfl, HBX.out.of f2, HSZ.out, ?_⟩, f1⟩
  intro j hj
  have hq2 : Blk _ y2.heap.size 64 [fw1, fr1, fw2, fr2] := HQ.out.of_heap (f2 _ HSZ.out)
  match j, hj with
  | 0, _ => exact ⟨fw1, fr1, hq2.cell 0, hq2.cell 1, Q1.out.of f2⟩
  | 1, _ => exact ⟨fw2, fr2, hq2.cell 2, hq2.cell 3, Q2.out.of f2⟩
  | (m + 2), hm => exact absurd hm (by simp)

end Go.Proofs.YtphbledmopchnaaDoor
