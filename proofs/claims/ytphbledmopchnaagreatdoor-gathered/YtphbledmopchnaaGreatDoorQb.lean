import Derived.Test.YtphbledmopchnaaGreatDoorQa
/-
  The layouts of parts of frames, as they are made.
-/
namespace Go.Proofs.YtphbledmopchnaaGreatDoor
open Go.RowKit Go.Lib Go.Shelf Mm

/-- A box of one cell, laid at B0 or behind. -/
def Box (B0 : Nat) (w : World) (xb : Nat) (v : Value) : Prop := B0 ≤ xb ∧ w.cell? ⟨xb, 0, none⟩ = some v
theorem Box.below {B0 : Nat} {w w' : World} {xb : Nat} {v : Value} (h : Box B0 w xb v) (hb : Below w.heap.size w w') : Box B0 w' xb v :=
  ⟨h.1, (hb.cell (p := ⟨xb, 0, none⟩) (World.block_lt_of_cell? _ _ h.2)).trans h.2⟩
theorem Box.mono {B0 B1 : Nat} {w : World} {xb : Nat} {v : Value} (h : Box B1 w xb v) (hb : B0 ≤ B1) : Box B0 w xb v := ⟨Nat.le_trans hb h.1, h.2⟩

/-- A part of a frame: what its layout's two functions are. (0, x): a first byte x; (1, _): that of Data; (2, _): Stream; (3, p): the number at the place p; (4, _): bytes; (5, _): ranges. -/
def PartIs (B0 : Nat) (w : World) (tag : Nat × Nat) (fw fr : Value) : Prop :=
  (tag.1 = 0 ∧ ∃ xb, Box B0 w xb (.int .u8 (tag.2 : Int)) ∧ fw = .func (.func 321) #[] #[.pointer (some ⟨xb, 0, none⟩)] ∧ fr = .func (.func 322) #[] #[]) ∨
  (tag.1 = 1 ∧ fw = .func (.func 331) #[] #[] ∧ fr = .func (.func 332) #[] #[]) ∨
  (tag.1 = 2 ∧ fw = .func (.func 327) #[] #[] ∧ fr = .func (.func 328) #[] #[]) ∨
  (tag.1 = 3 ∧ ∃ xb, Box B0 w xb (.func (.func tag.2) #[] #[]) ∧ fw = .func (.func 329) #[] #[.pointer (some ⟨xb, 0, none⟩)] ∧ fr = .func (.func 330) #[] #[.pointer (some ⟨xb, 0, none⟩)]) ∨
  (tag.1 = 4 ∧ fw = .func (.func 333) #[] #[] ∧ fr = .func (.func 334) #[] #[]) ∨
  (tag.1 = 5 ∧ fw = .func (.func 325) #[] #[] ∧ fr = .func (.func 326) #[] #[])

theorem PartIs.below {B0 : Nat} {w w' : World} {tag : Nat × Nat} {fw fr : Value} (h : PartIs B0 w tag fw fr) (hb : Below w.heap.size w w') : PartIs B0 w' tag fw fr := by
  rcases h with ⟨h, xb, hx, h2⟩ | h | h | ⟨h, xb, hx, h2⟩ | h | h
  · exact .inl ⟨h, xb, hx.below hb, h2⟩
  · exact .inr (.inl h)
  · exact .inr (.inr (.inl h))
  · exact .inr (.inr (.inr (.inl ⟨h, xb, hx.below hb, h2⟩)))
  · exact .inr (.inr (.inr (.inr (.inl h))))
  · exact .inr (.inr (.inr (.inr (.inr h))))
theorem PartIs.mono {B0 B1 : Nat} {w : World} {tag : Nat × Nat} {fw fr : Value} (h : PartIs B1 w tag fw fr) (hb : B0 ≤ B1) : PartIs B0 w tag fw fr := by
  rcases h with ⟨h, xb, hx, h2⟩ | h | h | ⟨h, xb, hx, h2⟩ | h | h
  · exact .inl ⟨h, xb, hx.mono hb, h2⟩
  · exact .inr (.inl h)
  · exact .inr (.inr (.inl h))
  · exact .inr (.inr (.inr (.inl ⟨h, xb, hx.mono hb, h2⟩)))
  · exact .inr (.inr (.inr (.inr (.inl h))))
  · exact .inr (.inr (.inr (.inr (.inr h))))

/-- What a call that makes a part hands back. -/
def Made (w w' : World) (tag : Nat × Nat) (e : Ending) : Prop := ∃ fw fr, e = .returned (.agg #[fw, fr]) ∧ PartIs w.heap.size w' tag fw fr ∧ Below w.heap.size w w'

theorem first_made (x : Nat) (w : World) : Calls Tryz.prog 274 #[.int .u8 (x : Int)] w fun e w' => Made w w' (0, x) e := by
  go_enter Tryz.func274, Tryz.ntmps274
  go_wp2
  refine bodyPost_ret (v := .agg #[.func (.func 321) #[] #[.pointer (some ⟨w.heap.size, 0, none⟩)], .func (.func 322) #[] #[]]) (by simp [results, Tryz.results274, go_sem]) rfl ⟨_, _, rfl, .inl ⟨rfl, w.heap.size, ⟨Nat.le_refl _, ?_⟩, rfl, rfl⟩, ?_⟩
  · exact ((Blk.new w 5 [.int .u8 (x : Int)]).alloc _).cell 0
  · exact ((Below.refl _ w).alloc (Nat.le_refl _) _).alloc (by simp) _

theorem ranges_made (w : World) : Calls Tryz.prog 276 #[] w fun e w' => Made w w' (5, 0) e := by
  go_enter Tryz.func276, Tryz.ntmps276
  go_wp2
  exact bodyPost_ret (v := .agg #[.func (.func 325) #[] #[], .func (.func 326) #[] #[]]) (by simp [results, Tryz.results276, go_sem]) rfl ⟨_, _, rfl, .inr (.inr (.inr (.inr (.inr ⟨rfl, rfl, rfl⟩)))), (Below.refl _ w).alloc (Nat.le_refl _) _⟩

theorem stream_made (w : World) : Calls Tryz.prog 277 #[] w fun e w' => Made w w' (2, 0) e := by
  go_enter Tryz.func277, Tryz.ntmps277
  go_wp2
  exact bodyPost_ret (v := .agg #[.func (.func 327) #[] #[], .func (.func 328) #[] #[]]) (by simp [results, Tryz.results277, go_sem]) rfl ⟨_, _, rfl, .inr (.inr (.inl ⟨rfl, rfl, rfl⟩)), (Below.refl _ w).alloc (Nat.le_refl _) _⟩

theorem fdata_made (w : World) : Calls Tryz.prog 281 #[] w fun e w' => Made w w' (1, 0) e := by
  go_enter Tryz.func281, Tryz.ntmps281
  go_wp2
  exact bodyPost_ret (v := .agg #[.func (.func 331) #[] #[], .func (.func 332) #[] #[]]) (by simp [results, Tryz.results281, go_sem]) rfl ⟨_, _, rfl, .inr (.inl ⟨rfl, rfl, rfl⟩), (Below.refl _ w).alloc (Nat.le_refl _) _⟩

theorem text_made (w : World) : Calls Tryz.prog 282 #[] w fun e w' => Made w w' (4, 0) e := by
  go_enter Tryz.func282, Tryz.ntmps282
  go_wp2
  exact bodyPost_ret (v := .agg #[.func (.func 333) #[] #[], .func (.func 334) #[] #[]]) (by simp [results, Tryz.results282, go_sem]) rfl ⟨_, _, rfl, .inr (.inr (.inr (.inr (.inl ⟨rfl, rfl, rfl⟩)))), (Below.refl _ w).alloc (Nat.le_refl _) _⟩

theorem number_made (pf : Nat) (w : World) : Calls Tryz.prog 278 #[.func (.func pf) #[] #[]] w fun e w' => Made w w' (3, pf) e := by
  go_enter Tryz.func278, Tryz.ntmps278
  go_wp2
  refine bodyPost_ret (v := .agg #[.func (.func 329) #[] #[.pointer (some ⟨w.heap.size, 0, none⟩)], .func (.func 330) #[] #[.pointer (some ⟨w.heap.size, 0, none⟩)]]) (by simp [results, Tryz.results278, go_sem]) rfl ⟨_, _, rfl, .inr (.inr (.inr (.inl ⟨rfl, w.heap.size, ⟨Nat.le_refl _, ?_⟩, rfl, rfl⟩))), ?_⟩
  · exact ((Blk.new w 357 [.func (.func pf) #[] #[]]).alloc _).cell 0
  · exact ((Below.refl _ w).alloc (Nat.le_refl _) _).alloc (by simp) _

theorem inOrder_made (s : Value) (hs : ∃ a n c, s = .slice a n c) (w : World) : Calls Tryz.prog 275 #[s] w fun e w' => ∃ pb, e = .returned (.agg #[.func (.func 323) #[] #[.pointer (some ⟨pb, 0, none⟩)], .func (.func 324) #[] #[.pointer (some ⟨pb, 0, none⟩)]]) ∧ Box w.heap.size w' pb s ∧ Below w.heap.size w w' := by
  obtain ⟨a, n, c, rfl⟩ := hs
  go_enter Tryz.func275, Tryz.ntmps275
  go_wp2
  refine bodyPost_ret (v := .agg #[.func (.func 323) #[] #[.pointer (some ⟨w.heap.size, 0, none⟩)], .func (.func 324) #[] #[.pointer (some ⟨w.heap.size, 0, none⟩)]]) (by simp [results, Tryz.results275, go_sem]) rfl ⟨w.heap.size, rfl, ⟨Nat.le_refl _, ?_⟩, ?_⟩
  · exact ((Blk.new w 380 [.slice a n c]).alloc _).cell 0
  · exact ((Below.refl _ w).alloc (Nat.le_refl _) _).alloc (by simp) _

end Go.Proofs.YtphbledmopchnaaGreatDoor

/-
  layoutOf: how the frames of each kind are laid out.
-/
namespace Go.Proofs.YtphbledmopchnaaGreatDoor
open Go.RowKit Go.Lib Go.Shelf Mm

theorem Box.of {B0 : Nat} {w w' : World} {xb : Nat} {v : Value} (h : Box B0 w xb v) (e : ∀ k, B0 ≤ k → w'.heap[k]? = w.heap[k]?) : Box B0 w' xb v := ⟨h.1, cell_of h.2 (e xb h.1)⟩
theorem PartIs.of {B0 : Nat} {w w' : World} {tag : Nat × Nat} {fw fr : Value} (h : PartIs B0 w tag fw fr) (e : ∀ k, B0 ≤ k → w'.heap[k]? = w.heap[k]?) : PartIs B0 w' tag fw fr := by
  rcases h with ⟨h, xb, hx, h2⟩ | h | h | ⟨h, xb, hx, h2⟩ | h | h
  · exact .inl ⟨h, xb, hx.of e, h2⟩
  · exact .inr (.inl h)
  · exact .inr (.inr (.inl h))
  · exact .inr (.inr (.inr (.inl ⟨h, xb, hx.of e, h2⟩)))
  · exact .inr (.inr (.inr (.inr (.inl h))))
  · exact .inr (.inr (.inr (.inr (.inr h))))

/-- A layout of parts in their order. -/
def LayIs (B0 : Nat) (w : World) (tags : List (Nat × Nat)) (fw fr : Value) : Prop :=
  ∃ pb qb, fw = .func (.func 323) #[] #[.pointer (some ⟨pb, 0, none⟩)] ∧ fr = .func (.func 324) #[] #[.pointer (some ⟨pb, 0, none⟩)] ∧ Box B0 w pb (.slice (some ⟨qb, 0, none⟩) tags.length tags.length) ∧ B0 ≤ qb ∧
    ∀ j, j < tags.length → ∃ fw fr, w.cell? ⟨qb, j * 2, none⟩ = some fw ∧ w.cell? ⟨qb, j * 2 + 1, none⟩ = some fr ∧ PartIs B0 w (tags.getD j (0, 0)) fw fr

/-- What layoutOf hands back. -/
def Laid (w w' : World) (tags : List (Nat × Nat)) (e : Ending) : Prop := ∃ fw fr, e = .returned (.agg #[fw, fr]) ∧ LayIs (w.heap.size + 1) w' tags fw fr ∧ Below w.heap.size w w'

/-- The result's own cell is written last. -/
theorem fin_world {w y : World} {Z : Obj} (h : Below (w.heap.size + 1) (w.alloc Z) y) (a b : Value) :
    Below w.heap.size w ((y.setCell ⟨w.heap.size, 0, none⟩ a).setCell ⟨w.heap.size, 1, none⟩ b) ∧ ∀ k, w.heap.size + 1 ≤ k → ((y.setCell ⟨w.heap.size, 0, none⟩ a).setCell ⟨w.heap.size, 1, none⟩ b).heap[k]? = y.heap[k]? := by
  refine ⟨?_, fun k hk => ?_⟩
  · have h1 : Below w.heap.size w y := ((Below.refl _ w).alloc (Nat.le_refl _) Z).trans (h.mono (by omega))
    exact (h1.setCell (p := ⟨w.heap.size, 0, none⟩) (Nat.le_refl _) a).setCell (p := ⟨w.heap.size, 1, none⟩) (Nat.le_refl _) b
  · rw [Below.heap_setCell _ _ _ _ (by simp; omega), Below.heap_setCell _ _ _ _ (by simp; omega)]

theorem first_made' (x : Nat) (X : Int) (hX : X = (x : Int)) (w : World) : Calls Tryz.prog 274 #[.int .u8 X] w fun e w' => Made w w' (0, x) e := by
  subst hX; exact first_made x w

/-- One part more: what is known of the world. -/
theorem chain_step {B : Nat} {W0 y y' : World} (h : Below B W0 y) (hB : B ≤ W0.heap.size) (h' : Below y.heap.size y y') : Below B W0 y' := h.trans (h'.mono (Nat.le_trans hB h.size))

theorem fin_facts {w z : World} (h : Below (w.heap.size + 1) (w.alloc (.cells #[.nilFunc, .nilFunc] 318)) z) :
    z.cell? ⟨w.heap.size, 0, none⟩ = some .nilFunc ∧ z.cell? ⟨w.heap.size, 1, none⟩ = some .nilFunc ∧ z.frozen? ⟨w.heap.size, 0, none⟩ = false ∧ z.frozen? ⟨w.heap.size, 1, none⟩ = false := by
  have hb : Blk z w.heap.size 318 [.nilFunc, .nilFunc] := (Blk.new w 318 [.nilFunc, .nilFunc]).of_heap (h.block _ (by omega))
  exact ⟨hb.cell 0, hb.cell 1, hb.frozen 0, hb.frozen 1⟩

set_option maxHeartbeats 1000000 in
set_option maxRecDepth 100000 in
theorem layout2 (w : World) : Calls Tryz.prog 217 #[.int .i64 2] w fun e w' => Laid w w' [(0, 2), (5, 0)] e := by
  go_enter Tryz.func217, Tryz.ntmps217
  go_wp2_with fail
  refine (first_made' 2 _ rfl _).mono ?_
  rintro e y1 ⟨fw1, fr1, rfl, hP1, hB1⟩
  have C1 : Hid (Below (w.heap.size + 1) (w.alloc (.cells #[.nilFunc, .nilFunc] 318)) y1) := hB1.mono (by simp)
  have HP1 := hid hP1
  have HB1 := hid hB1
  clear hP1 hB1
  go_wp2_with fail
  refine (ranges_made _).mono ?_
  rintro e y2 ⟨fw2, fr2, rfl, hP2, hB2⟩
  have C2 : Hid (Below (w.heap.size + 1) (w.alloc (.cells #[.nilFunc, .nilFunc] 318)) y2) := chain_step C1.out (by simp) hB2
  have HP2 := hid hP2
  have HB2 := hid hB2
  clear hP2 hB2
  go_wp2_with fail
  refine (inOrder_made _ ⟨_, _, _, rfl⟩ _).mono ?_
  rintro e z ⟨pb, rfl, hBox, hBz⟩
  have hBA : Below y2.heap.size y2 (y2.alloc (.cells #[fw1, fr1, fw2, fr2] 318)) := (Below.refl _ _).alloc (Nat.le_refl _) _
  have CA : Below (w.heap.size + 1) (w.alloc (.cells #[.nilFunc, .nilFunc] 318)) (y2.alloc (.cells #[fw1, fr1, fw2, fr2] 318)) := chain_step C2.out (by simp) hBA
  have CZ : Below (w.heap.size + 1) (w.alloc (.cells #[.nilFunc, .nilFunc] 318)) z := chain_step CA (by simp) hBz
  obtain ⟨i0, i1, i2, i3⟩ := fin_facts CZ
  have hq : Blk z y2.heap.size 318 [fw1, fr1, fw2, fr2] := (Blk.new y2 318 [fw1, fr1, fw2, fr2]).of_heap (hBz.block _ (by simp))
  have Q1 := hid ((((HP1.out.below HB2.out).below hBA).below hBz).mono (B0 := w.heap.size + 1) (by simp))
  have Q2 := hid (((HP2.out.below hBA).below hBz).mono (B0 := w.heap.size + 1) (by have := C1.out.size; simp at this; omega))
  have hszn : w.heap.size + 1 ≤ y2.heap.size := by have := C2.out.size; simp at this; omega
  have HBX := hid (hBox.mono (B0 := w.heap.size + 1) (by simp; omega))
  have HQ := hid hq
  have HCZ := hid CZ
  have HSZ := hid hszn
  clear hBox hq CZ CA hBA hBz hszn
  go_wp2_with fail
  obtain ⟨f1, f2⟩ := fin_world HCZ.out (.func (.func 323) #[] #[.pointer (some ⟨pb, 0, none⟩)]) (.func (.func 324) #[] #[.pointer (some ⟨pb, 0, none⟩)])
  refine bodyPost_ret (v := .agg #[.func (.func 323) #[] #[.pointer (some ⟨pb, 0, none⟩)], .func (.func 324) #[] #[.pointer (some ⟨pb, 0, none⟩)]]) (by simp [results, Tryz.results217, go_sem, i0, i1]) rfl ⟨_, _, rfl, ⟨pb, y2.heap.size, rfl, rfl, HBX.out.of f2, HSZ.out, ?_⟩, f1⟩
  intro j hj
  have hq2 : Blk _ y2.heap.size 318 [fw1, fr1, fw2, fr2] := HQ.out.of_heap (f2 _ HSZ.out)
  match j, hj with
  | 0, _ => exact ⟨fw1, fr1, hq2.cell 0, hq2.cell 1, Q1.out.of f2⟩
  | 1, _ => exact ⟨fw2, fr2, hq2.cell 2, hq2.cell 3, Q2.out.of f2⟩
  | (m + 2), hm => exact absurd hm (by simp)

set_option maxHeartbeats 1000000 in
set_option maxRecDepth 100000 in
theorem layout3 (w : World) : Calls Tryz.prog 217 #[.int .i64 3] w fun e w' => Laid w w' [(0, 36), (2, 0), (3, 279), (3, 280)] e := by
  go_enter Tryz.func217, Tryz.ntmps217
  go_wp2_with fail
  refine (first_made' 36 _ rfl _).mono ?_
  rintro e y1 ⟨fw1, fr1, rfl, hP1, hB1⟩
  have C1 : Hid (Below (w.heap.size + 1) (w.alloc (.cells #[.nilFunc, .nilFunc] 318)) y1) := hB1.mono (by simp)
  have HP1 := hid hP1
  have HB1 := hid hB1
  clear hP1 hB1
  go_wp2_with fail
  refine (stream_made _).mono ?_
  rintro e y2 ⟨fw2, fr2, rfl, hP2, hB2⟩
  have C2 : Hid (Below (w.heap.size + 1) (w.alloc (.cells #[.nilFunc, .nilFunc] 318)) y2) := chain_step C1.out (by simp) hB2
  have HP2 := hid hP2
  have HB2 := hid hB2
  clear hP2 hB2
  go_wp2_with fail
  refine (number_made 279 _).mono ?_
  rintro e y3 ⟨fw3, fr3, rfl, hP3, hB3⟩
  have C3 : Hid (Below (w.heap.size + 1) (w.alloc (.cells #[.nilFunc, .nilFunc] 318)) y3) := chain_step C2.out (by simp) hB3
  have HP3 := hid hP3
  have HB3 := hid hB3
  clear hP3 hB3
  go_wp2_with fail
  refine (number_made 280 _).mono ?_
  rintro e y4 ⟨fw4, fr4, rfl, hP4, hB4⟩
  have C4 : Hid (Below (w.heap.size + 1) (w.alloc (.cells #[.nilFunc, .nilFunc] 318)) y4) := chain_step C3.out (by simp) hB4
  have HP4 := hid hP4
  have HB4 := hid hB4
  clear hP4 hB4
  go_wp2_with fail
  refine (inOrder_made _ ⟨_, _, _, rfl⟩ _).mono ?_
  rintro e z ⟨pb, rfl, hBox, hBz⟩
  have hBA : Below y4.heap.size y4 (y4.alloc (.cells #[fw1, fr1, fw2, fr2, fw3, fr3, fw4, fr4] 318)) := (Below.refl _ _).alloc (Nat.le_refl _) _
  have CA : Below (w.heap.size + 1) (w.alloc (.cells #[.nilFunc, .nilFunc] 318)) (y4.alloc (.cells #[fw1, fr1, fw2, fr2, fw3, fr3, fw4, fr4] 318)) := chain_step C4.out (by simp) hBA
  have CZ : Below (w.heap.size + 1) (w.alloc (.cells #[.nilFunc, .nilFunc] 318)) z := chain_step CA (by simp) hBz
  obtain ⟨i0, i1, i2, i3⟩ := fin_facts CZ
  have hq : Blk z y4.heap.size 318 [fw1, fr1, fw2, fr2, fw3, fr3, fw4, fr4] := (Blk.new y4 318 [fw1, fr1, fw2, fr2, fw3, fr3, fw4, fr4]).of_heap (hBz.block _ (by simp))
  have Q1 := hid ((((((HP1.out.below HB2.out).below HB3.out).below HB4.out).below hBA).below hBz).mono (B0 := w.heap.size + 1) (by simp))
  have Q2 := hid (((((HP2.out.below HB3.out).below HB4.out).below hBA).below hBz).mono (B0 := w.heap.size + 1) (by have := C1.out.size; simp at this; omega))
  have Q3 := hid ((((HP3.out.below HB4.out).below hBA).below hBz).mono (B0 := w.heap.size + 1) (by have := C2.out.size; simp at this; omega))
  have Q4 := hid (((HP4.out.below hBA).below hBz).mono (B0 := w.heap.size + 1) (by have := C3.out.size; simp at this; omega))
  have hszn : w.heap.size + 1 ≤ y4.heap.size := by have := C4.out.size; simp at this; omega
  have HBX := hid (hBox.mono (B0 := w.heap.size + 1) (by simp; omega))
  have HQ := hid hq
  have HCZ := hid CZ
  have HSZ := hid hszn
  clear hBox hq CZ CA hBA hBz hszn
  go_wp2_with fail
  obtain ⟨f1, f2⟩ := fin_world HCZ.out (.func (.func 323) #[] #[.pointer (some ⟨pb, 0, none⟩)]) (.func (.func 324) #[] #[.pointer (some ⟨pb, 0, none⟩)])
  refine bodyPost_ret (v := .agg #[.func (.func 323) #[] #[.pointer (some ⟨pb, 0, none⟩)], .func (.func 324) #[] #[.pointer (some ⟨pb, 0, none⟩)]]) (by simp [results, Tryz.results217, go_sem, i0, i1]) rfl ⟨_, _, rfl, ⟨pb, y4.heap.size, rfl, rfl, HBX.out.of f2, HSZ.out, ?_⟩, f1⟩
  intro j hj
  have hq2 : Blk _ y4.heap.size 318 [fw1, fr1, fw2, fr2, fw3, fr3, fw4, fr4] := HQ.out.of_heap (f2 _ HSZ.out)
  match j, hj with
  | 0, _ => exact ⟨fw1, fr1, hq2.cell 0, hq2.cell 1, Q1.out.of f2⟩
  | 1, _ => exact ⟨fw2, fr2, hq2.cell 2, hq2.cell 3, Q2.out.of f2⟩
  | 2, _ => exact ⟨fw3, fr3, hq2.cell 4, hq2.cell 5, Q3.out.of f2⟩
  | 3, _ => exact ⟨fw4, fr4, hq2.cell 6, hq2.cell 7, Q4.out.of f2⟩
  | (m + 4), hm => exact absurd hm (by simp)

set_option maxHeartbeats 1000000 in
set_option maxRecDepth 100000 in
theorem layout4 (w : World) : Calls Tryz.prog 217 #[.int .i64 4] w fun e w' => Laid w w' [(1, 0), (2, 0), (3, 279), (4, 0)] e := by
  go_enter Tryz.func217, Tryz.ntmps217
  go_wp2_with fail
  refine (fdata_made _).mono ?_
  rintro e y1 ⟨fw1, fr1, rfl, hP1, hB1⟩
  have C1 : Hid (Below (w.heap.size + 1) (w.alloc (.cells #[.nilFunc, .nilFunc] 318)) y1) := hB1.mono (by simp)
  have HP1 := hid hP1
  have HB1 := hid hB1
  clear hP1 hB1
  go_wp2_with fail
  refine (stream_made _).mono ?_
  rintro e y2 ⟨fw2, fr2, rfl, hP2, hB2⟩
  have C2 : Hid (Below (w.heap.size + 1) (w.alloc (.cells #[.nilFunc, .nilFunc] 318)) y2) := chain_step C1.out (by simp) hB2
  have HP2 := hid hP2
  have HB2 := hid hB2
  clear hP2 hB2
  go_wp2_with fail
  refine (number_made 279 _).mono ?_
  rintro e y3 ⟨fw3, fr3, rfl, hP3, hB3⟩
  have C3 : Hid (Below (w.heap.size + 1) (w.alloc (.cells #[.nilFunc, .nilFunc] 318)) y3) := chain_step C2.out (by simp) hB3
  have HP3 := hid hP3
  have HB3 := hid hB3
  clear hP3 hB3
  go_wp2_with fail
  refine (text_made _).mono ?_
  rintro e y4 ⟨fw4, fr4, rfl, hP4, hB4⟩
  have C4 : Hid (Below (w.heap.size + 1) (w.alloc (.cells #[.nilFunc, .nilFunc] 318)) y4) := chain_step C3.out (by simp) hB4
  have HP4 := hid hP4
  have HB4 := hid hB4
  clear hP4 hB4
  go_wp2_with fail
  refine (inOrder_made _ ⟨_, _, _, rfl⟩ _).mono ?_
  rintro e z ⟨pb, rfl, hBox, hBz⟩
  have hBA : Below y4.heap.size y4 (y4.alloc (.cells #[fw1, fr1, fw2, fr2, fw3, fr3, fw4, fr4] 318)) := (Below.refl _ _).alloc (Nat.le_refl _) _
  have CA : Below (w.heap.size + 1) (w.alloc (.cells #[.nilFunc, .nilFunc] 318)) (y4.alloc (.cells #[fw1, fr1, fw2, fr2, fw3, fr3, fw4, fr4] 318)) := chain_step C4.out (by simp) hBA
  have CZ : Below (w.heap.size + 1) (w.alloc (.cells #[.nilFunc, .nilFunc] 318)) z := chain_step CA (by simp) hBz
  obtain ⟨i0, i1, i2, i3⟩ := fin_facts CZ
  have hq : Blk z y4.heap.size 318 [fw1, fr1, fw2, fr2, fw3, fr3, fw4, fr4] := (Blk.new y4 318 [fw1, fr1, fw2, fr2, fw3, fr3, fw4, fr4]).of_heap (hBz.block _ (by simp))
  have Q1 := hid ((((((HP1.out.below HB2.out).below HB3.out).below HB4.out).below hBA).below hBz).mono (B0 := w.heap.size + 1) (by simp))
  have Q2 := hid (((((HP2.out.below HB3.out).below HB4.out).below hBA).below hBz).mono (B0 := w.heap.size + 1) (by have := C1.out.size; simp at this; omega))
  have Q3 := hid ((((HP3.out.below HB4.out).below hBA).below hBz).mono (B0 := w.heap.size + 1) (by have := C2.out.size; simp at this; omega))
  have Q4 := hid (((HP4.out.below hBA).below hBz).mono (B0 := w.heap.size + 1) (by have := C3.out.size; simp at this; omega))
  have hszn : w.heap.size + 1 ≤ y4.heap.size := by have := C4.out.size; simp at this; omega
  have HBX := hid (hBox.mono (B0 := w.heap.size + 1) (by simp; omega))
  have HQ := hid hq
  have HCZ := hid CZ
  have HSZ := hid hszn
  clear hBox hq CZ CA hBA hBz hszn
  go_wp2_with fail
  obtain ⟨f1, f2⟩ := fin_world HCZ.out (.func (.func 323) #[] #[.pointer (some ⟨pb, 0, none⟩)]) (.func (.func 324) #[] #[.pointer (some ⟨pb, 0, none⟩)])
  refine bodyPost_ret (v := .agg #[.func (.func 323) #[] #[.pointer (some ⟨pb, 0, none⟩)], .func (.func 324) #[] #[.pointer (some ⟨pb, 0, none⟩)]]) (by simp [results, Tryz.results217, go_sem, i0, i1]) rfl ⟨_, _, rfl, ⟨pb, y4.heap.size, rfl, rfl, HBX.out.of f2, HSZ.out, ?_⟩, f1⟩
  intro j hj
  have hq2 : Blk _ y4.heap.size 318 [fw1, fr1, fw2, fr2, fw3, fr3, fw4, fr4] := HQ.out.of_heap (f2 _ HSZ.out)
  match j, hj with
  | 0, _ => exact ⟨fw1, fr1, hq2.cell 0, hq2.cell 1, Q1.out.of f2⟩
  | 1, _ => exact ⟨fw2, fr2, hq2.cell 2, hq2.cell 3, Q2.out.of f2⟩
  | 2, _ => exact ⟨fw3, fr3, hq2.cell 4, hq2.cell 5, Q3.out.of f2⟩
  | 3, _ => exact ⟨fw4, fr4, hq2.cell 6, hq2.cell 7, Q4.out.of f2⟩
  | (m + 4), hm => exact absurd hm (by simp)

set_option maxHeartbeats 1000000 in
set_option maxRecDepth 100000 in
theorem layout5 (w : World) : Calls Tryz.prog 217 #[.int .i64 5] w fun e w' => Laid w w' [(0, 16), (3, 283)] e := by
  go_enter Tryz.func217, Tryz.ntmps217
  go_wp2_with fail
  refine (first_made' 16 _ rfl _).mono ?_
  rintro e y1 ⟨fw1, fr1, rfl, hP1, hB1⟩
  have C1 : Hid (Below (w.heap.size + 1) (w.alloc (.cells #[.nilFunc, .nilFunc] 318)) y1) := hB1.mono (by simp)
  have HP1 := hid hP1
  have HB1 := hid hB1
  clear hP1 hB1
  go_wp2_with fail
  refine (number_made 283 _).mono ?_
  rintro e y2 ⟨fw2, fr2, rfl, hP2, hB2⟩
  have C2 : Hid (Below (w.heap.size + 1) (w.alloc (.cells #[.nilFunc, .nilFunc] 318)) y2) := chain_step C1.out (by simp) hB2
  have HP2 := hid hP2
  have HB2 := hid hB2
  clear hP2 hB2
  go_wp2_with fail
  refine (inOrder_made _ ⟨_, _, _, rfl⟩ _).mono ?_
  rintro e z ⟨pb, rfl, hBox, hBz⟩
  have hBA : Below y2.heap.size y2 (y2.alloc (.cells #[fw1, fr1, fw2, fr2] 318)) := (Below.refl _ _).alloc (Nat.le_refl _) _
  have CA : Below (w.heap.size + 1) (w.alloc (.cells #[.nilFunc, .nilFunc] 318)) (y2.alloc (.cells #[fw1, fr1, fw2, fr2] 318)) := chain_step C2.out (by simp) hBA
  have CZ : Below (w.heap.size + 1) (w.alloc (.cells #[.nilFunc, .nilFunc] 318)) z := chain_step CA (by simp) hBz
  obtain ⟨i0, i1, i2, i3⟩ := fin_facts CZ
  have hq : Blk z y2.heap.size 318 [fw1, fr1, fw2, fr2] := (Blk.new y2 318 [fw1, fr1, fw2, fr2]).of_heap (hBz.block _ (by simp))
  have Q1 := hid ((((HP1.out.below HB2.out).below hBA).below hBz).mono (B0 := w.heap.size + 1) (by simp))
  have Q2 := hid (((HP2.out.below hBA).below hBz).mono (B0 := w.heap.size + 1) (by have := C1.out.size; simp at this; omega))
  have hszn : w.heap.size + 1 ≤ y2.heap.size := by have := C2.out.size; simp at this; omega
  have HBX := hid (hBox.mono (B0 := w.heap.size + 1) (by simp; omega))
  have HQ := hid hq
  have HCZ := hid CZ
  have HSZ := hid hszn
  clear hBox hq CZ CA hBA hBz hszn
  go_wp2_with fail
  obtain ⟨f1, f2⟩ := fin_world HCZ.out (.func (.func 323) #[] #[.pointer (some ⟨pb, 0, none⟩)]) (.func (.func 324) #[] #[.pointer (some ⟨pb, 0, none⟩)])
  refine bodyPost_ret (v := .agg #[.func (.func 323) #[] #[.pointer (some ⟨pb, 0, none⟩)], .func (.func 324) #[] #[.pointer (some ⟨pb, 0, none⟩)]]) (by simp [results, Tryz.results217, go_sem, i0, i1]) rfl ⟨_, _, rfl, ⟨pb, y2.heap.size, rfl, rfl, HBX.out.of f2, HSZ.out, ?_⟩, f1⟩
  intro j hj
  have hq2 : Blk _ y2.heap.size 318 [fw1, fr1, fw2, fr2] := HQ.out.of_heap (f2 _ HSZ.out)
  match j, hj with
  | 0, _ => exact ⟨fw1, fr1, hq2.cell 0, hq2.cell 1, Q1.out.of f2⟩
  | 1, _ => exact ⟨fw2, fr2, hq2.cell 2, hq2.cell 3, Q2.out.of f2⟩
  | (m + 2), hm => exact absurd hm (by simp)

set_option maxHeartbeats 1000000 in
set_option maxRecDepth 100000 in
theorem layout6 (w : World) : Calls Tryz.prog 217 #[.int .i64 6] w fun e w' => Laid w w' [(0, 17), (2, 0), (3, 283)] e := by
  go_enter Tryz.func217, Tryz.ntmps217
  go_wp2_with fail
  refine (first_made' 17 _ rfl _).mono ?_
  rintro e y1 ⟨fw1, fr1, rfl, hP1, hB1⟩
  have C1 : Hid (Below (w.heap.size + 1) (w.alloc (.cells #[.nilFunc, .nilFunc] 318)) y1) := hB1.mono (by simp)
  have HP1 := hid hP1
  have HB1 := hid hB1
  clear hP1 hB1
  go_wp2_with fail
  refine (stream_made _).mono ?_
  rintro e y2 ⟨fw2, fr2, rfl, hP2, hB2⟩
  have C2 : Hid (Below (w.heap.size + 1) (w.alloc (.cells #[.nilFunc, .nilFunc] 318)) y2) := chain_step C1.out (by simp) hB2
  have HP2 := hid hP2
  have HB2 := hid hB2
  clear hP2 hB2
  go_wp2_with fail
  refine (number_made 283 _).mono ?_
  rintro e y3 ⟨fw3, fr3, rfl, hP3, hB3⟩
  have C3 : Hid (Below (w.heap.size + 1) (w.alloc (.cells #[.nilFunc, .nilFunc] 318)) y3) := chain_step C2.out (by simp) hB3
  have HP3 := hid hP3
  have HB3 := hid hB3
  clear hP3 hB3
  go_wp2_with fail
  refine (inOrder_made _ ⟨_, _, _, rfl⟩ _).mono ?_
  rintro e z ⟨pb, rfl, hBox, hBz⟩
  have hBA : Below y3.heap.size y3 (y3.alloc (.cells #[fw1, fr1, fw2, fr2, fw3, fr3] 318)) := (Below.refl _ _).alloc (Nat.le_refl _) _
  have CA : Below (w.heap.size + 1) (w.alloc (.cells #[.nilFunc, .nilFunc] 318)) (y3.alloc (.cells #[fw1, fr1, fw2, fr2, fw3, fr3] 318)) := chain_step C3.out (by simp) hBA
  have CZ : Below (w.heap.size + 1) (w.alloc (.cells #[.nilFunc, .nilFunc] 318)) z := chain_step CA (by simp) hBz
  obtain ⟨i0, i1, i2, i3⟩ := fin_facts CZ
  have hq : Blk z y3.heap.size 318 [fw1, fr1, fw2, fr2, fw3, fr3] := (Blk.new y3 318 [fw1, fr1, fw2, fr2, fw3, fr3]).of_heap (hBz.block _ (by simp))
  have Q1 := hid (((((HP1.out.below HB2.out).below HB3.out).below hBA).below hBz).mono (B0 := w.heap.size + 1) (by simp))
  have Q2 := hid ((((HP2.out.below HB3.out).below hBA).below hBz).mono (B0 := w.heap.size + 1) (by have := C1.out.size; simp at this; omega))
  have Q3 := hid (((HP3.out.below hBA).below hBz).mono (B0 := w.heap.size + 1) (by have := C2.out.size; simp at this; omega))
  have hszn : w.heap.size + 1 ≤ y3.heap.size := by have := C3.out.size; simp at this; omega
  have HBX := hid (hBox.mono (B0 := w.heap.size + 1) (by simp; omega))
  have HQ := hid hq
  have HCZ := hid CZ
  have HSZ := hid hszn
  clear hBox hq CZ CA hBA hBz hszn
  go_wp2_with fail
  obtain ⟨f1, f2⟩ := fin_world HCZ.out (.func (.func 323) #[] #[.pointer (some ⟨pb, 0, none⟩)]) (.func (.func 324) #[] #[.pointer (some ⟨pb, 0, none⟩)])
  refine bodyPost_ret (v := .agg #[.func (.func 323) #[] #[.pointer (some ⟨pb, 0, none⟩)], .func (.func 324) #[] #[.pointer (some ⟨pb, 0, none⟩)]]) (by simp [results, Tryz.results217, go_sem, i0, i1]) rfl ⟨_, _, rfl, ⟨pb, y3.heap.size, rfl, rfl, HBX.out.of f2, HSZ.out, ?_⟩, f1⟩
  intro j hj
  have hq2 : Blk _ y3.heap.size 318 [fw1, fr1, fw2, fr2, fw3, fr3] := HQ.out.of_heap (f2 _ HSZ.out)
  match j, hj with
  | 0, _ => exact ⟨fw1, fr1, hq2.cell 0, hq2.cell 1, Q1.out.of f2⟩
  | 1, _ => exact ⟨fw2, fr2, hq2.cell 2, hq2.cell 3, Q2.out.of f2⟩
  | 2, _ => exact ⟨fw3, fr3, hq2.cell 4, hq2.cell 5, Q3.out.of f2⟩
  | (m + 3), hm => exact absurd hm (by simp)

set_option maxHeartbeats 1000000 in
set_option maxRecDepth 100000 in
theorem layout7 (w : World) : Calls Tryz.prog 217 #[.int .i64 7] w fun e w' => Laid w w' [(0, 48), (3, 284), (3, 285), (4, 0)] e := by
  go_enter Tryz.func217, Tryz.ntmps217
  go_wp2_with fail
  refine (first_made' 48 _ rfl _).mono ?_
  rintro e y1 ⟨fw1, fr1, rfl, hP1, hB1⟩
  have C1 : Hid (Below (w.heap.size + 1) (w.alloc (.cells #[.nilFunc, .nilFunc] 318)) y1) := hB1.mono (by simp)
  have HP1 := hid hP1
  have HB1 := hid hB1
  clear hP1 hB1
  go_wp2_with fail
  refine (number_made 284 _).mono ?_
  rintro e y2 ⟨fw2, fr2, rfl, hP2, hB2⟩
  have C2 : Hid (Below (w.heap.size + 1) (w.alloc (.cells #[.nilFunc, .nilFunc] 318)) y2) := chain_step C1.out (by simp) hB2
  have HP2 := hid hP2
  have HB2 := hid hB2
  clear hP2 hB2
  go_wp2_with fail
  refine (number_made 285 _).mono ?_
  rintro e y3 ⟨fw3, fr3, rfl, hP3, hB3⟩
  have C3 : Hid (Below (w.heap.size + 1) (w.alloc (.cells #[.nilFunc, .nilFunc] 318)) y3) := chain_step C2.out (by simp) hB3
  have HP3 := hid hP3
  have HB3 := hid hB3
  clear hP3 hB3
  go_wp2_with fail
  refine (text_made _).mono ?_
  rintro e y4 ⟨fw4, fr4, rfl, hP4, hB4⟩
  have C4 : Hid (Below (w.heap.size + 1) (w.alloc (.cells #[.nilFunc, .nilFunc] 318)) y4) := chain_step C3.out (by simp) hB4
  have HP4 := hid hP4
  have HB4 := hid hB4
  clear hP4 hB4
  go_wp2_with fail
  refine (inOrder_made _ ⟨_, _, _, rfl⟩ _).mono ?_
  rintro e z ⟨pb, rfl, hBox, hBz⟩
  have hBA : Below y4.heap.size y4 (y4.alloc (.cells #[fw1, fr1, fw2, fr2, fw3, fr3, fw4, fr4] 318)) := (Below.refl _ _).alloc (Nat.le_refl _) _
  have CA : Below (w.heap.size + 1) (w.alloc (.cells #[.nilFunc, .nilFunc] 318)) (y4.alloc (.cells #[fw1, fr1, fw2, fr2, fw3, fr3, fw4, fr4] 318)) := chain_step C4.out (by simp) hBA
  have CZ : Below (w.heap.size + 1) (w.alloc (.cells #[.nilFunc, .nilFunc] 318)) z := chain_step CA (by simp) hBz
  obtain ⟨i0, i1, i2, i3⟩ := fin_facts CZ
  have hq : Blk z y4.heap.size 318 [fw1, fr1, fw2, fr2, fw3, fr3, fw4, fr4] := (Blk.new y4 318 [fw1, fr1, fw2, fr2, fw3, fr3, fw4, fr4]).of_heap (hBz.block _ (by simp))
  have Q1 := hid ((((((HP1.out.below HB2.out).below HB3.out).below HB4.out).below hBA).below hBz).mono (B0 := w.heap.size + 1) (by simp))
  have Q2 := hid (((((HP2.out.below HB3.out).below HB4.out).below hBA).below hBz).mono (B0 := w.heap.size + 1) (by have := C1.out.size; simp at this; omega))
  have Q3 := hid ((((HP3.out.below HB4.out).below hBA).below hBz).mono (B0 := w.heap.size + 1) (by have := C2.out.size; simp at this; omega))
  have Q4 := hid (((HP4.out.below hBA).below hBz).mono (B0 := w.heap.size + 1) (by have := C3.out.size; simp at this; omega))
  have hszn : w.heap.size + 1 ≤ y4.heap.size := by have := C4.out.size; simp at this; omega
  have HBX := hid (hBox.mono (B0 := w.heap.size + 1) (by simp; omega))
  have HQ := hid hq
  have HCZ := hid CZ
  have HSZ := hid hszn
  clear hBox hq CZ CA hBA hBz hszn
  go_wp2_with fail
  obtain ⟨f1, f2⟩ := fin_world HCZ.out (.func (.func 323) #[] #[.pointer (some ⟨pb, 0, none⟩)]) (.func (.func 324) #[] #[.pointer (some ⟨pb, 0, none⟩)])
  refine bodyPost_ret (v := .agg #[.func (.func 323) #[] #[.pointer (some ⟨pb, 0, none⟩)], .func (.func 324) #[] #[.pointer (some ⟨pb, 0, none⟩)]]) (by simp [results, Tryz.results217, go_sem, i0, i1]) rfl ⟨_, _, rfl, ⟨pb, y4.heap.size, rfl, rfl, HBX.out.of f2, HSZ.out, ?_⟩, f1⟩
  intro j hj
  have hq2 : Blk _ y4.heap.size 318 [fw1, fr1, fw2, fr2, fw3, fr3, fw4, fr4] := HQ.out.of_heap (f2 _ HSZ.out)
  match j, hj with
  | 0, _ => exact ⟨fw1, fr1, hq2.cell 0, hq2.cell 1, Q1.out.of f2⟩
  | 1, _ => exact ⟨fw2, fr2, hq2.cell 2, hq2.cell 3, Q2.out.of f2⟩
  | 2, _ => exact ⟨fw3, fr3, hq2.cell 4, hq2.cell 5, Q3.out.of f2⟩
  | 3, _ => exact ⟨fw4, fr4, hq2.cell 6, hq2.cell 7, Q4.out.of f2⟩
  | (m + 4), hm => exact absurd hm (by simp)

set_option maxHeartbeats 1000000 in
set_option maxRecDepth 100000 in
theorem layout8 (w : World) : Calls Tryz.prog 217 #[.int .i64 8] w fun e w' => Laid w w' [(0, 28), (3, 283)] e := by
  go_enter Tryz.func217, Tryz.ntmps217
  go_wp2_with fail
  refine (first_made' 28 _ rfl _).mono ?_
  rintro e y1 ⟨fw1, fr1, rfl, hP1, hB1⟩
  have C1 : Hid (Below (w.heap.size + 1) (w.alloc (.cells #[.nilFunc, .nilFunc] 318)) y1) := hB1.mono (by simp)
  have HP1 := hid hP1
  have HB1 := hid hB1
  clear hP1 hB1
  go_wp2_with fail
  refine (number_made 283 _).mono ?_
  rintro e y2 ⟨fw2, fr2, rfl, hP2, hB2⟩
  have C2 : Hid (Below (w.heap.size + 1) (w.alloc (.cells #[.nilFunc, .nilFunc] 318)) y2) := chain_step C1.out (by simp) hB2
  have HP2 := hid hP2
  have HB2 := hid hB2
  clear hP2 hB2
  go_wp2_with fail
  refine (inOrder_made _ ⟨_, _, _, rfl⟩ _).mono ?_
  rintro e z ⟨pb, rfl, hBox, hBz⟩
  have hBA : Below y2.heap.size y2 (y2.alloc (.cells #[fw1, fr1, fw2, fr2] 318)) := (Below.refl _ _).alloc (Nat.le_refl _) _
  have CA : Below (w.heap.size + 1) (w.alloc (.cells #[.nilFunc, .nilFunc] 318)) (y2.alloc (.cells #[fw1, fr1, fw2, fr2] 318)) := chain_step C2.out (by simp) hBA
  have CZ : Below (w.heap.size + 1) (w.alloc (.cells #[.nilFunc, .nilFunc] 318)) z := chain_step CA (by simp) hBz
  obtain ⟨i0, i1, i2, i3⟩ := fin_facts CZ
  have hq : Blk z y2.heap.size 318 [fw1, fr1, fw2, fr2] := (Blk.new y2 318 [fw1, fr1, fw2, fr2]).of_heap (hBz.block _ (by simp))
  have Q1 := hid ((((HP1.out.below HB2.out).below hBA).below hBz).mono (B0 := w.heap.size + 1) (by simp))
  have Q2 := hid (((HP2.out.below hBA).below hBz).mono (B0 := w.heap.size + 1) (by have := C1.out.size; simp at this; omega))
  have hszn : w.heap.size + 1 ≤ y2.heap.size := by have := C2.out.size; simp at this; omega
  have HBX := hid (hBox.mono (B0 := w.heap.size + 1) (by simp; omega))
  have HQ := hid hq
  have HCZ := hid CZ
  have HSZ := hid hszn
  clear hBox hq CZ CA hBA hBz hszn
  go_wp2_with fail
  obtain ⟨f1, f2⟩ := fin_world HCZ.out (.func (.func 323) #[] #[.pointer (some ⟨pb, 0, none⟩)]) (.func (.func 324) #[] #[.pointer (some ⟨pb, 0, none⟩)])
  refine bodyPost_ret (v := .agg #[.func (.func 323) #[] #[.pointer (some ⟨pb, 0, none⟩)], .func (.func 324) #[] #[.pointer (some ⟨pb, 0, none⟩)]]) (by simp [results, Tryz.results217, go_sem, i0, i1]) rfl ⟨_, _, rfl, ⟨pb, y2.heap.size, rfl, rfl, HBX.out.of f2, HSZ.out, ?_⟩, f1⟩
  intro j hj
  have hq2 : Blk _ y2.heap.size 318 [fw1, fr1, fw2, fr2] := HQ.out.of_heap (f2 _ HSZ.out)
  match j, hj with
  | 0, _ => exact ⟨fw1, fr1, hq2.cell 0, hq2.cell 1, Q1.out.of f2⟩
  | 1, _ => exact ⟨fw2, fr2, hq2.cell 2, hq2.cell 3, Q2.out.of f2⟩
  | (m + 2), hm => exact absurd hm (by simp)

end Go.Proofs.YtphbledmopchnaaGreatDoor

/-
  How a frame is written.
-/
namespace Go.Proofs.YtphbledmopchnaaGreatDoor
open Go.RowKit Go.Lib Go.Shelf Mm

theorem offset_any (b off : Nat) (w : World) : Calls Tryz.prog 279 #[.pointer (some ⟨b, off, none⟩)] w fun e w' => e = .returned (.pointer (some ⟨b, off + 2, none⟩)) ∧ w' = w := by
  go_enter Tryz.func279, Tryz.ntmps279
  go_wp2
  go_ret
  exact ⟨rfl, rfl⟩
theorem reliable_any (b off : Nat) (w : World) : Calls Tryz.prog 280 #[.pointer (some ⟨b, off, none⟩)] w fun e w' => e = .returned (.pointer (some ⟨b, off + 3, none⟩)) ∧ w' = w := by
  go_enter Tryz.func280, Tryz.ntmps280
  go_wp2
  go_ret
  exact ⟨rfl, rfl⟩
theorem limit_any (b off : Nat) (w : World) : Calls Tryz.prog 283 #[.pointer (some ⟨b, off, none⟩)] w fun e w' => e = .returned (.pointer (some ⟨b, off + 4, none⟩)) ∧ w' = w := by
  go_enter Tryz.func283, Tryz.ntmps283
  go_wp2
  go_ret
  exact ⟨rfl, rfl⟩
theorem id_any (b off : Nat) (w : World) : Calls Tryz.prog 284 #[.pointer (some ⟨b, off, none⟩)] w fun e w' => e = .returned (.pointer (some ⟨b, off + 6, none⟩)) ∧ w' = w := by
  go_enter Tryz.func284, Tryz.ntmps284
  go_wp2
  go_ret
  exact ⟨rfl, rfl⟩
theorem deadline_any (b off : Nat) (w : World) : Calls Tryz.prog 285 #[.pointer (some ⟨b, off, none⟩)] w fun e w' => e = .returned (.pointer (some ⟨b, off + 7, none⟩)) ∧ w' = w := by
  go_enter Tryz.func285, Tryz.ntmps285
  go_wp2
  go_ret
  exact ⟨rfl, rfl⟩

/-- The field at a place. -/
def fieldAt (f : Fr) (pf : Nat) : Nat := if pf = 279 then f.offset else if pf = 280 then f.reliable else if pf = 283 then f.limit else if pf = 284 then f.id else f.deadline
/-- The bytes of a part. -/
def partBytes (f : Fr) (tag : Nat × Nat) : List UInt8 :=
  if tag.1 = 0 then [UInt8.ofNat tag.2] else if tag.1 = 1 then [if f.fin then 9 else 8] else if tag.1 = 2 then Num.bytes f.stream.toNat else if tag.1 = 3 then Num.bytes (fieldAt f tag.2)
  else if tag.1 = 4 then Num.bytes f.data.size ++ f.data.data.toList else rngBytes f.ranges
/-- The parts of a kind. -/
def tagsOf (k : Int) : List (Nat × Nat) :=
  if k = 1 then [(0, 1)] else if k = 2 then [(0, 2), (5, 0)] else if k = 3 then [(0, 36), (2, 0), (3, 279), (3, 280)] else if k = 4 then [(1, 0), (2, 0), (3, 279), (4, 0)] else if k = 5 then [(0, 16), (3, 283)] else if k = 6 then [(0, 17), (2, 0), (3, 283)] else if k = 7 then [(0, 48), (3, 284), (3, 285), (4, 0)] else [(0, 28), (3, 283)]
/-- The bytes of a frame. -/
def frBytes (f : Fr) : List UInt8 := partsTo ((tagsOf f.kind).map (partBytes f)) (tagsOf f.kind).length

/-- A tag that a kind may have. -/
def okTag (f : Fr) (tag : Nat × Nat) : Prop :=
  (tag.1 = 0 ∧ tag.2 < 256) ∨ tag.1 = 1 ∨ tag.1 = 2 ∨ (tag.1 = 3 ∧ (tag.2 = 279 ∨ tag.2 = 280 ∨ tag.2 = 283 ∨ tag.2 = 284 ∨ tag.2 = 285)) ∨ tag.1 = 4 ∨ (tag.1 = 5 ∧ sndR f.ranges = true)

/-- What is sound is such that each part can be written. -/
structure Fit (f : Fr) : Prop where
  s0 : 0 ≤ f.stream
  s8 : f.stream < 8
  n0 : f.offset ≤ M62
  n1 : f.reliable ≤ M62
  n2 : f.limit ≤ M62
  n3 : f.id ≤ M62
  n4 : f.deadline ≤ M62

theorem fit_of (f : Fr) (h : snd f = true) : Fit f ∧ 1 ≤ f.kind ∧ f.kind ≤ 8 ∧ sndT f = true := by
  unfold snd sndN at h
  simp only [Bool.and_eq_true] at h
  obtain ⟨⟨⟨h1, ⟨⟨⟨⟨a1, a2⟩, a3⟩, a4⟩, a5⟩⟩, h3⟩, h4⟩ := h
  have h1' := of_decide_eq_true h1
  have h3' := of_decide_eq_true h3
  exact ⟨⟨h3'.1, h3'.2, of_decide_eq_true a1, of_decide_eq_true a2, of_decide_eq_true a3, of_decide_eq_true a4, of_decide_eq_true a5⟩, h1'.1, h1'.2, h4⟩

theorem part_wr {B0 : Nat} {w1 : World} {tag : Nat × Nat} {fw fr : Value} (hP : PartIs B0 w1 tag fw fr) (b off : Nat) (f : Fr) (ra : Option Addr) (rc : Nat) (hf : Fit f) (hok : okTag f tag) (hrc : f.ranges.length ≤ rc) :
    Wr B0 w1.heap.size w1 fw (partBytes f tag) b off f ra rc := by
  unfold partBytes
  rcases hP with ⟨h, xb, hx, h2, _⟩ | ⟨h, h2, _⟩ | ⟨h, h2, _⟩ | ⟨h, xb, hx, h2, _⟩ | ⟨h, h2, _⟩ | ⟨h, h2, _⟩
  · rw [if_pos h, h2]
    have h256 : tag.2 < 256 := by
      rcases hok with e | e | e | e | e | e <;> omega
    exact first_wr xb (UInt8.ofNat tag.2) b off f ra rc hx.1 (World.block_lt_of_cell? _ _ hx.2) (by rw [UInt8.toNat_ofNat_of_lt' h256]; exact hx.2)
  · rw [if_neg (by omega), if_pos h, h2]
    exact firstData_wr b off f ra rc
  · rw [if_neg (by omega), if_neg (by omega), if_pos h, h2]
    exact stream_wr b off f ra rc hf.s0 hf.s8
  · rw [if_neg (by omega), if_neg (by omega), if_neg (by omega), if_pos h, h2]
    have hpf : tag.2 = 279 ∨ tag.2 = 280 ∨ tag.2 = 283 ∨ tag.2 = 284 ∨ tag.2 = 285 := by
      rcases hok with e | e | e | e | e | e
      · omega
      · omega
      · omega
      · exact e.2
      · omega
      · omega
    have hl := World.block_lt_of_cell? _ _ hx.2
    have hxc := hx.2
    rcases hpf with e | e | e | e | e
    · rw [e] at hxc ⊢
      exact number_wr xb 279 2 f.offset b off f ra rc hx.1 hl hxc (enters_of Tryz.func279 (by kernel_rfl) rfl) (offset_any b off) (fun w hw => hw.c2) hf.n0
    · rw [e] at hxc ⊢
      exact number_wr xb 280 3 f.reliable b off f ra rc hx.1 hl hxc (enters_of Tryz.func280 (by kernel_rfl) rfl) (reliable_any b off) (fun w hw => hw.c3) hf.n1
    · rw [e] at hxc ⊢
      exact number_wr xb 283 4 f.limit b off f ra rc hx.1 hl hxc (enters_of Tryz.func283 (by kernel_rfl) rfl) (limit_any b off) (fun w hw => hw.c4) hf.n2
    · rw [e] at hxc ⊢
      exact number_wr xb 284 6 f.id b off f ra rc hx.1 hl hxc (enters_of Tryz.func284 (by kernel_rfl) rfl) (id_any b off) (fun w hw => hw.c6) hf.n3
    · rw [e] at hxc ⊢
      exact number_wr xb 285 7 f.deadline b off f ra rc hx.1 hl hxc (enters_of Tryz.func285 (by kernel_rfl) rfl) (deadline_any b off) (fun w hw => hw.c7) hf.n4
  · rw [if_neg (by omega), if_neg (by omega), if_neg (by omega), if_neg (by omega), if_pos h, h2]
    exact text_wr b off f ra rc
  · rw [if_neg (by omega), if_neg (by omega), if_neg (by omega), if_neg (by omega), if_neg (by omega), h2]
    have hR : sndR f.ranges = true := by
      rcases hok with e | e | e | e | e | e
      · omega
      · omega
      · omega
      · omega
      · omega
      · exact e.2
    exact ranges_wr b off f ra rc hR hrc

/-- A layout of parts writes them in their order. -/
theorem lay_wr {B0 : Nat} {w1 : World} {tags : List (Nat × Nat)} {fw fr : Value} (hL : LayIs B0 w1 tags fw fr) (hlen : tags.length ≤ 100) (b off : Nat) (f : Fr) (ra : Option Addr) (rc : Nat) (hf : Fit f) (hok : ∀ t ∈ tags, okTag f t) (hrc : f.ranges.length ≤ rc) (hpos : 0 < tags.length) :
    Wr B0 w1.heap.size w1 fw (partsTo (tags.map (partBytes f)) tags.length) b off f ra rc := by
  obtain ⟨pb, qb, rfl, _, hB, hq, hcell⟩ := hL
  have hfun : ∃ fws frs : Nat → Value, ∀ j, j < tags.length → w1.cell? ⟨qb, j * 2, none⟩ = some (fws j) ∧ w1.cell? ⟨qb, j * 2 + 1, none⟩ = some (frs j) ∧ PartIs B0 w1 (tags.getD j (0, 0)) (fws j) (frs j) := by
    refine ⟨fun j => (w1.cell? ⟨qb, j * 2, none⟩).getD undef, fun j => (w1.cell? ⟨qb, j * 2 + 1, none⟩).getD undef, fun j hj => ?_⟩
    obtain ⟨a, c, h1, h2, h3⟩ := hcell j hj
    refine ⟨by simp [h1], by simp [h2], ?_⟩
    simpa [h1, h2] using h3
  obtain ⟨fws, frs, hF⟩ := hfun
  have hmem : ∀ j, j < tags.length → tags.getD j (0, 0) ∈ tags := fun j hj => by
    rw [List.getD_eq_getElem?_getD, List.getElem?_eq_getElem hj]
    exact List.getElem_mem _
  refine inOrder_wr pb qb tags.length fws frs _ b off f ra rc hlen hB.1 (World.block_lt_of_cell? _ _ hB.2) hq (World.block_lt_of_cell? _ _ (hF 0 hpos).1) hB.2 (fun j hj => ⟨(hF j hj).1, (hF j hj).2.1⟩) (fun j hj => ?_) (fun j hj => ?_)
  · rcases (hF j hj).2.2 with ⟨_, xb, _, _, h⟩ | ⟨_, _, h⟩ | ⟨_, _, h⟩ | ⟨_, xb, _, _, h⟩ | ⟨_, _, h⟩ | ⟨_, _, h⟩ <;> exact ⟨_, _, h⟩
  · have := part_wr (hF j hj).2.2 b off f ra rc hf (hok _ (hmem j hj)) hrc
    have e : (tags.map (partBytes f)).getD j [] = partBytes f (tags.getD j (0, 0)) := by
      simp [hj]
    rw [e]
    exact this

end Go.Proofs.YtphbledmopchnaaGreatDoor

/-
  layoutOf of any kind; soundPacket.
-/
namespace Go.Proofs.YtphbledmopchnaaGreatDoor
open Go.RowKit Go.Lib Go.Shelf Mm

/-- The layout of a kind. -/
def LayK (B0 : Nat) (w : World) (k : Int) (fw fr : Value) : Prop := k = 1 ∧ PartIs B0 w (0, 1) fw fr ∨ k ≠ 1 ∧ LayIs B0 w (tagsOf k) fw fr

set_option maxHeartbeats 1000000 in
set_option maxRecDepth 100000 in
theorem layout1 (w : World) : Calls Tryz.prog 217 #[.int .i64 1] w fun e w' => ∃ fw fr, e = .returned (.agg #[fw, fr]) ∧ PartIs (w.heap.size + 1) w' (0, 1) fw fr ∧ Below w.heap.size w w' := by
  go_enter Tryz.func217, Tryz.ntmps217
  go_wp2_with fail
  refine (first_made' 1 _ rfl _).mono ?_
  rintro e y1 ⟨fw1, fr1, rfl, hP1, hB1⟩
  have C1 : Hid (Below (w.heap.size + 1) (w.alloc (.cells #[.nilFunc, .nilFunc] 318)) y1) := hB1.mono (by simp)
  have HP1 := hid (hP1.mono (B0 := w.heap.size + 1) (by simp))
  obtain ⟨i0, i1, i2, i3⟩ := fin_facts C1.out
  have hone : ∃ g1 c1 g2 c2, fw1 = .func (.func g1) #[] c1 ∧ fr1 = .func (.func g2) #[] c2 := by
    rcases hP1 with ⟨_, xb, _, h, h2⟩ | ⟨_, h, h2⟩ | ⟨_, h, h2⟩ | ⟨_, xb, _, h, h2⟩ | ⟨_, h, h2⟩ | ⟨_, h, h2⟩ <;> exact ⟨_, _, _, _, h, h2⟩
  obtain ⟨g1, c1, g2, c2, rfl, rfl⟩ := hone
  clear hP1 hB1
  go_wp2_with fail
  obtain ⟨f1, f2⟩ := fin_world C1.out (.func (.func g1) #[] c1) (.func (.func g2) #[] c2)
  exact bodyPost_ret (v := .agg #[.func (.func g1) #[] c1, .func (.func g2) #[] c2]) (by simp [results, Tryz.results217, go_sem, i0, i1]) rfl ⟨_, _, rfl, HP1.out.of f2, f1⟩

theorem layoutOf_any (k : Int) (h1 : 1 ≤ k) (h8 : k ≤ 8) (w : World) : Calls Tryz.prog 217 #[.int .i64 k] w fun e w' => ∃ fw fr, e = .returned (.agg #[fw, fr]) ∧ LayK (w.heap.size + 1) w' k fw fr ∧ Below w.heap.size w w' := by
  have h : k = 1 ∨ k = 2 ∨ k = 3 ∨ k = 4 ∨ k = 5 ∨ k = 6 ∨ k = 7 ∨ k = 8 := by omega
  rcases h with rfl | rfl | rfl | rfl | rfl | rfl | rfl | rfl
  · exact (layout1 w).mono (fun e w' ⟨fw, fr, h1, h2, h3⟩ => ⟨fw, fr, h1, .inl ⟨rfl, h2⟩, h3⟩)
  · exact (layout2 w).mono (fun e w' ⟨fw, fr, h1, h2, h3⟩ => ⟨fw, fr, h1, .inr ⟨by decide, h2⟩, h3⟩)
  · exact (layout3 w).mono (fun e w' ⟨fw, fr, h1, h2, h3⟩ => ⟨fw, fr, h1, .inr ⟨by decide, h2⟩, h3⟩)
  · exact (layout4 w).mono (fun e w' ⟨fw, fr, h1, h2, h3⟩ => ⟨fw, fr, h1, .inr ⟨by decide, h2⟩, h3⟩)
  · exact (layout5 w).mono (fun e w' ⟨fw, fr, h1, h2, h3⟩ => ⟨fw, fr, h1, .inr ⟨by decide, h2⟩, h3⟩)
  · exact (layout6 w).mono (fun e w' ⟨fw, fr, h1, h2, h3⟩ => ⟨fw, fr, h1, .inr ⟨by decide, h2⟩, h3⟩)
  · exact (layout7 w).mono (fun e w' ⟨fw, fr, h1, h2, h3⟩ => ⟨fw, fr, h1, .inr ⟨by decide, h2⟩, h3⟩)
  · exact (layout8 w).mono (fun e w' ⟨fw, fr, h1, h2, h3⟩ => ⟨fw, fr, h1, .inr ⟨by decide, h2⟩, h3⟩)

theorem tags_ok (f : Fr) (h : snd f = true) : ∀ t ∈ tagsOf f.kind, okTag f t := by
  obtain ⟨_, h1, h8, hT⟩ := fit_of f h
  have h : f.kind = 1 ∨ f.kind = 2 ∨ f.kind = 3 ∨ f.kind = 4 ∨ f.kind = 5 ∨ f.kind = 6 ∨ f.kind = 7 ∨ f.kind = 8 := by omega
  intro t ht
  unfold okTag
  rcases h with e | e | e | e | e | e | e | e
  · rw [e, show tagsOf 1 = [(0, 1)] from rfl] at ht
    simp at ht; subst ht; simp
  · rw [e, show tagsOf 2 = [(0, 2), (5, 0)] from rfl] at ht
    have hR : sndR f.ranges = true := by unfold sndT at hT; rw [if_pos e] at hT; exact hT
    simp at ht; rcases ht with rfl | rfl <;> simp [hR]
  · rw [e, show tagsOf 3 = [(0, 36), (2, 0), (3, 279), (3, 280)] from rfl] at ht
    simp at ht; rcases ht with rfl | rfl | rfl | rfl <;> simp
  · rw [e, show tagsOf 4 = [(1, 0), (2, 0), (3, 279), (4, 0)] from rfl] at ht
    simp at ht; rcases ht with rfl | rfl | rfl | rfl <;> simp
  · rw [e, show tagsOf 5 = [(0, 16), (3, 283)] from rfl] at ht
    simp at ht; rcases ht with rfl | rfl <;> simp
  · rw [e, show tagsOf 6 = [(0, 17), (2, 0), (3, 283)] from rfl] at ht
    simp at ht; rcases ht with rfl | rfl | rfl <;> simp
  · rw [e, show tagsOf 7 = [(0, 48), (3, 284), (3, 285), (4, 0)] from rfl] at ht
    simp at ht; rcases ht with rfl | rfl | rfl | rfl <;> simp
  · rw [e, show tagsOf 8 = [(0, 28), (3, 283)] from rfl] at ht
    simp at ht; rcases ht with rfl | rfl <;> simp

theorem tags_len (k : Int) : 0 < (tagsOf k).length ∧ (tagsOf k).length ≤ 100 := by
  unfold tagsOf
  repeat' split
  all_goals exact ⟨by decide, by decide⟩

/-- The layout of a frame's kind writes the frame. -/
theorem layK_wr {B0 : Nat} {w1 : World} {fw fr : Value} (f : Fr) (hL : LayK B0 w1 f.kind fw fr) (h : snd f = true) (b off : Nat) (ra : Option Addr) (rc : Nat) (hrc : f.ranges.length ≤ rc) :
    Wr B0 w1.heap.size w1 fw (frBytes f) b off f ra rc := by
  obtain ⟨hf, _⟩ := fit_of f h
  rcases hL with ⟨e, hP⟩ | ⟨_, hL⟩
  · have := part_wr hP b off f ra rc hf (.inl ⟨rfl, by decide⟩) hrc
    have hb : frBytes f = partBytes f (0, 1) := by
      unfold frBytes
      rw [e, show tagsOf 1 = [(0, 1)] from rfl]
      rfl
    rw [hb]
    exact this
  · exact lay_wr hL (tags_len _).2 b off f ra rc hf (tags_ok f h) hrc (tags_len _).1

def fr0 : Fr := ⟨0, 0, 0, 0, 0, false, 0, 0, ⟨#[]⟩, []⟩

/-- Frames in memory. -/
def FrsAt (w : World) (fa : Option Addr) (fs : List Fr) (ra : Nat → Option Addr) (rc : Nat → Nat) : Prop :=
  ∀ j, j < fs.length → ∃ b off, fa = some ⟨b, off, none⟩ ∧ FrAt w b (off + j * 10) (fs.getD j fr0) (ra j) (rc j) ∧ (fs.getD j fr0).ranges.length ≤ rc j ∧ ∀ x, ra j = some x → x.block < w.heap.size

theorem FrsAt.below {w w' : World} {fa : Option Addr} {fs : List Fr} {ra : Nat → Option Addr} {rc : Nat → Nat} (h : FrsAt w fa fs ra rc) (hb : Below w.heap.size w w') : FrsAt w' fa fs ra rc := fun j hj => by
  obtain ⟨b, off, ha, h1, h2, h3⟩ := h j hj
  exact ⟨b, off, ha, h1.below hb, h2, fun x hx => Nat.lt_of_lt_of_le (h3 x hx) hb.size⟩

def sndP (n : Nat) (fs : List Fr) : Bool := fs.all snd && decide (n ≤ M62) && decide (0 < fs.length)

theorem all_getD (fs : List Fr) : fs.all snd = true ↔ ∀ i, i < fs.length → snd (fs.getD i fr0) = true := by
  rw [List.all_eq_true]
  constructor
  · intro h i hi
    rw [List.getD_eq_getElem?_getD, List.getElem?_eq_getElem hi]
    exact h _ (List.getElem_mem _)
  · intro h x hx
    obtain ⟨i, hi, rfl⟩ := List.mem_iff_getElem.1 hx
    have := h i hi
    rwa [List.getD_eq_getElem?_getD, List.getElem?_eq_getElem hi] at this

set_option maxHeartbeats 1000000 in
set_option maxRecDepth 100000 in
theorem soundPacket_any (n : Nat) (fa : Option Addr) (fs : List Fr) (fc : Nat) (ra : Nat → Option Addr) (rc : Nat → Nat) (w : World) (hl : fs.length ≤ 1000000000) (hn : n < 18446744073709551616) (hF : FrsAt w fa fs ra rc) :
    Calls Tryz.prog 219 #[.agg #[.int .u64 (n : Int), .slice fa fs.length fc]] w fun e w' => e = .returned (.bool (sndP n fs)) ∧ Below w.heap.size w w' := by
  have HF := hid hF
  have HSP : Hid (sndP n fs = (fs.all snd && decide (n ≤ M62) && decide (0 < fs.length))) := rfl
  have HALL := hid (all_getD fs)
  clear hF
  go_enter Tryz.func219, Tryz.ntmps219
  go_wp2_with fail
  go_loopw [7] (fun s7 wr => ∃ k : Nat, k ≤ fs.length ∧ s7 = .int .i64 k ∧ Hid (∀ i, i < k → snd (fs.getD i fr0) = true) ∧ Hid (Below (w.heap.size + 1) (w.alloc (.cells #[.int .u64 (n : Int), .slice fa fs.length fc] 56)) wr)) (fun s7 _ => fs.length - (intOf s7).toNat)
  case atStart => exact ⟨0, Nat.zero_le _, rfl, fun i hi => absurd hi (Nat.not_lt_zero _), Below.refl _ _⟩
  case round =>
    obtain ⟨k, hk, rfl, HOK, HB⟩ := hrel
    have hbox : Blk wr w.heap.size 56 [.int .u64 (n : Int), .slice fa fs.length fc] := (Blk.new w 56 [.int .u64 (n : Int), .slice fa fs.length fc]).of_heap (HB.out.block _ (by omega))
    have x0 := hbox.cell 0
    have x1 := hbox.cell 1
    have HBw : Hid (Below w.heap.size w wr) := ((Below.refl _ w).alloc (Nat.le_refl _) _).trans (HB.out.mono (by omega))
    have hsz : w.heap.size + 1 ≤ wr.heap.size := by have := HB.out.size; simpa using this
    clear hbox
    simp only [List.getElem?_cons_zero, List.getElem?_cons_succ] at x0 x1
    by_cases hlt : k < fs.length
    · have hlt' : (k : Int) < (fs.length : Int) := by omega
      obtain ⟨b, off, ha, hFr, _⟩ := HF.out.below HBw.out k hlt
      subst ha
      have HC := hid (soundFrame_any b (off + k * 10) (fs.getD k fr0) (ra k) (rc k) wr hFr)
      have hgood : snd (fs.getD k fr0) = true → Hid (∀ i, i < k + 1 → snd (fs.getD i fr0) = true) := fun h i hi => by
        by_cases e : i = k
        · rw [e]; exact h
        · exact HOK.out i (by omega)
      have hbad : snd (fs.getD k fr0) = false → Hid (sndP n fs = false) := fun h => by
        have : fs.all snd = false := by
          cases hq : fs.all snd
          · rfl
          · rw [HALL.out.1 hq k hlt] at h; cases h
        rw [HSP.out, this]; rfl
      have HG := hid hgood
      have HBD := hid hbad
      clear hgood hbad hFr
      generalize snd (fs.getD k fr0) = B at HC HG HBD
      go_wp2_with fail
      refine HC.out.mono ?_
      rintro e w2 ⟨rfl, hb2⟩
      have HB2 : Hid (Below (w.heap.size + 1) (w.alloc (.cells #[.int .u64 (n : Int), .slice (some ⟨b, off, none⟩) fs.length fc] 56)) w2) := HB.out.trans (hb2.mono (by omega))
      have HBw2 : Hid (Below w.heap.size w w2) := HBw.out.trans (hb2.mono (by omega))
      clear hb2
      cases B
      · have HR := HBD.out rfl
        clear HG HBD
        go_wp2
        go_ret
        exact ⟨ret_bool HR.out.symm, HBw2.out⟩
      · have HR := HG.out rfl
        clear HG HBD
        go_wp2
        go_roundw
        case rel => exact ⟨k + 1, by omega, by go_num, HR, HB2⟩
        case measure => simp [intOf]; omega
    · obtain rfl : k = fs.length := by omega
      have hall : fs.all snd = true := HALL.out.2 HOK.out
      have HS : Hid (sndP n fs = (decide (n ≤ M62) && decide (0 < fs.length))) := by rw [HSP.out, hall]; rfl
      clear hall HSP
      by_cases hn2 : n ≤ M62
      · have hn3 : (n : Int) ≤ 4611686018427387903 := by unfold M62 at hn2; omega
        have HS2 : Hid (sndP n fs = decide (0 < fs.length)) := by rw [HS.out, decide_eq_true hn2]; rfl
        clear HS
        go_wp2
        go_ret
        exact ⟨ret_bool (by rw [HS2.out, decide_eq_decide]), HBw.out⟩
      · have hn3 : decide ((n : Int) ≤ 4611686018427387903) = false := by unfold M62 at hn2; simp; omega
        have HS2 : Hid (sndP n fs = false) := by rw [HS.out, decide_eq_false hn2]; rfl
        clear HS
        go_wp2
        go_ret
        exact ⟨ret_bool HS2.out.symm, HBw.out⟩

end Go.Proofs.YtphbledmopchnaaGreatDoor

/-
  wire.Encode, mediawire.Encode.
-/
namespace Go.Proofs.YtphbledmopchnaaGreatDoor
open Go.RowKit Go.Lib Go.Shelf Mm

/-- The bytes of a packet ahead of its sum. -/
def bodyTo (n : Nat) (fs : List Fr) : Nat → List UInt8
  | 0 => Num.bytes n
  | k + 1 => bodyTo n fs k ++ frBytes (fs.getD k fr0)
def bodyBytes (n : Nat) (fs : List Fr) : List UInt8 := bodyTo n fs fs.length
def pktBytes (n : Nat) (fs : List Fr) : List UInt8 := bodyBytes n fs ++ sumBytes (bodyBytes n fs)
theorem bodyTo_mono (n : Nat) (fs : List Fr) : ∀ (m k : Nat), k ≤ m → (bodyTo n fs k).length ≤ (bodyTo n fs m).length
  | 0, k, h => by obtain rfl : k = 0 := by omega
                  exact Nat.le_refl _
  | m + 1, k, h => by
    by_cases e : k = m + 1
    · rw [e]; exact Nat.le_refl _
    · have := bodyTo_mono n fs m k (by omega)
      rw [bodyTo, List.length_append]
      omega

/-- What is written into lies at B or behind. -/
def Own (B : Nat) (v : Value) : Prop := ∀ k, v.ownBlock = some k → B ≤ k
theorem Own.nil (B : Nat) : Own B (.slice none 0 0) := fun k hk => by simp [Value.ownBlock] at hk
theorem Gr.own {B : Nat} {w w' : World} {v v' : Value} (h : Gr w w' v v') (hv : Own B v) (hB : B ≤ w.heap.size) : Own B v' := fun k hk => by
  rcases h.2 k hk with e | e
  · exact hv k e
  · omega
theorem Gr.below {B : Nat} {w w' : World} {v v' : Value} (h : Gr w w' v v') (hv : Own B v) (hB : B ≤ w.heap.size) : Below B w w' :=
  ⟨h.1.os, h.1.tape, h.1.output, h.1.size, fun k hk => h.1.block k (by omega) (fun e => by have := hv k e.symm; omega)⟩
theorem TabAt.below {B : Nat} {w w' : World} (h : TabAt w) (hb : Below B w w') (hB : 2 ≤ B) : TabAt w' := fun k hk => cell_of (h k hk) (hb.block 1 (by omega))

theorem fld0 (a b : Nat) (c d : Array Value) (w : World) : (Instr.field 318 (.agg #[.func (.func a) #[] c, .func (.func b) #[] d]) 0).run Tryz.prog w = .ok (.func (.func a) #[] c) w := by kernel_rfl
theorem fld1 (a b : Nat) (c d : Array Value) (w : World) : (Instr.field 318 (.agg #[.func (.func a) #[] c, .func (.func b) #[] d]) 1).run Tryz.prog w = .ok (.func (.func b) #[] d) w := by kernel_rfl

theorem PartIs.shape {B0 : Nat} {w : World} {tag : Nat × Nat} {fw fr : Value} (h : PartIs B0 w tag fw fr) : ∃ g1 c1 g2 c2, fw = .func (.func g1) #[] c1 ∧ fr = .func (.func g2) #[] c2 := by
  rcases h with ⟨_, xb, _, h, h2⟩ | ⟨_, h, h2⟩ | ⟨_, h, h2⟩ | ⟨_, xb, _, h, h2⟩ | ⟨_, h, h2⟩ | ⟨_, h, h2⟩ <;> exact ⟨_, _, _, _, h, h2⟩
theorem LayK.shape {B0 : Nat} {w : World} {k : Int} {fw fr : Value} (h : LayK B0 w k fw fr) : ∃ g1 c1 g2 c2, fw = .func (.func g1) #[] c1 ∧ fr = .func (.func g2) #[] c2 := by
  rcases h with ⟨_, h⟩ | ⟨_, pb, qb, h, h2, _⟩
  · exact h.shape
  · exact ⟨_, _, _, _, h, h2⟩

set_option maxHeartbeats 1000000 in
set_option maxRecDepth 100000 in
theorem wireEncode_bad (n : Nat) (fa : Option Addr) (fs : List Fr) (fc : Nat) (ra : Nat → Option Addr) (rc : Nat → Nat) (w : World) (hl : fs.length ≤ 1000000000) (hn : n < 18446744073709551616) (hF : FrsAt w fa fs ra rc) (hS : sndP n fs = false) :
    Calls Tryz.prog 167 #[.agg #[.int .u64 (n : Int), .slice fa fs.length fc]] w fun e w' => e = .returned (.tuple #[.slice none 0 0, .iface 57 (.int .i64 8)]) ∧ Below w.heap.size w w' := by
  have HS := hid (soundPacket_any n fa fs fc ra rc (w.alloc (.cells #[.int .u64 (n : Int), .slice fa fs.length fc] 56)) hl hn (hF.below ((Below.refl _ w).alloc (Nat.le_refl _) _)))
  rw [hS] at HS
  clear hS hF
  go_enter Tryz.func167, Tryz.ntmps167
  go_wp2_with fail
  refine HS.out.mono ?_
  rintro e w2 ⟨rfl, hb2⟩
  have HB : Hid (Below w.heap.size w w2) := ((Below.refl _ w).alloc (Nat.le_refl _) _).trans (hb2.mono (by simp))
  clear hb2
  go_wp2
  go_ret2
  exact ⟨rfl, HB.out⟩

set_option maxHeartbeats 1000000 in
set_option maxRecDepth 100000 in
theorem wireEncode_any (n : Nat) (fa : Option Addr) (fs : List Fr) (fc : Nat) (ra : Nat → Option Addr) (rc : Nat → Nat) (w : World) (hl : fs.length ≤ 1000000000) (hF : FrsAt w fa fs ra rc) (hS : sndP n fs = true) (hT : TabAt w) (h2 : 2 ≤ w.heap.size) (hlen : (bodyBytes n fs).length ≤ 1000000000) :
    Calls Tryz.prog 167 #[.agg #[.int .u64 (n : Int), .slice fa fs.length fc]] w fun e w' => ∃ v, e = .returned (.tuple #[v, .nilIface]) ∧ Buf w' v (pktBytes n fs) ∧ Own w.heap.size v ∧ Below w.heap.size w w' := by
  have hS2 := hS
  unfold sndP at hS2
  rw [Bool.and_eq_true, Bool.and_eq_true] at hS2
  have hn := of_decide_eq_true hS2.1.2
  have hsnd := (all_getD fs).1 hS2.1.1
  unfold M62 at hn
  have HS := hid (soundPacket_any n fa fs fc ra rc (w.alloc (.cells #[.int .u64 (n : Int), .slice fa fs.length fc] 56)) hl (by omega) (hF.below ((Below.refl _ w).alloc (Nat.le_refl _) _)))
  rw [hS] at HS
  have HF := hid hF
  have HSND := hid hsnd
  have HT := hid hT
  have HMONO := hid (bodyTo_mono n fs fs.length)
  have HLEN : Hid ((bodyTo n fs fs.length).length ≤ 1000000000) := hlen
  have HPK : Hid (pktBytes n fs = bodyTo n fs fs.length ++ sumBytes (bodyTo n fs fs.length)) := rfl
  have HST : Hid (∀ k, bodyTo n fs (k + 1) = bodyTo n fs k ++ frBytes (fs.getD k fr0)) := fun _ => rfl
  have HZ : Hid (bodyTo n fs 0 = Num.bytes n) := rfl
  have hn' : n < 4611686018427387904 := by omega
  have HN := hid hn'
  clear hS hS2 hF hsnd hT hlen hn hn'
  go_enter Tryz.func167, Tryz.ntmps167
  go_wp2_with fail
  refine HS.out.mono ?_
  rintro e w2 ⟨rfl, hb2⟩
  obtain ⟨W0, hW0⟩ : ∃ W0, W0 = w.alloc (.cells #[.int .u64 (n : Int), .slice fa fs.length fc] 56) := ⟨_, rfl⟩
  have hW0s : W0.heap.size = w.heap.size + 1 := by rw [hW0]; simp
  have hblk0 : Blk W0 w.heap.size 56 [.int .u64 (n : Int), .slice fa fs.length fc] := by rw [hW0]; exact Blk.new w 56 _
  have hbw : Below w.heap.size w W0 := by rw [hW0]; exact (Below.refl _ w).alloc (Nat.le_refl _) _
  rw [← hW0] at hb2
  have hblk2 := hblk0.of_heap (hb2.block _ (by omega))
  have x0 := hblk2.cell 0
  simp only [List.getElem?_cons_zero] at x0
  have HA := hid (appendNumber_any (.slice none 0 0) [] n w2 (Buf.nil w2) HN.out (by simp))
  have HW := hid (And.intro hW0s (And.intro hblk0 hbw))
  have HB2 := hid hb2
  clear hb2 hblk2 hblk0 hbw hW0 hW0s
  go_wp2_with fail
  refine HA.out.mono ?_
  rintro e w3 ⟨v3, rfl, hB3, hG3⟩
  obtain ⟨hW0s, hblk0, hbw⟩ := HW.out
  have hb3 : Below W0.heap.size W0 w3 := HB2.out.trans (hG3.below (Own.nil _) HB2.out.size)
  have hO3 : Own W0.heap.size v3 := hG3.own (Own.nil _) HB2.out.size
  rw [List.nil_append, ← HZ.out] at hB3
  have hblk3 := hblk0.of_heap (hb3.block _ (by omega))
  have y1 := hblk3.cell 1
  simp only [List.getElem?_cons_zero, List.getElem?_cons_succ] at y1
  have HI := hid (And.intro hB3 (And.intro hb3 hO3))
  clear hB3 hG3 hb3 hO3 hblk3 hW0s hblk0 hbw x0
  go_wp2_with fail
  go_loopw [4, 17] (fun s4 s17 wr => ∃ k : Nat, k ≤ fs.length ∧ s17 = .int .i64 k ∧ Hid (Buf wr s4 (bodyTo n fs k) ∧ Below W0.heap.size W0 wr ∧ Own W0.heap.size s4)) (fun _ s17 _ => fs.length - (intOf s17).toNat)
  case atStart => exact ⟨0, Nat.zero_le _, rfl, HI.out⟩
  case round =>
    clear HI y1 HA HS
    obtain ⟨k, hk, rfl, HI⟩ := hrel
    by_cases hlt : k < fs.length
    · have hlt' : (k : Int) < (fs.length : Int) := by omega
      obtain ⟨hB, hb, hO⟩ := HI.out
      obtain ⟨hW0s, hblk0, hbw⟩ := HW.out
      have hbwr : Below w.heap.size w wr := hbw.trans (hb.mono (by omega))
      obtain ⟨b, off, ha, hFr, hrc, hrl⟩ := HF.out k hlt
      have hFrr := hFr.below hbwr
      subst ha
      have hsk := HSND.out k hlt
      obtain ⟨_, hk1, hk8, _⟩ := fit_of _ hsk
      have c0 := hFrr.c0
      have hbl : b < w.heap.size := World.block_lt_of_cell? _ _ hFr.c0
      have hblk := hblk0.of_heap (hb.block _ (by omega))
      have y1 := hblk.cell 1
      simp only [List.getElem?_cons_zero, List.getElem?_cons_succ] at y1
      have HLAY := hid (layoutOf_any _ hk1 hk8 wr)
      have hwr : ∀ (wl : World) (fw fr : Value), LayK (wr.heap.size + 1) wl (fs.getD k fr0).kind fw fr → Below wr.heap.size wr wl →
          ∃ g cb, fw = .func (.func g) #[] cb ∧ (∀ args w, (callFunc g args).run Tryz.prog w = .ok (.enter g args) w) ∧
            Calls Tryz.prog g (#[u4, .pointer (some ⟨b, off + k * 10, none⟩)] ++ cb) wl fun e w' => ∃ v', e = .returned v' ∧ Buf w' v' (bodyTo n fs (k + 1)) ∧ Below W0.heap.size W0 w' ∧ Own W0.heap.size v' := by
        intro wl fw fr hL hbl2
        obtain ⟨g, cb, h1, h2, h3⟩ := layK_wr _ hL hsk b (off + k * 10) (ra k) (rc k) hrc
        refine ⟨g, cb, h1, h2, ?_⟩
        have hlen := HMONO.out (k + 1) (by omega)
        have hl2 := HLEN.out
        rw [HST.out, List.length_append] at hlen
        have hbs := hb.size
        have hbs2 := hbl2.size
        refine (h3 wl u4 (bodyTo n fs k) ⟨⟨Nat.le_refl _, fun _ _ _ => rfl⟩, hB.of_heap (fun j hj => hbl2.block j (hB.lt j hj)), fun j hj => .inl (by have := hB.lt j hj; omega), hFrr.below hbl2, fun e => by have := hO _ e; omega, fun x hx e => by have := hO _ e; have := hrl x hx; omega, fun x hx => by have := hrl x hx; omega⟩ (by omega)).mono ?_
        rintro e w' ⟨v', rfl, hB', hG'⟩
        exact ⟨v', rfl, by rw [HST.out]; exact hB', (hb.trans (hbl2.mono hbs)).trans (hG'.below hO (by omega)), hG'.own hO (by omega)⟩
      have HWR := hid hwr
      clear hwr hB hb hO hbwr hFr hFrr hsk hblk hblk0 hbw hk1 hk8 hrc hrl
      generalize fs.getD k fr0 = F at c0 HLAY HWR
      go_wp2_with fail
      refine HLAY.out.mono ?_
      rintro e wl ⟨fw, fr, rfl, hL, hbl2⟩
      obtain ⟨_, _, g2, cb2, _, hfr⟩ := hL.shape
      subst hfr
      obtain ⟨g, cb, hfw, eg, hC⟩ := HWR.out wl fw _ hL hbl2
      subst hfw
      have HC := hid hC
      have hfd := fld0 g g2 cb cb2
      clear hC hL hbl2 HWR
      go_wp2_with fail
      refine HC.out.mono ?_
      rintro e w' ⟨v', rfl, hI'⟩
      have HI' := hid hI'
      clear hI'
      go_wp2_with fail
      go_roundw
      case rel => exact ⟨k + 1, by omega, by go_num, HI'⟩
      case measure => simp [intOf]; omega
    · obtain rfl : k = fs.length := by omega
      obtain ⟨hB, hb, hO⟩ := HI.out
      obtain ⟨hW0s, hblk0, hbw⟩ := HW.out
      have hbwr : Below w.heap.size w wr := hbw.trans (hb.mono (by omega))
      have HA2 := hid (appendSum_any u4 _ wr hB (HT.out.below hbwr h2) HLEN.out)
      have hfin : ∀ w' v', Buf w' v' (bodyTo n fs fs.length ++ sumBytes (bodyTo n fs fs.length)) → Gr wr w' u4 v' → Buf w' v' (pktBytes n fs) ∧ Own w.heap.size v' ∧ Below w.heap.size w w' := fun w' v' hB' hG' => by
        have hO' : Own w.heap.size u4 := fun j hj => by have := hO j hj; omega
        exact ⟨by rw [HPK.out]; exact hB', hG'.own hO' hbwr.size, hbwr.trans (hG'.below hO' hbwr.size)⟩
      have HFIN := hid hfin
      clear hfin hB hb hO hbwr hblk0 hbw hW0s
      go_wp2_with fail
      refine HA2.out.mono ?_
      rintro e w' ⟨v', rfl, hB', hG'⟩
      have HR := hid (HFIN.out w' v' hB' hG')
      clear hB' hG'
      go_wp2
      go_ret2
      exact ⟨_, rfl, HR.out⟩

end Go.Proofs.YtphbledmopchnaaGreatDoor

/-
  The document's reader: number.
-/
namespace Go.Proofs.YtphbledmopchnaaGreatDoor
open Go.RowKit Go.Lib Mm

/-- Nothing has turned but a block. -/
structure Alone (rb : Nat) (w w' : World) : Prop where
  os : w'.os = w.os
  tape : w'.tape = w.tape
  output : w'.output = w.output
  size : w.heap.size ≤ w'.heap.size
  block : ∀ k, k < w.heap.size → k ≠ rb → w'.heap[k]? = w.heap[k]?
theorem Alone.refl (rb : Nat) (w : World) : Alone rb w w := ⟨rfl, rfl, rfl, Nat.le_refl _, fun _ _ _ => rfl⟩
theorem Alone.trans {rb : Nat} {a b c : World} (h : Alone rb a b) (k : Alone rb b c) : Alone rb a c :=
  ⟨k.os.trans h.os, k.tape.trans h.tape, k.output.trans h.output, Nat.le_trans h.size k.size, fun i hi hn => (k.block i (Nat.lt_of_lt_of_le hi h.size) hn).trans (h.block i hi hn)⟩
theorem Alone.drewN {rb : Nat} {a b : World} (h : Alone rb a b) (q : Nat) : Alone rb a (b.drewN q) := ⟨h.os, h.tape, h.output, h.size, h.block⟩
theorem Alone.setCell {rb : Nat} {a b : World} (h : Alone rb a b) (o : Nat) (v : Value) : Alone rb a (b.setCell ⟨rb, o, none⟩ v) :=
  h.trans ⟨rfl, rfl, rfl, by simp [World.setCell], fun k _ hn => Below.heap_setCell _ _ _ _ (by simpa using hn)⟩

theorem blk_set {w : World} {b : Nat} {t : TypeId} {l : List Value} (h : Blk w b t l) (o : Nat) (v : Value) : Blk (w.setCell ⟨b, o, none⟩ v) b t (l.set o v) := by
  have := heap_setCell_same w b o l.toArray t v h
  unfold Blk
  rw [this]
  congr 2
  apply Array.ext'
  simp

/-- The reader. -/
structure RRd (w : World) (rb : Nat) (a : Option Addr) (l : List UInt8) (c p : Nat) (bad : Bool) : Prop where
  blk : Blk w rb 101 [.slice a l.length c, .int .i64 (p : Int), .bool bad]
  by_ : BytesAt w a l
  le : p ≤ l.length
  ne : ∀ x, a = some x → x.block ≠ rb
  cap : l.length ≤ c

theorem RRd.drewN {w : World} {rb : Nat} {a : Option Addr} {l : List UInt8} {c p : Nat} {bad : Bool} (h : RRd w rb a l c p bad) (q : Nat) : RRd (w.drewN q) rb a l c p bad := ⟨h.blk, h.by_, h.le, h.ne, h.cap⟩
theorem RRd.bytes_set {w : World} {rb : Nat} {a : Option Addr} {l : List UInt8} (h : BytesAt w a l) (ne : ∀ x, a = some x → x.block ≠ rb) (o : Nat) (v : Value) : BytesAt (w.setCell ⟨rb, o, none⟩ v) a l := fun j hj => by
  obtain ⟨b, off, ha, hc⟩ := h j hj
  exact ⟨b, off, ha, cell_of hc (Below.heap_setCell _ _ _ _ (by have := ne _ ha; simpa using this))⟩
theorem RRd.fail {w : World} {rb : Nat} {a : Option Addr} {l : List UInt8} {c p : Nat} {bad : Bool} (h : RRd w rb a l c p bad) : RRd (w.setCell ⟨rb, 2, none⟩ (.bool true)) rb a l c p true :=
  ⟨blk_set h.blk 2 _, RRd.bytes_set h.by_ h.ne _ _, h.le, h.ne, h.cap⟩
theorem RRd.move {w : World} {rb : Nat} {a : Option Addr} {l : List UInt8} {c p : Nat} {bad : Bool} (h : RRd w rb a l c p bad) (p' : Nat) (hp : p' ≤ l.length) : RRd (w.setCell ⟨rb, 1, none⟩ (.int .i64 (p' : Int))) rb a l c p' bad :=
  ⟨blk_set h.blk 1 _, RRd.bytes_set h.by_ h.ne _ _, hp, h.ne, h.cap⟩

/-- A number, and where it ends. -/
def rNum (l : List UInt8) (p : Nat) : Option (Nat × Nat) :=
  if p < l.length then
    if l.length < p + 2 ^ ((l.getD p 0).toNat / 64) then none
    else some (Num.val ((l.getD p 0).toNat % 64) ((l.drop (p + 1)).take (2 ^ ((l.getD p 0).toNat / 64) - 1)), p + 2 ^ ((l.getD p 0).toNat / 64))
  else none
def rV (l : List UInt8) (p : Nat) : Nat := match rNum l p with | some (v, _) => v | none => 0
def rP (l : List UInt8) (p : Nat) : Nat := match rNum l p with | some (_, q) => q | none => p
def rB (l : List UInt8) (p : Nat) : Bool := (rNum l p).isNone

set_option maxHeartbeats 1000000 in
set_option maxRecDepth 100000 in
theorem rnumber_end (rb : Nat) (a : Option Addr) (l : List UInt8) (c : Nat) (bad : Bool) (w : World) (h : RRd w rb a l c l.length bad) :
    Calls Tryz.prog 44 #[.pointer (some ⟨rb, 0, none⟩)] w fun e w' => e = .returned (.int .u64 0) ∧ RRd w' rb a l c l.length true ∧ Alone rb w w' := by
  have c0 : w.cell? ⟨rb, 0, none⟩ = some (.slice a l.length c) := h.blk.cell 0
  have c1 : w.cell? ⟨rb, 1, none⟩ = some (.int .i64 (l.length : Int)) := h.blk.cell 1
  have c2 : w.cell? ⟨rb, 2, none⟩ = some (.bool bad) := h.blk.cell 2
  have f2 := h.blk.frozen 2
  have H := hid h
  clear h
  go_enter Tryz.func44, Tryz.ntmps44
  go_wp2_with fail
  go_quiet (fail)
  go_wp2_with fail
  go_ret
  exact ⟨rfl, (H.out.drewN nq).fail, ((Alone.refl rb w).drewN nq).setCell 2 _⟩

set_option maxHeartbeats 1000000 in
set_option maxRecDepth 100000 in
theorem rnumber_short (rb b off : Nat) (l : List UInt8) (c p : Nat) (bad : Bool) (w : World) (h : RRd w rb (some ⟨b, off, none⟩) l c p bad) (hl : l.length ≤ 1000000000) (X K : Nat) (hp : p < l.length) (hX : w.cell? ⟨b, off + p, none⟩ = some (.int .u8 (X : Int))) (hX2 : X < 256) (hK : K = X / 64) (hs : l.length < p + 2 ^ K) :
    Calls Tryz.prog 44 #[.pointer (some ⟨rb, 0, none⟩)] w fun e w' => e = .returned (.int .u64 0) ∧ RRd w' rb (some ⟨b, off, none⟩) l c p true ∧ Alone rb w w' := by
  have c0 : w.cell? ⟨rb, 0, none⟩ = some (.slice (some ⟨b, off, none⟩) l.length c) := h.blk.cell 0
  have c1 : w.cell? ⟨rb, 1, none⟩ = some (.int .i64 (p : Int)) := h.blk.cell 1
  have c2 : w.cell? ⟨rb, 2, none⟩ = some (.bool bad) := h.blk.cell 2
  have f2 := h.blk.frozen 2
  have H := hid h
  have hp' : (p : Int) < (l.length : Int) := by omega
  have hK3 : K ≤ 3 := by omega
  have eK : (X : Int) / 64 = (K : Int) := by omega
  have HS := hid hs
  clear h hK hs
  generalize l.length = L at *
  go_enter Tryz.func44, Tryz.ntmps44
  go_wp2_with fail
  go_quiet (fail)
  go_wp2_with fail
  go_quiet (fail)
  go_wp2_with fail
  go_quiet (fail)
  go_wp2_with fail
  go_loopw [4, 5] (fun s4 s5 wr => ∃ m k T : Nat, Hid (m + k = K ∧ T = 2 ^ m) ∧ k ≤ 3 ∧ T ≤ 8 ∧ s5 = .int .u8 (k : Int) ∧ s4 = .int .i64 (T : Int) ∧ ∃ q, wr = w.drewN q) (fun _ s5 _ => (intOf s5).toNat)
  case atStart => exact ⟨0, K, 1, ⟨by omega, rfl⟩, hK3, by omega, rfl, rfl, _, by rw [World.drewN_drewN, World.drewN_drewN]⟩
  case round =>
    obtain ⟨m, k, T, HT, hk3, hT8, rfl, rfl, q, rfl⟩ := hrel
    cases k with
    | zero =>
      have hT : L < p + T := by obtain ⟨h1, h2⟩ := HT.out; rw [h2, show m = K by omega]; exact HS.out
      clear HT
      go_wp2_with fail
      go_quiet (fail)
      go_wp2_with fail
      go_ret
      exact ⟨rfl, (H.out.drewN _).fail, ((Alone.refl rb w).drewN _).setCell 2 _⟩
    | succ k =>
      have hT4 : T ≤ 4 := by
        obtain ⟨h1, h2⟩ := HT.out
        have : 2 ^ m ≤ 2 ^ 2 := Nat.pow_le_pow_right (by decide) (by omega)
        omega
      have HT' : Hid (m + 1 + k = K ∧ T * 2 = 2 ^ (m + 1)) := by obtain ⟨h1, h2⟩ := HT.out; exact ⟨by omega, by rw [Nat.pow_succ, h2]⟩
      clear HT
      go_wp2_with fail
      go_roundw
      case rel => exact ⟨m + 1, k, T * 2, HT', by omega, by omega, by go_num, by go_num, q, rfl⟩
      case measure => simp [intOf]

theorem val_steps (b off p S X : Nat) (l : List UInt8) (w : World) (hb : BytesAt w (some ⟨b, off, none⟩) l) (hS : p + S ≤ l.length) (hS8 : S ≤ 8) :
    ∀ i, 1 ≤ i → i < S → ∃ x T : Nat, x < 256 ∧ w.cell? ⟨b, off + (p + i), none⟩ = some (.int .u8 (x : Int)) ∧ T = Num.val (X % 64) (((l.drop (p + 1)).take (S - 1)).take (i - 1)) ∧ T < 72057594037927936 ∧ Num.val (X % 64) (((l.drop (p + 1)).take (S - 1)).take i) = T * 256 + x := fun i h1 h2 => by
  obtain ⟨b', off', ha, hc⟩ := hb (p + i) (by omega)
  simp at ha
  obtain ⟨rfl, rfl⟩ := ha
  obtain ⟨tl, htl⟩ : ∃ tl, tl = (l.drop (p + 1)).take (S - 1) := ⟨_, rfl⟩
  have hlen : tl.length = S - 1 := by rw [htl, List.length_take, List.length_drop]; omega
  rw [← htl]
  refine ⟨_, _, Crc.u8_lt _, hc, rfl, ?_, ?_⟩
  · have := val_lt (tl.take (i - 1)) (X % 64) 1 (by omega)
    have hl : (tl.take (i - 1)).length = i - 1 := by rw [List.length_take]; omega
    rw [hl] at this
    have h7 : (256 : Nat) ^ (1 + (i - 1)) ≤ 256 ^ 7 := Nat.pow_le_pow_right (by decide) (by omega)
    omega
  · have hi : i - 1 < tl.length := by omega
    have e : tl.take i = tl.take (i - 1) ++ [tl[i - 1]] := by
      have := List.take_succ_eq_append_getElem hi
      rwa [show i - 1 + 1 = i by omega] at this
    rw [e, val_snoc]
    congr 2
    have h3 : tl[i - 1]? = l[p + i]? := by rw [htl, List.getElem?_take, if_pos (by omega), List.getElem?_drop, show p + 1 + (i - 1) = p + i by omega]
    rw [List.getElem?_eq_getElem hi, List.getElem?_eq_getElem (by omega)] at h3
    exact Option.some.inj h3

set_option maxHeartbeats 1000000 in
set_option maxRecDepth 100000 in
theorem rnumber_good (rb b off : Nat) (l : List UInt8) (c p : Nat) (bad : Bool) (w : World) (h : RRd w rb (some ⟨b, off, none⟩) l c p bad) (hl : l.length ≤ 1000000000) (X K S : Nat) (hX : w.cell? ⟨b, off + p, none⟩ = some (.int .u8 (X : Int))) (hX2 : X < 256) (hK : K = X / 64) (hSK : S = 2 ^ K) (hs : p + S ≤ l.length) :
    Calls Tryz.prog 44 #[.pointer (some ⟨rb, 0, none⟩)] w fun e w' => e = .returned (.int .u64 (Num.val (X % 64) ((l.drop (p + 1)).take (S - 1)) : Nat)) ∧ RRd w' rb (some ⟨b, off, none⟩) l c (p + S) bad ∧ Alone rb w w' := by
  have c0 : w.cell? ⟨rb, 0, none⟩ = some (.slice (some ⟨b, off, none⟩) l.length c) := h.blk.cell 0
  have c1 : w.cell? ⟨rb, 1, none⟩ = some (.int .i64 (p : Int)) := h.blk.cell 1
  have c2 : w.cell? ⟨rb, 2, none⟩ = some (.bool bad) := h.blk.cell 2
  have f1 := h.blk.frozen 1
  have H := hid h
  have hK3 : K ≤ 3 := by omega
  have hS1 : 1 ≤ S := by rw [hSK]; exact Nat.one_le_two_pow
  have hS8 : S ≤ 8 := by
    have : 2 ^ K ≤ 2 ^ 3 := Nat.pow_le_pow_right (by decide) hK3
    omega
  have HST := hid (val_steps b off p S X l w h.by_ hs hS8)
  have HV0 : Hid (Num.val (X % 64) (((l.drop (p + 1)).take (S - 1)).take 0) = X % 64) := rfl
  have HVS : Hid (Num.val (X % 64) (((l.drop (p + 1)).take (S - 1)).take (S - 1)) = Num.val (X % 64) ((l.drop (p + 1)).take (S - 1))) := by unfold Hid; rw [List.take_of_length_le (by rw [List.length_take]; omega)]
  have hp' : (p : Int) < (l.length : Int) := by omega
  have eK : (X : Int) / 64 = (K : Int) := by omega
  have HL := hid (And.intro hs hSK)
  clear h hK hSK
  generalize (l.drop (p + 1)).take (S - 1) = tl at *
  generalize hLL : l.length = L at *
  have HLL := hid hLL
  clear hLL
  have e64 : (X : Int) % 64 = ((X % 64 : Nat) : Int) := by omega
  have hx64 : X % 64 < 64 := by omega
  generalize X % 64 = X64 at *
  go_enter Tryz.func44, Tryz.ntmps44
  go_wp2_with fail
  go_quiet (fail)
  go_wp2_with fail
  go_quiet (fail)
  go_wp2_with fail
  go_quiet (fail)
  go_wp2_with fail
  go_loopw [4, 5] (fun s4 s5 wr => ∃ m k T : Nat, Hid (m + k = K ∧ T = 2 ^ m) ∧ k ≤ 3 ∧ T ≤ 8 ∧ s5 = .int .u8 (k : Int) ∧ s4 = .int .i64 (T : Int) ∧ ∃ q, wr = w.drewN q) (fun _ s5 _ => (intOf s5).toNat)
  case atStart => exact ⟨0, K, 1, ⟨by omega, rfl⟩, hK3, by omega, rfl, rfl, _, by rw [World.drewN_drewN, World.drewN_drewN]⟩
  case round =>
    obtain ⟨m, k, T, HT, hk3, hT8, rfl, rfl, q, rfl⟩ := hrel
    cases k with
    | zero =>
      have hT : T = S := by obtain ⟨h1, h2⟩ := HT.out; rw [h2, HL.out.2, show m = K by omega]
      subst hT
      clear HT
      go_wp2_with fail
      go_quiet (fail)
      go_wp2_with fail
      go_loopw [3, 6] (fun s3 s6 wr => ∃ i V : Nat, Hid (V = Num.val X64 (tl.take (i - 1))) ∧ 1 ≤ i ∧ i ≤ T ∧ s6 = .int .i64 (i : Int) ∧ s3 = .int .u64 (V : Int) ∧ ∃ q, wr = w.drewN q) (fun _ s6 _ => T - (intOf s6).toNat)
      case atStart => exact ⟨1, X64, HV0.out.symm, by omega, by omega, rfl, rfl, _, by rw [World.drewN_drewN]⟩
      case round =>
        obtain ⟨i, V, HVi, hi1, hiT, rfl, rfl, q, rfl⟩ := hrel
        by_cases hlt : i < T
        · obtain ⟨x, V', hx, hcl, hV', hV2, hst⟩ := HST.out i hi1 hlt
          have hVV : V = V' := by rw [HVi.out, hV']
          subst hVV
          have HS : Hid (V * 256 + x = Num.val X64 (tl.take (i + 1 - 1))) := by unfold Hid; rw [show i + 1 - 1 = i by omega, hst]
          have hsL := HL.out.1
          clear HVi hV' hst
          go_wp2_with fail
          go_quiet (fail)
          go_wp2_with fail
          go_roundw
          case rel => exact ⟨i + 1, V * 256 + x, HS, by omega, by omega, by go_num, by go_num, _, rfl⟩
          case measure => simp [intOf]; omega
        · have hiT' : i = T := by omega
          subst hiT'
          have HF : Hid (V = Num.val X64 tl) := by unfold Hid; rw [HVi.out, HVS.out]
          have hsL := HL.out.1
          clear HVi
          go_wp2_with fail
          go_ret
          exact ⟨ret_int (by rw [HF.out]), (by have := (H.out.drewN q).move (p + i) (by rw [HLL.out]; exact hsL); simpa using this), ((Alone.refl rb w).drewN _).setCell 1 _⟩
    | succ k =>
      have hT4 : T ≤ 4 := by
        obtain ⟨h1, h2⟩ := HT.out
        have : 2 ^ m ≤ 2 ^ 2 := Nat.pow_le_pow_right (by decide) (by omega)
        omega
      have HT' : Hid (m + 1 + k = K ∧ T * 2 = 2 ^ (m + 1)) := by obtain ⟨h1, h2⟩ := HT.out; exact ⟨by omega, by rw [Nat.pow_succ, h2]⟩
      clear HT
      go_wp2_with fail
      go_roundw
      case rel => exact ⟨m + 1, k, T * 2, HT', by omega, by omega, by go_num, by go_num, q, rfl⟩
      case measure => simp [intOf]
end Go.Proofs.YtphbledmopchnaaGreatDoor

/-
  The document's reader: number, stream, text.
-/
namespace Go.Proofs.YtphbledmopchnaaGreatDoor
open Go.RowKit Go.Lib Mm

theorem rnumber_any (rb : Nat) (a : Option Addr) (l : List UInt8) (c p : Nat) (bad : Bool) (w : World) (h : RRd w rb a l c p bad) (hl : l.length ≤ 1000000000) :
    Calls Tryz.prog 44 #[.pointer (some ⟨rb, 0, none⟩)] w fun e w' => e = .returned (.int .u64 (rV l p : Nat)) ∧ RRd w' rb a l c (rP l p) (bad || rB l p) ∧ Alone rb w w' := by
  by_cases hp : p < l.length
  · obtain ⟨b, off, rfl, hc⟩ := h.by_ p hp
    have hg : l.getD p 0 = l[p] := by rw [List.getD_eq_getElem?_getD, List.getElem?_eq_getElem hp]; rfl
    by_cases hs : l.length < p + 2 ^ (l[p].toNat / 64)
    · have e : rNum l p = none := by unfold rNum; rw [if_pos hp, hg, if_pos hs]
      unfold rV rP rB
      rw [e]
      refine (rnumber_short rb b off l c p bad w h hl _ _ hp hc (Crc.u8_lt _) rfl hs).mono ?_
      rintro e w' ⟨rfl, h1, h2⟩
      exact ⟨rfl, by simpa using h1, h2⟩
    · have e : rNum l p = some (Num.val (l[p].toNat % 64) ((l.drop (p + 1)).take (2 ^ (l[p].toNat / 64) - 1)), p + 2 ^ (l[p].toNat / 64)) := by unfold rNum; rw [if_pos hp, hg, if_neg hs]
      unfold rV rP rB
      rw [e]
      refine (rnumber_good rb b off l c p bad w h hl _ _ _ hc (Crc.u8_lt _) rfl rfl (by omega)).mono ?_
      rintro e w' ⟨rfl, h1, h2⟩
      exact ⟨rfl, by simpa using h1, h2⟩
  · have e : rNum l p = none := by unfold rNum; rw [if_neg hp]
    have hpl : p = l.length := by have := h.le; omega
    subst hpl
    unfold rV rP rB
    rw [e]
    refine (rnumber_end rb a l c bad w h).mono ?_
    rintro e w' ⟨rfl, h1, h2⟩
    exact ⟨rfl, by simpa using h1, h2⟩

theorem rP_le (l : List UInt8) (p : Nat) (h : p ≤ l.length) : rP l p ≤ l.length ∧ p ≤ rP l p := by
  unfold rP rNum
  split
  · rename_i v q hq
    split at hq
    · split at hq
      · cases hq
      · simp only [Option.some.injEq, Prod.mk.injEq] at hq
        obtain ⟨_, rfl⟩ := hq
        exact ⟨by omega, Nat.le_add_right _ _⟩
    · cases hq
  · exact ⟨h, Nat.le_refl _⟩
theorem rP_lt (l : List UInt8) (p : Nat) (h : rB l p = false) : p < rP l p := by
  unfold rB at h
  unfold rP
  cases hn : rNum l p with
  | none => rw [hn] at h; simp at h
  | some x =>
    obtain ⟨v, q⟩ := x
    unfold rNum at hn
    split at hn
    · split at hn
      · cases hn
      · simp only [Option.some.injEq, Prod.mk.injEq] at hn
        obtain ⟨_, rfl⟩ := hn
        have : 0 < 2 ^ ((l.getD p 0).toNat / 64) := Nat.two_pow_pos _
        exact Nat.lt_add_of_pos_right this
    · cases hn
theorem rV_lt (l : List UInt8) (p : Nat) : rV l p < 4611686018427387904 := by
  unfold rV
  cases hn : rNum l p with
  | none => show 0 < _; omega
  | some x =>
    obtain ⟨v, q⟩ := x
    unfold rNum at hn
    split at hn
    · split at hn
      · cases hn
      · simp only [Option.some.injEq, Prod.mk.injEq] at hn
        obtain ⟨rfl, _⟩ := hn
        have hx := Crc.u8_lt (l.getD p 0)
        generalize (l.getD p 0).toNat = X at hx
        have hK : X / 64 = 0 ∨ X / 64 = 1 ∨ X / 64 = 2 ∨ X / 64 = 3 := by omega
        have key : ∀ (t : List UInt8) (n : Nat), t.length ≤ n → n ≤ 7 → Num.val (X % 64) t < 4611686018427387904 := fun t n h1 h2 => by
          have e : Num.val (X % 64) t = (X % 64) * 256 ^ t.length + Num.val 0 t := by
            clear h1 h2 hK
            have gen : ∀ (t : List UInt8) (a : Nat), Num.val a t = a * 256 ^ t.length + Num.val 0 t := by
              intro t
              induction t with
              | nil => intro a; simp [Num.val]
              | cons y u ih =>
                intro a
                have h1 := ih (a * 256 + y.toNat)
                have h2 := ih (0 * 256 + y.toNat)
                show Num.val (a * 256 + y.toNat) u = a * 256 ^ (u.length + 1) + Num.val (0 * 256 + y.toNat) u
                rw [h1, h2, Nat.pow_succ, Nat.zero_mul, Nat.zero_add, Nat.add_mul]
                have : a * 256 * 256 ^ u.length = a * (256 ^ u.length * 256) := by rw [Nat.mul_assoc, Nat.mul_comm 256]
                omega
            exact gen t _
          have h0 := val_lt t 0 0 (by decide)
          rw [Nat.zero_add] at h0
          have h7 : (256 : Nat) ^ t.length ≤ 256 ^ 7 := Nat.pow_le_pow_right (by decide) (by omega)
          have h63 : X % 64 ≤ 63 := by omega
          have := Nat.mul_le_mul h63 h7
          have : (X % 64) * 256 ^ t.length + 256 ^ t.length ≤ 64 * 256 ^ 7 := by
            have := Nat.mul_le_mul_right (256 ^ t.length) h63
            omega
          have e64 : 64 * 256 ^ 7 = 4611686018427387904 := by decide
          omega
        rcases hK with e | e | e | e <;> rw [e] <;> refine key _ 7 ?_ (by omega) <;> rw [List.length_take] <;> omega
    · cases hn

/-! ### stream -/
def sV (l : List UInt8) (p : Nat) : Nat := if 8 ≤ rV l p then 0 else rV l p
def sB (l : List UInt8) (p : Nat) : Bool := rB l p || decide (8 ≤ rV l p)

set_option maxHeartbeats 1000000 in
set_option maxRecDepth 100000 in
theorem rstream_any (rb : Nat) (a : Option Addr) (l : List UInt8) (c p : Nat) (bad : Bool) (w : World) (h : RRd w rb a l c p bad) (hl : l.length ≤ 1000000000) :
    Calls Tryz.prog 74 #[.pointer (some ⟨rb, 0, none⟩)] w fun e w' => e = .returned (.int .i64 (sV l p : Nat)) ∧ RRd w' rb a l c (rP l p) (bad || sB l p) ∧ Alone rb w w' := by
  have HN := hid (rnumber_any rb a l c p bad w h hl)
  have hV := rV_lt l p
  by_cases h8 : 8 ≤ rV l p
  · have HS : Hid (sV l p = 0 ∧ sB l p = true) := ⟨by unfold sV; rw [if_pos h8], by unfold sB; rw [decide_eq_true h8, Bool.or_true]⟩
    clear h
    generalize rV l p = V at *
    go_enter Tryz.func74, Tryz.ntmps74
    go_wp2_with fail
    refine HN.out.mono ?_
    rintro e w1 ⟨rfl, h1, h2⟩
    have H1 := hid h1
    have H2 := hid h2
    have c2 : w1.cell? ⟨rb, 2, none⟩ = some (.bool (bad || rB l p)) := h1.blk.cell 2
    have f2 := h1.blk.frozen 2
    clear h1 h2
    go_wp2_with fail
    go_ret
    exact ⟨ret_int (by rw [HS.out.1]; rfl), (by rw [HS.out.2, Bool.or_true]; exact H1.out.fail), H2.out.setCell 2 _⟩
  · have HS : Hid (sV l p = rV l p ∧ sB l p = rB l p) := ⟨by unfold sV; rw [if_neg h8], by unfold sB; rw [decide_eq_false h8, Bool.or_false]⟩
    have h8' : ¬ (8 ≤ rV l p) := h8
    clear h h8
    generalize rV l p = V at *
    go_enter Tryz.func74, Tryz.ntmps74
    go_wp2_with fail
    refine HN.out.mono ?_
    rintro e w1 ⟨rfl, h1, h2⟩
    have H1 := hid h1
    have H2 := hid h2
    clear h1 h2
    go_wp2_with fail
    go_ret
    exact ⟨ret_int (by rw [HS.out.1]), (by rw [HS.out.2]; exact H1.out), H2.out⟩

/-! ### text -/
def tB (l : List UInt8) (p : Nat) (bad : Bool) : Bool := bad || rB l p || decide (l.length < rP l p + rV l p)
def tV (l : List UInt8) (p : Nat) (bad : Bool) : List UInt8 := if tB l p bad then [] else (l.drop (rP l p)).take (rV l p)
def tP (l : List UInt8) (p : Nat) (bad : Bool) : Nat := if tB l p bad then rP l p else rP l p + rV l p

set_option maxHeartbeats 1000000 in
set_option maxRecDepth 100000 in
theorem rtext_bad (rb : Nat) (a : Option Addr) (l : List UInt8) (c p : Nat) (bad : Bool) (w : World) (h : RRd w rb a l c p bad) (hl : l.length ≤ 1000000000) (hb : tB l p bad = true) :
    Calls Tryz.prog 75 #[.pointer (some ⟨rb, 0, none⟩)] w fun e w' => e = .returned (.string ⟨#[]⟩) ∧ RRd w' rb a l c (rP l p) true ∧ Alone rb w w' := by
  have HN := hid (rnumber_any rb a l c p bad w h hl)
  have hV := rV_lt l p
  have hP := (rP_le l p h.le).1
  unfold tB at hb
  clear h
  generalize rV l p = V at *
  cases hbb : (bad || rB l p) with
  | true =>
    rw [hbb] at HN
    clear hbb hb
    generalize hQ : rP l p = Q at *
    go_enter Tryz.func75, Tryz.ntmps75
    go_wp2_with fail
    refine HN.out.mono ?_
    rintro e w1 ⟨rfl, h1, h2⟩
    have H1 := hid h1
    have H2 := hid h2
    have c0 : w1.cell? ⟨rb, 0, none⟩ = some (.slice a l.length c) := h1.blk.cell 0
    have c1 : w1.cell? ⟨rb, 1, none⟩ = some (.int .i64 (Q : Int)) := h1.blk.cell 1
    have c2 : w1.cell? ⟨rb, 2, none⟩ = some (.bool true) := h1.blk.cell 2
    have f2 := h1.blk.frozen 2
    clear h1 h2
    go_wp2_with fail
    go_quiet (fail)
    go_wp2_with fail
    go_ret
    exact ⟨rfl, (H1.out.drewN _).fail, (H2.out.drewN _).setCell 2 _⟩
  | false =>
    rw [hbb] at HN hb
    have hgt : l.length < rP l p + V := by simpa using hb
    clear hbb hb
    generalize hQ : rP l p = Q at *
    have e1 : IntKind.u64.wrap ((l.length : Int) - (Q : Int)) = (l.length : Int) - (Q : Int) := by rw [IntKind.wrap_u64]; omega
    have hgt' : (l.length : Int) - (Q : Int) < (V : Int) := by omega
    go_enter Tryz.func75, Tryz.ntmps75
    go_wp2_with fail
    refine HN.out.mono ?_
    rintro e w1 ⟨rfl, h1, h2⟩
    have H1 := hid h1
    have H2 := hid h2
    have c0 : w1.cell? ⟨rb, 0, none⟩ = some (.slice a l.length c) := h1.blk.cell 0
    have c1 : w1.cell? ⟨rb, 1, none⟩ = some (.int .i64 (Q : Int)) := h1.blk.cell 1
    have c2 : w1.cell? ⟨rb, 2, none⟩ = some (.bool false) := h1.blk.cell 2
    have f2 := h1.blk.frozen 2
    clear h1 h2
    go_wp2_with fail
    go_quiet (fail)
    go_wp2_with fail
    go_ret
    exact ⟨rfl, (H1.out.drewN _).fail, (H2.out.drewN _).setCell 2 _⟩

theorem conv_empty (a : Addr) (c : Nat) (w : World) : (convert 60 9 (.slice (some a) 0 c)).run Tryz.prog w = .ok (.string ⟨#[]⟩) w :=
  run_convert_bytes_back (P := Tryz.prog) w 60 9 5 a c [] u29 (by kernel_rfl) u9 (fun j hj => absurd hj (Nat.not_lt_zero _))

theorem RRd.moved {w : World} {rb : Nat} {a : Option Addr} {l : List UInt8} {c p : Nat} {bad : Bool} (h : RRd w rb a l c p bad) {z : Int} (p' : Nat) (hp : p' ≤ l.length) (hz : z = (p' : Int)) : RRd (w.setCell ⟨rb, 1, none⟩ (.int .i64 z)) rb a l c p' bad := by
  subst hz
  exact h.move p' hp

set_option maxHeartbeats 1000000 in
set_option maxRecDepth 100000 in
theorem rtext_good (rb : Nat) (a : Option Addr) (l : List UInt8) (c p : Nat) (w : World) (h : RRd w rb a l c p false) (hl : l.length ≤ 1000000000) (hb : tB l p false = false) :
    Calls Tryz.prog 75 #[.pointer (some ⟨rb, 0, none⟩)] w fun e w' => e = .returned (.string ⟨((l.drop (rP l p)).take (rV l p)).toArray⟩) ∧ RRd w' rb a l c (rP l p + rV l p) false ∧ Alone rb w w' := by
  have HN := hid (rnumber_any rb a l c p false w h hl)
  unfold tB at hb
  rw [Bool.false_or, Bool.or_eq_false_iff] at hb
  obtain ⟨hb1, hb2⟩ := hb
  have hle : rP l p + rV l p ≤ l.length := by have := of_decide_eq_false hb2; omega
  have hQ0 := rP_lt l p hb1
  rw [hb1, Bool.or_false] at HN
  have hcap := h.cap
  clear hb1 hb2 h
  generalize rV l p = V at *
  generalize rP l p = Q at *
  have e1 : IntKind.u64.wrap ((l.length : Int) - (Q : Int)) = (l.length : Int) - (Q : Int) := by rw [IntKind.wrap_u64]; omega
  have hgt' : ¬ ((l.length : Int) - (Q : Int) < (V : Int)) := by omega
  obtain ⟨S, hS⟩ : ∃ S : ByteArray, S = ⟨((l.drop Q).take V).toArray⟩ := ⟨_, rfl⟩
  rw [← hS]
  go_enter Tryz.func75, Tryz.ntmps75
  go_wp2_with fail
  refine HN.out.mono ?_
  rintro e w1 ⟨rfl, h1, h2⟩
  have c0 : w1.cell? ⟨rb, 0, none⟩ = some (.slice a l.length c) := h1.blk.cell 0
  have c1 : w1.cell? ⟨rb, 1, none⟩ = some (.int .i64 (Q : Int)) := h1.blk.cell 1
  have c2 : w1.cell? ⟨rb, 2, none⟩ = some (.bool false) := h1.blk.cell 2
  have f1 := h1.blk.frozen 1
  obtain ⟨b, off, ha, hb0⟩ := h1.by_ 0 (by omega)
  subst ha
  clear hb0
  have hcv : 0 < V → ∀ c' q, (convert 60 9 (.slice (some ⟨b, off + Q, none⟩) V c')).run Tryz.prog (w1.drewN q) = .ok (.string S) (w1.drewN q) := fun hV c' q => by
    have hl2 : ((l.drop Q).take V).length = V := by rw [List.length_take, List.length_drop]; omega
    have := run_convert_bytes_back (P := Tryz.prog) (w1.drewN q) 60 9 5 ⟨b, off + Q, none⟩ c' ((l.drop Q).take V) u29 (by kernel_rfl) u9 (fun j hj => by
      rw [hl2] at hj
      obtain ⟨b', off', ha, hc⟩ := h1.by_ (Q + j) (by omega)
      simp at ha
      obtain ⟨rfl, rfl⟩ := ha
      rw [Addr.add_lit, Nat.add_assoc]
      refine (show w1.cell? _ = _ from hc).trans ?_
      congr 3
      simp)
    rw [hl2, ← hS] at this
    exact this
  have hS0 : V = 0 → S = ⟨#[]⟩ := fun e => by rw [hS, e]; rfl
  have H1 := hid h1
  have H2 := hid h2
  clear h1 h2 hS HN
  generalize hLL : l.length = L at *
  have HLL := hid hLL
  clear hLL
  have i1 : (Q : Int) ≤ (Q : Int) + (V : Int) := by omega
  have i2 : (Q : Int) + (V : Int) ≤ (c : Int) := by omega
  by_cases hV : 0 < V
  · have hcv' := hcv hV
    have hne : ¬ (c = Q) := by omega
    clear hcv hS0
    go_wp2_with fail
    go_quiet (fail)
    go_wp2_with fail
    go_quiet (fail)
    go_wp2_with fail
    go_ret
    exact ⟨rfl, (H1.out.drewN _).moved (Q + V) (by rw [HLL.out]; exact hle) (by omega), (H2.out.drewN _).setCell 1 _⟩
  · obtain rfl : V = 0 := by omega
    have hS1 := hS0 rfl
    subst hS1
    have hce := conv_empty
    clear hcv hS0
    by_cases hne : c = Q
    · subst hne
      go_wp2_with fail
      go_quiet (fail)
      go_wp2_with fail
      go_quiet (fail)
      go_wp2_with fail
      go_ret
      exact ⟨rfl, (H1.out.drewN _).moved (c + 0) (by rw [HLL.out]; exact hle) (by omega), (H2.out.drewN _).setCell 1 _⟩
    · go_wp2_with fail
      go_quiet (fail)
      go_wp2_with fail
      go_quiet (fail)
      go_wp2_with fail
      go_ret
      exact ⟨rfl, (H1.out.drewN _).moved (Q + 0) (by rw [HLL.out]; exact hle) (by omega), (H2.out.drewN _).setCell 1 _⟩
end Go.Proofs.YtphbledmopchnaaGreatDoor
