/-
  How a frame is written.
-/
import Derived.Test.YtphbledmopchnaaDoorLayout
namespace Go.Proofs.YtphbledmopchnaaDoor
open Go.RowKit Go.Lib Go.Shelf Mm

theorem offset_any (b off : Nat) (w : World) : Calls Tryd.prog 36 #[.pointer (some ⟨b, off, none⟩)] w fun e w' => e = .returned (.pointer (some ⟨b, off + 2, none⟩)) ∧ w' = w := by
  go_enter Tryd.func36, Tryd.ntmps36
  go_wp2
  go_ret
  exact ⟨rfl, rfl⟩
theorem reliable_any (b off : Nat) (w : World) : Calls Tryd.prog 37 #[.pointer (some ⟨b, off, none⟩)] w fun e w' => e = .returned (.pointer (some ⟨b, off + 3, none⟩)) ∧ w' = w := by
  go_enter Tryd.func37, Tryd.ntmps37
  go_wp2
  go_ret
  exact ⟨rfl, rfl⟩
theorem limit_any (b off : Nat) (w : World) : Calls Tryd.prog 40 #[.pointer (some ⟨b, off, none⟩)] w fun e w' => e = .returned (.pointer (some ⟨b, off + 4, none⟩)) ∧ w' = w := by
  go_enter Tryd.func40, Tryd.ntmps40
  go_wp2
  go_ret
  exact ⟨rfl, rfl⟩
theorem id_any (b off : Nat) (w : World) : Calls Tryd.prog 41 #[.pointer (some ⟨b, off, none⟩)] w fun e w' => e = .returned (.pointer (some ⟨b, off + 6, none⟩)) ∧ w' = w := by
  go_enter Tryd.func41, Tryd.ntmps41
  go_wp2
  go_ret
  exact ⟨rfl, rfl⟩
theorem deadline_any (b off : Nat) (w : World) : Calls Tryd.prog 42 #[.pointer (some ⟨b, off, none⟩)] w fun e w' => e = .returned (.pointer (some ⟨b, off + 7, none⟩)) ∧ w' = w := by
  go_enter Tryd.func42, Tryd.ntmps42
  go_wp2
  go_ret
  exact ⟨rfl, rfl⟩

/-- The field at a place. -/
def fieldAt (f : Fr) (pf : Nat) : Nat := if pf = 36 then f.offset else if pf = 37 then f.reliable else if pf = 40 then f.limit else if pf = 41 then f.id else f.deadline
/-- The bytes of a part. -/
def partBytes (f : Fr) (tag : Nat × Nat) : List UInt8 :=
  if tag.1 = 0 then [UInt8.ofNat tag.2] else if tag.1 = 1 then [if f.fin then 9 else 8] else if tag.1 = 2 then Num.bytes f.stream.toNat else if tag.1 = 3 then Num.bytes (fieldAt f tag.2)
  else if tag.1 = 4 then Num.bytes f.data.size ++ f.data.data.toList else rngBytes f.ranges
/-- The parts of a kind. -/
def tagsOf (k : Int) : List (Nat × Nat) :=
  if k = 1 then [(0, 1)] else if k = 2 then [(0, 2), (5, 0)] else if k = 3 then [(0, 36), (2, 0), (3, 36), (3, 37)] else if k = 4 then [(1, 0), (2, 0), (3, 36), (4, 0)] else if k = 5 then [(0, 16), (3, 40)] else if k = 6 then [(0, 17), (2, 0), (3, 40)] else if k = 7 then [(0, 48), (3, 41), (3, 42), (4, 0)] else [(0, 28), (3, 40)]
/-- The bytes of a frame. -/
def frBytes (f : Fr) : List UInt8 := partsTo ((tagsOf f.kind).map (partBytes f)) (tagsOf f.kind).length

/-- A tag that a kind may have. -/
def okTag (f : Fr) (tag : Nat × Nat) : Prop :=
  (tag.1 = 0 ∧ tag.2 < 256) ∨ tag.1 = 1 ∨ tag.1 = 2 ∨ (tag.1 = 3 ∧ (tag.2 = 36 ∨ tag.2 = 37 ∨ tag.2 = 40 ∨ tag.2 = 41 ∨ tag.2 = 42)) ∨ tag.1 = 4 ∨ (tag.1 = 5 ∧ sndR f.ranges = true)

/-- What is sound is such that each part can be written. -/
structure Fit (f : Fr) : Prop where
  s0 : 0 ≤ f.stream
  s8 : f.stream < 8
  n0 : f.offset ≤ M62
  n1 : f.reliable ≤ M62
  n2 : f.limit ≤ M62
  n3 : f.id ≤ M62
  n4 : f.deadline ≤ M62

theorem fit_of (f : Fr) (h : snd f = true) : Fit f ∧ 1 ≤ f.kind ∧ f.kind ≤ 8 ∧ sndT f = true := by
  unfold snd sndN at h
  simp only [Bool.and_eq_true] at h
  obtain ⟨⟨⟨h1, ⟨⟨⟨⟨a1, a2⟩, a3⟩, a4⟩, a5⟩⟩, h3⟩, h4⟩ := h
  have h1' := of_decide_eq_true h1
  have h3' := of_decide_eq_true h3
  exact ⟨⟨h3'.1, h3'.2, of_decide_eq_true a1, of_decide_eq_true a2, of_decide_eq_true a3, of_decide_eq_true a4, of_decide_eq_true a5⟩, h1'.1, h1'.2, h4⟩

theorem part_wr {B0 : Nat} {w1 : World} {tag : Nat × Nat} {fw fr : Value} (hP : PartIs B0 w1 tag fw fr) (b off : Nat) (f : Fr) (ra : Option Addr) (rc : Nat) (hf : Fit f) (hok : okTag f tag) (hrc : f.ranges.length ≤ rc) :
    Wr B0 w1.heap.size w1 fw (partBytes f tag) b off f ra rc := by
  unfold partBytes
  rcases hP with ⟨h, xb, hx, h2, _⟩ | ⟨h, h2, _⟩ | ⟨h, h2, _⟩ | ⟨h, xb, hx, h2, _⟩ | ⟨h, h2, _⟩ | ⟨h, h2, _⟩
  · rw [if_pos h, h2]
    have h256 : tag.2 < 256 := by
      rcases hok with e | e | e | e | e | e <;> omega
    exact first_wr xb (UInt8.ofNat tag.2) b off f ra rc hx.1 (World.block_lt_of_cell? _ _ hx.2) (by rw [UInt8.toNat_ofNat_of_lt' h256]; exact hx.2)
  · rw [if_neg (by omega), if_pos h, h2]
    exact firstData_wr b off f ra rc
  · rw [if_neg (by omega), if_neg (by omega), if_pos h, h2]
    exact stream_wr b off f ra rc hf.s0 hf.s8
  · rw [if_neg (by omega), if_neg (by omega), if_neg (by omega), if_pos h, h2]
    have hpf : tag.2 = 36 ∨ tag.2 = 37 ∨ tag.2 = 40 ∨ tag.2 = 41 ∨ tag.2 = 42 := by
      rcases hok with e | e | e | e | e | e
      · omega
      · omega
      · omega
      · exact e.2
      · omega
      · omega
    have hl := World.block_lt_of_cell? _ _ hx.2
    have hxc := hx.2
    rcases hpf with e | e | e | e | e
    · rw [e] at hxc ⊢
      exact number_wr xb 36 2 f.offset b off f ra rc hx.1 hl hxc (enters_of Tryd.func36 (by kernel_rfl) rfl) (offset_any b off) (fun w hw => hw.c2) hf.n0
    · rw [e] at hxc ⊢
      exact number_wr xb 37 3 f.reliable b off f ra rc hx.1 hl hxc (enters_of Tryd.func37 (by kernel_rfl) rfl) (reliable_any b off) (fun w hw => hw.c3) hf.n1
    · rw [e] at hxc ⊢
      exact number_wr xb 40 4 f.limit b off f ra rc hx.1 hl hxc (enters_of Tryd.func40 (by kernel_rfl) rfl) (limit_any b off) (fun w hw => hw.c4) hf.n2
    · rw [e] at hxc ⊢
      exact number_wr xb 41 6 f.id b off f ra rc hx.1 hl hxc (enters_of Tryd.func41 (by kernel_rfl) rfl) (id_any b off) (fun w hw => hw.c6) hf.n3
    · rw [e] at hxc ⊢
      exact number_wr xb 42 7 f.deadline b off f ra rc hx.1 hl hxc (enters_of Tryd.func42 (by kernel_rfl) rfl) (deadline_any b off) (fun w hw => hw.c7) hf.n4
  · rw [if_neg (by omega), if_neg (by omega), if_neg (by omega), if_neg (by omega), if_pos h, h2]
    exact text_wr b off f ra rc
  · rw [if_neg (by omega), if_neg (by omega), if_neg (by omega), if_neg (by omega), if_neg (by omega), h2]
    have hR : sndR f.ranges = true := by
      rcases hok with e | e | e | e | e | e
      · omega
      · omega
      · omega
      · omega
      · omega
      · exact e.2
    exact ranges_wr b off f ra rc hR hrc

/-- A layout of parts writes them in their order. -/
theorem lay_wr {B0 : Nat} {w1 : World} {tags : List (Nat × Nat)} {fw fr : Value} (hL : LayIs B0 w1 tags fw fr) (hlen : tags.length ≤ 100) (b off : Nat) (f : Fr) (ra : Option Addr) (rc : Nat) (hf : Fit f) (hok : ∀ t ∈ tags, okTag f t) (hrc : f.ranges.length ≤ rc) (hpos : 0 < tags.length) :
    Wr B0 w1.heap.size w1 fw (partsTo (tags.map (partBytes f)) tags.length) b off f ra rc := by
  obtain ⟨pb, qb, rfl, _, hB, hq, hcell⟩ := hL
  have hfun : ∃ fws frs : Nat → Value, ∀ j, j < tags.length → w1.cell? ⟨qb, j * 2, none⟩ = some (fws j) ∧ w1.cell? ⟨qb, j * 2 + 1, none⟩ = some (frs j) ∧ PartIs B0 w1 (tags.getD j (0, 0)) (fws j) (frs j) := by
    refine ⟨fun j => (w1.cell? ⟨qb, j * 2, none⟩).getD undef, fun j => (w1.cell? ⟨qb, j * 2 + 1, none⟩).getD undef, fun j hj => ?_⟩
    obtain ⟨a, c, h1, h2, h3⟩ := hcell j hj
    refine ⟨by simp [h1], by simp [h2], ?_⟩
    simpa [h1, h2] using h3
  obtain ⟨fws, frs, hF⟩ := hfun
  have hmem : ∀ j, j < tags.length → tags.getD j (0, 0) ∈ tags := fun j hj => by
    rw [List.getD_eq_getElem?_getD, List.getElem?_eq_getElem hj]
    exact List.getElem_mem _
  refine inOrder_wr pb qb tags.length fws frs _ b off f ra rc hlen hB.1 (World.block_lt_of_cell? _ _ hB.2) hq (World.block_lt_of_cell? _ _ (hF 0 hpos).1) hB.2 (fun j hj => ⟨(hF j hj).1, (hF j hj).2.1⟩) (fun j hj => ?_) (fun j hj => ?_)
  · rcases (hF j hj).2.2 with ⟨_, xb, _, _, h⟩ | ⟨_, _, h⟩ | ⟨_, _, h⟩ | ⟨_, xb, _, _, h⟩ | ⟨_, _, h⟩ | ⟨_, _, h⟩ <;> exact ⟨_, _, h⟩
  · have := part_wr (hF j hj).2.2 b off f ra rc hf (hok _ (hmem j hj)) hrc
    have e : (tags.map (partBytes f)).getD j [] = partBytes f (tags.getD j (0, 0)) := by
      simp [hj]
    rw [e]
    exact this

end Go.Proofs.YtphbledmopchnaaDoor
