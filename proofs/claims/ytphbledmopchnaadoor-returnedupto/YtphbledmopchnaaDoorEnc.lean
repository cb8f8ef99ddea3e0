/-
  layoutOf of any kind; soundPacket.
-/
import Derived.Test.YtphbledmopchnaaDoorWrote
namespace Go.Proofs.YtphbledmopchnaaDoor
open Go.RowKit Go.Lib Go.Shelf Mm

/-- The layout of a kind. -/
def LayK (B0 : Nat) (w : World) (k : Int) (fw fr : Value) : Prop := k = 1 ∧ PartIs B0 w (0, 1) fw fr ∨ k ≠ 1 ∧ LayIs B0 w (tagsOf k) fw fr

set_option maxHeartbeats 1000000 in
set_option maxRecDepth 100000 in
theorem layout1 (w : World) : Calls Tryd.prog 19 #[.int .i64 1] w fun e w' => ∃ fw fr, e = .returned (.agg #[fw, fr]) ∧ PartIs (w.heap.size + 1) w' (0, 1) fw fr ∧ Below w.heap.size w w' := by
  go_enter Tryd.func19, Tryd.ntmps19
  go_wp2_with fail
  refine (first_made' 1 _ rfl _).mono ?_
  rintro e y1 ⟨fw1, fr1, rfl, hP1, hB1⟩
  have C1 : Hid (Below (w.heap.size + 1) (w.alloc (.cells #[.nilFunc, .nilFunc] 64)) y1) := hB1.mono (by simp)
  have HP1 := hid (hP1.mono (B0 := w.heap.size + 1) (by simp))
  obtain ⟨i0, i1, i2, i3⟩ := fin_facts C1.out
  have hone : ∃ g1 c1 g2 c2, fw1 = .func (.func g1) #[] c1 ∧ fr1 = .func (.func g2) #[] c2 := by
    rcases hP1 with ⟨_, xb, _, h, h2⟩ | ⟨_, h, h2⟩ | ⟨_, h, h2⟩ | ⟨_, xb, _, h, h2⟩ | ⟨_, h, h2⟩ | ⟨_, h, h2⟩ <;> exact ⟨_, _, _, _, h, h2⟩
  obtain ⟨g1, c1, g2, c2, rfl, rfl⟩ := hone
  clear hP1 hB1
  go_wp2_with fail
  obtain ⟨f1, f2⟩ := fin_world C1.out (.func (.func g1) #[] c1) (.func (.func g2) #[] c2)
  exact bodyPost_ret (v := .agg #[.func (.func g1) #[] c1, .func (.func g2) #[] c2]) (by simp [results, Tryd.results19, go_sem, i0, i1]) rfl ⟨_, _, rfl, HP1.out.of f2, f1⟩

theorem layoutOf_any (k : Int) (h1 : 1 ≤ k) (h8 : k ≤ 8) (w : World) : Calls Tryd.prog 19 #[.int .i64 k] w fun e w' => ∃ fw fr, e = .returned (.agg #[fw, fr]) ∧ LayK (w.heap.size + 1) w' k fw fr ∧ Below w.heap.size w w' := by
  have h : k = 1 ∨ k = 2 ∨ k = 3 ∨ k = 4 ∨ k = 5 ∨ k = 6 ∨ k = 7 ∨ k = 8 := by omega
  rcases h with rfl | rfl | rfl | rfl | rfl | rfl | rfl | rfl
  · exact (layout1 w).mono (fun e w' ⟨fw, fr, h1, h2, h3⟩ => ⟨fw, fr, h1, .inl ⟨rfl, h2⟩, h3⟩)
  · exact (layout2 w).mono (fun e w' ⟨fw, fr, h1, h2, h3⟩ => ⟨fw, fr, h1, .inr ⟨by decide, h2⟩, h3⟩)
  · exact (layout3 w).mono (fun e w' ⟨fw, fr, h1, h2, h3⟩ => ⟨fw, fr, h1, .inr ⟨by decide, h2⟩, h3⟩)
  · exact (layout4 w).mono (fun e w' ⟨fw, fr, h1, h2, h3⟩ => ⟨fw, fr, h1, .inr ⟨by decide, h2⟩, h3⟩)
  · exact (layout5 w).mono (fun e w' ⟨fw, fr, h1, h2, h3⟩ => ⟨fw, fr, h1, .inr ⟨by decide, h2⟩, h3⟩)
  · exact (layout6 w).mono (fun e w' ⟨fw, fr, h1, h2, h3⟩ => ⟨fw, fr, h1, .inr ⟨by decide, h2⟩, h3⟩)
  · exact (layout7 w).mono (fun e w' ⟨fw, fr, h1, h2, h3⟩ => ⟨fw, fr, h1, .inr ⟨by decide, h2⟩, h3⟩)
  · exact (layout8 w).mono (fun e w' ⟨fw, fr, h1, h2, h3⟩ => ⟨fw, fr, h1, .inr ⟨by decide, h2⟩, h3⟩)

theorem tags_ok (f : Fr) (h : snd f = true) : ∀ t ∈ tagsOf f.kind, okTag f t := by
  obtain ⟨_, h1, h8, hT⟩ := fit_of f h
  have h : f.kind = 1 ∨ f.kind = 2 ∨ f.kind = 3 ∨ f.kind = 4 ∨ f.kind = 5 ∨ f.kind = 6 ∨ f.kind = 7 ∨ f.kind = 8 := by omega
  intro t ht
  unfold okTag
  rcases h with e | e | e | e | e | e | e | e
  · rw [e, show tagsOf 1 = [(0, 1)] from rfl] at ht
    simp at ht; subst ht; simp
  · rw [e, show tagsOf 2 = [(0, 2), (5, 0)] from rfl] at ht
    have hR : sndR f.ranges = true := by unfold sndT at hT; rw [if_pos e] at hT; exact hT
    simp at ht; rcases ht with rfl | rfl <;> simp [hR]
  · rw [e, show tagsOf 3 = [(0, 36), (2, 0), (3, 36), (3, 37)] from rfl] at ht
    simp at ht; rcases ht with rfl | rfl | rfl | rfl <;> simp
  · rw [e, show tagsOf 4 = [(1, 0), (2, 0), (3, 36), (4, 0)] from rfl] at ht
    simp at ht; rcases ht with rfl | rfl | rfl | rfl <;> simp
  · rw [e, show tagsOf 5 = [(0, 16), (3, 40)] from rfl] at ht
    simp at ht; rcases ht with rfl | rfl <;> simp
  · rw [e, show tagsOf 6 = [(0, 17), (2, 0), (3, 40)] from rfl] at ht
    simp at ht; rcases ht with rfl | rfl | rfl <;> simp
  · rw [e, show tagsOf 7 = [(0, 48), (3, 41), (3, 42), (4, 0)] from rfl] at ht
    simp at ht; rcases ht with rfl | rfl | rfl | rfl <;> simp
  · rw [e, show tagsOf 8 = [(0, 28), (3, 40)] from rfl] at ht
    simp at ht; rcases ht with rfl | rfl <;> simp

theorem tags_len (k : Int) : 0 < (tagsOf k).length ∧ (tagsOf k).length ≤ 100 := by
  unfold tagsOf
  repeat' split
  all_goals exact ⟨by decide, by decide⟩

/-- The layout of a frame's kind writes the frame. -/
theorem layK_wr {B0 : Nat} {w1 : World} {fw fr : Value} (f : Fr) (hL : LayK B0 w1 f.kind fw fr) (h : snd f = true) (b off : Nat) (ra : Option Addr) (rc : Nat) (hrc : f.ranges.length ≤ rc) :
    Wr B0 w1.heap.size w1 fw (frBytes f) b off f ra rc := by
  obtain ⟨hf, _⟩ := fit_of f h
  rcases hL with ⟨e, hP⟩ | ⟨_, hL⟩
  · have := part_wr hP b off f ra rc hf (.inl ⟨rfl, by decide⟩) hrc
    have hb : frBytes f = partBytes f (0, 1) := by
      unfold frBytes
      rw [e, show tagsOf 1 = [(0, 1)] from rfl]
      rfl
    rw [hb]
    exact this
  · exact lay_wr hL (tags_len _).2 b off f ra rc hf (tags_ok f h) hrc (tags_len _).1

def fr0 : Fr := ⟨0, 0, 0, 0, 0, false, 0, 0, ⟨#[]⟩, []⟩

/-- Frames in memory. -/
def FrsAt (w : World) (fa : Option Addr) (fs : List Fr) (ra : Nat → Option Addr) (rc : Nat → Nat) : Prop :=
  ∀ j, j < fs.length → ∃ b off, fa = some ⟨b, off, none⟩ ∧ FrAt w b (off + j * 10) (fs.getD j fr0) (ra j) (rc j) ∧ (fs.getD j fr0).ranges.length ≤ rc j ∧ ∀ x, ra j = some x → x.block < w.heap.size

theorem FrsAt.below {w w' : World} {fa : Option Addr} {fs : List Fr} {ra : Nat → Option Addr} {rc : Nat → Nat} (h : FrsAt w fa fs ra rc) (hb : Below w.heap.size w w') : FrsAt w' fa fs ra rc := fun j hj => by
  obtain ⟨b, off, ha, h1, h2, h3⟩ := h j hj
  exact ⟨b, off, ha, h1.below hb, h2, fun x hx => Nat.lt_of_lt_of_le (h3 x hx) hb.size⟩

def sndP (n : Nat) (fs : List Fr) : Bool := fs.all snd && decide (n ≤ M62) && decide (0 < fs.length)

theorem all_getD (fs : List Fr) : fs.all snd = true ↔ ∀ i, i < fs.length → snd (fs.getD i fr0) = true := by
  rw [List.all_eq_true]
  constructor
  · intro h i hi
    rw [List.getD_eq_getElem?_getD, List.getElem?_eq_getElem hi]
    exact h _ (List.getElem_mem _)
  · intro h x hx
    obtain ⟨i, hi, rfl⟩ := List.mem_iff_getElem.1 hx
    have := h i hi
    rwa [List.getD_eq_getElem?_getD, List.getElem?_eq_getElem hi] at this

set_option maxHeartbeats 1000000 in
set_option maxRecDepth 100000 in
theorem soundPacket_any (n : Nat) (fa : Option Addr) (fs : List Fr) (fc : Nat) (ra : Nat → Option Addr) (rc : Nat → Nat) (w : World) (hl : fs.length ≤ 1000000000) (hn : n < 18446744073709551616) (hF : FrsAt w fa fs ra rc) :
    Calls Tryd.prog 17 #[.agg #[.int .u64 (n : Int), .slice fa fs.length fc]] w fun e w' => e = .returned (.bool (sndP n fs)) ∧ Below w.heap.size w w' := by
  have HF := hid hF
  have HSP : Hid (sndP n fs = (fs.all snd && decide (n ≤ M62) && decide (0 < fs.length))) := rfl
  have HALL := hid (all_getD fs)
  clear hF
  go_enter Tryd.func17, Tryd.ntmps17
  go_wp2_with fail
  go_loopw [7] (fun s7 wr => ∃ k : Nat, k ≤ fs.length ∧ s7 = .int .i64 k ∧ Hid (∀ i, i < k → snd (fs.getD i fr0) = true) ∧ Hid (Below (w.heap.size + 1) (w.alloc (.cells #[.int .u64 (n : Int), .slice fa fs.length fc] 25)) wr)) (fun s7 _ => fs.length - (intOf s7).toNat)
  case atStart => exact ⟨0, Nat.zero_le _, rfl, fun i hi => absurd hi (Nat.not_lt_zero _), Below.refl _ _⟩
  case round =>
    obtain ⟨k, hk, rfl, HOK, HB⟩ := hrel
    have hbox : Blk wr w.heap.size 25 [.int .u64 (n : Int), .slice fa fs.length fc] := (Blk.new w 25 [.int .u64 (n : Int), .slice fa fs.length fc]).of_heap (HB.out.block _ (by omega))
    have x0 := hbox.cell 0
    have x1 := hbox.cell 1
    have HBw : Hid (Below w.heap.size w wr) := ((Below.refl _ w).alloc (Nat.le_refl _) _).trans (HB.out.mono (by omega))
    have hsz : w.heap.size + 1 ≤ wr.heap.size := by have := HB.out.size; simpa using this
    clear hbox
    simp only [List.getElem?_cons_zero, List.getElem?_cons_succ] at x0 x1
    by_cases hlt : k < fs.length
    · have hlt' : (k : Int) < (fs.length : Int) := by omega
      obtain ⟨b, off, ha, hFr, _⟩ := HF.out.below HBw.out k hlt
      subst ha
      have HC := hid (soundFrame_any b (off + k * 10) (fs.getD k fr0) (ra k) (rc k) wr hFr)
      have hgood : snd (fs.getD k fr0) = true → Hid (∀ i, i < k + 1 → snd (fs.getD i fr0) = true) := fun h i hi => by
        by_cases e : i = k
        · rw [e]; exact h
        · exact HOK.out i (by omega)
      have hbad : snd (fs.getD k fr0) = false → Hid (sndP n fs = false) := fun h => by
        have : fs.all snd = false := by
          cases hq : fs.all snd
          · rfl
          · rw [HALL.out.1 hq k hlt] at h; cases h
        rw [HSP.out, this]; rfl
      have HG := hid hgood
      have HBD := hid hbad
      clear hgood hbad hFr
      generalize snd (fs.getD k fr0) = B at HC HG HBD
      go_wp2_with fail
      refine HC.out.mono ?_
      rintro e w2 ⟨rfl, hb2⟩
      have HB2 : Hid (Below (w.heap.size + 1) (w.alloc (.cells #[.int .u64 (n : Int), .slice (some ⟨b, off, none⟩) fs.length fc] 25)) w2) := HB.out.trans (hb2.mono (by omega))
      have HBw2 : Hid (Below w.heap.size w w2) := HBw.out.trans (hb2.mono (by omega))
      clear hb2
      cases B
      · have HR := HBD.out rfl
        clear HG HBD
        go_wp2
        go_ret
        exact ⟨ret_bool HR.out.symm, HBw2.out⟩
      · have HR := HG.out rfl
        clear HG HBD
        go_wp2
        go_roundw
        case rel => exact ⟨k + 1, by omega, by go_num, HR, HB2⟩
        case measure => simp [intOf]; omega
    · obtain rfl : k = fs.length := by omega
      have hall : fs.all snd = true := HALL.out.2 HOK.out
      have HS : Hid (sndP n fs = (decide (n ≤ M62) && decide (0 < fs.length))) := by rw [HSP.out, hall]; rfl
      clear hall HSP
      by_cases hn2 : n ≤ M62
      · have hn3 : (n : Int) ≤ 4611686018427387903 := by unfold M62 at hn2; omega
        have HS2 : Hid (sndP n fs = decide (0 < fs.length)) := by rw [HS.out, decide_eq_true hn2]; rfl
        clear HS
        go_wp2
        go_ret
        exact ⟨ret_bool (by rw [HS2.out, decide_eq_decide]), HBw.out⟩
      · have hn3 : decide ((n : Int) ≤ 4611686018427387903) = false := by unfold M62 at hn2; simp; omega
        have HS2 : Hid (sndP n fs = false) := by rw [HS.out, decide_eq_false hn2]; rfl
        clear HS
        go_wp2
        go_ret
        exact ⟨ret_bool HS2.out.symm, HBw.out⟩

end Go.Proofs.YtphbledmopchnaaDoor
