/-
  plain.copied.
-/
import Derived.Test.YtphbledmopchnaaDoorCopy
namespace Go.Proofs.YtphbledmopchnaaDoor
open Go.RowKit Go.Lib Go.Shelf Mm

/-- The ranges are copied. -/
theorem copy_rng {W1 : World} (rs : List (Nat × Nat)) (ra : Option Addr) (rc : Nat) (hR : RngAt W1 ra rs) (hl : rs.length ≤ 1000000000) :
    ∃ a' c' W2, (∀ ty, (Builtin.append_ #[26, 26] ty #[.slice none 0 0, .slice ra rs.length rc]).run Tryd.prog W1 = .ok (.slice a' rs.length c') W2) ∧ GBuf 50 2 W2 (.slice a' rs.length c') rs.length (rcells rs) ∧ Gr W1 W2 (.slice none 0 0) (.slice a' rs.length c') := by
  cases rs with
  | nil => exact ⟨none, 0, W1, fun ty => run_append_none eltR W1 ra rc ty, GBuf.nil _ _ _, Gr.refl _ _⟩
  | cons r t =>
    obtain ⟨b, off, ha, _⟩ := hR 0 (by simp)
    subst ha
    obtain ⟨v', w', h1, h2, h3⟩ := run_append_gbuf eltR (GBuf.nil 50 2 W1) ⟨b, off, none⟩ (r :: t).length rc (rcells (r :: t)) (rcells_len _) (by simp) (rcells_one _) (fun j u hu => by
      have hjl : j < (r :: t).length * 2 := by
        have := (List.getElem?_eq_some_iff.1 hu).1
        rwa [rcells_len] at this
      have hj2 : j / 2 < (r :: t).length := by omega
      obtain ⟨b', off', e, c1, c2, _⟩ := hR (j / 2) hj2
      simp at e
      obtain ⟨rfl, rfl⟩ := e
      obtain ⟨g1, g2⟩ := rcells_get (r :: t) (j / 2) hj2
      rw [Addr.add_lit]
      rcases Nat.mod_two_eq_zero_or_one j with hm | hm
      · rw [show j = j / 2 * 2 by omega] at hu
        rw [g1] at hu
        rw [show off + j = off + j / 2 * 2 by omega, c1]
        exact hu
      · rw [show j = j / 2 * 2 + 1 by omega] at hu
        rw [g2] at hu
        rw [show off + j = off + j / 2 * 2 + 1 by omega, c2]
        exact hu) (by omega)
    rw [Nat.zero_add, List.nil_append] at h2
    obtain ⟨a', c', hv, _⟩ := h2.shape
    subst hv
    exact ⟨a', c', w', h1, h2, h3⟩

theorem Own.mono {A B : Nat} {v : Value} (h : Own B v) (hA : A ≤ B) : Own A v := fun k hk => Nat.le_trans hA (h k hk)

theorem fcells_one (f : Fr) (a : Option Addr) (n c : Nat) : ∀ v ∈ fcells f (.slice a n c), v.oneCell' = true := by
  intro v hv
  simp [fcells] at hv
  rcases hv with h | h | h | h | h | h | h | h | h | h <;> subst h <;> rfl

/-- One frame more is copied. -/
theorem copy_step {B : Nat} {wr : World} {u3 : Value} {fs : List Fr} {v9 : Nat → Value} {k : Nat} (hk : k < fs.length) (hl : fs.length ≤ 1000000000) (hc : CpTo B wr u3 fs v9 k) (hB : B ≤ wr.heap.size) (f : Fr) (hf : fs.getD k fr0 = f) (ra : Option Addr) (rc : Nat)
    (hR : RngAt wr ra f.ranges) (hrl : f.ranges.length ≤ 1000000000) :
    ∃ a' c' W2 v'' W5, (∀ ty, (Builtin.append_ #[26, 26] ty #[.slice none 0 0, .slice ra f.ranges.length rc]).run Tryd.prog (wr.alloc (.cells #[.int .i64 f.kind, .int .i64 f.stream, .int .u64 (f.offset : Int), .int .u64 (f.reliable : Int), .int .u64 (f.limit : Int), .bool f.fin, .int .u64 (f.id : Int), .int .u64 (f.deadline : Int), .string f.data, .slice ra f.ranges.length rc] 28)) = .ok (.slice a' f.ranges.length c') W2) ∧
      Blk W2 wr.heap.size 28 (fcells f (.slice ra f.ranges.length rc)) ∧
      (∀ ty, (Builtin.append_ #[23, 23] ty #[u3, .slice (some ⟨W2.heap.size, 0, none⟩) 1 1]).run Tryd.prog ((W2.setCell ⟨wr.heap.size, 9, none⟩ (.slice a' f.ranges.length c')).alloc (.cells #[.int .i64 f.kind, .int .i64 f.stream, .int .u64 (f.offset : Int), .int .u64 (f.reliable : Int), .int .u64 (f.limit : Int), .bool f.fin, .int .u64 (f.id : Int), .int .u64 (f.deadline : Int), .string f.data, .slice a' f.ranges.length c'] 28)) = .ok v'' W5) ∧
      CpTo B W5 v'' fs (fun j => if j = k then .slice a' f.ranges.length c' else v9 j) (k + 1) ∧ Below B wr W5 := by
  obtain ⟨W1, hW1⟩ : ∃ W1, W1 = wr.alloc (.cells #[.int .i64 f.kind, .int .i64 f.stream, .int .u64 (f.offset : Int), .int .u64 (f.reliable : Int), .int .u64 (f.limit : Int), .bool f.fin, .int .u64 (f.id : Int), .int .u64 (f.deadline : Int), .string f.data, .slice ra f.ranges.length rc] 28) := ⟨_, rfl⟩
  rw [← hW1]
  have hs1 : W1.heap.size = wr.heap.size + 1 := by rw [hW1]; simp
  have hb1 : Below wr.heap.size wr W1 := by rw [hW1]; exact (Below.refl _ _).alloc (Nat.le_refl _) _
  have hF1 : Blk W1 wr.heap.size 28 (fcells f (.slice ra f.ranges.length rc)) := by rw [hW1]; exact Blk.new wr 28 _
  obtain ⟨a', c', W2, hrun1, hG2, hGr2⟩ := copy_rng f.ranges ra rc (hR.below hb1) hrl
  have hb2 : Below W1.heap.size W1 W2 := hGr2.below (Own.nil _) (Nat.le_refl _)
  have hO2 : Own W1.heap.size (.slice a' f.ranges.length c') := hGr2.own (Own.nil _) (Nat.le_refl _)
  have hs2 := hb2.size
  have hF2 : Blk W2 wr.heap.size 28 (fcells f (.slice ra f.ranges.length rc)) := hF1.of_heap (hb2.block _ (by omega))
  obtain ⟨W3, hW3⟩ : ∃ W3, W3 = W2.setCell ⟨wr.heap.size, 9, none⟩ (.slice a' f.ranges.length c') := ⟨_, rfl⟩
  have hs3 : W3.heap.size = W2.heap.size := by rw [hW3]; simp
  have h3 : ∀ b, b ≠ wr.heap.size → W3.heap[b]? = W2.heap[b]? := fun b hb => by rw [hW3]; exact Below.heap_setCell _ _ _ _ hb
  have hb2' : Below wr.heap.size W1 W2 := hb2.mono (by omega)
  have hb13 : Below wr.heap.size W1 W3 := by rw [hW3]; exact hb2'.setCell (p := ⟨wr.heap.size, 9, none⟩) (Nat.le_refl _) _
  obtain ⟨W4, hW4⟩ : ∃ W4, W4 = W3.alloc (.cells #[.int .i64 f.kind, .int .i64 f.stream, .int .u64 (f.offset : Int), .int .u64 (f.reliable : Int), .int .u64 (f.limit : Int), .bool f.fin, .int .u64 (f.id : Int), .int .u64 (f.deadline : Int), .string f.data, .slice a' f.ranges.length c'] 28) := ⟨_, rfl⟩
  have hs4 : W4.heap.size = W2.heap.size + 1 := by rw [hW4]; simp [hs3]
  have h4 : ∀ b, b < W3.heap.size → W4.heap[b]? = W3.heap[b]? := fun b hb => by rw [hW4]; exact Below.heap_alloc _ _ _ hb
  have hF4 : Blk W4 W2.heap.size 28 (fcells f (.slice a' f.ranges.length c')) := by rw [hW4, ← hs3]; exact Blk.new W3 28 _
  have hold : ∀ b, b < wr.heap.size → W4.heap[b]? = wr.heap[b]? := fun b hb => by rw [h4 b (by omega), h3 b (by omega), hb2.block b (by omega), hb1.block b hb]
  have hu3 := hc.buf.lt
  have hbuf4 : GBuf 28 10 W4 u3 k (fcsTo fs v9 k) := hc.buf.of_heap (fun b hb => hold b (hu3 b hb))
  obtain ⟨v'', W5, hrun2, hG5, hGr5⟩ := run_append_gbuf eltF hbuf4 ⟨W2.heap.size, 0, none⟩ 1 1 (fcells f (.slice a' f.ranges.length c')) (by simp [fcells]) (by omega) (fcells_one f _ _ _) (fun j u hu => by rw [Addr.add_lit, Nat.zero_add, hF4.cell]; exact hu) (by omega)
  have hb5 : Below B W4 W5 := hGr5.below hc.own (by omega)
  refine ⟨a', c', W2, v'', W5, hrun1, hF2, ?_, ⟨?_, hGr5.own hc.own (by omega), fun j hj => ?_⟩, ?_⟩
  · rw [← hW3, ← hW4]; exact hrun2
  · have e : fcsTo fs (fun j => if j = k then .slice a' f.ranges.length c' else v9 j) (k + 1) = fcsTo fs v9 k ++ fcells f (.slice a' f.ranges.length c') := by
      rw [fcsTo, hf, fcsTo_congr fs _ v9 k (fun j hj => by rw [if_neg (by omega)]), if_pos rfl]
    rw [e]
    exact hG5
  · by_cases e : j = k
    · subst e
      simp only [if_true]
      rw [hf]
      have hlt := hG2.lt
      refine ⟨hG2.of_heap (fun b hb => ?_), fun b hb => by have := hO2 b hb; omega, fun b hb e => ?_⟩
      · have := hO2 b hb
        have := hlt b hb
        rw [hGr5.1.block b (by omega) (fun e => by have := hu3 b e.symm; omega), h4 b (by omega), h3 b (by omega)]
      · have := hO2 b hb
        have := hlt b hb
        rcases hGr5.2 b e with e' | e'
        · have := hu3 b e'; omega
        · omega
    · simp only [if_neg e]
      obtain ⟨r1, r2, r3⟩ := hc.rng j (by omega)
      have hlt := r1.lt
      refine ⟨r1.of_heap (fun b hb => ?_), r2, fun b hb e' => ?_⟩
      · have := hlt b hb
        rw [hGr5.1.block b (by omega) (fun e => r3 b hb e.symm), hold b this]
      · have := hlt b hb
        rcases hGr5.2 b e' with e' | e'
        · exact r3 b hb e'
        · omega
  · have h14 : Below B wr W4 := by
      rw [hW4]
      exact ((hb1.mono hB).trans (hb13.mono hB)).alloc (by omega) _
    exact h14.trans hb5

/-- Frames that came in: nothing is said of where an empty list of ranges lies. -/
def FrsW (w : World) (fa : Option Addr) (fs : List Fr) (ra : Nat → Option Addr) (rc : Nat → Nat) : Prop :=
  ∀ j, j < fs.length → ∃ b off, fa = some ⟨b, off, none⟩ ∧ FrAt w b (off + j * 10) (fs.getD j fr0) (ra j) (rc j)
theorem FrsW.below {w w' : World} {fa : Option Addr} {fs : List Fr} {ra : Nat → Option Addr} {rc : Nat → Nat} (h : FrsW w fa fs ra rc) (hb : Below w.heap.size w w') : FrsW w' fa fs ra rc := fun j hj => by
  obtain ⟨b, off, ha, h1⟩ := h j hj
  exact ⟨b, off, ha, h1.below hb⟩
theorem FrsAt.weak {w : World} {fa : Option Addr} {fs : List Fr} {ra : Nat → Option Addr} {rc : Nat → Nat} (h : FrsAt w fa fs ra rc) : FrsW w fa fs ra rc := fun j hj => by
  obtain ⟨b, off, ha, h1, _⟩ := h j hj
  exact ⟨b, off, ha, h1⟩

set_option maxHeartbeats 1000000 in
set_option maxRecDepth 100000 in
theorem copied_any (n : Nat) (fa : Option Addr) (fs : List Fr) (fc : Nat) (ra : Nat → Option Addr) (rc : Nat → Nat) (w : World) (hl : fs.length ≤ 1000000000) (hF : FrsW w fa fs ra rc) :
    Calls Tryd.prog 7 #[.agg #[.int .u64 (n : Int), .slice fa fs.length fc]] w fun e w' => ∃ s v9, e = .returned (.agg #[.int .u64 (n : Int), s]) ∧ CpTo (w.heap.size + 2) w' s fs v9 fs.length ∧ Below w.heap.size w w' := by
  have HF := hid hF
  clear hF
  go_enter Tryd.func7, Tryd.ntmps7
  go_wp2_with fail
  obtain ⟨W0, hW0⟩ : ∃ W0, W0 = (w.alloc (.cells #[.int .u64 (n : Int), .slice fa fs.length fc] 25)).alloc (.cells #[.int .u64 0, .slice none 0 0] 25) := ⟨_, rfl⟩
  have hs0 : W0.heap.size = w.heap.size + 2 := by rw [hW0]; simp
  have hb0 : Below w.heap.size w W0 := by rw [hW0]; exact ((Below.refl _ w).alloc (Nat.le_refl _) _).alloc (by simp) _
  have hA0 : Blk W0 w.heap.size 25 [.int .u64 (n : Int), .slice fa fs.length fc] := by rw [hW0]; exact (Blk.new w 25 _).alloc _
  have hR0 : Blk W0 (w.heap.size + 1) 25 [.int .u64 0, .slice none 0 0] := by rw [hW0]; have := Blk.new (w.alloc (.cells #[.int .u64 (n : Int), .slice fa fs.length fc] 25)) 25 [.int .u64 0, .slice none 0 0]; simpa using this
  rw [← hW0]
  have HW := hid (And.intro hs0 (And.intro hb0 (And.intro hA0 hR0)))
  clear hW0 hs0 hb0 hA0 hR0
  go_loopw [3, 9] (fun s3 s9 wr => ∃ k : Nat, k ≤ fs.length ∧ s9 = .int .i64 k ∧ Hid (∃ v9, CpTo (w.heap.size + 2) wr s3 fs v9 k ∧ Below (w.heap.size + 2) W0 wr)) (fun _ s9 _ => fs.length - (intOf s9).toNat)
  case atStart => exact ⟨0, Nat.zero_le _, rfl, fun _ => .bool false, ⟨GBuf.nil _ _ _, Own.nil _, fun j hj => absurd hj (Nat.not_lt_zero _)⟩, Below.refl _ _⟩
  case round =>
    obtain ⟨k, hk, rfl, HI⟩ := hrel
    by_cases hlt : k < fs.length
    · have hlt' : (k : Int) < (fs.length : Int) := by omega
      obtain ⟨v9, hCp, hb⟩ := HI.out
      obtain ⟨hs0, hb0, hA0, hR0⟩ := HW.out
      have hszr : w.heap.size + 2 ≤ wr.heap.size := by rw [← hs0]; exact hb.size
      have hbw : Below w.heap.size w wr := hb0.trans (hb.mono (by omega))
      obtain ⟨b, off, ha, hFr0⟩ := HF.out k hlt
      have hFr := hFr0.below hbw
      subst ha
      obtain ⟨a', c', W2, v'', W5, run1, hF2, run2, hCp', hb'⟩ := copy_step hlt hl hCp hszr _ rfl (ra k) (rc k) hFr.rng hFr.rlen
      have HI' : Hid (∃ v9, CpTo (w.heap.size + 2) W5 v'' fs v9 (k + 1) ∧ Below (w.heap.size + 2) W0 W5) := ⟨_, hCp', hb.trans hb'⟩
      have c0 := hFr.c0
      have c1 := hFr.c1
      have c2 := hFr.c2
      have c3 := hFr.c3
      have c4 := hFr.c4
      have c5 := hFr.c5
      have c6 := hFr.c6
      have c7 := hFr.c7
      have c8 := hFr.c8
      have c9 := hFr.c9
      generalize fs.getD k fr0 = F at c0 c1 c2 c3 c4 c5 c6 c7 c8 c9 run1 run2 hF2
      have d0 : W2.cell? ⟨wr.heap.size, 0, none⟩ = some (.int .i64 F.kind) := hF2.cell 0
      have d1 : W2.cell? ⟨wr.heap.size, 1, none⟩ = some (.int .i64 F.stream) := hF2.cell 1
      have d2 : W2.cell? ⟨wr.heap.size, 2, none⟩ = some (.int .u64 (F.offset : Int)) := hF2.cell 2
      have d3 : W2.cell? ⟨wr.heap.size, 3, none⟩ = some (.int .u64 (F.reliable : Int)) := hF2.cell 3
      have d4 : W2.cell? ⟨wr.heap.size, 4, none⟩ = some (.int .u64 (F.limit : Int)) := hF2.cell 4
      have d5 : W2.cell? ⟨wr.heap.size, 5, none⟩ = some (.bool F.fin) := hF2.cell 5
      have d6 : W2.cell? ⟨wr.heap.size, 6, none⟩ = some (.int .u64 (F.id : Int)) := hF2.cell 6
      have d7 : W2.cell? ⟨wr.heap.size, 7, none⟩ = some (.int .u64 (F.deadline : Int)) := hF2.cell 7
      have d8 : W2.cell? ⟨wr.heap.size, 8, none⟩ = some (.string F.data) := hF2.cell 8
      have d9 : W2.cell? ⟨wr.heap.size, 9, none⟩ = some (.slice (ra k) F.ranges.length (rc k)) := hF2.cell 9
      have z9 := hF2.frozen 9
      clear hCp hb hs0 hb0 hA0 hR0 hszr hbw hFr0 hFr hF2 hCp' hb' HI HF
      go_wp2_with (first | (at_builtin; refine Lib.wpList_append_run _ rfl _ _ _ _ rfl _ _ rfl rfl _ _ (run1 _) ?_) | (at_builtin; refine Lib.wpList_append_run _ rfl _ _ _ _ rfl _ _ rfl rfl _ _ (run2 _) ?_))
      go_roundw
      case rel => exact ⟨k + 1, by omega, by go_num, HI'⟩
      case measure => simp [intOf]; omega
    · obtain rfl : k = fs.length := by omega
      obtain ⟨v9, hCp, hb⟩ := HI.out
      obtain ⟨hs0, hb0, hA0, hR0⟩ := HW.out
      have hAr := hA0.of_heap (hb.block _ (by omega))
      have hRr := hR0.of_heap (hb.block _ (by omega))
      obtain ⟨a3, c3, hv3, _⟩ := hCp.buf.shape
      subst hv3
      have hszr : w.heap.size + 2 ≤ wr.heap.size := by rw [← hs0]; exact hb.size
      have p0 : wr.cell? ⟨w.heap.size, 0, none⟩ = some (.int .u64 (n : Int)) := hAr.cell 0
      have p1 : wr.cell? ⟨w.heap.size, 1, none⟩ = some (.slice fa fs.length fc) := hAr.cell 1
      have q0 : wr.cell? ⟨w.heap.size + 1, 0, none⟩ = some (.int .u64 0) := hRr.cell 0
      have q1 : wr.cell? ⟨w.heap.size + 1, 1, none⟩ = some (.slice none 0 0) := hRr.cell 1
      have z1 := hAr.frozen 1
      have y0 := hRr.frozen 0
      have y1 := hRr.frozen 1
      have hfin : ∀ x y z : Value, CpTo (w.heap.size + 2) (((wr.setCell ⟨w.heap.size, 1, none⟩ x).setCell ⟨w.heap.size + 1, 0, none⟩ y).setCell ⟨w.heap.size + 1, 1, none⟩ z) (.slice a3 fs.length c3) fs v9 fs.length ∧ Below w.heap.size w (((wr.setCell ⟨w.heap.size, 1, none⟩ x).setCell ⟨w.heap.size + 1, 0, none⟩ y).setCell ⟨w.heap.size + 1, 1, none⟩ z) := fun x y z => by
        have hbw : Below w.heap.size w wr := hb0.trans (hb.mono (by omega))
        have hst : ∀ b, w.heap.size + 2 ≤ b → (((wr.setCell ⟨w.heap.size, 1, none⟩ x).setCell ⟨w.heap.size + 1, 0, none⟩ y).setCell ⟨w.heap.size + 1, 1, none⟩ z).heap[b]? = wr.heap[b]? := fun b hb => by
          rw [Below.heap_setCell _ _ _ _ (by simp; omega), Below.heap_setCell _ _ _ _ (by simp; omega), Below.heap_setCell _ _ _ _ (by simp; omega)]
        refine ⟨⟨hCp.buf.of_heap (fun b hb => hst b (hCp.own b hb)), hCp.own, fun j hj => ?_⟩, ((hbw.setCell (p := ⟨w.heap.size, 1, none⟩) (Nat.le_refl _) _).setCell (p := ⟨w.heap.size + 1, 0, none⟩) (by simp) _).setCell (p := ⟨w.heap.size + 1, 1, none⟩) (by simp) _⟩
        obtain ⟨r1, r2, r3⟩ := hCp.rng j hj
        exact ⟨r1.of_heap (fun b hb => hst b (r2 b hb)), r2, r3⟩
      have HFIN := hid hfin
      clear hfin hCp hb hs0 hb0 hA0 hR0 hAr hRr HI
      go_wp2_with fail
      obtain ⟨f1, f2⟩ := HFIN.out (.slice a3 fs.length c3) (.int .u64 (n : Int)) (.slice a3 fs.length c3)
      exact bodyPost_ret (v := .agg #[.int .u64 (n : Int), .slice a3 fs.length c3]) (by simp [results, Tryd.results7, go_sem, q0, q1]) rfl ⟨_, _, rfl, f1, f2⟩

end Go.Proofs.YtphbledmopchnaaDoor
