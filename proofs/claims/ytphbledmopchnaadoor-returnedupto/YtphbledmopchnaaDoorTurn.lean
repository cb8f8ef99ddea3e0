/-
  plain.turn.
-/
import Derived.Test.YtphbledmopchnaaDoorCopied
import Derived.Laws.Rows
namespace Go.Proofs.YtphbledmopchnaaDoor
open Go.RowKit Go.Lib Go.Shelf Mm

theorem Mm.Blk.setCell {w : World} {b : Nat} {t : TypeId} {l : List Value} (h : Blk w b t l) (o : Nat) (v : Value) : Blk (w.setCell ⟨b, o, none⟩ v) b t (l.set o v) := by
  have := heap_setCell_same w b o l.toArray t v h
  unfold Blk
  rw [this]
  congr 2
  apply Array.ext'
  simp

/-- Only blocks from B on and ahead of C turn, and new ones. -/
structure Keeps (B C : Nat) (w w' : World) : Prop where
  os : w'.os = w.os
  tape : w'.tape = w.tape
  output : w'.output = w.output
  size : w.heap.size ≤ w'.heap.size
  block : ∀ k, k < w.heap.size → k < B ∨ C ≤ k → w'.heap[k]? = w.heap[k]?
theorem Keeps.refl (B C : Nat) (w : World) : Keeps B C w w := ⟨rfl, rfl, rfl, Nat.le_refl _, fun _ _ _ => rfl⟩
theorem Keeps.trans {B C : Nat} {a b c : World} (h : Keeps B C a b) (k : Keeps B C b c) : Keeps B C a c :=
  ⟨k.os.trans h.os, k.tape.trans h.tape, k.output.trans h.output, Nat.le_trans h.size k.size, fun i hi hd => (k.block i (Nat.lt_of_lt_of_le hi h.size) hd).trans (h.block i hi hd)⟩
theorem Keeps.setCell {B C : Nat} {a b : World} (h : Keeps B C a b) (k o : Nat) (v : Value) (h0 : B ≤ k) (h1 : k < C) : Keeps B C a (b.setCell ⟨k, o, none⟩ v) :=
  ⟨h.os, h.tape, h.output, by have := h.size; simpa using this, fun i hi hd => by rw [Below.heap_setCell _ _ _ _ (by simp; omega)]; exact h.block i hi hd⟩
theorem Keeps.of_below {B C D : Nat} {a b : World} (h : Below D a b) (hD : a.heap.size ≤ D) : Keeps B C a b := ⟨h.os, h.tape, h.output, h.size, fun k hk _ => h.block k (by omega)⟩
theorem Keeps.below {B C : Nat} {a b : World} (h : Keeps B C a b) (hB : B ≤ a.heap.size) : Below B a b := ⟨h.os, h.tape, h.output, h.size, fun k hk => h.block k (by omega) (.inl hk)⟩

/-- What is still there of a copy that is being turned, from the i-th frame on. -/
structure TOk (w : World) (s : Value) (fs : List Fr) (v9 : Nat → Value) (i : Nat) : Prop where
  frm : ∀ g, s.ownBlock = some g → ∃ cs, Blk w g 28 cs ∧ fs.length * 10 ≤ cs.length ∧ ∀ j, i ≤ j → j < fs.length → cs[j * 10 + 9]? = some (v9 j)
  rng : ∀ j, j < fs.length → ∀ r, (v9 j).ownBlock = some r → ∃ l, Blk w r 50 l ∧ (fs.getD j fr0).ranges.length * 2 ≤ l.length

theorem CpTo.tok {B : Nat} {w : World} {s : Value} {fs : List Fr} {v9 : Nat → Value} (h : CpTo B w s fs v9 fs.length) : TOk w s fs v9 0 := by
  constructor
  · intro g hg
    rcases h.buf with ⟨rfl, _⟩ | ⟨g', cap, cs, rfl, hB, h2, h3, _, _, h6, _⟩
    · simp [Value.ownBlock] at hg
    · simp [Value.ownBlock] at hg
      subst hg
      refine ⟨cs, hB, by rw [h2]; exact Nat.mul_le_mul_right _ h3, fun j _ hj => ?_⟩
      have := fcsTo_get fs v9 fs.length j 9 hj (by omega)
      rw [← h6, List.getElem?_take, if_pos (by omega)] at this
      exact this
  · intro j hj r hr
    rcases (h.rng j hj).1 with ⟨e, _⟩ | ⟨g', cap, cs, e, hB, h2, h3, _⟩
    · rw [e] at hr; simp [Value.ownBlock] at hr
    · rw [e] at hr
      simp [Value.ownBlock] at hr
      subst hr
      exact ⟨cs, hB, by rw [h2]; exact Nat.mul_le_mul_right _ h3⟩

theorem TOk.of_heap {w w' : World} {s : Value} {fs : List Fr} {v9 : Nat → Value} {i : Nat} (h : TOk w s fs v9 i) (e1 : ∀ g, s.ownBlock = some g → w'.heap[g]? = w.heap[g]?) (e2 : ∀ j, j < fs.length → ∀ r, (v9 j).ownBlock = some r → w'.heap[r]? = w.heap[r]?) : TOk w' s fs v9 i :=
  ⟨fun g hg => by obtain ⟨cs, hB, h2⟩ := h.frm g hg; exact ⟨cs, hB.of_heap (e1 g hg), h2⟩, fun j hj r hr => by obtain ⟨l, hB, h2⟩ := h.rng j hj r hr; exact ⟨l, hB.of_heap (e2 j hj r hr), h2⟩⟩

/-- A cell of the ranges is written. -/
theorem TOk.setR {w : World} {s : Value} {fs : List Fr} {v9 : Nat → Value} {i : Nat} (h : TOk w s fs v9 i) (r o : Nat) (v : Value) (hne : s.ownBlock ≠ some r) : TOk (w.setCell ⟨r, o, none⟩ v) s fs v9 i := by
  refine ⟨fun g hg => ?_, fun j hj r' hr' => ?_⟩
  · obtain ⟨cs, hB, h2⟩ := h.frm g hg
    exact ⟨cs, hB.of_heap (Below.heap_setCell _ _ _ _ (fun e => hne (by rw [hg]; exact congrArg some e))), h2⟩
  · obtain ⟨l, hB, h2⟩ := h.rng j hj r' hr'
    by_cases e : r' = r
    · subst e
      exact ⟨_, hB.setCell o v, by simpa using h2⟩
    · exact ⟨l, hB.of_heap (Below.heap_setCell _ _ _ _ e), h2⟩
/-- A cell of a frame that is done is written. -/
theorem TOk.setF {w : World} {s : Value} {fs : List Fr} {v9 : Nat → Value} {i : Nat} (h : TOk w s fs v9 i) (g o : Nat) (v : Value) (hg : s.ownBlock = some g) (ho : o < i * 10) (hne : ∀ j, j < fs.length → (v9 j).ownBlock ≠ some g) : TOk (w.setCell ⟨g, o, none⟩ v) s fs v9 i := by
  refine ⟨fun g' hg' => ?_, fun j hj r' hr' => ?_⟩
  · rw [hg] at hg'
    cases hg'
    obtain ⟨cs, hB, h2, h3⟩ := h.frm g hg
    refine ⟨_, hB.setCell o v, by simpa using h2, fun j hj hj2 => ?_⟩
    rw [List.getElem?_set_ne (by omega)]
    exact h3 j hj hj2
  · obtain ⟨l, hB, h2⟩ := h.rng j hj r' hr'
    exact ⟨l, hB.of_heap (Below.heap_setCell _ _ _ _ (fun e => hne j hj (by rw [hr']; exact congrArg some e))), h2⟩
theorem TOk.next {w : World} {s : Value} {fs : List Fr} {v9 : Nat → Value} {i : Nat} (h : TOk w s fs v9 i) : TOk w s fs v9 (i + 1) :=
  ⟨fun g hg => by obtain ⟨cs, hB, h2, h3⟩ := h.frm g hg; exact ⟨cs, hB, h2, fun j hj hj2 => h3 j (by omega) hj2⟩, h.rng⟩

set_option maxHeartbeats 2000000 in
set_option maxRecDepth 100000 in
theorem turn_any (n : Nat) (s : Value) (fs : List Fr) (v9 : Nat → Value) (B C : Nat) (w : World) (hl : fs.length ≤ 1000000000) (hrl : ∀ j, j < fs.length → (fs.getD j fr0).ranges.length ≤ 1000000000) (hc : CpTo B w s fs v9 fs.length) (hC : ∀ g, s.ownBlock = some g → g < C) (hCr : ∀ j, j < fs.length → ∀ r, (v9 j).ownBlock = some r → r < C) (hCw : C ≤ w.heap.size) :
    Calls Tryd.prog 9 #[.agg #[.int .u64 (n : Int), s]] w fun e w' => e = .returned (.tuple #[]) ∧ Keeps B C w w' := by
  obtain ⟨fa, fc, hs, _⟩ := hc.buf.shape
  have htok := hc.tok
  have hown := hc.own
  have hsh : 0 < fs.length → ∃ g, s.ownBlock = some g ∧ fa = some ⟨g, 0, none⟩ := fun h0 => by
    rcases hc.buf with ⟨e, e2, _⟩ | ⟨g', cap, cs, e, _⟩
    · omega
    · rw [e] at hs
      simp at hs
      exact ⟨g', by rw [e]; rfl, hs.1.symm⟩
  have hrsh : ∀ j, j < fs.length → ∃ a c, v9 j = .slice a (fs.getD j fr0).ranges.length c ∧ (0 < (fs.getD j fr0).ranges.length → ∃ r, (v9 j).ownBlock = some r ∧ a = some ⟨r, 0, none⟩ ∧ B ≤ r ∧ s.ownBlock ≠ some r) := fun j hj => by
    obtain ⟨r1, r2, r3⟩ := hc.rng j hj
    rcases r1 with ⟨e, e2, _⟩ | ⟨g', cap, cs, e, _⟩
    · exact ⟨none, 0, by rw [e2]; exact e, fun h => by omega⟩
    · exact ⟨_, _, e, fun _ => ⟨g', by rw [e]; rfl, rfl, r2 g' (by rw [e]; rfl), r3 g' (by rw [e]; rfl)⟩⟩
  have hnf : ∀ g, s.ownBlock = some g → ∀ j, j < fs.length → (v9 j).ownBlock ≠ some g := fun g hg j hj e => (hc.rng j hj).2.2 g e hg
  have HTOK : Hid (TOk (w.alloc (.cells #[.int .u64 (n : Int), s] 25)) s fs v9 0) := htok.of_heap (fun g hg => Below.heap_alloc _ _ _ (by have := hC g hg; omega)) (fun j hj r hr => Below.heap_alloc _ _ _ (by have := hCr j hj r hr; omega))
  have HSH := hid hsh
  have HRSH := hid hrsh
  have HNF := hid hnf
  have HC := hid (And.intro hC (And.intro hCr (And.intro hown hrl)))
  subst hs
  clear hc htok hown hsh hrsh hnf hC hCr hrl
  go_enter Tryd.func9, Tryd.ntmps9
  go_wp2_with fail
  have hB0 : Blk (w.alloc (.cells #[.int .u64 (n : Int), .slice fa fs.length fc] 25)) w.heap.size 25 [.int .u64 (n : Int), .slice fa fs.length fc] := Blk.new w 25 _
  generalize hW0 : w.alloc (.cells #[.int .u64 (n : Int), .slice fa fs.length fc] 25) = W0 at *
  have hs0 : W0.heap.size = w.heap.size + 1 := by rw [← hW0]; simp
  have hK0 : Keeps B C w W0 := by rw [← hW0]; exact Keeps.of_below ((Below.refl w.heap.size w).alloc (Nat.le_refl _) _) (Nat.le_refl _)
  have HW := hid (And.intro hs0 (And.intro hB0 hK0))
  clear hW0 hs0 hB0 hK0
  go_loopw [7] (fun s7 wr => ∃ i : Nat, i ≤ fs.length ∧ s7 = .int .i64 i ∧ Hid (TOk wr (.slice fa fs.length fc) fs v9 i ∧ Keeps B C W0 wr)) (fun s7 _ => fs.length - (intOf s7).toNat)
  case atStart => exact ⟨0, Nat.zero_le _, rfl, HTOK.out, Keeps.refl _ _ _⟩
  case round =>
    obtain ⟨i, hi, rfl, HI⟩ := hrel
    by_cases hlt : i < fs.length
    · have hlt' : (i : Int) < (fs.length : Int) := by omega
      obtain ⟨hT, hK⟩ := HI.out
      obtain ⟨hs0, hB0, hK0⟩ := HW.out
      obtain ⟨g, hg, hfa⟩ := HSH.out (by omega)
      obtain ⟨cs, hBg, hcl, hc9⟩ := hT.frm g hg
      obtain ⟨ra, rc, hv, hr⟩ := HRSH.out i hlt
      have t9 : wr.cell? ⟨g, i * 10 + 9, none⟩ = some (v9 i) := by rw [hBg.cell]; exact hc9 i (Nat.le_refl _) hlt
      rw [hv] at t9 hr
      have hbox := hB0.of_heap (hK.block _ (by omega) (.inr (by omega)))
      have x1 : wr.cell? ⟨w.heap.size, 1, none⟩ = some (.slice fa fs.length fc) := hbox.cell 1
      subst hfa
      have hRL := HC.out.2.2.2 i hlt
      generalize hRn : (fs.getD i fr0).ranges.length = rn at *
      have HRN := hid hRn
      have HR := hid hr
      have HG := hid hg
      have HV := hid hv
      have HT0 := HI
      clear hT hK hs0 hB0 hK0 hBg hcl hc9 hbox hr hRn hg hv
      go_wp2_with fail
      clear x1 t9 HI
      go_loopw [17] (fun s17 wq => ∃ k : Nat, k ≤ rn ∧ s17 = .int .i64 k ∧ Hid (TOk wq (.slice (some ⟨g, 0, none⟩) fs.length fc) fs v9 i ∧ Keeps B C W0 wq)) (fun s17 _ => rn - (intOf s17).toNat)
      case atStart => exact ⟨0, Nat.zero_le _, rfl, HT0.out⟩
      case round =>
        clear HT0
        obtain ⟨k, hk, rfl, HI⟩ := hrel
        obtain ⟨hT, hK⟩ := HI.out
        obtain ⟨hs0, hB0, hK0⟩ := HW.out
        obtain ⟨cs, hBg, hcl, hc9⟩ := hT.frm g HG.out
        have hbox := hB0.of_heap (hK.block _ (by omega) (.inr (by omega)))
        have x1 := hbox.cell 1
        simp only [List.getElem?_cons_zero, List.getElem?_cons_succ] at x1
        by_cases hkl : k < rn
        · have hkl' : (k : Int) < (rn : Int) := by omega
          have t9 := hBg.cell (i * 10 + 9)
          rw [hc9 i (Nat.le_refl _) hlt, HV.out] at t9
          obtain ⟨r, hr, hra, hBr, hne⟩ := HR.out (by omega)
          subst hra
          have hrC : r < C := HC.out.2.1 i hlt r (by rw [HV.out]; exact hr)
          obtain ⟨l, hBl, hll⟩ := hT.rng i hlt r (by rw [HV.out]; exact hr)
          rw [HRN.out] at hll
          have a0 := hBl.cell (k * 2)
          have a1 := hBl.cell (k * 2 + 1)
          have z0 := hBl.frozen (k * 2)
          have z1 := hBl.frozen (k * 2 + 1)
          rw [List.getElem?_eq_getElem (by omega)] at a0 a1
          generalize l[k * 2]'(by omega) = y0 at a0
          generalize l[k * 2 + 1]'(by omega) = y1 at a1
          have HN : Hid (∀ x y : Value, TOk ((wr.setCell ⟨r, k * 2, none⟩ x).setCell ⟨r, k * 2 + 1, none⟩ y) (.slice (some ⟨g, 0, none⟩) fs.length fc) fs v9 i ∧ Keeps B C W0 ((wr.setCell ⟨r, k * 2, none⟩ x).setCell ⟨r, k * 2 + 1, none⟩ y)) := fun x y => ⟨(hT.setR r _ _ hne).setR r _ _ hne, (hK.setCell r _ _ hBr hrC).setCell r _ _ hBr hrC⟩
          clear hT hK hs0 hB0 hK0 hBg hcl hc9 hbox hr hBr hne hBl hll HI HR hrC
          go_wp2_with fail
          go_roundw
          case rel => exact ⟨k + 1, by omega, by go_num, HN.out _ _⟩
          case measure => simp [intOf]; omega
        · obtain rfl : k = rn := by omega
          have b0 := hBg.cell (i * 10)
          have b1 := hBg.cell (i * 10 + 1)
          have b2 := hBg.cell (i * 10 + 2)
          have b3 := hBg.cell (i * 10 + 3)
          have b4 := hBg.cell (i * 10 + 4)
          have b5 := hBg.cell (i * 10 + 5)
          have b6 := hBg.cell (i * 10 + 6)
          have b7 := hBg.cell (i * 10 + 7)
          have b8 := hBg.cell (i * 10 + 8)
          have b9 := hBg.cell (i * 10 + 9)
          rw [List.getElem?_eq_getElem (by omega)] at b0 b1 b2 b3 b4 b5 b6 b7 b8 b9
          generalize cs[i * 10]'(by omega) = y0 at b0
          generalize cs[i * 10 + 1]'(by omega) = y1 at b1
          generalize cs[i * 10 + 2]'(by omega) = y2 at b2
          generalize cs[i * 10 + 3]'(by omega) = y3 at b3
          generalize cs[i * 10 + 4]'(by omega) = y4 at b4
          generalize cs[i * 10 + 5]'(by omega) = y5 at b5
          generalize cs[i * 10 + 6]'(by omega) = y6 at b6
          generalize cs[i * 10 + 7]'(by omega) = y7 at b7
          generalize cs[i * 10 + 8]'(by omega) = y8 at b8
          generalize cs[i * 10 + 9]'(by omega) = y9 at b9
          have z0 := hBg.frozen (i * 10)
          have z1 := hBg.frozen (i * 10 + 1)
          have z2 := hBg.frozen (i * 10 + 2)
          have z3 := hBg.frozen (i * 10 + 3)
          have z4 := hBg.frozen (i * 10 + 4)
          have z5 := hBg.frozen (i * 10 + 5)
          have z6 := hBg.frozen (i * 10 + 6)
          have z7 := hBg.frozen (i * 10 + 7)
          have z8 := hBg.frozen (i * 10 + 8)
          have z9 := hBg.frozen (i * 10 + 9)
          have hBo : B ≤ g := HC.out.2.2.1 g HG.out
          have hCo : g < C := HC.out.1 g HG.out
          have hnf := HNF.out g HG.out
          have HN : Hid (∀ x0 x1 x2 x3 x4 x5 x6 x7 x8 x9 : Value, TOk ((((((((((wr.setCell ⟨g, i * 10, none⟩ x0).setCell ⟨g, i * 10 + 1, none⟩ x1).setCell ⟨g, i * 10 + 2, none⟩ x2).setCell ⟨g, i * 10 + 3, none⟩ x3).setCell ⟨g, i * 10 + 4, none⟩ x4).setCell ⟨g, i * 10 + 5, none⟩ x5).setCell ⟨g, i * 10 + 6, none⟩ x6).setCell ⟨g, i * 10 + 7, none⟩ x7).setCell ⟨g, i * 10 + 8, none⟩ x8).setCell ⟨g, i * 10 + 9, none⟩ x9) (.slice (some ⟨g, 0, none⟩) fs.length fc) fs v9 (i + 1) ∧ Keeps B C W0 ((((((((((wr.setCell ⟨g, i * 10, none⟩ x0).setCell ⟨g, i * 10 + 1, none⟩ x1).setCell ⟨g, i * 10 + 2, none⟩ x2).setCell ⟨g, i * 10 + 3, none⟩ x3).setCell ⟨g, i * 10 + 4, none⟩ x4).setCell ⟨g, i * 10 + 5, none⟩ x5).setCell ⟨g, i * 10 + 6, none⟩ x6).setCell ⟨g, i * 10 + 7, none⟩ x7).setCell ⟨g, i * 10 + 8, none⟩ x8).setCell ⟨g, i * 10 + 9, none⟩ x9)) := fun x0 x1 x2 x3 x4 x5 x6 x7 x8 x9 => by
            refine ⟨((((((((((hT.next.setF g _ _ HG.out (by omega) hnf).setF g _ _ HG.out (by omega) hnf).setF g _ _ HG.out (by omega) hnf).setF g _ _ HG.out (by omega) hnf).setF g _ _ HG.out (by omega) hnf).setF g _ _ HG.out (by omega) hnf).setF g _ _ HG.out (by omega) hnf).setF g _ _ HG.out (by omega) hnf).setF g _ _ HG.out (by omega) hnf).setF g _ _ HG.out (by omega) hnf), ?_⟩
            exact ((((((((((hK.setCell g _ _ hBo hCo).setCell g _ _ hBo hCo).setCell g _ _ hBo hCo).setCell g _ _ hBo hCo).setCell g _ _ hBo hCo).setCell g _ _ hBo hCo).setCell g _ _ hBo hCo).setCell g _ _ hBo hCo).setCell g _ _ hBo hCo).setCell g _ _ hBo hCo)
          clear hT hK hs0 hB0 hK0 hBg hcl hc9 hbox HI hBo hCo hnf
          go_wp2_with fail
          go_roundw
          case rel => exact ⟨i + 1, by omega, by go_num, HN.out _ _ _ _ _ _ _ _ _ _⟩
          case measure => simp [intOf]; omega
    · obtain rfl : i = fs.length := by omega
      obtain ⟨hT, hK⟩ := HI.out
      obtain ⟨hs0, hB0, hK0⟩ := HW.out
      have HF := hid (hK0.trans hK)
      clear hT hK hs0 hB0 hK0
      go_wp2
      go_end0
      exact ⟨rfl, HF.out⟩

end Go.Proofs.YtphbledmopchnaaDoor
