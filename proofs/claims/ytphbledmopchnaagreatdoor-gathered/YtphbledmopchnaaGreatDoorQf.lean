import Derived.Test.YtphbledmopchnaaGreatDoorQc
import Derived.Laws.Rows
import Derived.Laws.IdiomStrings
import Derived.Defers
import Derived.Recover
/-
  plain.turn.
-/
namespace Go.Proofs.YtphbledmopchnaaGreatDoor
open Go.RowKit Go.Lib Go.Shelf Mm

theorem Mm.Blk.setCell {w : World} {b : Nat} {t : TypeId} {l : List Value} (h : Blk w b t l) (o : Nat) (v : Value) : Blk (w.setCell ⟨b, o, none⟩ v) b t (l.set o v) := by
  have := heap_setCell_same w b o l.toArray t v h
  unfold Blk
  rw [this]
  congr 2
  apply Array.ext'
  simp

/-- Only blocks from B on and ahead of C turn, and new ones. -/
structure Keeps (B C : Nat) (w w' : World) : Prop where
  os : w'.os = w.os
  tape : w'.tape = w.tape
  output : w'.output = w.output
  size : w.heap.size ≤ w'.heap.size
  block : ∀ k, k < w.heap.size → k < B ∨ C ≤ k → w'.heap[k]? = w.heap[k]?
theorem Keeps.refl (B C : Nat) (w : World) : Keeps B C w w := ⟨rfl, rfl, rfl, Nat.le_refl _, fun _ _ _ => rfl⟩
theorem Keeps.trans {B C : Nat} {a b c : World} (h : Keeps B C a b) (k : Keeps B C b c) : Keeps B C a c :=
  ⟨k.os.trans h.os, k.tape.trans h.tape, k.output.trans h.output, Nat.le_trans h.size k.size, fun i hi hd => (k.block i (Nat.lt_of_lt_of_le hi h.size) hd).trans (h.block i hi hd)⟩
theorem Keeps.setCell {B C : Nat} {a b : World} (h : Keeps B C a b) (k o : Nat) (v : Value) (h0 : B ≤ k) (h1 : k < C) : Keeps B C a (b.setCell ⟨k, o, none⟩ v) :=
  ⟨h.os, h.tape, h.output, by have := h.size; simpa using this, fun i hi hd => by rw [Below.heap_setCell _ _ _ _ (by simp; omega)]; exact h.block i hi hd⟩
theorem Keeps.of_below {B C D : Nat} {a b : World} (h : Below D a b) (hD : a.heap.size ≤ D) : Keeps B C a b := ⟨h.os, h.tape, h.output, h.size, fun k hk _ => h.block k (by omega)⟩
theorem Keeps.below {B C : Nat} {a b : World} (h : Keeps B C a b) (hB : B ≤ a.heap.size) : Below B a b := ⟨h.os, h.tape, h.output, h.size, fun k hk => h.block k (by omega) (.inl hk)⟩

/-- What is still there of a copy that is being turned, from the i-th frame on. -/
structure TOk (w : World) (s : Value) (fs : List Fr) (v9 : Nat → Value) (i : Nat) : Prop where
  frm : ∀ g, s.ownBlock = some g → ∃ cs, Blk w g 65 cs ∧ fs.length * 10 ≤ cs.length ∧ ∀ j, i ≤ j → j < fs.length → cs[j * 10 + 9]? = some (v9 j)
  rng : ∀ j, j < fs.length → ∀ r, (v9 j).ownBlock = some r → ∃ l, Blk w r 170 l ∧ (fs.getD j fr0).ranges.length * 2 ≤ l.length

theorem CpTo.tok {B : Nat} {w : World} {s : Value} {fs : List Fr} {v9 : Nat → Value} (h : CpTo B w s fs v9 fs.length) : TOk w s fs v9 0 := by
  constructor
  · intro g hg
    rcases h.buf with ⟨rfl, _⟩ | ⟨g', cap, cs, rfl, hB, h2, h3, _, _, h6, _⟩
    · simp [Value.ownBlock] at hg
    · simp [Value.ownBlock] at hg
      subst hg
      refine ⟨cs, hB, by rw [h2]; exact Nat.mul_le_mul_right _ h3, fun j _ hj => ?_⟩
      have := fcsTo_get fs v9 fs.length j 9 hj (by omega)
      rw [← h6, List.getElem?_take, if_pos (by omega)] at this
      exact this
  · intro j hj r hr
    rcases (h.rng j hj).1 with ⟨e, _⟩ | ⟨g', cap, cs, e, hB, h2, h3, _⟩
    · rw [e] at hr; simp [Value.ownBlock] at hr
    · rw [e] at hr
      simp [Value.ownBlock] at hr
      subst hr
      exact ⟨cs, hB, by rw [h2]; exact Nat.mul_le_mul_right _ h3⟩

theorem TOk.of_heap {w w' : World} {s : Value} {fs : List Fr} {v9 : Nat → Value} {i : Nat} (h : TOk w s fs v9 i) (e1 : ∀ g, s.ownBlock = some g → w'.heap[g]? = w.heap[g]?) (e2 : ∀ j, j < fs.length → ∀ r, (v9 j).ownBlock = some r → w'.heap[r]? = w.heap[r]?) : TOk w' s fs v9 i :=
  ⟨fun g hg => by obtain ⟨cs, hB, h2⟩ := h.frm g hg; exact ⟨cs, hB.of_heap (e1 g hg), h2⟩, fun j hj r hr => by obtain ⟨l, hB, h2⟩ := h.rng j hj r hr; exact ⟨l, hB.of_heap (e2 j hj r hr), h2⟩⟩

/-- A cell of the ranges is written. -/
theorem TOk.setR {w : World} {s : Value} {fs : List Fr} {v9 : Nat → Value} {i : Nat} (h : TOk w s fs v9 i) (r o : Nat) (v : Value) (hne : s.ownBlock ≠ some r) : TOk (w.setCell ⟨r, o, none⟩ v) s fs v9 i := by
  refine ⟨fun g hg => ?_, fun j hj r' hr' => ?_⟩
  · obtain ⟨cs, hB, h2⟩ := h.frm g hg
    exact ⟨cs, hB.of_heap (Below.heap_setCell _ _ _ _ (fun e => hne (by rw [hg]; exact congrArg some e))), h2⟩
  · obtain ⟨l, hB, h2⟩ := h.rng j hj r' hr'
    by_cases e : r' = r
    · subst e
      exact ⟨_, hB.setCell o v, by simpa using h2⟩
    · exact ⟨l, hB.of_heap (Below.heap_setCell _ _ _ _ e), h2⟩
/-- A cell of a frame that is done is written. -/
theorem TOk.setF {w : World} {s : Value} {fs : List Fr} {v9 : Nat → Value} {i : Nat} (h : TOk w s fs v9 i) (g o : Nat) (v : Value) (hg : s.ownBlock = some g) (ho : o < i * 10) (hne : ∀ j, j < fs.length → (v9 j).ownBlock ≠ some g) : TOk (w.setCell ⟨g, o, none⟩ v) s fs v9 i := by
  refine ⟨fun g' hg' => ?_, fun j hj r' hr' => ?_⟩
  · rw [hg] at hg'
    cases hg'
    obtain ⟨cs, hB, h2, h3⟩ := h.frm g hg
    refine ⟨_, hB.setCell o v, by simpa using h2, fun j hj hj2 => ?_⟩
    rw [List.getElem?_set_ne (by omega)]
    exact h3 j hj hj2
  · obtain ⟨l, hB, h2⟩ := h.rng j hj r' hr'
    exact ⟨l, hB.of_heap (Below.heap_setCell _ _ _ _ (fun e => hne j hj (by rw [hr']; exact congrArg some e))), h2⟩
theorem TOk.next {w : World} {s : Value} {fs : List Fr} {v9 : Nat → Value} {i : Nat} (h : TOk w s fs v9 i) : TOk w s fs v9 (i + 1) :=
  ⟨fun g hg => by obtain ⟨cs, hB, h2, h3⟩ := h.frm g hg; exact ⟨cs, hB, h2, fun j hj hj2 => h3 j (by omega) hj2⟩, h.rng⟩

set_option maxHeartbeats 2000000 in
set_option maxRecDepth 100000 in
theorem turn_any (n : Nat) (s : Value) (fs : List Fr) (v9 : Nat → Value) (B C : Nat) (w : World) (hl : fs.length ≤ 1000000000) (hrl : ∀ j, j < fs.length → (fs.getD j fr0).ranges.length ≤ 1000000000) (hc : CpTo B w s fs v9 fs.length) (hC : ∀ g, s.ownBlock = some g → g < C) (hCr : ∀ j, j < fs.length → ∀ r, (v9 j).ownBlock = some r → r < C) (hCw : C ≤ w.heap.size) :
    Calls Tryz.prog 125 #[.agg #[.int .u64 (n : Int), s]] w fun e w' => e = .returned (.tuple #[]) ∧ Keeps B C w w' := by
  obtain ⟨fa, fc, hs, _⟩ := hc.buf.shape
  have htok := hc.tok
  have hown := hc.own
  have hsh : 0 < fs.length → ∃ g, s.ownBlock = some g ∧ fa = some ⟨g, 0, none⟩ := fun h0 => by
    rcases hc.buf with ⟨e, e2, _⟩ | ⟨g', cap, cs, e, _⟩
    · omega
    · rw [e] at hs
      simp at hs
      exact ⟨g', by rw [e]; rfl, hs.1.symm⟩
  have hrsh : ∀ j, j < fs.length → ∃ a c, v9 j = .slice a (fs.getD j fr0).ranges.length c ∧ (0 < (fs.getD j fr0).ranges.length → ∃ r, (v9 j).ownBlock = some r ∧ a = some ⟨r, 0, none⟩ ∧ B ≤ r ∧ s.ownBlock ≠ some r) := fun j hj => by
    obtain ⟨r1, r2, r3⟩ := hc.rng j hj
    rcases r1 with ⟨e, e2, _⟩ | ⟨g', cap, cs, e, _⟩
    · exact ⟨none, 0, by rw [e2]; exact e, fun h => by omega⟩
    · exact ⟨_, _, e, fun _ => ⟨g', by rw [e]; rfl, rfl, r2 g' (by rw [e]; rfl), r3 g' (by rw [e]; rfl)⟩⟩
  have hnf : ∀ g, s.ownBlock = some g → ∀ j, j < fs.length → (v9 j).ownBlock ≠ some g := fun g hg j hj e => (hc.rng j hj).2.2 g e hg
  have HTOK : Hid (TOk (w.alloc (.cells #[.int .u64 (n : Int), s] 56)) s fs v9 0) := htok.of_heap (fun g hg => Below.heap_alloc _ _ _ (by have := hC g hg; omega)) (fun j hj r hr => Below.heap_alloc _ _ _ (by have := hCr j hj r hr; omega))
  have HSH := hid hsh
  have HRSH := hid hrsh
  have HNF := hid hnf
  have HC := hid (And.intro hC (And.intro hCr (And.intro hown hrl)))
  subst hs
  clear hc htok hown hsh hrsh hnf hC hCr hrl
  go_enter Tryz.func125, Tryz.ntmps125
  go_wp2_with fail
  have hB0 : Blk (w.alloc (.cells #[.int .u64 (n : Int), .slice fa fs.length fc] 56)) w.heap.size 56 [.int .u64 (n : Int), .slice fa fs.length fc] := Blk.new w 56 _
  generalize hW0 : w.alloc (.cells #[.int .u64 (n : Int), .slice fa fs.length fc] 56) = W0 at *
  have hs0 : W0.heap.size = w.heap.size + 1 := by rw [← hW0]; simp
  have hK0 : Keeps B C w W0 := by rw [← hW0]; exact Keeps.of_below ((Below.refl w.heap.size w).alloc (Nat.le_refl _) _) (Nat.le_refl _)
  have HW := hid (And.intro hs0 (And.intro hB0 hK0))
  clear hW0 hs0 hB0 hK0
  go_loopw [7] (fun s7 wr => ∃ i : Nat, i ≤ fs.length ∧ s7 = .int .i64 i ∧ Hid (TOk wr (.slice fa fs.length fc) fs v9 i ∧ Keeps B C W0 wr)) (fun s7 _ => fs.length - (intOf s7).toNat)
  case atStart => exact ⟨0, Nat.zero_le _, rfl, HTOK.out, Keeps.refl _ _ _⟩
  case round =>
    obtain ⟨i, hi, rfl, HI⟩ := hrel
    by_cases hlt : i < fs.length
    · have hlt' : (i : Int) < (fs.length : Int) := by omega
      obtain ⟨hT, hK⟩ := HI.out
      obtain ⟨hs0, hB0, hK0⟩ := HW.out
      obtain ⟨g, hg, hfa⟩ := HSH.out (by omega)
      obtain ⟨cs, hBg, hcl, hc9⟩ := hT.frm g hg
      obtain ⟨ra, rc, hv, hr⟩ := HRSH.out i hlt
      have t9 : wr.cell? ⟨g, i * 10 + 9, none⟩ = some (v9 i) := by rw [hBg.cell]; exact hc9 i (Nat.le_refl _) hlt
      rw [hv] at t9 hr
      have hbox := hB0.of_heap (hK.block _ (by omega) (.inr (by omega)))
      have x1 : wr.cell? ⟨w.heap.size, 1, none⟩ = some (.slice fa fs.length fc) := hbox.cell 1
      subst hfa
      have hRL := HC.out.2.2.2 i hlt
      generalize hRn : (fs.getD i fr0).ranges.length = rn at *
      have HRN := hid hRn
      have HR := hid hr
      have HG := hid hg
      have HV := hid hv
      have HT0 := HI
      clear hT hK hs0 hB0 hK0 hBg hcl hc9 hbox hr hRn hg hv
      go_wp2_with fail
      clear x1 t9 HI
      go_loopw [17] (fun s17 wq => ∃ k : Nat, k ≤ rn ∧ s17 = .int .i64 k ∧ Hid (TOk wq (.slice (some ⟨g, 0, none⟩) fs.length fc) fs v9 i ∧ Keeps B C W0 wq)) (fun s17 _ => rn - (intOf s17).toNat)
      case atStart => exact ⟨0, Nat.zero_le _, rfl, HT0.out⟩
      case round =>
        clear HT0
        obtain ⟨k, hk, rfl, HI⟩ := hrel
        obtain ⟨hT, hK⟩ := HI.out
        obtain ⟨hs0, hB0, hK0⟩ := HW.out
        obtain ⟨cs, hBg, hcl, hc9⟩ := hT.frm g HG.out
        have hbox := hB0.of_heap (hK.block _ (by omega) (.inr (by omega)))
        have x1 := hbox.cell 1
        simp only [List.getElem?_cons_zero, List.getElem?_cons_succ] at x1
        by_cases hkl : k < rn
        · have hkl' : (k : Int) < (rn : Int) := by omega
          have t9 := hBg.cell (i * 10 + 9)
          rw [hc9 i (Nat.le_refl _) hlt, HV.out] at t9
          obtain ⟨r, hr, hra, hBr, hne⟩ := HR.out (by omega)
          subst hra
          have hrC : r < C := HC.out.2.1 i hlt r (by rw [HV.out]; exact hr)
          obtain ⟨l, hBl, hll⟩ := hT.rng i hlt r (by rw [HV.out]; exact hr)
          rw [HRN.out] at hll
          have a0 := hBl.cell (k * 2)
          have a1 := hBl.cell (k * 2 + 1)
          have z0 := hBl.frozen (k * 2)
          have z1 := hBl.frozen (k * 2 + 1)
          rw [List.getElem?_eq_getElem (by omega)] at a0 a1
          generalize l[k * 2]'(by omega) = y0 at a0
          generalize l[k * 2 + 1]'(by omega) = y1 at a1
          have HN : Hid (∀ x y : Value, TOk ((wr.setCell ⟨r, k * 2, none⟩ x).setCell ⟨r, k * 2 + 1, none⟩ y) (.slice (some ⟨g, 0, none⟩) fs.length fc) fs v9 i ∧ Keeps B C W0 ((wr.setCell ⟨r, k * 2, none⟩ x).setCell ⟨r, k * 2 + 1, none⟩ y)) := fun x y => ⟨(hT.setR r _ _ hne).setR r _ _ hne, (hK.setCell r _ _ hBr hrC).setCell r _ _ hBr hrC⟩
          clear hT hK hs0 hB0 hK0 hBg hcl hc9 hbox hr hBr hne hBl hll HI HR hrC
          go_wp2_with fail
          go_roundw
          case rel => exact ⟨k + 1, by omega, by go_num, HN.out _ _⟩
          case measure => simp [intOf]; omega
        · obtain rfl : k = rn := by omega
          have b0 := hBg.cell (i * 10)
          have b1 := hBg.cell (i * 10 + 1)
          have b2 := hBg.cell (i * 10 + 2)
          have b3 := hBg.cell (i * 10 + 3)
          have b4 := hBg.cell (i * 10 + 4)
          have b5 := hBg.cell (i * 10 + 5)
          have b6 := hBg.cell (i * 10 + 6)
          have b7 := hBg.cell (i * 10 + 7)
          have b8 := hBg.cell (i * 10 + 8)
          have b9 := hBg.cell (i * 10 + 9)
          rw [List.getElem?_eq_getElem (by omega)] at b0 b1 b2 b3 b4 b5 b6 b7 b8 b9
          generalize cs[i * 10]'(by omega) = y0 at b0
          generalize cs[i * 10 + 1]'(by omega) = y1 at b1
          generalize cs[i * 10 + 2]'(by omega) = y2 at b2
          generalize cs[i * 10 + 3]'(by omega) = y3 at b3
          generalize cs[i * 10 + 4]'(by omega) = y4 at b4
          generalize cs[i * 10 + 5]'(by omega) = y5 at b5
          generalize cs[i * 10 + 6]'(by omega) = y6 at b6
          generalize cs[i * 10 + 7]'(by omega) = y7 at b7
          generalize cs[i * 10 + 8]'(by omega) = y8 at b8
          generalize cs[i * 10 + 9]'(by omega) = y9 at b9
          have z0 := hBg.frozen (i * 10)
          have z1 := hBg.frozen (i * 10 + 1)
          have z2 := hBg.frozen (i * 10 + 2)
          have z3 := hBg.frozen (i * 10 + 3)
          have z4 := hBg.frozen (i * 10 + 4)
          have z5 := hBg.frozen (i * 10 + 5)
          have z6 := hBg.frozen (i * 10 + 6)
          have z7 := hBg.frozen (i * 10 + 7)
          have z8 := hBg.frozen (i * 10 + 8)
          have z9 := hBg.frozen (i * 10 + 9)
          have hBo : B ≤ g := HC.out.2.2.1 g HG.out
          have hCo : g < C := HC.out.1 g HG.out
          have hnf := HNF.out g HG.out
          have HN : Hid (∀ x0 x1 x2 x3 x4 x5 x6 x7 x8 x9 : Value, TOk ((((((((((wr.setCell ⟨g, i * 10, none⟩ x0).setCell ⟨g, i * 10 + 1, none⟩ x1).setCell ⟨g, i * 10 + 2, none⟩ x2).setCell ⟨g, i * 10 + 3, none⟩ x3).setCell ⟨g, i * 10 + 4, none⟩ x4).setCell ⟨g, i * 10 + 5, none⟩ x5).setCell ⟨g, i * 10 + 6, none⟩ x6).setCell ⟨g, i * 10 + 7, none⟩ x7).setCell ⟨g, i * 10 + 8, none⟩ x8).setCell ⟨g, i * 10 + 9, none⟩ x9) (.slice (some ⟨g, 0, none⟩) fs.length fc) fs v9 (i + 1) ∧ Keeps B C W0 ((((((((((wr.setCell ⟨g, i * 10, none⟩ x0).setCell ⟨g, i * 10 + 1, none⟩ x1).setCell ⟨g, i * 10 + 2, none⟩ x2).setCell ⟨g, i * 10 + 3, none⟩ x3).setCell ⟨g, i * 10 + 4, none⟩ x4).setCell ⟨g, i * 10 + 5, none⟩ x5).setCell ⟨g, i * 10 + 6, none⟩ x6).setCell ⟨g, i * 10 + 7, none⟩ x7).setCell ⟨g, i * 10 + 8, none⟩ x8).setCell ⟨g, i * 10 + 9, none⟩ x9)) := fun x0 x1 x2 x3 x4 x5 x6 x7 x8 x9 => by
            refine ⟨((((((((((hT.next.setF g _ _ HG.out (by omega) hnf).setF g _ _ HG.out (by omega) hnf).setF g _ _ HG.out (by omega) hnf).setF g _ _ HG.out (by omega) hnf).setF g _ _ HG.out (by omega) hnf).setF g _ _ HG.out (by omega) hnf).setF g _ _ HG.out (by omega) hnf).setF g _ _ HG.out (by omega) hnf).setF g _ _ HG.out (by omega) hnf).setF g _ _ HG.out (by omega) hnf), ?_⟩
            exact ((((((((((hK.setCell g _ _ hBo hCo).setCell g _ _ hBo hCo).setCell g _ _ hBo hCo).setCell g _ _ hBo hCo).setCell g _ _ hBo hCo).setCell g _ _ hBo hCo).setCell g _ _ hBo hCo).setCell g _ _ hBo hCo).setCell g _ _ hBo hCo).setCell g _ _ hBo hCo)
          clear hT hK hs0 hB0 hK0 hBg hcl hc9 hbox HI hBo hCo hnf
          go_wp2_with fail
          go_roundw
          case rel => exact ⟨i + 1, by omega, by go_num, HN.out _ _ _ _ _ _ _ _ _ _⟩
          case measure => simp [intOf]; omega
    · obtain rfl : i = fs.length := by omega
      obtain ⟨hT, hK⟩ := HI.out
      obtain ⟨hs0, hB0, hK0⟩ := HW.out
      have HF := hid (hK0.trans hK)
      clear hT hK hs0 hB0 hK0
      go_wp2
      go_end0
      exact ⟨rfl, HF.out⟩

end Go.Proofs.YtphbledmopchnaaGreatDoor

/-
  mediawire.Encode, plain.Encode.
-/
namespace Go.Proofs.YtphbledmopchnaaGreatDoor
open Go.RowKit Go.Lib Go.Shelf Mm

/-- What Encode hands back. -/
def EncR (n : Nat) (fs : List Fr) (w : World) (B : Nat) (v err : Value) : Prop :=
  (sndP n fs = false ∧ v = .slice none 0 0 ∧ err = .iface 57 (.int .i64 8)) ∨ (sndP n fs = true ∧ err = .nilIface ∧ Buf w v (pktBytes n fs) ∧ Own B v)

theorem EncR.shape {n : Nat} {fs : List Fr} {w : World} {B : Nat} {v err : Value} (h : EncR n fs w B v err) : ∃ a m c, v = .slice a m c := by
  rcases h with ⟨_, rfl, _⟩ | ⟨_, _, h, _⟩
  · exact ⟨_, _, _, rfl⟩
  · obtain ⟨a, c, rfl, _⟩ := h.bytes
    exact ⟨_, _, _, rfl⟩
theorem EncR.of {n : Nat} {fs : List Fr} {w w' : World} {A B C : Nat} {v err : Value} (h : EncR n fs w B v err) (hA : A ≤ B) (hk : Keeps A C w w') (hC : C ≤ B) : EncR n fs w' A v err := by
  rcases h with h | ⟨h1, h2, h3, h4⟩
  · exact .inl h
  · exact .inr ⟨h1, h2, h3.of_heap (fun k hk' => hk.block k (h3.lt k hk') (.inr (by have := h4 k hk'; omega))), h4.mono hA⟩

theorem mwEncode_any (n : Nat) (fa : Option Addr) (fs : List Fr) (fc : Nat) (ra : Nat → Option Addr) (rc : Nat → Nat) (w : World) (hl : fs.length ≤ 1000000000) (hn : n < 18446744073709551616) (hF : FrsAt w fa fs ra rc) (hT : TabAt w) (h2 : 2 ≤ w.heap.size) (hlen : sndP n fs = true → (bodyBytes n fs).length ≤ 1000000000) :
    Calls Tryz.prog 124 #[.agg #[.int .u64 (n : Int), .slice fa fs.length fc]] w fun e w' => ∃ v err, e = .returned (.tuple #[v, err]) ∧ EncR n fs w' w.heap.size v err ∧ Below w.heap.size w w' := by
  have hb : Below w.heap.size w (w.alloc (.cells #[.int .u64 (n : Int), .slice fa fs.length fc] 56)) := (Below.refl _ w).alloc (Nat.le_refl _) _
  have hX : Calls Tryz.prog 167 #[.agg #[.int .u64 (n : Int), .slice fa fs.length fc]] (w.alloc (.cells #[.int .u64 (n : Int), .slice fa fs.length fc] 56)) fun e w' => ∃ v err, e = .returned (.tuple #[v, err]) ∧ EncR n fs w' w.heap.size v err ∧ Below w.heap.size w w' := by
    cases hS : sndP n fs
    · refine (wireEncode_bad n fa fs fc ra rc _ hl hn (hF.below hb) hS).mono ?_
      rintro e w' ⟨rfl, hb'⟩
      exact ⟨_, _, rfl, .inl ⟨hS, rfl, rfl⟩, hb.trans (hb'.mono (by simp))⟩
    · refine (wireEncode_any n fa fs fc ra rc _ hl (hF.below hb) hS (hT.below hb h2) (by simp; omega) (hlen hS)).mono ?_
      rintro e w' ⟨v, rfl, h1, h3, hb'⟩
      exact ⟨_, _, rfl, .inr ⟨hS, rfl, h1, h3.mono (by simp)⟩, hb.trans (hb'.mono (by simp))⟩
  have HX := hid hX
  clear hX hb hF hT hlen
  go_enter Tryz.func124, Tryz.ntmps124
  go_wp2_with fail
  refine HX.out.mono ?_
  rintro e w' ⟨v, err, rfl, hR, hb⟩
  have HR := hid hR
  have HB := hid hb
  clear hR hb
  go_wp2
  go_ret2
  exact ⟨_, _, rfl, HR.out, HB.out⟩

/-- plain.Encode's error. -/
def encErr (n : Nat) (fs : List Fr) : Int := if sndP n fs then 0 else 8

set_option maxHeartbeats 1000000 in
set_option maxRecDepth 100000 in
theorem plainEncode_any (n : Nat) (fa : Option Addr) (fs : List Fr) (fc : Nat) (ra : Nat → Option Addr) (rc : Nat → Nat) (w : World) (hl : fs.length ≤ 1000000000) (hn : n < 18446744073709551616) (hF : FrsW w fa fs ra rc) (hT : TabAt w) (hE : ErrAt w) (h2 : 2 ≤ w.heap.size) (hlen : sndP n fs = true → (bodyBytes n fs).length ≤ 1000000000) :
    Calls Tryz.prog 79 #[.agg #[.int .u64 (n : Int), .slice fa fs.length fc]] w fun e w' => ∃ v, e = .returned (.tuple #[v, .int .i64 (encErr n fs)]) ∧ Below w.heap.size w w' ∧ ((sndP n fs = false ∧ v = .slice none 0 0) ∨ (sndP n fs = true ∧ Buf w' v (pktBytes n fs) ∧ Own w.heap.size v)) := by
  obtain ⟨W0, hW0⟩ : ∃ W0, W0 = w.alloc (.cells #[.int .u64 (n : Int), .slice fa fs.length fc] 56) := ⟨_, rfl⟩
  have hb : Below w.heap.size w W0 := by rw [hW0]; exact (Below.refl _ w).alloc (Nat.le_refl _) _
  have hs0 : W0.heap.size = w.heap.size + 1 := by rw [hW0]; simp
  have hok : ∀ j, j < fs.length → FrOk (fs.getD j fr0) := fun j hj => by obtain ⟨_, _, _, h⟩ := hF j hj; exact h.ok
  have HCP := hid (copied_any n fa fs fc ra rc W0 hl (hF.below hb))
  have HOK := hid hok
  have HB0 := hid hb
  have HTE := hid (And.intro hT hE)
  have HLEN := hid hlen
  have HS0 := hid hs0
  clear hok hb hF hT hE hlen hs0
  go_enter Tryz.func79, Tryz.ntmps79
  go_wp2_with fail
  rw [← hW0]
  clear hW0
  refine HCP.out.mono ?_
  rintro e w1 ⟨s, v9, rfl, hC1, hb1⟩
  obtain ⟨fa1, fc1, hs, hF1⟩ := hC1.frs HOK.out
  subst hs
  obtain ⟨W1, hW1⟩ : ∃ W1, W1 = w1.alloc (.cells #[.int .u64 (n : Int), .slice fa1 fs.length fc1] 56) := ⟨_, rfl⟩
  have hb1' : Below w.heap.size w w1 := HB0.out.trans (hb1.mono (by have := HS0.out; omega))
  have hbW : Below w1.heap.size w1 W1 := by rw [hW1]; exact (Below.refl _ w1).alloc (Nat.le_refl _) _
  have hsz1 : W0.heap.size ≤ w1.heap.size := hb1.size
  have hs0 := HS0.out
  have hbwW : Below w.heap.size w W1 := hb1'.trans (hbW.mono (by omega))
  have hsW : W1.heap.size = w1.heap.size + 1 := by rw [hW1]; simp
  have HENC := hid (mwEncode_any n fa1 fs fc1 _ _ W1 hl hn (hF1.below hbW) (HTE.out.1.below hbwW h2) (by omega) HLEN.out)
  have hlt1 := hC1.buf.lt
  have hltr := fun j (hj : j < fs.length) => (hC1.rng j hj).1.lt
  have hcp : ∀ w', Below W1.heap.size W1 w' → CpTo (w.heap.size + 3) w' (.slice fa1 fs.length fc1) fs v9 fs.length := fun w' hb' => by
    have hst : ∀ b, b < w1.heap.size → w'.heap[b]? = w1.heap[b]? := fun b hb => by rw [hb'.block b (by omega), hbW.block b hb]
    rw [hs0] at hC1
    exact ⟨hC1.buf.of_heap (fun b hb => hst b (hlt1 b hb)), hC1.own, fun j hj => by
      obtain ⟨r1, r2, r3⟩ := hC1.rng j hj
      exact ⟨r1.of_heap (fun b hb => hst b (r1.lt b hb)), r2, r3⟩⟩
  have HCPW := hid hcp
  have HLT := hid (And.intro hlt1 (And.intro hltr (And.intro hsW hsz1)))
  have HBW := hid hbwW
  have hbox : Blk W1 w1.heap.size 56 [.int .u64 (n : Int), .slice fa1 fs.length fc1] := by rw [hW1]; exact Blk.new w1 56 _
  have HBOX := hid hbox
  clear hC1 hb1 hF1 hb1' hbW hsz1 hs0 hbwW hsW hlt1 hltr hcp hbox
  go_wp2_with fail
  rw [← hW1]
  clear hW1
  refine HENC.out.mono ?_
  rintro e w2 ⟨v, err, rfl, hR, hb2⟩
  obtain ⟨av, mv, cv, hv⟩ := hR.shape
  subst hv
  have hbox2 := HBOX.out.of_heap (hb2.block _ (by have := HLT.out.2.2.1; omega))
  have x0 : w2.cell? ⟨w1.heap.size, 0, none⟩ = some (.int .u64 (n : Int)) := hbox2.cell 0
  have x1 : w2.cell? ⟨w1.heap.size, 1, none⟩ = some (.slice fa1 fs.length fc1) := hbox2.cell 1
  have HTURN := hid (turn_any n _ fs v9 (w.heap.size + 3) w1.heap.size w2 hl (fun j hj => (HOK.out j hj).rlen) (HCPW.out w2 hb2) HLT.out.1 (fun j hj => HLT.out.2.1 j hj) (by have := HLT.out.2.2.1; have := hb2.size; omega))
  have HR := hid hR
  have HB2 := hid hb2
  clear hR hb2 hbox2
  go_wp2_with fail
  refine HTURN.out.mono ?_
  rintro e w3 ⟨rfl, hK3⟩
  have hR3 : EncR n fs w3 (w.heap.size) (.slice av mv cv) err := by
    rcases HR.out with h | ⟨h1, h2, h3, h4⟩
    · exact .inl h
    · refine .inr ⟨h1, h2, h3.of_heap (fun k hk' => hK3.block k (h3.lt k hk') (.inr (by have := h4 k hk'; have := HLT.out.2.2.1; omega))), h4.mono ?_⟩
      have := HLT.out.2.2
      have := HS0.out
      omega
  have hb3 : Below w.heap.size w w3 := by
    have h1 := HLT.out.2.2
    have h2 := HS0.out
    have h3 := HB2.out.size
    exact (HBW.out.trans (HB2.out.mono (by omega))).trans ⟨hK3.os, hK3.tape, hK3.output, hK3.size, fun k hk => hK3.block k (by omega) (.inl (by omega))⟩
  have herr : Calls Tryz.prog 60 #[err] w3 fun e w' => e = .returned (.int .i64 (encErr n fs)) ∧ Below w3.heap.size w3 w' := by
    have hE3 : ErrAt w3 := cell_of HTE.out.2 (hb3.block 0 (by omega))
    unfold encErr
    rcases hR3 with ⟨h1, _, rfl⟩ | ⟨h1, rfl, _⟩
    · rw [h1]
      exact number_of _ 8 (-1) w3 _ (told_errno 8 Tryz.eql8 w3 hE3)
    · rw [h1]
      exact number_of _ 0 (-1) w3 _ (told_nil w3)
  have HERR := hid herr
  have HR3 := hid hR3
  have HB3 := hid hb3
  clear herr hR3 hb3 hK3
  go_wp2_with fail
  refine HERR.out.mono ?_
  rintro e w4 ⟨rfl, hb4⟩
  have HF : Hid (Below w.heap.size w w4 ∧ ((sndP n fs = false ∧ Value.slice av mv cv = .slice none 0 0) ∨ (sndP n fs = true ∧ Buf w4 (.slice av mv cv) (pktBytes n fs) ∧ Own w.heap.size (.slice av mv cv)))) := by
    refine ⟨HB3.out.trans (hb4.mono HB3.out.size), ?_⟩
    rcases HR3.out with ⟨h1, h2, _⟩ | ⟨h1, _, h3, h4⟩
    · exact .inl ⟨h1, h2⟩
    · exact .inr ⟨h1, h3.of_heap (fun k hk => hb4.block k (h3.lt k hk)), h4⟩
  clear hb4
  go_wp2
  go_ret2
  exact ⟨_, rfl, HF.out⟩

end Go.Proofs.YtphbledmopchnaaGreatDoor

/-
  The reader: take, byte, ended, less.
-/
namespace Go.Proofs.YtphbledmopchnaaGreatDoor
open Go.RowKit Go.Lib Go.Shelf Mm

/-- A reader at rb over the bytes at ⟨yb, yo⟩. -/
structure RdAt (w : World) (rb yb yo cap : Nat) (body : List UInt8) (p bg : Nat) : Prop where
  blk : Blk w rb 257 [.slice (some ⟨yb, yo, none⟩) body.length cap, .int .i64 (p : Int), .int .i64 (bg : Int)]
  bts : BytesAt w (some ⟨yb, yo, none⟩) body
  le : p ≤ body.length
  room : body.length < cap
  cap : cap ≤ 9223372036854775807
  ne : rb ≠ yb

/-- Nothing but the block rb turns. -/
structure St1 (rb : Nat) (w w' : World) : Prop where
  os : w'.os = w.os
  tape : w'.tape = w.tape
  output : w'.output = w.output
  size : w'.heap.size = w.heap.size
  block : ∀ k, k ≠ rb → w'.heap[k]? = w.heap[k]?
theorem St1.refl (rb : Nat) (w : World) : St1 rb w w := ⟨rfl, rfl, rfl, rfl, fun _ _ => rfl⟩
theorem St1.trans {rb : Nat} {a b c : World} (h : St1 rb a b) (k : St1 rb b c) : St1 rb a c :=
  ⟨k.os.trans h.os, k.tape.trans h.tape, k.output.trans h.output, k.size.trans h.size, fun i hi => (k.block i hi).trans (h.block i hi)⟩
theorem St1.set (rb o q : Nat) (v : Value) (w : World) : St1 rb w ((w.setCell ⟨rb, o, none⟩ v).drewN q) :=
  ⟨rfl, rfl, rfl, by simp, fun k hk => Below.heap_setCell _ _ _ _ hk⟩
theorem BytesAt.of {w w' : World} {a : Option Addr} {l : List UInt8} (h : BytesAt w a l) (e : ∀ x : Addr, a = some x → w'.heap[x.block]? = w.heap[x.block]?) : BytesAt w' a l := fun j hj => by
  obtain ⟨b, off, ha, hc⟩ := h j hj
  exact ⟨b, off, ha, cell_of hc (e ⟨b, off, none⟩ ha)⟩
theorem RdAt.set {w : World} {rb yb yo cap : Nat} {body : List UInt8} {p bg : Nat} (h : RdAt w rb yb yo cap body p bg) (p' q : Nat) (hp : p' ≤ body.length) : RdAt ((w.setCell ⟨rb, 1, none⟩ (.int .i64 (p' : Int))).drewN q) rb yb yo cap body p' bg :=
  ⟨(h.blk.setCell 1 _).of_heap rfl, h.bts.of (fun x hx => by simp at hx; subst hx; exact Below.heap_setCell _ _ _ _ (Ne.symm h.ne)), hp, h.room, h.cap, h.ne⟩
theorem RdAt.of {w w' : World} {rb yb yo cap : Nat} {body : List UInt8} {p bg : Nat} (h : RdAt w rb yb yo cap body p bg) (e1 : w'.heap[rb]? = w.heap[rb]?) (e2 : w'.heap[yb]? = w.heap[yb]?) : RdAt w' rb yb yo cap body p bg :=
  ⟨h.blk.of_heap e1, h.bts.of (fun x hx => by simp at hx; subst hx; exact e2), h.le, h.room, h.cap, h.ne⟩
theorem RdAt.drewN {w : World} {rb yb yo cap : Nat} {body : List UInt8} {p bg : Nat} (h : RdAt w rb yb yo cap body p bg) (q : Nat) : RdAt (w.drewN q) rb yb yo cap body p bg := h.of rfl rfl
theorem St1.drewN (rb q : Nat) (w : World) : St1 rb w (w.drewN q) := ⟨rfl, rfl, rfl, rfl, fun _ _ => rfl⟩
theorem RdAt.byte {w : World} {rb yb yo cap : Nat} {body : List UInt8} {p bg : Nat} (h : RdAt w rb yb yo cap body p bg) (j : Nat) (hj : j < body.length) : w.cell? ⟨yb, yo + j, none⟩ = some (.int .u8 ((body[j].toNat : Nat) : Int)) := by
  obtain ⟨b, off, ha, hc⟩ := h.bts j hj
  simp at ha
  obtain ⟨rfl, rfl⟩ := ha
  exact hc

set_option maxHeartbeats 1000000 in
set_option maxRecDepth 100000 in
theorem take_any (rb yb yo cap : Nat) (body : List UInt8) (p bg n : Nat) (w : World) (h : RdAt w rb yb yo cap body p bg) (hn : p + n ≤ body.length) :
    Calls Tryz.prog 214 #[.pointer (some ⟨rb, 0, none⟩), .int .u64 (n : Int)] w fun e w' => e = .returned (.slice (some ⟨yb, yo + p, none⟩) n (cap - p)) ∧ RdAt w' rb yb yo cap body (p + n) bg ∧ St1 rb w w' := by
  have x0 : w.cell? ⟨rb, 0, none⟩ = some (.slice (some ⟨yb, yo, none⟩) body.length cap) := h.blk.cell 0
  have x1 : w.cell? ⟨rb, 1, none⟩ = some (.int .i64 (p : Int)) := h.blk.cell 1
  have z1 := h.blk.frozen 1
  have hroom := h.room
  have hcap := h.cap
  have e1 : (body.length : Int) - (p : Int) = ((body.length - p : Nat) : Int) := by omega
  have e2 : ¬ (body.length - p < n) := by omega
  have e3 : (p : Int) + (n : Int) = ((p + n : Nat) : Int) := by omega
  have g1 : ((body.length - p : Nat) : Int) < 9223372036854775808 := by omega
  have g2 : (n : Int) < 9223372036854775808 := by omega
  have g3 : ((p + n : Nat) : Int) < 9223372036854775808 := by omega
  have g4 : (p : Int) ≤ ((p + n : Nat) : Int) := by omega
  have g5 : ((p + n : Nat) : Int) ≤ (cap : Int) := by omega
  have g6 : ¬ (cap = p) := by omega
  have g7 : (p + n) - p = n := by omega
  have HF := hid (fun q1 q2 => (h.drewN q1).set (p + n) q2 hn)
  clear h
  generalize hm : p + n = m at *
  generalize hN : body.length = N at *
  generalize hd : N - p = d at *
  have HM := hid (And.intro hm (And.intro hN hd))
  clear hm hN hd
  go_enter Tryz.func214, Tryz.ntmps214
  go_wp2_with fail
  go_quiet (fail)
  go_wp2_with fail
  go_quiet (fail)
  go_wp2
  go_ret
  exact ⟨rfl, HF.out _ _, (St1.drewN rb _ w).trans (St1.set rb 1 _ _ _)⟩

set_option maxHeartbeats 1000000 in
theorem byte_any (rb yb yo cap : Nat) (body : List UInt8) (p bg : Nat) (w : World) (h : RdAt w rb yb yo cap body p bg) (hp : p < body.length) :
    Calls Tryz.prog 213 #[.pointer (some ⟨rb, 0, none⟩)] w fun e w' => e = .returned (.int .u8 ((body[p].toNat : Nat) : Int)) ∧ RdAt w' rb yb yo cap body (p + 1) bg ∧ St1 rb w w' := by
  have HT := hid (take_any rb yb yo cap body p bg 1 w h (by omega))
  have HC := hid (fun w' (h' : RdAt w' rb yb yo cap body (p + 1) bg) => h'.byte p hp)
  clear h
  generalize body[p].toNat = X at HC
  go_enter Tryz.func213, Tryz.ntmps213
  go_wp2_with fail
  refine HT.out.mono ?_
  rintro e w1 ⟨rfl, hR, hS⟩
  have c0 := HC.out w1 hR
  have HR := hid hR
  have HS := hid hS
  clear hR hS
  go_wp2
  go_ret
  exact ⟨rfl, HR.out, HS.out⟩

theorem ended_any (rb yb yo cap : Nat) (body : List UInt8) (p bg : Nat) (w : World) (h : RdAt w rb yb yo cap body p bg) :
    Calls Tryz.prog 162 #[.pointer (some ⟨rb, 0, none⟩)] w fun e w' => e = .returned (.bool (decide (p = body.length))) ∧ ∃ q, w' = w.drewN q := by
  have x0 : w.cell? ⟨rb, 0, none⟩ = some (.slice (some ⟨yb, yo, none⟩) body.length cap) := h.blk.cell 0
  have x1 : w.cell? ⟨rb, 1, none⟩ = some (.int .i64 (p : Int)) := h.blk.cell 1
  have HE : Hid (((p : Int) == (body.length : Int)) = decide (p = body.length)) := by
    unfold Hid; rw [Bool.eq_iff_iff, beq_iff_eq, decide_eq_true_iff]; omega
  clear h
  go_enter Tryz.func162, Tryz.ntmps162
  go_wp2_with fail
  go_quiet (fail)
  go_wp2
  go_ret
  exact ⟨ret_bool HE.out, nq, rfl⟩

theorem less_any (r : Value) (n by_ : Nat) (w : World) (h : by_ ≤ n) (hn : n < 18446744073709551616) :
    Calls Tryz.prog 346 #[r, .int .u64 (n : Int), .int .u64 (by_ : Int)] w fun e w' => e = .returned (.int .u64 ((n - by_ : Nat) : Int)) ∧ w' = w := by
  have e1 : ¬ ((n : Int) < (by_ : Int)) := by omega
  have e2 : (n : Int) - (by_ : Int) = ((n - by_ : Nat) : Int) := by omega
  have e3 : ((n - by_ : Nat) : Int) < 18446744073709551616 := by omega
  generalize n - by_ = d at *
  go_enter Tryz.func346, Tryz.ntmps346
  go_wp2
  go_ret
  exact ⟨rfl, rfl⟩

end Go.Proofs.YtphbledmopchnaaGreatDoor

/-
  The reader: number.
-/
namespace Go.Proofs.YtphbledmopchnaaGreatDoor
open Go.RowKit Go.Lib Go.Shelf Mm

theorem or_u64 (T X : Nat) (hT : T < 72057594037927936) (hX : X < 256) : bits .or .u64 ((T : Int) * 256) (X : Int) = ((T * 256 + X : Nat) : Int) := by
  have h := u64_or_nat (T * 256) X (by omega) (by omega)
  rw [Nat.or_comm, or_add X T 8 hX, Nat.add_comm] at h
  rw [← h]
  simp

theorem val_take (l : List UInt8) (a k : Nat) (h : k < l.length) : Num.val a (l.take (k + 1)) = Num.val a (l.take k) * 256 + (l[k]).toNat := by
  rw [List.take_succ_eq_append_getElem h, val_snoc]



set_option maxHeartbeats 1000000 in
set_option maxRecDepth 100000 in
theorem number_0 (rb yb yo cap : Nat) (body : List UInt8) (p bg : Nat) (w : World) (h : RdAt w rb yb yo cap body p bg) (hp : p + 1 ≤ body.length) (hc : (body[p]'(by omega)).toNat / 64 = 0) :
    Calls Tryz.prog 161 #[.pointer (some ⟨rb, 0, none⟩)] w fun e w' => e = .returned (.int .u64 ((Num.val ((body[p]'(by omega)).toNat % 64) ((body.drop (p + 1)).take 0) : Nat) : Int)) ∧ RdAt w' rb yb yo cap body (p + 1) bg ∧ St1 rb w w' := by
  have HBY := hid (byte_any rb yb yo cap body p bg w h (by omega))
  have HTK := hid (fun w' (h' : RdAt w' rb yb yo cap body (p + 1) bg) => take_any rb yb yo cap body (p + 1) bg 0 w' h' (by omega))
  have HCL := hid (fun w' (h' : RdAt w' rb yb yo cap body (p + 1 + 0) bg) j (hj : j < 0) => h'.byte (p + 1 + j) (by omega))
  have hX := Crc.u8_lt (body[p]'(by omega))
  generalize (body[p]'(by omega)).toNat = X at *
  have e1 : bits .and .u8 (X : Int) 63 = ((X % 64 : Nat) : Int) := by
    have h63 : X &&& 63 = X % 64 := Nat.and_two_pow_sub_one_eq_mod X 6
    rw [← h63]; exact u8_and_nat X 63 (by omega) (by omega)
  have e2 : (X : Int) / 64 = 0 := by omega
  have e3 : ((X % 64 : Nat) : Int) < 64 := by omega
  obtain ⟨tl, htl⟩ : ∃ tl, tl = (body.drop (p + 1)).take 0 := ⟨_, rfl⟩
  have hlen : tl.length = 0 := by rw [htl, List.length_take, List.length_drop]; omega
  have HST : Hid (∀ j (hj : j < 0), ∃ x T : Nat, x < 256 ∧ body[p + 1 + j]?.map UInt8.toNat = some x ∧ T = Num.val (X % 64) (tl.take j) ∧ T < 72057594037927936 ∧ Num.val (X % 64) (tl.take (j + 1)) = T * 256 + x) := fun j hj => by
    refine ⟨(tl[j]'(by omega)).toNat, _, Crc.u8_lt _, ?_, rfl, ?_, val_take tl _ j (by omega)⟩
    · have : tl[j]? = body[p + 1 + j]? := by rw [htl, List.getElem?_take, if_pos hj, List.getElem?_drop]
      rw [← this, List.getElem?_eq_getElem (by omega)]
      rfl
    · have := val_lt (tl.take j) (X % 64) 1 (by omega)
      have hl : (tl.take j).length = j := by simp; omega
      rw [hl] at this
      have h7 : (256 : Nat) ^ (1 + j) ≤ 256 ^ 7 := Nat.pow_le_pow_right (by decide) (by omega)
      omega
  have HV : Hid (Num.val (X % 64) (tl.take 0) = Num.val (X % 64) tl) := by unfold Hid; rw [List.take_of_length_le (by omega)]
  have HV0 : Hid (Num.val (X % 64) (tl.take 0) = X % 64) := rfl
  rw [← htl]
  clear hc h htl hlen
  generalize X % 64 = X64 at *
  go_enter Tryz.func161, Tryz.ntmps161
  go_wp2_with fail
  refine HBY.out.mono ?_
  rintro e w1 ⟨rfl, hR1, hS1⟩
  have HT1 := hid (HTK.out w1 hR1)
  have HS1 := hid hS1
  clear hR1 hS1
  go_wp2_with fail
  refine HT1.out.mono ?_
  rintro e w2 ⟨rfl, hR2, hS2⟩
  have HR2 := hid hR2
  have HS2 := hid (HS1.out.trans hS2)
  have HCL2 := hid (HCL.out w2 hR2)
  clear hR2 hS2
  go_wp2_with fail
  go_loopw [4, 19] (fun s4 s19 wr => ∃ k : Nat, k ≤ 0 ∧ s19 = .int .i64 k ∧ s4 = .int .u64 (Num.val X64 (tl.take k) : Nat) ∧ wr = w2) (fun _ s19 _ => 0 - (intOf s19).toNat)
  case atStart => exact ⟨0, Nat.zero_le _, rfl, by rw [HV0.out], rfl⟩
  case round =>
    obtain ⟨k, hk, rfl, rfl, rfl⟩ := hrel
    by_cases hlt : k < 0
    · have hlt' : (k : Int) < 0 := by omega
      obtain ⟨x, T, hx, hbx, hT, hT2, hst⟩ := HST.out k hlt
      have hcl := HCL2.out k hlt
      have hb2 : ((body[p + 1 + k]'(by omega)).toNat : Nat) = x := by
        rw [List.getElem?_eq_getElem (by omega)] at hbx
        simpa using hbx
      rw [hb2, show yo + (p + 1 + k) = yo + (p + 1) + k by omega] at hcl
      have e5 := or_u64 T x hT2 hx
      obtain ⟨T', hT'⟩ : ∃ T', T' = T * 256 + x := ⟨_, rfl⟩
      rw [← hT'] at e5 hst
      rw [← hT]
      have HS := hid hst
      clear hst hT' hb2 hbx hT
      go_wp2_with fail
      go_roundw
      case rel => exact ⟨k + 1, by omega, by go_num, by rw [HS.out], trivial⟩
      case measure => simp [intOf]; omega
    · obtain rfl : k = 0 := by omega
      rw [HV.out]
      go_wp2
      go_ret
      exact ⟨rfl, HR2.out, HS2.out⟩

set_option maxHeartbeats 1000000 in
set_option maxRecDepth 100000 in
theorem number_1 (rb yb yo cap : Nat) (body : List UInt8) (p bg : Nat) (w : World) (h : RdAt w rb yb yo cap body p bg) (hp : p + 2 ≤ body.length) (hc : (body[p]'(by omega)).toNat / 64 = 1) :
    Calls Tryz.prog 161 #[.pointer (some ⟨rb, 0, none⟩)] w fun e w' => e = .returned (.int .u64 ((Num.val ((body[p]'(by omega)).toNat % 64) ((body.drop (p + 1)).take 1) : Nat) : Int)) ∧ RdAt w' rb yb yo cap body (p + 2) bg ∧ St1 rb w w' := by
  have HBY := hid (byte_any rb yb yo cap body p bg w h (by omega))
  have HTK := hid (fun w' (h' : RdAt w' rb yb yo cap body (p + 1) bg) => take_any rb yb yo cap body (p + 1) bg 1 w' h' (by omega))
  have HCL := hid (fun w' (h' : RdAt w' rb yb yo cap body (p + 1 + 1) bg) j (hj : j < 1) => h'.byte (p + 1 + j) (by omega))
  have hX := Crc.u8_lt (body[p]'(by omega))
  generalize (body[p]'(by omega)).toNat = X at *
  have e1 : bits .and .u8 (X : Int) 63 = ((X % 64 : Nat) : Int) := by
    have h63 : X &&& 63 = X % 64 := Nat.and_two_pow_sub_one_eq_mod X 6
    rw [← h63]; exact u8_and_nat X 63 (by omega) (by omega)
  have e2 : (X : Int) / 64 = 1 := by omega
  have e3 : ((X % 64 : Nat) : Int) < 64 := by omega
  obtain ⟨tl, htl⟩ : ∃ tl, tl = (body.drop (p + 1)).take 1 := ⟨_, rfl⟩
  have hlen : tl.length = 1 := by rw [htl, List.length_take, List.length_drop]; omega
  have HST : Hid (∀ j (hj : j < 1), ∃ x T : Nat, x < 256 ∧ body[p + 1 + j]?.map UInt8.toNat = some x ∧ T = Num.val (X % 64) (tl.take j) ∧ T < 72057594037927936 ∧ Num.val (X % 64) (tl.take (j + 1)) = T * 256 + x) := fun j hj => by
    refine ⟨(tl[j]'(by omega)).toNat, _, Crc.u8_lt _, ?_, rfl, ?_, val_take tl _ j (by omega)⟩
    · have : tl[j]? = body[p + 1 + j]? := by rw [htl, List.getElem?_take, if_pos hj, List.getElem?_drop]
      rw [← this, List.getElem?_eq_getElem (by omega)]
      rfl
    · have := val_lt (tl.take j) (X % 64) 1 (by omega)
      have hl : (tl.take j).length = j := by simp; omega
      rw [hl] at this
      have h7 : (256 : Nat) ^ (1 + j) ≤ 256 ^ 7 := Nat.pow_le_pow_right (by decide) (by omega)
      omega
  have HV : Hid (Num.val (X % 64) (tl.take 1) = Num.val (X % 64) tl) := by unfold Hid; rw [List.take_of_length_le (by omega)]
  have HV0 : Hid (Num.val (X % 64) (tl.take 0) = X % 64) := rfl
  rw [← htl]
  clear hc h htl hlen
  generalize X % 64 = X64 at *
  go_enter Tryz.func161, Tryz.ntmps161
  go_wp2_with fail
  refine HBY.out.mono ?_
  rintro e w1 ⟨rfl, hR1, hS1⟩
  have HT1 := hid (HTK.out w1 hR1)
  have HS1 := hid hS1
  clear hR1 hS1
  go_wp2_with fail
  refine HT1.out.mono ?_
  rintro e w2 ⟨rfl, hR2, hS2⟩
  have HR2 := hid hR2
  have HS2 := hid (HS1.out.trans hS2)
  have HCL2 := hid (HCL.out w2 hR2)
  clear hR2 hS2
  go_wp2_with fail
  go_loopw [4, 19] (fun s4 s19 wr => ∃ k : Nat, k ≤ 1 ∧ s19 = .int .i64 k ∧ s4 = .int .u64 (Num.val X64 (tl.take k) : Nat) ∧ wr = w2) (fun _ s19 _ => 1 - (intOf s19).toNat)
  case atStart => exact ⟨0, Nat.zero_le _, rfl, by rw [HV0.out], rfl⟩
  case round =>
    obtain ⟨k, hk, rfl, rfl, rfl⟩ := hrel
    by_cases hlt : k < 1
    · have hlt' : (k : Int) < 1 := by omega
      obtain ⟨x, T, hx, hbx, hT, hT2, hst⟩ := HST.out k hlt
      have hcl := HCL2.out k hlt
      have hb2 : ((body[p + 1 + k]'(by omega)).toNat : Nat) = x := by
        rw [List.getElem?_eq_getElem (by omega)] at hbx
        simpa using hbx
      rw [hb2, show yo + (p + 1 + k) = yo + (p + 1) + k by omega] at hcl
      have e5 := or_u64 T x hT2 hx
      obtain ⟨T', hT'⟩ : ∃ T', T' = T * 256 + x := ⟨_, rfl⟩
      rw [← hT'] at e5 hst
      rw [← hT]
      have HS := hid hst
      clear hst hT' hb2 hbx hT
      go_wp2_with fail
      go_roundw
      case rel => exact ⟨k + 1, by omega, by go_num, by rw [HS.out], trivial⟩
      case measure => simp [intOf]; omega
    · obtain rfl : k = 1 := by omega
      rw [HV.out]
      go_wp2
      go_ret
      exact ⟨rfl, HR2.out, HS2.out⟩

set_option maxHeartbeats 1000000 in
set_option maxRecDepth 100000 in
theorem number_2 (rb yb yo cap : Nat) (body : List UInt8) (p bg : Nat) (w : World) (h : RdAt w rb yb yo cap body p bg) (hp : p + 4 ≤ body.length) (hc : (body[p]'(by omega)).toNat / 64 = 2) :
    Calls Tryz.prog 161 #[.pointer (some ⟨rb, 0, none⟩)] w fun e w' => e = .returned (.int .u64 ((Num.val ((body[p]'(by omega)).toNat % 64) ((body.drop (p + 1)).take 3) : Nat) : Int)) ∧ RdAt w' rb yb yo cap body (p + 4) bg ∧ St1 rb w w' := by
  have HBY := hid (byte_any rb yb yo cap body p bg w h (by omega))
  have HTK := hid (fun w' (h' : RdAt w' rb yb yo cap body (p + 1) bg) => take_any rb yb yo cap body (p + 1) bg 3 w' h' (by omega))
  have HCL := hid (fun w' (h' : RdAt w' rb yb yo cap body (p + 1 + 3) bg) j (hj : j < 3) => h'.byte (p + 1 + j) (by omega))
  have hX := Crc.u8_lt (body[p]'(by omega))
  generalize (body[p]'(by omega)).toNat = X at *
  have e1 : bits .and .u8 (X : Int) 63 = ((X % 64 : Nat) : Int) := by
    have h63 : X &&& 63 = X % 64 := Nat.and_two_pow_sub_one_eq_mod X 6
    rw [← h63]; exact u8_and_nat X 63 (by omega) (by omega)
  have e2 : (X : Int) / 64 = 2 := by omega
  have e3 : ((X % 64 : Nat) : Int) < 64 := by omega
  obtain ⟨tl, htl⟩ : ∃ tl, tl = (body.drop (p + 1)).take 3 := ⟨_, rfl⟩
  have hlen : tl.length = 3 := by rw [htl, List.length_take, List.length_drop]; omega
  have HST : Hid (∀ j (hj : j < 3), ∃ x T : Nat, x < 256 ∧ body[p + 1 + j]?.map UInt8.toNat = some x ∧ T = Num.val (X % 64) (tl.take j) ∧ T < 72057594037927936 ∧ Num.val (X % 64) (tl.take (j + 1)) = T * 256 + x) := fun j hj => by
    refine ⟨(tl[j]'(by omega)).toNat, _, Crc.u8_lt _, ?_, rfl, ?_, val_take tl _ j (by omega)⟩
    · have : tl[j]? = body[p + 1 + j]? := by rw [htl, List.getElem?_take, if_pos hj, List.getElem?_drop]
      rw [← this, List.getElem?_eq_getElem (by omega)]
      rfl
    · have := val_lt (tl.take j) (X % 64) 1 (by omega)
      have hl : (tl.take j).length = j := by simp; omega
      rw [hl] at this
      have h7 : (256 : Nat) ^ (1 + j) ≤ 256 ^ 7 := Nat.pow_le_pow_right (by decide) (by omega)
      omega
  have HV : Hid (Num.val (X % 64) (tl.take 3) = Num.val (X % 64) tl) := by unfold Hid; rw [List.take_of_length_le (by omega)]
  have HV0 : Hid (Num.val (X % 64) (tl.take 0) = X % 64) := rfl
  rw [← htl]
  clear hc h htl hlen
  generalize X % 64 = X64 at *
  go_enter Tryz.func161, Tryz.ntmps161
  go_wp2_with fail
  refine HBY.out.mono ?_
  rintro e w1 ⟨rfl, hR1, hS1⟩
  have HT1 := hid (HTK.out w1 hR1)
  have HS1 := hid hS1
  clear hR1 hS1
  go_wp2_with fail
  refine HT1.out.mono ?_
  rintro e w2 ⟨rfl, hR2, hS2⟩
  have HR2 := hid hR2
  have HS2 := hid (HS1.out.trans hS2)
  have HCL2 := hid (HCL.out w2 hR2)
  clear hR2 hS2
  go_wp2_with fail
  go_loopw [4, 19] (fun s4 s19 wr => ∃ k : Nat, k ≤ 3 ∧ s19 = .int .i64 k ∧ s4 = .int .u64 (Num.val X64 (tl.take k) : Nat) ∧ wr = w2) (fun _ s19 _ => 3 - (intOf s19).toNat)
  case atStart => exact ⟨0, Nat.zero_le _, rfl, by rw [HV0.out], rfl⟩
  case round =>
    obtain ⟨k, hk, rfl, rfl, rfl⟩ := hrel
    by_cases hlt : k < 3
    · have hlt' : (k : Int) < 3 := by omega
      obtain ⟨x, T, hx, hbx, hT, hT2, hst⟩ := HST.out k hlt
      have hcl := HCL2.out k hlt
      have hb2 : ((body[p + 1 + k]'(by omega)).toNat : Nat) = x := by
        rw [List.getElem?_eq_getElem (by omega)] at hbx
        simpa using hbx
      rw [hb2, show yo + (p + 1 + k) = yo + (p + 1) + k by omega] at hcl
      have e5 := or_u64 T x hT2 hx
      obtain ⟨T', hT'⟩ : ∃ T', T' = T * 256 + x := ⟨_, rfl⟩
      rw [← hT'] at e5 hst
      rw [← hT]
      have HS := hid hst
      clear hst hT' hb2 hbx hT
      go_wp2_with fail
      go_roundw
      case rel => exact ⟨k + 1, by omega, by go_num, by rw [HS.out], trivial⟩
      case measure => simp [intOf]; omega
    · obtain rfl : k = 3 := by omega
      rw [HV.out]
      go_wp2
      go_ret
      exact ⟨rfl, HR2.out, HS2.out⟩

set_option maxHeartbeats 1000000 in
set_option maxRecDepth 100000 in
theorem number_3 (rb yb yo cap : Nat) (body : List UInt8) (p bg : Nat) (w : World) (h : RdAt w rb yb yo cap body p bg) (hp : p + 8 ≤ body.length) (hc : (body[p]'(by omega)).toNat / 64 = 3) :
    Calls Tryz.prog 161 #[.pointer (some ⟨rb, 0, none⟩)] w fun e w' => e = .returned (.int .u64 ((Num.val ((body[p]'(by omega)).toNat % 64) ((body.drop (p + 1)).take 7) : Nat) : Int)) ∧ RdAt w' rb yb yo cap body (p + 8) bg ∧ St1 rb w w' := by
  have HBY := hid (byte_any rb yb yo cap body p bg w h (by omega))
  have HTK := hid (fun w' (h' : RdAt w' rb yb yo cap body (p + 1) bg) => take_any rb yb yo cap body (p + 1) bg 7 w' h' (by omega))
  have HCL := hid (fun w' (h' : RdAt w' rb yb yo cap body (p + 1 + 7) bg) j (hj : j < 7) => h'.byte (p + 1 + j) (by omega))
  have hX := Crc.u8_lt (body[p]'(by omega))
  generalize (body[p]'(by omega)).toNat = X at *
  have e1 : bits .and .u8 (X : Int) 63 = ((X % 64 : Nat) : Int) := by
    have h63 : X &&& 63 = X % 64 := Nat.and_two_pow_sub_one_eq_mod X 6
    rw [← h63]; exact u8_and_nat X 63 (by omega) (by omega)
  have e2 : (X : Int) / 64 = 3 := by omega
  have e3 : ((X % 64 : Nat) : Int) < 64 := by omega
  obtain ⟨tl, htl⟩ : ∃ tl, tl = (body.drop (p + 1)).take 7 := ⟨_, rfl⟩
  have hlen : tl.length = 7 := by rw [htl, List.length_take, List.length_drop]; omega
  have HST : Hid (∀ j (hj : j < 7), ∃ x T : Nat, x < 256 ∧ body[p + 1 + j]?.map UInt8.toNat = some x ∧ T = Num.val (X % 64) (tl.take j) ∧ T < 72057594037927936 ∧ Num.val (X % 64) (tl.take (j + 1)) = T * 256 + x) := fun j hj => by
    refine ⟨(tl[j]'(by omega)).toNat, _, Crc.u8_lt _, ?_, rfl, ?_, val_take tl _ j (by omega)⟩
    · have : tl[j]? = body[p + 1 + j]? := by rw [htl, List.getElem?_take, if_pos hj, List.getElem?_drop]
      rw [← this, List.getElem?_eq_getElem (by omega)]
      rfl
    · have := val_lt (tl.take j) (X % 64) 1 (by omega)
      have hl : (tl.take j).length = j := by simp; omega
      rw [hl] at this
      have h7 : (256 : Nat) ^ (1 + j) ≤ 256 ^ 7 := Nat.pow_le_pow_right (by decide) (by omega)
      omega
  have HV : Hid (Num.val (X % 64) (tl.take 7) = Num.val (X % 64) tl) := by unfold Hid; rw [List.take_of_length_le (by omega)]
  have HV0 : Hid (Num.val (X % 64) (tl.take 0) = X % 64) := rfl
  rw [← htl]
  clear hc h htl hlen
  generalize X % 64 = X64 at *
  go_enter Tryz.func161, Tryz.ntmps161
  go_wp2_with fail
  refine HBY.out.mono ?_
  rintro e w1 ⟨rfl, hR1, hS1⟩
  have HT1 := hid (HTK.out w1 hR1)
  have HS1 := hid hS1
  clear hR1 hS1
  go_wp2_with fail
  refine HT1.out.mono ?_
  rintro e w2 ⟨rfl, hR2, hS2⟩
  have HR2 := hid hR2
  have HS2 := hid (HS1.out.trans hS2)
  have HCL2 := hid (HCL.out w2 hR2)
  clear hR2 hS2
  go_wp2_with fail
  go_loopw [4, 19] (fun s4 s19 wr => ∃ k : Nat, k ≤ 7 ∧ s19 = .int .i64 k ∧ s4 = .int .u64 (Num.val X64 (tl.take k) : Nat) ∧ wr = w2) (fun _ s19 _ => 7 - (intOf s19).toNat)
  case atStart => exact ⟨0, Nat.zero_le _, rfl, by rw [HV0.out], rfl⟩
  case round =>
    obtain ⟨k, hk, rfl, rfl, rfl⟩ := hrel
    by_cases hlt : k < 7
    · have hlt' : (k : Int) < 7 := by omega
      obtain ⟨x, T, hx, hbx, hT, hT2, hst⟩ := HST.out k hlt
      have hcl := HCL2.out k hlt
      have hb2 : ((body[p + 1 + k]'(by omega)).toNat : Nat) = x := by
        rw [List.getElem?_eq_getElem (by omega)] at hbx
        simpa using hbx
      rw [hb2, show yo + (p + 1 + k) = yo + (p + 1) + k by omega] at hcl
      have e5 := or_u64 T x hT2 hx
      obtain ⟨T', hT'⟩ : ∃ T', T' = T * 256 + x := ⟨_, rfl⟩
      rw [← hT'] at e5 hst
      rw [← hT]
      have HS := hid hst
      clear hst hT' hb2 hbx hT
      go_wp2_with fail
      go_roundw
      case rel => exact ⟨k + 1, by omega, by go_num, by rw [HS.out], trivial⟩
      case measure => simp [intOf]; omega
    · obtain rfl : k = 7 := by omega
      rw [HV.out]
      go_wp2
      go_ret
      exact ⟨rfl, HR2.out, HS2.out⟩

/-- A number that was written is read. -/
theorem number_read (rb yb yo cap : Nat) (body : List UInt8) (p bg n : Nat) (rest : List UInt8) (w : World) (h : RdAt w rb yb yo cap body p bg) (hn : n < 4611686018427387904) (hb : body.drop p = Num.bytes n ++ rest) :
    Calls Tryz.prog 161 #[.pointer (some ⟨rb, 0, none⟩)] w fun e w' => e = .returned (.int .u64 (n : Int)) ∧ RdAt w' rb yb yo cap body (p + (Num.bytes n).length) bg ∧ St1 rb w w' := by
  have hr := Num.read_bytes n hn rest
  rw [← hb] at hr
  have hpos : 0 < (Num.bytes n).length := by rw [Num.bytes_length]; exact Nat.pow_pos (by decide)
  have hl1 : (body.drop p).length = (Num.bytes n).length + rest.length := by rw [hb, List.length_append]
  have hl2 : (body.drop p).length = body.length - p := List.length_drop
  have hp : p < body.length := by omega
  have hd : body.drop p = body[p] :: body.drop (p + 1) := List.drop_eq_getElem_cons hp
  rw [hd, Num.read_cons] at hr
  have hdl : (body.drop (p + 1)).length = body.length - (p + 1) := List.length_drop
  generalize hX : (body[p]).toNat = X at hr
  have hX2 := Crc.u8_lt body[p]
  rw [hX] at hX2
  by_cases hs : (body.drop (p + 1)).length < 2 ^ (X / 64) - 1
  · rw [if_pos hs] at hr; cases hr
  · rw [if_neg hs] at hr
    simp only [Option.some.injEq, Prod.mk.injEq] at hr
    obtain ⟨hv, hrest⟩ := hr
    have hrl : ((body.drop (p + 1)).drop (2 ^ (X / 64) - 1)).length = rest.length := by rw [hrest]
    rw [List.length_drop] at hrl
    have hc4 : X / 64 = 0 ∨ X / 64 = 1 ∨ X / 64 = 2 ∨ X / 64 = 3 := by omega
    have hK : (Num.bytes n).length = 2 ^ (X / 64) := by
      rcases hc4 with e | e | e | e <;> rw [e] at hs hrl ⊢ <;> simp at hs hrl ⊢ <;> omega
    rw [hK]
    rcases hc4 with e | e | e | e
    · rw [e] at hv hK ⊢
      have := number_0 rb yb yo cap body p bg w h (by omega) (by rw [hX]; exact e)
      rw [hX, hv] at this
      exact this
    · rw [e] at hv hK ⊢
      have := number_1 rb yb yo cap body p bg w h (by omega) (by rw [hX]; exact e)
      rw [hX, hv] at this
      exact this
    · rw [e] at hv hK ⊢
      have := number_2 rb yb yo cap body p bg w h (by omega) (by rw [hX]; exact e)
      rw [hX, hv] at this
      exact this
    · rw [e] at hv hK ⊢
      have := number_3 rb yb yo cap body p bg w h (by omega) (by rw [hX]; exact e)
      rw [hX, hv] at this
      exact this

end Go.Proofs.YtphbledmopchnaaGreatDoor

/-
  The closures that read parts of frames.
-/
namespace Go.Proofs.YtphbledmopchnaaGreatDoor
open Go.RowKit Go.Lib Go.Shelf Mm

/-- A frame that is being read: the reader, the frame's cells, its ranges. -/
structure RP (B0 B1 rb fb yb yo cap : Nat) (body : List UInt8) (w : World) (p bg : Nat) (cur : Fr) (v9 : Value) : Prop where
  rd : RdAt w rb yb yo cap body p bg
  frm : Blk w fb 65 (fcells cur v9)
  rng : GBuf 170 2 w v9 cur.ranges.length (rcells cur.ranges)
  own : Own B1 v9
  h01 : B0 ≤ B1
  hB : B1 ≤ w.heap.size
  rbl : rb < B0
  fbl : fb < B0
  ybl : yb < B0
  rf : rb ≠ fb
  fy : fb ≠ yb

/-- Ahead of B1 nothing but rb and fb turns. -/
structure St2 (B1 rb fb : Nat) (w w' : World) : Prop where
  os : w'.os = w.os
  tape : w'.tape = w.tape
  output : w'.output = w.output
  size : w.heap.size ≤ w'.heap.size
  block : ∀ k, k < B1 → k ≠ rb → k ≠ fb → w'.heap[k]? = w.heap[k]?
theorem St2.refl (B1 rb fb : Nat) (w : World) : St2 B1 rb fb w w := ⟨rfl, rfl, rfl, Nat.le_refl _, fun _ _ _ _ => rfl⟩
theorem St2.trans {B1 rb fb : Nat} {a b c : World} (h : St2 B1 rb fb a b) (k : St2 B1 rb fb b c) : St2 B1 rb fb a c :=
  ⟨k.os.trans h.os, k.tape.trans h.tape, k.output.trans h.output, Nat.le_trans h.size k.size, fun i h0 h1 h2 => (k.block i h0 h1 h2).trans (h.block i h0 h1 h2)⟩
theorem St1.two {rb : Nat} {w w' : World} (h : St1 rb w w') (B1 fb : Nat) : St2 B1 rb fb w w' := ⟨h.os, h.tape, h.output, Nat.le_of_eq h.size.symm, fun k _ h1 _ => h.block k h1⟩
theorem St2.setF (B1 rb fb o : Nat) (v : Value) (w : World) : St2 B1 rb fb w (w.setCell ⟨fb, o, none⟩ v) := ⟨rfl, rfl, rfl, by simp, fun k _ _ h => Below.heap_setCell _ _ _ _ h⟩
theorem St2.keep {B0 B1 rb fb : Nat} {w1 w w' : World} (h : St2 B1 rb fb w w') (hk : Keep B0 B1 w1 w) (hr : rb < B0) (hf : fb < B0) : Keep B0 B1 w1 w' :=
  ⟨Nat.le_trans hk.1 h.size, fun k h0 h1 => (h.block k h1 (by omega) (by omega)).trans (hk.2 k h0 h1)⟩

theorem RP.step {B0 B1 rb fb yb yo cap : Nat} {body : List UInt8} {w w' : World} {p p' bg : Nat} {cur : Fr} {v9 : Value} (h : RP B0 B1 rb fb yb yo cap body w p bg cur v9) (hr : RdAt w' rb yb yo cap body p' bg) (hs : St1 rb w w') : RP B0 B1 rb fb yb yo cap body w' p' bg cur v9 :=
  ⟨hr, h.frm.of_heap (hs.block _ (Ne.symm h.rf)), h.rng.of_heap (fun b hb => hs.block b (by have := h.own b hb; have := h.rbl; have := h.h01; omega)), h.own, h.h01, by rw [hs.size]; exact h.hB, h.rbl, h.fbl, h.ybl, h.rf, h.fy⟩
theorem RP.setF {B0 B1 rb fb yb yo cap : Nat} {body : List UInt8} {w : World} {p bg : Nat} {cur cur' : Fr} {v9 : Value} (h : RP B0 B1 rb fb yb yo cap body w p bg cur v9) (o : Nat) (x : Value) (hc : (fcells cur v9).set o x = fcells cur' v9) (hr : cur'.ranges = cur.ranges) : RP B0 B1 rb fb yb yo cap body (w.setCell ⟨fb, o, none⟩ x) p bg cur' v9 :=
  ⟨h.rd.of (Below.heap_setCell _ _ _ _ h.rf) (Below.heap_setCell _ _ _ _ (Ne.symm h.fy)), by rw [← hc]; exact h.frm.setCell o x, by rw [hr]; exact h.rng.of_heap (fun b hb => Below.heap_setCell _ _ _ _ (by have := h.own b hb; have := h.fbl; have := h.h01; simp; omega)), h.own, h.h01, by simp; exact h.hB, h.rbl, h.fbl, h.ybl, h.rf, h.fy⟩

/-- What a part sets. -/
def setPart (f : Fr) (tag : Nat × Nat) (cur : Fr) : Fr :=
  if tag.1 = 0 then cur else if tag.1 = 1 then { cur with fin := f.fin } else if tag.1 = 2 then { cur with stream := f.stream }
  else if tag.1 = 3 then (if tag.2 = 279 then { cur with offset := f.offset } else if tag.2 = 280 then { cur with reliable := f.reliable } else if tag.2 = 283 then { cur with limit := f.limit } else if tag.2 = 284 then { cur with id := f.id } else { cur with deadline := f.deadline })
  else if tag.1 = 4 then { cur with data := f.data } else { cur with ranges := f.ranges }

/-- A function value that reads what sp is the bytes of. -/
def Rd (B0 B1 : Nat) (w1 : World) (fv : Value) (sp : List UInt8) (upd : Fr → Fr) (rb fb yb yo cap : Nat) (body : List UInt8) (bg : Nat) : Prop :=
  ∃ g cb, fv = .func (.func g) #[] cb ∧ (∀ args w, (callFunc g args).run Tryz.prog w = .ok (.enter g args) w) ∧
    ∀ w p cur v9 rest, Keep B0 B1 w1 w → RP B0 B1 rb fb yb yo cap body w p bg cur v9 → cur.ranges = [] → body.drop p = sp ++ rest →
      Calls Tryz.prog g (#[.pointer (some ⟨rb, 0, none⟩), .pointer (some ⟨fb, 0, none⟩)] ++ cb) w fun e w' => e = .returned (.tuple #[]) ∧ ∃ v9', RP B0 B1 rb fb yb yo cap body w' (p + sp.length) bg (upd cur) v9' ∧ St2 B1 rb fb w w'

theorem drop_byte {body rest : List UInt8} {p : Nat} {x : UInt8} (h : body.drop p = [x] ++ rest) : ∃ hp : p < body.length, body[p] = x := by
  have hl : (body.drop p).length = 1 + rest.length := by rw [h]; simp; omega
  rw [List.length_drop] at hl
  have hp : p < body.length := by omega
  refine ⟨hp, ?_⟩
  rw [List.drop_eq_getElem_cons hp] at h
  exact (List.cons.inj h).1
theorem drop_next {body a b : List UInt8} {p : Nat} (h : body.drop p = a ++ b) : body.drop (p + a.length) = b := by
  rw [← List.drop_drop, h, List.drop_left']
  rfl

set_option maxHeartbeats 1000000 in
theorem first_rd {B0 B1 : Nat} {w1 : World} (x : UInt8) (rb fb yb yo cap : Nat) (body : List UInt8) (bg : Nat) :
    Rd B0 B1 w1 (.func (.func 322) #[] #[]) [x] (fun cur => cur) rb fb yb yo cap body bg := by
  refine ⟨322, _, rfl, enters_of Tryz.func322 (by kernel_rfl) rfl, fun w p cur v9 rest _ hP _ hb => ?_⟩
  obtain ⟨hp, hx⟩ := drop_byte hb
  have HB := hid (byte_any rb yb yo cap body p bg w hP.rd hp)
  have HP := hid hP
  clear hP hb
  go_enter Tryz.func322, Tryz.ntmps322
  go_wp2_with fail
  refine HB.out.mono ?_
  rintro e w2 ⟨rfl, hR, hS⟩
  have HF := hid (And.intro (HP.out.step hR hS) (hS.two B1 fb))
  clear hR hS
  go_wp2
  go_end0
  exact ⟨rfl, v9, HF.out⟩

set_option maxHeartbeats 1000000 in
theorem firstData_rd {B0 B1 : Nat} {w1 : World} (fin : Bool) (rb fb yb yo cap : Nat) (body : List UInt8) (bg : Nat) :
    Rd B0 B1 w1 (.func (.func 332) #[] #[]) [if fin then 9 else 8] (fun cur => { cur with fin := fin }) rb fb yb yo cap body bg := by
  refine ⟨332, _, rfl, enters_of Tryz.func332 (by kernel_rfl) rfl, fun w p cur v9 rest _ hP _ hb => ?_⟩
  obtain ⟨hp, hx⟩ := drop_byte hb
  have HB := hid (byte_any rb yb yo cap body p bg w hP.rd hp)
  rw [hx] at HB
  have HP := hid hP
  clear hP hb hx
  cases fin
  · go_enter Tryz.func332, Tryz.ntmps332
    go_wp2_with fail
    refine HB.out.mono ?_
    rintro e w2 ⟨rfl, hR, hS⟩
    have hp2 := HP.out.step hR hS
    have x5 : w2.cell? ⟨fb, 5, none⟩ = some (.bool cur.fin) := hp2.frm.cell 5
    have z5 := hp2.frm.frozen 5
    have HF := hid (And.intro (hp2.setF 5 (.bool false) (cur' := { cur with fin := false }) rfl rfl) ((hS.two B1 fb).trans (St2.setF B1 rb fb 5 (.bool false) w2)))
    clear hR hS hp2
    go_wp2
    go_end0
    exact ⟨rfl, v9, HF.out⟩
  · go_enter Tryz.func332, Tryz.ntmps332
    go_wp2_with fail
    refine HB.out.mono ?_
    rintro e w2 ⟨rfl, hR, hS⟩
    have hp2 := HP.out.step hR hS
    have x5 : w2.cell? ⟨fb, 5, none⟩ = some (.bool cur.fin) := hp2.frm.cell 5
    have z5 := hp2.frm.frozen 5
    have HF := hid (And.intro (hp2.setF 5 (.bool true) (cur' := { cur with fin := true }) rfl rfl) ((hS.two B1 fb).trans (St2.setF B1 rb fb 5 (.bool true) w2)))
    clear hR hS hp2
    go_wp2
    go_end0
    exact ⟨rfl, v9, HF.out⟩

set_option maxHeartbeats 1000000 in
theorem stream_rd {B0 B1 : Nat} {w1 : World} (s : Int) (hs0 : 0 ≤ s) (hs8 : s < 8) (rb fb yb yo cap : Nat) (body : List UInt8) (bg : Nat) :
    Rd B0 B1 w1 (.func (.func 328) #[] #[]) (Num.bytes s.toNat) (fun cur => { cur with stream := s }) rb fb yb yo cap body bg := by
  refine ⟨328, _, rfl, enters_of Tryz.func328 (by kernel_rfl) rfl, fun w p cur v9 rest _ hP _ hb => ?_⟩
  obtain ⟨n, rfl⟩ := Int.eq_ofNat_of_zero_le hs0
  rw [Int.toNat_natCast] at hb ⊢
  have HB := hid (number_read rb yb yo cap body p bg n rest w hP.rd (by omega) hb)
  have HP := hid hP
  have g1 : ¬ ((8 : Int) ≤ (n : Int)) := by omega
  have g2 : (n : Int) < 8 := by omega
  clear hP hb hs0 hs8
  go_enter Tryz.func328, Tryz.ntmps328
  go_wp2_with fail
  refine HB.out.mono ?_
  rintro e w2 ⟨rfl, hR, hS⟩
  have hp2 := HP.out.step hR hS
  have x1 : w2.cell? ⟨fb, 1, none⟩ = some (.int .i64 cur.stream) := hp2.frm.cell 1
  have z1 := hp2.frm.frozen 1
  have HF := hid (And.intro (hp2.setF 1 (.int .i64 (n : Int)) (cur' := { cur with stream := (n : Int) }) rfl rfl) ((hS.two B1 fb).trans (St2.setF B1 rb fb 1 (.int .i64 (n : Int)) w2)))
  clear hR hS hp2
  go_wp2
  go_end0
  exact ⟨rfl, v9, HF.out⟩

set_option maxHeartbeats 1000000 in
theorem number_rd {B0 B1 : Nat} {w1 : World} (pb pf i n : Nat) (upd : Fr → Fr) (rb fb yb yo cap : Nat) (body : List UInt8) (bg : Nat) (h0 : B0 ≤ pb) (h1 : pb < B1) (hx : w1.cell? ⟨pb, 0, none⟩ = some (.func (.func pf) #[] #[]))
    (he : ∀ args w, (callFunc pf args).run Tryz.prog w = .ok (.enter pf args) w) (hpf : ∀ b w, Calls Tryz.prog pf #[.pointer (some ⟨b, 0, none⟩)] w fun e w' => e = .returned (.pointer (some ⟨b, i, none⟩)) ∧ w' = w)
    (hc : ∀ cur v9, ∃ old : Int, (fcells cur v9)[i]? = some (.int .u64 old)) (hu : ∀ cur v9, (fcells cur v9).set i (.int .u64 (n : Int)) = fcells (upd cur) v9 ∧ (upd cur).ranges = cur.ranges) (hn : n ≤ M62) :
    Rd B0 B1 w1 (.func (.func 330) #[] #[.pointer (some ⟨pb, 0, none⟩)]) (Num.bytes n) upd rb fb yb yo cap body bg := by
  refine ⟨330, _, rfl, enters_of Tryz.func330 (by kernel_rfl) rfl, fun w p cur v9 rest hK hP _ hb => ?_⟩
  have cc := hK.cell h0 h1 hx
  have HB := hid (number_read rb yb yo cap body p bg n rest w hP.rd (by unfold M62 at hn; omega) hb)
  have HP := hid hP
  have HPF := hid (hpf fb w)
  have HU := hid (hu cur v9)
  obtain ⟨old, hold⟩ := hc cur v9
  have HOLD := hid hold
  clear hP hb hK hpf hc hu hn hx hold
  go_enter Tryz.func330, Tryz.ntmps330
  go_wp2_with fail
  refine HPF.out.mono ?_
  rintro e w' ⟨rfl, hw'⟩
  subst hw'
  go_wp2_with fail
  refine HB.out.mono ?_
  rintro e w2 ⟨rfl, hR, hS⟩
  have hp2 := HP.out.step hR hS
  have x1 := hp2.frm.cell i
  rw [HOLD.out] at x1
  have z1 := hp2.frm.frozen i
  have HF := hid (And.intro (hp2.setF i (.int .u64 (n : Int)) HU.out.1 HU.out.2) ((hS.two B1 fb).trans (St2.setF B1 rb fb i (.int .u64 (n : Int)) w2)))
  clear hR hS hp2
  go_wp2
  go_end0
  exact ⟨rfl, v9, HF.out⟩

theorem ba_eq (d : ByteArray) : (⟨d.data.toList.toArray⟩ : ByteArray) = d := by
  cases d; simp

set_option maxHeartbeats 1000000 in
theorem text_rd {B0 B1 : Nat} {w1 : World} (d : ByteArray) (hd : d.size ≤ 1000000000) (rb fb yb yo cap : Nat) (body : List UInt8) (bg : Nat) :
    Rd B0 B1 w1 (.func (.func 334) #[] #[]) (Num.bytes d.size ++ d.data.toList) (fun cur => { cur with data := d }) rb fb yb yo cap body bg := by
  refine ⟨334, _, rfl, enters_of Tryz.func334 (by kernel_rfl) rfl, fun w p cur v9 rest _ hP _ hb => ?_⟩
  rw [List.append_assoc] at hb
  have hb2 := drop_next hb
  have hdl : d.data.toList.length = d.size := by rw [Array.length_toList]; rfl
  have hlen : p + (Num.bytes d.size).length + d.size ≤ body.length := by
    have h1 : (body.drop (p + (Num.bytes d.size).length)).length = d.size + rest.length := by rw [hb2, List.length_append, hdl]
    rw [List.length_drop] at h1
    have h2 : (body.drop p).length = (Num.bytes d.size).length + (d.size + rest.length) := by rw [hb, List.length_append, List.length_append, hdl]
    rw [List.length_drop] at h2
    have h3 := hP.rd.le
    have h4 : 0 < (Num.bytes d.size).length := by rw [Num.bytes_length]; exact Nat.pow_pos (by decide)
    omega
  have HB := hid (number_read rb yb yo cap body p bg d.size _ w hP.rd (by omega) hb)
  have HP := hid hP
  have HLEN := hid hlen
  have hby : ∀ j (hj : j < d.size), body[p + (Num.bytes d.size).length + j]? = some (d.data.toList[j]'(by omega)) := fun j hj => by
    have : (body.drop (p + (Num.bytes d.size).length))[j]? = (d.data.toList ++ rest)[j]? := by rw [hb2]
    rw [List.getElem?_drop, List.getElem?_append_left (by omega)] at this
    rw [this]
    exact List.getElem?_eq_getElem _
  have hcv : ∀ w', RdAt w' rb yb yo cap body (p + (Num.bytes d.size).length + d.size) bg → ∀ c, (convert 60 9 (.slice (some ⟨yb, yo + (p + (Num.bytes d.size).length), none⟩) d.size c)).run Tryz.prog w' = .ok (.string d) w' := fun w' h' c => by
    have := run_convert_bytes_back (P := Tryz.prog) w' 60 9 5 ⟨yb, yo + (p + (Num.bytes d.size).length), none⟩ c d.data.toList u29 (by kernel_rfl) u9 (fun j hj => by
      rw [Addr.add_lit, Nat.add_assoc]
      have h1 := hby j (by omega)
      have hjl : p + (Num.bytes d.size).length + j < body.length := by omega
      rw [h'.byte _ hjl]
      rw [List.getElem?_eq_getElem hjl] at h1
      rw [Option.some.inj h1])
    rw [hdl, ba_eq] at this
    exact this
  have HCV := hid hcv
  have HSPL : Hid ((Num.bytes d.size ++ d.data.toList).length = (Num.bytes d.size).length + d.size) := by unfold Hid; rw [List.length_append, hdl]
  have g1 : (d.size : Int) ≤ 1000000000 := by omega
  clear hP hb hb2 hlen hby hcv hdl
  generalize (Num.bytes d.size).length = L at *
  generalize hsz : d.size = n at *
  go_enter Tryz.func334, Tryz.ntmps334
  go_wp2_with fail
  refine HB.out.mono ?_
  rintro e w2 ⟨rfl, hR, hS⟩
  have HT := hid (take_any rb yb yo cap body (p + L) bg n w2 hR HLEN.out)
  have HP2 := hid (HP.out.step hR hS)
  have HS2 := hid (hS.two B1 fb)
  clear hR hS
  go_wp2_with fail
  refine HT.out.mono ?_
  rintro e w3 ⟨rfl, hR, hS⟩
  have hp3 := HP2.out.step hR hS
  have cv := HCV.out w3 hR
  have x8 : w3.cell? ⟨fb, 8, none⟩ = some (.string cur.data) := hp3.frm.cell 8
  have z8 := hp3.frm.frozen 8
  have HF : Hid (RP B0 B1 rb fb yb yo cap body (w3.setCell ⟨fb, 8, none⟩ (.string d)) (p + (L + n)) bg { cur with data := d } v9 ∧ St2 B1 rb fb w (w3.setCell ⟨fb, 8, none⟩ (.string d))) := by
    rw [← Nat.add_assoc]
    exact And.intro (hp3.setF 8 (.string d) rfl rfl) ((HS2.out.trans (hS.two B1 fb)).trans (St2.setF B1 rb fb 8 (.string d) w3))
  clear hR hS hp3
  go_wp2
  go_end0
  rw [HSPL.out]
  exact ⟨rfl, v9, HF.out⟩

end Go.Proofs.YtphbledmopchnaaGreatDoor

/-
  readRanges.
-/
namespace Go.Proofs.YtphbledmopchnaaGreatDoor
open Go.RowKit Go.Lib Go.Shelf Mm

/-- One range more. -/
theorem rng_app {B0 B1 rb fb yb yo cap : Nat} {body : List UInt8} {w : World} {p bg : Nat} {cur : Fr} {v9 : Value} (h : RP B0 B1 rb fb yb yo cap body w p bg cur v9) (lo hi n m : Nat) (hn : cur.ranges.length = n) (hm : n + 1 = m) (hl : n ≤ 1000000000) :
    ∃ a' c' W2, (∀ ty, (Builtin.append_ #[63, 63] ty #[v9, .slice (some ⟨w.heap.size, 0, none⟩) 1 1]).run Tryz.prog (w.alloc (.cells #[.int .u64 (lo : Int), .int .u64 (hi : Int)] 170)) = .ok (.slice a' m c') W2) ∧
      Blk W2 fb 65 (fcells cur v9) ∧ RP B0 B1 rb fb yb yo cap body (W2.setCell ⟨fb, 9, none⟩ (.slice a' m c')) p bg { cur with ranges := cur.ranges ++ [(lo, hi)] } (.slice a' m c') ∧ St2 B1 rb fb w (W2.setCell ⟨fb, 9, none⟩ (.slice a' m c')) := by
  subst hn
  subst hm
  obtain ⟨W1, hW1⟩ : ∃ W1, W1 = w.alloc (.cells #[.int .u64 (lo : Int), .int .u64 (hi : Int)] 170) := ⟨_, rfl⟩
  have hs1 : W1.heap.size = w.heap.size + 1 := by rw [hW1]; simp
  have hb1 : Below w.heap.size w W1 := by rw [hW1]; exact (Below.refl _ _).alloc (Nat.le_refl _) _
  have hN : Blk W1 w.heap.size 170 [.int .u64 (lo : Int), .int .u64 (hi : Int)] := by rw [hW1]; exact Blk.new w 170 _
  rw [← hW1]
  have hg1 : GBuf 170 2 W1 v9 cur.ranges.length (rcells cur.ranges) := h.rng.of_heap (fun b hb => hb1.block b (h.rng.lt b hb))
  obtain ⟨v', W2, hrun, hG, hGr⟩ := run_append_gbuf eltR hg1 ⟨w.heap.size, 0, none⟩ 1 1 (rcells [(lo, hi)]) rfl (by omega) (rcells_one _) (fun j u hu => by rw [Addr.add_lit, Nat.zero_add, hN.cell]; exact hu) (by omega)
  obtain ⟨a', c', hv, _⟩ := hG.shape
  subst hv
  have hBw := h.hB
  have hb2 : Below B1 W1 W2 := hGr.below h.own (by omega)
  have hO2 := hGr.own h.own (by omega)
  have h1 := h.h01
  have h2 := h.fbl
  have h3 := h.rbl
  have h4 := h.ybl
  have hsz := hb2.size
  have hst : ∀ b, b < B1 → W2.heap[b]? = w.heap[b]? := fun b hb => by rw [hb2.block b hb, hb1.block b (by omega)]
  have hF2 : Blk W2 fb 65 (fcells cur v9) := h.frm.of_heap (hst fb (by omega))
  refine ⟨a', c', W2, hrun, hF2, ⟨?_, ?_, ?_, hO2, h.h01, by simp; omega, h3, h2, h4, h.rf, h.fy⟩, ?_⟩
  · exact (h.rd.of (hst rb (by omega)) (hst yb (by omega))).of (Below.heap_setCell _ _ _ _ h.rf) (Below.heap_setCell _ _ _ _ (Ne.symm h.fy))
  · exact hF2.setCell 9 _
  · show GBuf 170 2 _ _ (cur.ranges ++ [(lo, hi)]).length (rcells (cur.ranges ++ [(lo, hi)]))
    rw [List.length_append, rcells_append]
    exact hG.of_heap (fun b hb => Below.heap_setCell _ _ _ _ (by have := hO2 b hb; simp; omega))
  · refine ⟨hb2.os.trans hb1.os, hb2.tape.trans hb1.tape, hb2.output.trans hb1.output, by simp; omega, fun k hk _ hf => ?_⟩
    rw [Below.heap_setCell _ _ _ _ hf]
    exact hst k hk

theorem rngTo_prefix (rs : List (Nat × Nat)) (k : Nat) : ∀ N, k ≤ N → ∃ s, rngTo rs N = rngTo rs k ++ s
  | 0, h => ⟨[], by obtain rfl : k = 0 := by omega
                    simp⟩
  | N + 1, h => by
    by_cases e : k = N + 1
    · exact ⟨[], by rw [e]; simp⟩
    · obtain ⟨s, hs⟩ := rngTo_prefix rs k N (by omega)
      exact ⟨s ++ _, by rw [rngTo, hs, List.append_assoc]⟩
/-- What is left of the ranges behind the k-th. -/
def rngFrom (rs : List (Nat × Nat)) (N k : Nat) : List UInt8 := (rngTo rs N).drop (rngTo rs k).length
theorem rngFrom_zero (rs : List (Nat × Nat)) (N : Nat) : rngFrom rs N 0 = rngTo rs N := rfl
theorem rngFrom_end (rs : List (Nat × Nat)) (N : Nat) : rngFrom rs N N = [] := by unfold rngFrom; exact List.drop_of_length_le (Nat.le_refl _)
theorem rngFrom_step (rs : List (Nat × Nat)) (N k : Nat) (h : k < N) : rngFrom rs N k = Num.bytes ((rs.getD k (0, 0)).1 - (rs.getD (k + 1) (0, 0)).2 - 2) ++ (Num.bytes ((rs.getD (k + 1) (0, 0)).2 - (rs.getD (k + 1) (0, 0)).1) ++ rngFrom rs N (k + 1)) := by
  obtain ⟨s, hs⟩ := rngTo_prefix rs (k + 1) N (by omega)
  have hA : (rngTo rs N).drop (rngTo rs (k + 1)).length = s := by rw [hs]; exact List.drop_left' rfl
  have hB : rngTo rs N = rngTo rs k ++ (Num.bytes ((rs.getD k (0, 0)).1 - (rs.getD (k + 1) (0, 0)).2 - 2) ++ (Num.bytes ((rs.getD (k + 1) (0, 0)).2 - (rs.getD (k + 1) (0, 0)).1) ++ s)) := by
    rw [hs, rngTo]
    simp only [List.append_assoc]
  unfold rngFrom
  rw [hA, hB]
  exact List.drop_left' rfl

theorem take_snoc (rs : List (Nat × Nat)) (k : Nat) (h : k < rs.length) : rs.take k ++ [((rs.getD k (0, 0)).1, (rs.getD k (0, 0)).2)] = rs.take (k + 1) := by
  rw [List.take_succ_eq_append_getElem h, List.getD_eq_getElem?_getD, List.getElem?_eq_getElem h]
  rfl

set_option maxHeartbeats 1000000 in
set_option maxRecDepth 100000 in
theorem ranges_rd {B0 B1 : Nat} {w1 : World} (rs : List (Nat × Nat)) (hR : sndR rs = true) (hrl : rs.length ≤ 1000000000) (rb fb yb yo cap : Nat) (body : List UInt8) (bg : Nat) :
    Rd B0 B1 w1 (.func (.func 326) #[] #[]) (rngBytes rs) (fun cur => { cur with ranges := rs }) rb fb yb yo cap body bg := by
  refine ⟨326, _, rfl, enters_of Tryz.func326 (by kernel_rfl) rfl, fun w p cur v9 rest _ hP hc0 hb => ?_⟩
  obtain ⟨hpos, hat⟩ := sndR_at hR
  obtain ⟨N, hN⟩ : ∃ N, rs.length = N + 1 := ⟨rs.length - 1, by omega⟩
  have hb0 : body.drop p = Num.bytes (rs.getD 0 (0, 0)).2 ++ (Num.bytes N ++ (Num.bytes ((rs.getD 0 (0, 0)).2 - (rs.getD 0 (0, 0)).1) ++ (rngFrom rs N 0 ++ rest))) := by
    rw [hb, rngFrom_zero]
    unfold rngBytes rngHead
    rw [hN, Nat.add_sub_cancel]
    simp only [List.append_assoc]
  have hlenT : (rngBytes rs).length = (Num.bytes (rs.getD 0 (0, 0)).2).length + (Num.bytes N).length + (Num.bytes ((rs.getD 0 (0, 0)).2 - (rs.getD 0 (0, 0)).1)).length + (rngTo rs N).length := by
    unfold rngBytes rngHead
    rw [hN, Nat.add_sub_cancel]
    simp only [List.length_append]
    omega
  obtain ⟨q1, q2, _⟩ := hat 0 hpos
  have hb1 := drop_next hb0
  have hb2 := drop_next hb1
  have hb3 := drop_next hb2
  have HN1 := hid (number_read rb yb yo cap body p bg _ _ w hP.rd (by unfold M62 at q2; omega) hb0)
  have HN2 := hid (fun w' (h' : RdAt w' rb yb yo cap body _ bg) => number_read rb yb yo cap body _ bg _ _ w' h' (by omega) hb1)
  have HN3 := hid (fun w' (h' : RdAt w' rb yb yo cap body _ bg) => number_read rb yb yo cap body _ bg _ _ w' h' (by unfold M62 at q2; omega) hb2)
  have HAT := hid hat
  have HLT := hid hlenT
  have HB3 := hid hb3
  have HP := hid hP
  have hlo : (rs.getD 0 (0, 0)).2 - ((rs.getD 0 (0, 0)).2 - (rs.getD 0 (0, 0)).1) = (rs.getD 0 (0, 0)).1 := by omega
  have HL := hid (fun (r : Value) (w : World) => less_any r (rs.getD 0 (0, 0)).2 ((rs.getD 0 (0, 0)).2 - (rs.getD 0 (0, 0)).1) w (by omega) (by unfold M62 at q2; omega))
  rw [hlo] at HL
  have HT1 : Hid ([((rs.getD 0 (0, 0)).1, (rs.getD 0 (0, 0)).2)] = rs.take 1) := take_snoc rs 0 hpos
  clear hP hb hb0 hb1 hb2 hb3 hat hlenT hR hlo
  generalize hLO : (rs.getD 0 (0, 0)).1 = lo0 at *
  generalize hHI : (rs.getD 0 (0, 0)).2 = hi0 at *
  generalize hD0 : hi0 - lo0 = d0 at *
  have HLO := hid hLO
  clear hLO hHI hD0
  go_enter Tryz.func326, Tryz.ntmps326
  go_wp2_with fail
  refine HN1.out.mono ?_
  rintro e x1 ⟨rfl, hR1, hS1⟩
  have HA2 := hid (HN2.out x1 hR1)
  have HP1 := hid (HP.out.step hR1 hS1)
  have HS1 := hid (hS1.two B1 fb)
  clear hR1 hS1 HN1 HN2 HP
  go_wp2_with fail
  refine HA2.out.mono ?_
  rintro e x2 ⟨rfl, hR2, hS2⟩
  have HA3 := hid (HN3.out x2 hR2)
  have HP2 := hid (HP1.out.step hR2 hS2)
  have HS2 := hid (HS1.out.trans (hS2.two B1 fb))
  clear hR2 hS2 HA2 HP1 HN3 HS1
  go_wp2_with fail
  refine HA3.out.mono ?_
  rintro e x3 ⟨rfl, hR3, hS3⟩
  have HP3 := hid (HP2.out.step hR3 hS3)
  have HS3 := hid (HS2.out.trans (hS3.two B1 fb))
  clear hR3 hS3 HA3 HP2 HS2
  go_wp2_with fail
  refine (HL.out _ _).mono ?_
  rintro e x4 ⟨rfl, hx4⟩
  subst hx4
  obtain ⟨a', c', W2, run1, hF2, hP4, hS4⟩ := rng_app HP3.out lo0 hi0 0 1 (by rw [hc0]; rfl) rfl (by omega)
  have hx9 : x4.cell? ⟨fb, 9, none⟩ = some v9 := HP3.out.frm.cell 9
  obtain ⟨a9, c9, hv9, _⟩ := HP3.out.rng.shape
  rw [show cur.ranges.length = 0 by rw [hc0]; rfl] at hv9
  subst hv9
  have k9 : W2.cell? ⟨fb, 9, none⟩ = some (.slice a9 0 c9) := hF2.cell 9
  have z9 := hF2.frozen 9
  rw [hc0, List.nil_append, HT1.out] at hP4
  have HP4 := hid hP4
  have HS4 := hid (HS3.out.trans hS4)
  have hfl : fb < x4.heap.size := HP3.out.frm.lt
  clear hF2 hP4 hS4 HP3 HS3 HL
  go_wp2_with (at_builtin; refine Lib.wpList_append_run _ rfl _ _ _ _ rfl _ _ rfl rfl _ _ (run1 _) ?_)
  clear run1 hx9 k9 z9 hfl
  have HSTEP := hid (fun k (hk : k < N) => rngFrom_step rs N k hk)
  have HEND := hid (rngFrom_end rs N)
  have HPE : Hid (p + (Num.bytes hi0).length + (Num.bytes N).length + (Num.bytes d0).length + (rngFrom rs N 0).length = p + (rngBytes rs).length) := by
    unfold Hid; rw [HLT.out, rngFrom_zero]; omega
  generalize p + (Num.bytes hi0).length + (Num.bytes N).length + (Num.bytes d0).length = p0 at *
  go_loopw [4, 5, 6] (fun s4 s5 s6 wr => ∃ k : Nat, k ≤ N ∧ s5 = .int .u64 ((N - k : Nat) : Int) ∧ s6 = .int .u64 (((rs.getD k (0, 0)).1 : Nat) : Int) ∧ (∃ x : Nat, s4 = .int .u64 (x : Int)) ∧ Hid (∃ pk v9, RP B0 B1 rb fb yb yo cap body wr pk bg { cur with ranges := rs.take (k + 1) } v9 ∧ St2 B1 rb fb w wr ∧ body.drop pk = rngFrom rs N k ++ rest ∧ pk + (rngFrom rs N k).length = p + (rngBytes rs).length)) (fun _ s5 _ _ => (intOf s5).toNat)
  case atStart => exact ⟨0, Nat.zero_le _, rfl, by rw [HLO.out], ⟨_, rfl⟩, p0, _, HP4.out, HS4.out, HB3.out, HPE.out⟩
  case round =>
    clear HP4 HS4 HB3 HPE HLT HLO HT1
    obtain ⟨k, hk, rfl, rfl, ⟨xh, rfl⟩, HI⟩ := hrel
    by_cases hlt : k < N
    · obtain ⟨pk, v9, hPk, hSk, hbk, hpe⟩ := HI.out
      rw [HSTEP.out k hlt] at hbk hpe
      rw [List.append_assoc, List.append_assoc] at hbk
      obtain ⟨o1, o2, o3⟩ := HAT.out (k + 1) (by omega)
      have o4 := o3 (by omega)
      rw [Nat.add_sub_cancel] at o4
      obtain ⟨o5, o6, _⟩ := HAT.out k (by omega)
      have htk := take_snoc rs (k + 1) (by omega)
      have hlen : (rs.take (k + 1)).length = k + 1 := by simp; omega
      unfold M62 at o2 o6
      generalize (rs.getD k (0, 0)).1 = lok at *
      generalize hHI' : (rs.getD (k + 1) (0, 0)).2 = hi' at *
      generalize hLO' : (rs.getD (k + 1) (0, 0)).1 = lo' at *
      generalize hG : lok - hi' - 2 = g at *
      generalize hD : hi' - lo' = d at *
      have HN1 := hid (number_read rb yb yo cap body pk bg g _ wr hPk.rd (by omega) hbk)
      have hbk2 := drop_next hbk
      have HN2 := hid (fun w' (h' : RdAt w' rb yb yo cap body _ bg) => number_read rb yb yo cap body _ bg d _ w' h' (by omega) hbk2)
      have hbk3 := drop_next hbk2
      have HL1 := hid (fun (r : Value) (w : World) => less_any r lok (g + 2) w (by omega) (by omega))
      rw [show lok - (g + 2) = hi' by omega] at HL1
      have HL2 := hid (fun (r : Value) (w : World) => less_any r hi' d w (by omega) (by omega))
      rw [show hi' - d = lo' by omega] at HL2
      have hpe2 : pk + (Num.bytes g).length + (Num.bytes d).length + (rngFrom rs N (k + 1)).length = p + (rngBytes rs).length := by
        rw [List.length_append, List.length_append] at hpe; omega
      have HPk := hid hPk
      have HSk := hid hSk
      have HB := hid (And.intro hbk3 hpe2)
      have HTK := hid htk
      have HLEN := hid hlen
      have HLO := hid hLO'
      have g0 : 0 < N - k := by omega
      have g1 : (g : Int) + 2 = ((g + 2 : Nat) : Int) := by omega
      have g2 : ((g + 2 : Nat) : Int) < 18446744073709551616 := by omega
      have g3 : ((N - k : Nat) : Int) - 1 = ((N - (k + 1) : Nat) : Int) := by omega
      have g4 : ((N - (k + 1) : Nat) : Int) < 18446744073709551616 := by omega
      have HM : Hid (N - (k + 1) < N - k) := by unfold Hid; omega
      generalize g + 2 = g22 at *
      generalize hn1 : N - (k + 1) = n1 at *
      have HE1 := hid hn1
      clear hn1
      generalize N - k = n0 at *
      clear hPk hSk hbk hbk2 hbk3 hpe hpe2 htk hlen hHI' hLO' hG hD HI o1 o2 o3 o4 o5 o6
      go_wp2_with fail
      refine HN1.out.mono ?_
      rintro e y1 ⟨rfl, hR1, hS1⟩
      have HA2 := hid (HN2.out y1 hR1)
      have HP1 := hid (HPk.out.step hR1 hS1)
      have HS1 := hid (HSk.out.trans (hS1.two B1 fb))
      clear hR1 hS1 HN1 HN2 HPk HSk
      go_wp2_with fail
      refine (HL1.out _ _).mono ?_
      rintro e y2 ⟨rfl, hy2⟩
      subst hy2
      go_wp2_with fail
      refine HA2.out.mono ?_
      rintro e y3 ⟨rfl, hR3, hS3⟩
      have HP3 := hid (HP1.out.step hR3 hS3)
      have HS3 := hid (HS1.out.trans (hS3.two B1 fb))
      clear hR3 hS3 HA2 HP1 HS1
      go_wp2_with fail
      refine (HL2.out _ _).mono ?_
      rintro e y4 ⟨rfl, hy4⟩
      subst hy4
      obtain ⟨a', c', W2, run1, hF2, hP4, hS4⟩ := rng_app HP3.out lo' hi' (k + 1) (k + 2) HLEN.out rfl (by omega)
      have hx9 : y4.cell? ⟨fb, 9, none⟩ = some v9 := HP3.out.frm.cell 9
      obtain ⟨a9, c9, hv9, _⟩ := HP3.out.rng.shape
      rw [HLEN.out] at hv9
      subst hv9
      have k9 : W2.cell? ⟨fb, 9, none⟩ = some (.slice a9 (k + 1) c9) := hF2.cell 9
      have z9 := hF2.frozen 9
      simp only [HTK.out] at hP4
      have HI' : Hid (∃ pk v9, RP B0 B1 rb fb yb yo cap body (W2.setCell ⟨fb, 9, none⟩ (.slice a' (k + 2) c')) pk bg { cur with ranges := rs.take (k + 1 + 1) } v9 ∧ St2 B1 rb fb w (W2.setCell ⟨fb, 9, none⟩ (.slice a' (k + 2) c')) ∧ body.drop pk = rngFrom rs N (k + 1) ++ rest ∧ pk + (rngFrom rs N (k + 1)).length = p + (rngBytes rs).length) := ⟨_, _, hP4, HS3.out.trans hS4, HB.out.1, HB.out.2⟩
      have hfl : fb < y4.heap.size := HP3.out.frm.lt
      clear hF2 hP4 hS4 HP3 HS3 HL1 HL2
      go_wp2_with (at_builtin; refine Lib.wpList_append_run _ rfl _ _ _ _ rfl _ _ rfl rfl _ _ (run1 _) ?_)
      go_roundw
      case rel => exact ⟨k + 1, by omega, by rw [HE1.out], by rw [HLO.out], ⟨_, rfl⟩, HI'⟩
      case measure => simp [intOf]; exact HM.out
    · obtain rfl : k = N := by omega
      obtain ⟨pk, v9, hPk, hSk, hbk, hpe⟩ := HI.out
      rw [HEND.out, List.length_nil, Nat.add_zero] at hpe
      rw [← hN, List.take_length, hpe] at hPk
      have HF := hid (And.intro hPk hSk)
      clear hPk hSk hbk hpe HI
      have g0 : ((k - k : Nat) : Int) = 0 := by omega
      go_wp2
      go_end0
      exact ⟨rfl, v9, HF.out⟩

end Go.Proofs.YtphbledmopchnaaGreatDoor

/-
  The reader of several parts; a layout reads a frame.
-/
namespace Go.Proofs.YtphbledmopchnaaGreatDoor
open Go.RowKit Go.Lib Go.Shelf Mm

theorem RP.alloc {B0 B1 rb fb yb yo cap : Nat} {body : List UInt8} {w : World} {p bg : Nat} {cur : Fr} {v9 : Value} (h : RP B0 B1 rb fb yb yo cap body w p bg cur v9) (o : Obj) : RP B0 B1 rb fb yb yo cap body (w.alloc o) p bg cur v9 := by
  have h1 := h.h01
  have h2 := h.hB
  have h3 := h.rbl
  have h4 := h.fbl
  have h5 := h.ybl
  exact ⟨h.rd.of (Below.heap_alloc _ _ _ (by omega)) (Below.heap_alloc _ _ _ (by omega)), h.frm.alloc o, h.rng.of_heap (fun b hb => Below.heap_alloc _ _ _ (h.rng.lt b hb)), h.own, h1, by simp; omega, h3, h4, h5, h.rf, h.fy⟩
theorem St2.alloc (B1 rb fb : Nat) (w : World) (o : Obj) (h : B1 ≤ w.heap.size) : St2 B1 rb fb w (w.alloc o) := ⟨rfl, rfl, rfl, by simp, fun k hk _ _ => Below.heap_alloc _ _ _ (by omega)⟩

def updTo (us : Nat → Fr → Fr) : Nat → Fr → Fr
  | 0, cur => cur
  | k + 1, cur => us k (updTo us k cur)

theorem partsTo_prefix (ps : List (List UInt8)) (k : Nat) : ∀ N, k ≤ N → ∃ s, partsTo ps N = partsTo ps k ++ s
  | 0, h => ⟨[], by obtain rfl : k = 0 := by omega
                    simp⟩
  | N + 1, h => by
    by_cases e : k = N + 1
    · exact ⟨[], by rw [e]; simp⟩
    · obtain ⟨s, hs⟩ := partsTo_prefix ps k N (by omega)
      exact ⟨s ++ _, by rw [partsTo, hs, List.append_assoc]⟩
def partsFrom (ps : List (List UInt8)) (N k : Nat) : List UInt8 := (partsTo ps N).drop (partsTo ps k).length
theorem partsFrom_zero (ps : List (List UInt8)) (N : Nat) : partsFrom ps N 0 = partsTo ps N := rfl
theorem partsFrom_end (ps : List (List UInt8)) (N : Nat) : partsFrom ps N N = [] := by unfold partsFrom; exact List.drop_of_length_le (Nat.le_refl _)
theorem partsFrom_step (ps : List (List UInt8)) (N k : Nat) (h : k < N) : partsFrom ps N k = ps.getD k [] ++ partsFrom ps N (k + 1) := by
  obtain ⟨s, hs⟩ := partsTo_prefix ps (k + 1) N (by omega)
  have hA : (partsTo ps N).drop (partsTo ps (k + 1)).length = s := by rw [hs]; exact List.drop_left' rfl
  have hB : partsTo ps N = partsTo ps k ++ (ps.getD k [] ++ s) := by
    rw [hs, partsTo]
    simp only [List.append_assoc]
  unfold partsFrom
  rw [hA, hB]
  exact List.drop_left' rfl

set_option maxHeartbeats 1000000 in
set_option maxRecDepth 100000 in
theorem inOrder_rd {B0 B1 : Nat} {w1 : World} (pb qb np : Nat) (fw fr : Nat → Value) (ps : List (List UInt8)) (us : Nat → Fr → Fr) (rb fb yb yo cap : Nat) (body : List UInt8) (bg : Nat) (hnp : np ≤ 100) (hp0 : B0 ≤ pb) (hp1 : pb < B1) (hq0 : B0 ≤ qb) (hq1 : qb < B1)
    (hpb : w1.cell? ⟨pb, 0, none⟩ = some (.slice (some ⟨qb, 0, none⟩) np np)) (hcell : ∀ j, j < np → w1.cell? ⟨qb, j * 2, none⟩ = some (fw j) ∧ w1.cell? ⟨qb, j * 2 + 1, none⟩ = some (fr j)) (hfw : ∀ j, j < np → ∃ g cb, fw j = .func (.func g) #[] cb)
    (hus : ∀ cur, cur.ranges = [] → ∀ j, j < np → (updTo us j cur).ranges = [])
    (hrd : ∀ j, j < np → Rd B0 B1 w1 (fr j) (ps.getD j []) (us j) rb fb yb yo cap body bg) :
    Rd B0 B1 w1 (.func (.func 324) #[] #[.pointer (some ⟨pb, 0, none⟩)]) (partsTo ps np) (updTo us np) rb fb yb yo cap body bg := by
  refine ⟨324, _, rfl, enters_of Tryz.func324 (by kernel_rfl) rfl, fun w p cur v9 rest hK hP hc0 hb => ?_⟩
  have cp := hK.cell hp0 hp1 hpb
  have HI0 : Hid (∃ pk v9, Keep B0 B1 w1 w ∧ RP B0 B1 rb fb yb yo cap body w pk bg (updTo us 0 cur) v9 ∧ St2 B1 rb fb w w ∧ body.drop pk = partsFrom ps np 0 ++ rest ∧ pk + (partsFrom ps np 0).length = p + (partsTo ps np).length) := ⟨p, v9, hK, hP, St2.refl _ _ _ _, by rw [partsFrom_zero]; exact hb, by rw [partsFrom_zero]⟩
  have HC := hid hcell
  have HFW := hid hfw
  have HRD := hid hrd
  have HQ := hid (And.intro hq0 hq1)
  have HUS := hid (hus cur hc0)
  have HST := hid (fun k (hk : k < np) => partsFrom_step ps np k hk)
  have HEND := hid (partsFrom_end ps np)
  clear hP hb hcell hfw hrd hpb hp0 hp1 hq0 hq1 hus hc0 hK
  go_enter Tryz.func324, Tryz.ntmps324
  go_wp2_with fail
  go_loopw [9] (fun s9 wr => ∃ k : Nat, k ≤ np ∧ s9 = .int .i64 k ∧ Hid (∃ pk v9, Keep B0 B1 w1 wr ∧ RP B0 B1 rb fb yb yo cap body wr pk bg (updTo us k cur) v9 ∧ St2 B1 rb fb w wr ∧ body.drop pk = partsFrom ps np k ++ rest ∧ pk + (partsFrom ps np k).length = p + (partsTo ps np).length)) (fun s9 _ => np - (intOf s9).toNat)
  case atStart => exact ⟨0, Nat.zero_le _, rfl, HI0.out⟩
  case round =>
    clear HI0
    obtain ⟨k, hk, rfl, HI⟩ := hrel
    by_cases hlt : k < np
    · have hlt' : (k : Int) < (np : Int) := by omega
      obtain ⟨pk, v9, hK, hPk, hSk, hbk, hpe⟩ := HI.out
      rw [HST.out k hlt] at hbk hpe
      rw [List.append_assoc] at hbk
      obtain ⟨q1, q2⟩ := HC.out k hlt
      have t1 := hK.cell HQ.out.1 HQ.out.2 q1
      have t2 := hK.cell HQ.out.1 HQ.out.2 q2
      obtain ⟨g, cb, hfr, eg, hW⟩ := HRD.out k hlt
      obtain ⟨g2, cb2, hfw2⟩ := HFW.out k hlt
      rw [hfr] at t2
      rw [hfw2] at t1
      have hBw := hPk.hB
      have hK2 : Keep B0 B1 w1 (wr.alloc (.cells #[.func (.func g2) #[] cb2, .func (.func g) #[] cb] 318)) := ⟨by simp; omega, fun j h0 h1 => by rw [Below.heap_alloc _ _ _ (by omega)]; exact hK.2 j h0 h1⟩
      have hc := hW _ pk (updTo us k cur) v9 _ hK2 (hPk.alloc _) (HUS.out k hlt) hbk
      have hbk2 := drop_next hbk
      have hn : ∀ w' v9', RP B0 B1 rb fb yb yo cap body w' (pk + (ps.getD k []).length) bg (us k (updTo us k cur)) v9' → St2 B1 rb fb (wr.alloc (.cells #[.func (.func g2) #[] cb2, .func (.func g) #[] cb] 318)) w' →
          ∃ pk v9, Keep B0 B1 w1 w' ∧ RP B0 B1 rb fb yb yo cap body w' pk bg (updTo us (k + 1) cur) v9 ∧ St2 B1 rb fb w w' ∧ body.drop pk = partsFrom ps np (k + 1) ++ rest ∧ pk + (partsFrom ps np (k + 1)).length = p + (partsTo ps np).length := fun w' v9' hP' hS' =>
        ⟨_, v9', hS'.keep hK2 hP'.rbl hP'.fbl, hP', (hSk.trans (St2.alloc B1 rb fb wr _ hBw)).trans hS', hbk2, by rw [List.length_append] at hpe; omega⟩
      have HN := hid hn
      have HC2 := hid hc
      have hbl : qb < wr.heap.size := World.block_lt_of_cell? _ _ t1
      clear hfr hfw2 hc hW q1 q2 hn hK hPk hSk hbk hbk2 hpe hK2 HI
      go_wp2_with fail
      refine HC2.out.mono ?_
      rintro e y ⟨rfl, v9', hP', hS'⟩
      have HI' := hid (HN.out y v9' hP' hS')
      clear hP' hS' HN HC2
      go_wp2_with fail
      go_roundw
      case rel => exact ⟨k + 1, by omega, by go_num, HI'⟩
      case measure => simp [intOf]; omega
    · obtain rfl : k = np := by omega
      obtain ⟨pk, v9, hK, hPk, hSk, hbk, hpe⟩ := HI.out
      rw [HEND.out, List.length_nil, Nat.add_zero] at hpe
      rw [hpe] at hPk
      have HF := hid (And.intro hPk hSk)
      clear hK hPk hSk hbk hpe HI
      go_wp2
      go_end0
      exact ⟨rfl, v9, HF.out⟩

theorem part_rd {B0 : Nat} {w1 : World} {tag : Nat × Nat} {fw fr : Value} (hP : PartIs B0 w1 tag fw fr) (f : Fr) (hf : Fit f) (hok : okTag f tag) (hd : f.data.size ≤ 1000000000) (hrl : f.ranges.length ≤ 1000000000) (rb fb yb yo cap : Nat) (body : List UInt8) (bg : Nat) :
    Rd B0 w1.heap.size w1 fr (partBytes f tag) (setPart f tag) rb fb yb yo cap body bg := by
  unfold partBytes
  rcases hP with ⟨h, xb, hx, _, h2⟩ | ⟨h, _, h2⟩ | ⟨h, _, h2⟩ | ⟨h, xb, hx, _, h2⟩ | ⟨h, _, h2⟩ | ⟨h, _, h2⟩
  · have e : setPart f tag = fun cur => cur := by funext cur; unfold setPart; rw [if_pos h]
    rw [if_pos h, h2, e]
    exact first_rd _ rb fb yb yo cap body bg
  · have e : setPart f tag = fun cur => { cur with fin := f.fin } := by funext cur; unfold setPart; rw [if_neg (by omega), if_pos h]
    rw [if_neg (by omega), if_pos h, h2, e]
    exact firstData_rd f.fin rb fb yb yo cap body bg
  · have e : setPart f tag = fun cur => { cur with stream := f.stream } := by funext cur; unfold setPart; rw [if_neg (by omega), if_neg (by omega), if_pos h]
    rw [if_neg (by omega), if_neg (by omega), if_pos h, h2, e]
    exact stream_rd f.stream hf.s0 hf.s8 rb fb yb yo cap body bg
  · have e0 : ∀ cur, setPart f tag cur = (if tag.2 = 279 then { cur with offset := f.offset } else if tag.2 = 280 then { cur with reliable := f.reliable } else if tag.2 = 283 then { cur with limit := f.limit } else if tag.2 = 284 then { cur with id := f.id } else { cur with deadline := f.deadline }) := fun cur => by
      unfold setPart; rw [if_neg (by omega), if_neg (by omega), if_neg (by omega), if_pos h]
    rw [if_neg (by omega), if_neg (by omega), if_neg (by omega), if_pos h, h2]
    have hpf : tag.2 = 279 ∨ tag.2 = 280 ∨ tag.2 = 283 ∨ tag.2 = 284 ∨ tag.2 = 285 := by
      rcases hok with e | e | e | e | e | e
      · omega
      · omega
      · omega
      · exact e.2
      · omega
      · omega
    have hl := World.block_lt_of_cell? _ _ hx.2
    have hxc := hx.2
    rcases hpf with e | e | e | e | e
    · rw [e] at hxc ⊢
      exact number_rd xb 279 2 f.offset _ rb fb yb yo cap body bg hx.1 hl hxc (enters_of Tryz.func279 (by kernel_rfl) rfl) (fun b w => by have := offset_any b 0 w; simpa using this) (fun cur v9 => ⟨_, rfl⟩) (fun cur v9 => by rw [e0, e]; exact ⟨rfl, rfl⟩) hf.n0
    · rw [e] at hxc ⊢
      exact number_rd xb 280 3 f.reliable _ rb fb yb yo cap body bg hx.1 hl hxc (enters_of Tryz.func280 (by kernel_rfl) rfl) (fun b w => by have := reliable_any b 0 w; simpa using this) (fun cur v9 => ⟨_, rfl⟩) (fun cur v9 => by rw [e0, e]; exact ⟨rfl, rfl⟩) hf.n1
    · rw [e] at hxc ⊢
      exact number_rd xb 283 4 f.limit _ rb fb yb yo cap body bg hx.1 hl hxc (enters_of Tryz.func283 (by kernel_rfl) rfl) (fun b w => by have := limit_any b 0 w; simpa using this) (fun cur v9 => ⟨_, rfl⟩) (fun cur v9 => by rw [e0, e]; exact ⟨rfl, rfl⟩) hf.n2
    · rw [e] at hxc ⊢
      exact number_rd xb 284 6 f.id _ rb fb yb yo cap body bg hx.1 hl hxc (enters_of Tryz.func284 (by kernel_rfl) rfl) (fun b w => by have := id_any b 0 w; simpa using this) (fun cur v9 => ⟨_, rfl⟩) (fun cur v9 => by rw [e0, e]; exact ⟨rfl, rfl⟩) hf.n3
    · rw [e] at hxc ⊢
      exact number_rd xb 285 7 f.deadline _ rb fb yb yo cap body bg hx.1 hl hxc (enters_of Tryz.func285 (by kernel_rfl) rfl) (fun b w => by have := deadline_any b 0 w; simpa using this) (fun cur v9 => ⟨_, rfl⟩) (fun cur v9 => by rw [e0, e]; exact ⟨rfl, rfl⟩) hf.n4
  · have e : setPart f tag = fun cur => { cur with data := f.data } := by funext cur; unfold setPart; rw [if_neg (by omega), if_neg (by omega), if_neg (by omega), if_neg (by omega), if_pos h]
    rw [if_neg (by omega), if_neg (by omega), if_neg (by omega), if_neg (by omega), if_pos h, h2, e]
    exact text_rd f.data hd rb fb yb yo cap body bg
  · have e : setPart f tag = fun cur => { cur with ranges := f.ranges } := by funext cur; unfold setPart; rw [if_neg (by omega), if_neg (by omega), if_neg (by omega), if_neg (by omega), if_neg (by omega)]
    rw [if_neg (by omega), if_neg (by omega), if_neg (by omega), if_neg (by omega), if_neg (by omega), h2, e]
    have hR : sndR f.ranges = true := by
      rcases hok with e | e | e | e | e | e
      · omega
      · omega
      · omega
      · omega
      · omega
      · exact e.2
    exact ranges_rd f.ranges hR hrl rb fb yb yo cap body bg

/-- What is read of a frame's parts. -/
def setAll (f : Fr) (tags : List (Nat × Nat)) (k : Nat) (cur : Fr) : Fr := updTo (fun j => setPart f (tags.getD j (0, 0))) k cur

theorem setPart_rng (f : Fr) (tag : Nat × Nat) (cur : Fr) (h : tag.1 ≤ 4) : (setPart f tag cur).ranges = cur.ranges := by
  unfold setPart
  repeat' split
  all_goals first | rfl | omega

theorem setAll_rng (f : Fr) (tags : List (Nat × Nat)) (cur : Fr) (hc : cur.ranges = []) (h : ∀ j, j + 1 < tags.length → (tags.getD j (0, 0)).1 ≤ 4) : ∀ k, k < tags.length → (setAll f tags k cur).ranges = []
  | 0, _ => hc
  | k + 1, hk => by
    show (setPart f (tags.getD k (0, 0)) (setAll f tags k cur)).ranges = []
    rw [setPart_rng _ _ _ (h k hk)]
    exact setAll_rng f tags cur hc h k (by omega)

theorem tags_last (k : Int) : ∀ j, j + 1 < (tagsOf k).length → ((tagsOf k).getD j (0, 0)).1 ≤ 4 := by
  unfold tagsOf
  repeat' split
  all_goals
    intro j hj
    match j, hj with
    | 0, hj => first | decide | exact absurd hj (by decide)
    | 1, hj => first | decide | exact absurd hj (by decide)
    | 2, hj => first | decide | exact absurd hj (by decide)
    | m + 3, hj => exact absurd hj (by simp)

/-- The layout of a frame's kind reads what it wrote. -/
theorem layK_rd {B0 : Nat} {w1 : World} {fw fr : Value} (f : Fr) (hL : LayK B0 w1 f.kind fw fr) (h : snd f = true) (hd : f.data.size ≤ 1000000000) (hrl : f.ranges.length ≤ 1000000000) (rb fb yb yo cap : Nat) (body : List UInt8) (bg : Nat) :
    Rd B0 w1.heap.size w1 fr (frBytes f) (setAll f (tagsOf f.kind) (tagsOf f.kind).length) rb fb yb yo cap body bg := by
  obtain ⟨hf, _⟩ := fit_of f h
  rcases hL with ⟨e, hP⟩ | ⟨_, hL⟩
  · have := part_rd hP f hf (.inl ⟨rfl, by decide⟩) hd hrl rb fb yb yo cap body bg
    have hb : frBytes f = partBytes f (0, 1) := by
      unfold frBytes
      rw [e, show tagsOf 1 = [(0, 1)] from rfl]
      rfl
    have hs : setAll f (tagsOf f.kind) (tagsOf f.kind).length = setPart f (0, 1) := by
      rw [e, show tagsOf 1 = [(0, 1)] from rfl]
      rfl
    rw [hb, hs]
    exact this
  · obtain ⟨pb, qb, _, rfl, hB, hq, hcell⟩ := hL
    have hpos := (tags_len f.kind).1
    have hfun : ∃ fws frs : Nat → Value, ∀ j, j < (tagsOf f.kind).length → w1.cell? ⟨qb, j * 2, none⟩ = some (fws j) ∧ w1.cell? ⟨qb, j * 2 + 1, none⟩ = some (frs j) ∧ PartIs B0 w1 ((tagsOf f.kind).getD j (0, 0)) (fws j) (frs j) := by
      refine ⟨fun j => (w1.cell? ⟨qb, j * 2, none⟩).getD undef, fun j => (w1.cell? ⟨qb, j * 2 + 1, none⟩).getD undef, fun j hj => ?_⟩
      obtain ⟨a, c, h1, h2, h3⟩ := hcell j hj
      refine ⟨by simp [h1], by simp [h2], ?_⟩
      simpa [h1, h2] using h3
    obtain ⟨fws, frs, hF⟩ := hfun
    have hmem : ∀ j, j < (tagsOf f.kind).length → (tagsOf f.kind).getD j (0, 0) ∈ tagsOf f.kind := fun j hj => by
      rw [List.getD_eq_getElem?_getD, List.getElem?_eq_getElem hj]
      exact List.getElem_mem _
    refine inOrder_rd pb qb (tagsOf f.kind).length fws frs ((tagsOf f.kind).map (partBytes f)) (fun j => setPart f ((tagsOf f.kind).getD j (0, 0))) rb fb yb yo cap body bg (tags_len _).2 hB.1 (World.block_lt_of_cell? _ _ hB.2) hq (World.block_lt_of_cell? _ _ (hF 0 hpos).1) hB.2 (fun j hj => ⟨(hF j hj).1, (hF j hj).2.1⟩) (fun j hj => ?_) (fun cur hc j hj => setAll_rng f _ cur hc (tags_last _) j hj) (fun j hj => ?_)
    · obtain ⟨_, _, _, _, h, _⟩ := (hF j hj).2.2.shape
      exact ⟨_, _, h⟩
    · have := part_rd (hF j hj).2.2 f hf (tags_ok f h _ (hmem j hj)) hd hrl rb fb yb yo cap body bg
      have e : ((tagsOf f.kind).map (partBytes f)).getD j [] = partBytes f ((tagsOf f.kind).getD j (0, 0)) := by
        simp [hj]
      rw [e]
      exact this

end Go.Proofs.YtphbledmopchnaaGreatDoor

/-
  What is read of a frame that was written; kindOf.
-/
namespace Go.Proofs.YtphbledmopchnaaGreatDoor
open Go.RowKit Go.Lib Go.Shelf Mm

def frK (k : Int) : Fr := ⟨k, 0, 0, 0, 0, false, 0, 0, ⟨#[]⟩, []⟩
/-- A frame as it is read: what its kind doesn't write is 0. -/
def norm (f : Fr) : Fr := setAll f (tagsOf f.kind) (tagsOf f.kind).length (frK f.kind)

theorem kinds_of {f : Fr} (h : snd f = true) : f.kind = 1 ∨ f.kind = 2 ∨ f.kind = 3 ∨ f.kind = 4 ∨ f.kind = 5 ∨ f.kind = 6 ∨ f.kind = 7 ∨ f.kind = 8 := by
  obtain ⟨_, h1, h8, _⟩ := fit_of f h
  omega

theorem norm_eq (f : Fr) (h : snd f = true) : norm f =
    (if f.kind = 1 then frK 1 else if f.kind = 2 then { frK 2 with ranges := f.ranges } else if f.kind = 3 then { frK 3 with stream := f.stream, offset := f.offset, reliable := f.reliable } else if f.kind = 4 then { frK 4 with fin := f.fin, stream := f.stream, offset := f.offset, data := f.data }
     else if f.kind = 5 then { frK 5 with limit := f.limit } else if f.kind = 6 then { frK 6 with stream := f.stream, limit := f.limit } else if f.kind = 7 then { frK 7 with id := f.id, deadline := f.deadline, data := f.data } else { frK 8 with limit := f.limit }) := by
  unfold norm
  rcases kinds_of h with e | e | e | e | e | e | e | e <;> rw [e] <;> rfl

theorem norm_kind (f : Fr) (h : snd f = true) : (norm f).kind = f.kind := by
  rw [norm_eq f h]
  rcases kinds_of h with e | e | e | e | e | e | e | e <;> rw [e] <;> rfl

theorem norm_snd (f : Fr) (h : snd f = true) : snd (norm f) = true := by
  obtain ⟨⟨s0, s8, n0, n1, n2, n3, n4⟩, _, _, hT⟩ := fit_of f h
  rw [norm_eq f h]
  unfold sndT at hT
  rcases kinds_of h with e | e | e | e | e | e | e | e
  · rw [e]; rfl
  · rw [e] at hT ⊢
    simp only [show ((2 : Int) = 1) = False by decide, if_true, if_false] at hT ⊢
    unfold snd sndN sndT
    simp [frK, hT]
  · rw [e] at hT ⊢
    simp only [show ((3 : Int) = 1) = False by decide, show ((3 : Int) = 2) = False by decide, if_true, if_false] at hT ⊢
    unfold snd sndN sndT
    simp [frK, s0, s8, n0, n1]
    exact of_decide_eq_true hT
  · rw [e] at hT ⊢
    simp only [show ((4 : Int) = 1) = False by decide, show ((4 : Int) = 2) = False by decide, show ((4 : Int) = 3) = False by decide, if_true, if_false] at hT ⊢
    unfold snd sndN sndT
    simp [frK, s0, s8, n0]
    exact of_decide_eq_true hT
  · rw [e]
    simp only [show ((5 : Int) = 1) = False by decide, show ((5 : Int) = 2) = False by decide, show ((5 : Int) = 3) = False by decide, show ((5 : Int) = 4) = False by decide, if_true, if_false]
    unfold snd sndN sndT
    simp [frK, n2]
  · rw [e]
    simp only [show ((6 : Int) = 1) = False by decide, show ((6 : Int) = 2) = False by decide, show ((6 : Int) = 3) = False by decide, show ((6 : Int) = 4) = False by decide, show ((6 : Int) = 5) = False by decide, if_true, if_false]
    unfold snd sndN sndT
    simp [frK, n2, s0, s8]
  · rw [e]
    simp only [show ((7 : Int) = 1) = False by decide, show ((7 : Int) = 2) = False by decide, show ((7 : Int) = 3) = False by decide, show ((7 : Int) = 4) = False by decide, show ((7 : Int) = 5) = False by decide, show ((7 : Int) = 6) = False by decide, if_true, if_false]
    unfold snd sndN sndT
    simp [frK, n3, n4]
  · rw [e]
    simp only [show ((8 : Int) = 1) = False by decide, show ((8 : Int) = 2) = False by decide, show ((8 : Int) = 3) = False by decide, show ((8 : Int) = 4) = False by decide, show ((8 : Int) = 5) = False by decide, show ((8 : Int) = 6) = False by decide, show ((8 : Int) = 7) = False by decide, if_false]
    unfold snd sndN sndT
    simp [frK, n2]

theorem norm_bytes (f : Fr) (h : snd f = true) : frBytes (norm f) = frBytes f := by
  unfold frBytes
  rw [norm_kind f h, norm_eq f h]
  rcases kinds_of h with e | e | e | e | e | e | e | e <;> rw [e] <;> rfl

theorem norm_ok (f : Fr) (h : snd f = true) (ok : FrOk f) : FrOk (norm f) := by
  obtain ⟨r1, d1, k0, s0, ⟨u1, u2, u3, u4, u5⟩, r0⟩ := ok
  rw [norm_eq f h]
  have z : (0 : Nat) < 18446744073709551616 := by decide
  rcases kinds_of h with e | e | e | e | e | e | e | e <;> rw [e]
  · show FrOk ⟨1, 0, 0, 0, 0, false, 0, 0, ⟨#[]⟩, []⟩
    exact ⟨Nat.zero_le _, Nat.zero_le _, ⟨(by decide : (-9223372036854775808 : Int) ≤ 1), (by decide : (1 : Int) ≤ 9223372036854775807)⟩, ⟨(by decide : (-9223372036854775808 : Int) ≤ 0), (by decide : (0 : Int) ≤ 9223372036854775807)⟩, ⟨z, z, z, z, z⟩, fun j hj => absurd hj (Nat.not_lt_zero _)⟩
  · show FrOk ⟨2, 0, 0, 0, 0, false, 0, 0, ⟨#[]⟩, f.ranges⟩
    exact ⟨r1, Nat.zero_le _, ⟨(by decide : (-9223372036854775808 : Int) ≤ 2), (by decide : (2 : Int) ≤ 9223372036854775807)⟩, ⟨(by decide : (-9223372036854775808 : Int) ≤ 0), (by decide : (0 : Int) ≤ 9223372036854775807)⟩, ⟨z, z, z, z, z⟩, r0⟩
  · show FrOk ⟨3, f.stream, f.offset, f.reliable, 0, false, 0, 0, ⟨#[]⟩, []⟩
    exact ⟨Nat.zero_le _, Nat.zero_le _, ⟨(by decide : (-9223372036854775808 : Int) ≤ 3), (by decide : (3 : Int) ≤ 9223372036854775807)⟩, s0, ⟨u1, u2, z, z, z⟩, fun j hj => absurd hj (Nat.not_lt_zero _)⟩
  · show FrOk ⟨4, f.stream, f.offset, 0, 0, f.fin, 0, 0, f.data, []⟩
    exact ⟨Nat.zero_le _, d1, ⟨(by decide : (-9223372036854775808 : Int) ≤ 4), (by decide : (4 : Int) ≤ 9223372036854775807)⟩, s0, ⟨u1, z, z, z, z⟩, fun j hj => absurd hj (Nat.not_lt_zero _)⟩
  · show FrOk ⟨5, 0, 0, 0, f.limit, false, 0, 0, ⟨#[]⟩, []⟩
    exact ⟨Nat.zero_le _, Nat.zero_le _, ⟨(by decide : (-9223372036854775808 : Int) ≤ 5), (by decide : (5 : Int) ≤ 9223372036854775807)⟩, ⟨(by decide : (-9223372036854775808 : Int) ≤ 0), (by decide : (0 : Int) ≤ 9223372036854775807)⟩, ⟨z, z, u3, z, z⟩, fun j hj => absurd hj (Nat.not_lt_zero _)⟩
  · show FrOk ⟨6, f.stream, 0, 0, f.limit, false, 0, 0, ⟨#[]⟩, []⟩
    exact ⟨Nat.zero_le _, Nat.zero_le _, ⟨(by decide : (-9223372036854775808 : Int) ≤ 6), (by decide : (6 : Int) ≤ 9223372036854775807)⟩, s0, ⟨z, z, u3, z, z⟩, fun j hj => absurd hj (Nat.not_lt_zero _)⟩
  · show FrOk ⟨7, 0, 0, 0, 0, false, f.id, f.deadline, f.data, []⟩
    exact ⟨Nat.zero_le _, d1, ⟨(by decide : (-9223372036854775808 : Int) ≤ 7), (by decide : (7 : Int) ≤ 9223372036854775807)⟩, ⟨(by decide : (-9223372036854775808 : Int) ≤ 0), (by decide : (0 : Int) ≤ 9223372036854775807)⟩, ⟨z, z, z, u4, u5⟩, fun j hj => absurd hj (Nat.not_lt_zero _)⟩
  · show FrOk ⟨8, 0, 0, 0, f.limit, false, 0, 0, ⟨#[]⟩, []⟩
    exact ⟨Nat.zero_le _, Nat.zero_le _, ⟨(by decide : (-9223372036854775808 : Int) ≤ 8), (by decide : (8 : Int) ≤ 9223372036854775807)⟩, ⟨(by decide : (-9223372036854775808 : Int) ≤ 0), (by decide : (0 : Int) ≤ 9223372036854775807)⟩, ⟨z, z, u3, z, z⟩, fun j hj => absurd hj (Nat.not_lt_zero _)⟩

theorem kindOf_1 (w : World) : Calls Tryz.prog 215 #[.int .u8 1] w fun e w' => e = .returned (.int .i64 1) ∧ w' = w := by
  go_enter Tryz.func215, Tryz.ntmps215
  go_wp2
  go_ret
  exact ⟨rfl, rfl⟩
theorem kindOf_2 (w : World) : Calls Tryz.prog 215 #[.int .u8 2] w fun e w' => e = .returned (.int .i64 2) ∧ w' = w := by
  go_enter Tryz.func215, Tryz.ntmps215
  go_wp2
  go_ret
  exact ⟨rfl, rfl⟩
theorem kindOf_36 (w : World) : Calls Tryz.prog 215 #[.int .u8 36] w fun e w' => e = .returned (.int .i64 3) ∧ w' = w := by
  go_enter Tryz.func215, Tryz.ntmps215
  go_wp2
  go_ret
  exact ⟨rfl, rfl⟩
theorem kindOf_8 (w : World) : Calls Tryz.prog 215 #[.int .u8 8] w fun e w' => e = .returned (.int .i64 4) ∧ w' = w := by
  go_enter Tryz.func215, Tryz.ntmps215
  go_wp2
  go_ret
  exact ⟨rfl, rfl⟩
theorem kindOf_9 (w : World) : Calls Tryz.prog 215 #[.int .u8 9] w fun e w' => e = .returned (.int .i64 4) ∧ w' = w := by
  go_enter Tryz.func215, Tryz.ntmps215
  go_wp2
  go_ret
  exact ⟨rfl, rfl⟩
theorem kindOf_16 (w : World) : Calls Tryz.prog 215 #[.int .u8 16] w fun e w' => e = .returned (.int .i64 5) ∧ w' = w := by
  go_enter Tryz.func215, Tryz.ntmps215
  go_wp2
  go_ret
  exact ⟨rfl, rfl⟩
theorem kindOf_17 (w : World) : Calls Tryz.prog 215 #[.int .u8 17] w fun e w' => e = .returned (.int .i64 6) ∧ w' = w := by
  go_enter Tryz.func215, Tryz.ntmps215
  go_wp2
  go_ret
  exact ⟨rfl, rfl⟩
theorem kindOf_48 (w : World) : Calls Tryz.prog 215 #[.int .u8 48] w fun e w' => e = .returned (.int .i64 7) ∧ w' = w := by
  go_enter Tryz.func215, Tryz.ntmps215
  go_wp2
  go_ret
  exact ⟨rfl, rfl⟩
theorem kindOf_28 (w : World) : Calls Tryz.prog 215 #[.int .u8 28] w fun e w' => e = .returned (.int .i64 8) ∧ w' = w := by
  go_enter Tryz.func215, Tryz.ntmps215
  go_wp2
  go_ret
  exact ⟨rfl, rfl⟩

/-- A frame's first byte tells its kind. -/
theorem first_byte (f : Fr) (h : snd f = true) : ∃ x t, frBytes f = x :: t ∧ ∀ w, Calls Tryz.prog 215 #[.int .u8 ((x.toNat : Nat) : Int)] w fun e w' => e = .returned (.int .i64 f.kind) ∧ w' = w := by
  have hd : ∀ (l : List (List UInt8)) n, partsTo l (n + 1) = l.getD 0 [] ++ partsFrom l (n + 1) 1 := fun l n => by
    have := partsFrom_step l (n + 1) 0 (by omega)
    rw [partsFrom_zero] at this
    exact this
  unfold frBytes
  rcases kinds_of h with e | e | e | e | e | e | e | e <;> rw [e]
  · exact ⟨1, [], rfl, kindOf_1⟩
  · exact ⟨2, _, hd _ 1, kindOf_2⟩
  · exact ⟨36, _, hd _ 3, kindOf_36⟩
  · cases hf : f.fin
    · refine ⟨8, partsFrom ((tagsOf 4).map (partBytes f)) 4 1, ?_, kindOf_8⟩
      have := hd ((tagsOf 4).map (partBytes f)) 3
      have e2 : ((tagsOf 4).map (partBytes f)).getD 0 [] = [8] := by
        show partBytes f (1, 0) = [8]
        unfold partBytes; rw [hf]; rfl
      rw [e2] at this
      exact this
    · refine ⟨9, partsFrom ((tagsOf 4).map (partBytes f)) 4 1, ?_, kindOf_9⟩
      have := hd ((tagsOf 4).map (partBytes f)) 3
      have e2 : ((tagsOf 4).map (partBytes f)).getD 0 [] = [9] := by
        show partBytes f (1, 0) = [9]
        unfold partBytes; rw [hf]; rfl
      rw [e2] at this
      exact this
  · exact ⟨16, _, hd _ 1, kindOf_16⟩
  · exact ⟨17, _, hd _ 2, kindOf_17⟩
  · exact ⟨48, _, hd _ 3, kindOf_48⟩
  · exact ⟨28, _, hd _ 1, kindOf_28⟩

end Go.Proofs.YtphbledmopchnaaGreatDoor

/-
  readPacket's deferred closure, where nothing was thrown.
-/
namespace Go.Proofs.YtphbledmopchnaaGreatDoor
open Go.RowKit Go.Lib Go.Shelf Mm

theorem catch_idle (p q : Addr) (w : World) :
    CallsD Tryz.prog 160 #[.pointer (some p), .pointer (some q)] .returning w fun e u' w' => e = .returned (.tuple #[]) ∧ u' = .returning ∧ w' = w := by
  have hnil : ∀ w : World, (binOp BinOp.eql 20 .nilIface .nilIface).run Tryz.prog w = .ok (.bool true) w := fun _ => by kernel_rfl
  refine callsD_of_wpS Tryz.func160 rfl fun c₀ cs hu => ?_
  apply wpS_seq
  apply wpS_region
  simp [wpOpsS, go_sem, recoverD, hu, Tryz.ntmps160, Exit.thenS]
  refine wpS_of_wp ?_
  simp [Array.replicate]
  go_wp2
  cases c₀
  simp_all [bodyPostS, results, Tryz.results160]

end Go.Proofs.YtphbledmopchnaaGreatDoor
