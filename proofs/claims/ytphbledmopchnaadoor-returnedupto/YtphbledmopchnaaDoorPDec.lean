/-
  plain.Decode.
-/
import Derived.Test.YtphbledmopchnaaDoorDec
namespace Go.Proofs.YtphbledmopchnaaDoor
open Go.RowKit Go.Lib Go.Shelf Mm

theorem Below.of_drewN {B : Nat} {w w' : World} (h : Below B w w') : ∀ q, Below B w (w'.drewN q) := fun _ => ⟨h.os, h.tape, h.output, h.size, h.block⟩

set_option maxHeartbeats 1000000 in
set_option maxRecDepth 100000 in
theorem plainDecode_any (ok : Bool) (n : Nat) (fs : List Fr) (yb yo cap : Nat) (l : List UInt8) (w : World) (hD : DecP ok n fs l) (hb : BytesAt w (some ⟨yb, yo, none⟩) l) (hlen : l.length ≤ 1000000000) (hpos : 0 < l.length) (hyb : yb < w.heap.size) (hT : TabAt w) (hE : ErrAt w) (h2 : 2 ≤ w.heap.size) (ev : Int) (hev : ev = if ok then 0 else 7) :
    Calls Tryd.prog 5 #[.slice (some ⟨yb, yo, none⟩) l.length cap] w fun e w' => ∃ s err, e = .returned (.tuple #[.agg #[.int .u64 (n : Int), s], .int .i64 ev, .int .i64 (-1)]) ∧ DecR ok n fs w.heap.size w' s err ∧ Below w.heap.size w w' := by
  have HEV := hid hev
  clear hev
  obtain ⟨W0, hW0⟩ : ∃ W0, W0 = w.alloc (.cells #[.int .u64 0, .slice none 0 0] 25) := ⟨_, rfl⟩
  have hs0 : W0.heap.size = w.heap.size + 1 := by rw [hW0]; simp
  have hb0 : Below w.heap.size w W0 := by rw [hW0]; exact (Below.refl _ w).alloc (Nat.le_refl _) _
  have hA0 : Blk W0 w.heap.size 25 [.int .u64 0, .slice none 0 0] := by rw [hW0]; exact Blk.new w 25 _
  have hby0 : BytesAt W0 (some ⟨yb, yo, none⟩) l := hb.of (fun x hx => by simp at hx; subst hx; exact hb0.block _ hyb)
  obtain ⟨v1, W1, run1, hB1, hG1⟩ := run_append_buf (Buf.nil W0) ⟨yb, yo, none⟩ l.length cap l rfl hpos (fun j u hu => by
    have hj : j < l.length := by
      have := (List.getElem?_eq_some_iff.1 hu).1
      rwa [bcells_length] at this
    obtain ⟨b, off, ha, hc⟩ := hby0 j hj
    simp at ha
    obtain ⟨rfl, rfl⟩ := ha
    rw [Addr.add_lit, hc, ← hu]
    simp [bcells, hj]) (by simp; omega)
  rw [List.nil_append] at hB1
  have hO1 : Own W0.heap.size v1 := hG1.own (Own.nil _) (Nat.le_refl _)
  have hb1 : Below W0.heap.size W0 W1 := hG1.below (Own.nil _) (Nat.le_refl _)
  rcases hB1 with ⟨_, hl0⟩ | ⟨g, c1, cs, rfl, hBl, hcl, hc2, hc3, hc4, hc5⟩
  · rw [hl0] at hpos; simp at hpos
  · have hg0 : W0.heap.size ≤ g := hO1 g rfl
    have hg1 := hBl.lt
    have hbw1 : Below w.heap.size w W1 := hb0.trans (hb1.mono (by omega))
    have hby1 : BytesAt W1 (some ⟨g, 0, none⟩) l := fun j hj => by
      refine ⟨g, 0, rfl, ?_⟩
      rw [hBl.cell, Nat.zero_add]
      have : (cs.take l.length)[j]? = (bcells l)[j]? := by rw [hc4]
      rw [List.getElem?_take, if_pos hj] at this
      rw [this]
      simp [bcells, hj]
    have HC := hid (mwDecode_any ok n fs g 0 c1 l W1 hD hby1 hlen hc2 hc3 hg1 (hT.below hbw1 h2) (by omega))
    have HW := hid (And.intro hs0 (And.intro hbw1 (And.intro (hA0.of_heap (hb1.block _ (by omega))) (And.intro hBl (And.intro hg0 hg1)))))
    have HLE : Hid (l.length ≤ cs.length) := by unfold Hid; omega
    have HE := hid hE
    clear hD hb hs0 hb0 hA0 hby0 hb1 hbw1 hby1 hO1 hG1 hBl hcl hc2 hc3 hc4 hc5 hT hE hg0 hg1
    generalize l.length = L at *
    go_enter Tryd.func5, Tryd.ntmps5
    go_wp2_with (at_builtin; rw [← hW0]; refine Lib.wpList_append_run _ rfl _ _ _ _ rfl _ _ rfl rfl _ _ (run1 _) ?_)
    clear hW0
    refine HC.out.mono ?_
    rintro e w2 ⟨s, err, rfl, hR, hb2⟩
    obtain ⟨sa, sn, sc, hs⟩ := hR.shape
    subst hs
    have hes := hR.eshape
    obtain ⟨hs0, hbw1, hA1, hBl, hg0, hg1⟩ := HW.out
    obtain ⟨W3, hW3⟩ : ∃ W3, W3 = w2.alloc (.cells #[.int .u64 (n : Int), .slice sa sn sc] 25) := ⟨_, rfl⟩
    have hs3 : W3.heap.size = w2.heap.size + 1 := by rw [hW3]; simp
    have hb3 : Below w2.heap.size w2 W3 := by rw [hW3]; exact (Below.refl _ _).alloc (Nat.le_refl _) _
    have hP3 : Blk W3 w2.heap.size 25 [.int .u64 (n : Int), .slice sa sn sc] := by rw [hW3]; exact Blk.new w2 25 _
    have hsz2 := hb2.size
    have hB3 : ∀ k, k < W1.heap.size → W3.heap[k]? = W1.heap[k]? := fun k hk => by rw [hb3.block k (by omega), hb2.block k hk]
    have HI0 : Hid (Blk W3 g 5 cs ∧ DecR ok n fs (W1.heap.size + 1) W3 (.slice sa sn sc) err ∧ Below w.heap.size w W3 ∧ Blk W3 w.heap.size 25 [.int .u64 0, .slice none 0 0] ∧ Blk W3 w2.heap.size 25 [.int .u64 (n : Int), .slice sa sn sc]) := by
      refine ⟨hBl.of_heap (hB3 g hg1), hR.of (Nat.le_refl _) (fun b _ hb => hb3.block b hb), (hbw1.trans (hb2.mono (by omega))).trans (hb3.mono (by omega)), hA1.of_heap (hB3 _ (by omega)), hP3⟩
    have HSZ := hid (And.intro hs3 (And.intro hsz2 (And.intro hs0 (And.intro hg0 hg1))))
    clear hR hb2 hs0 hbw1 hA1 hBl hg0 hg1 hs3 hb3 hP3 hsz2 hB3 HW HC run1
    go_wp2_with fail
    rw [← hW3]
    clear hW3
    go_loopw [20] (fun s20 wr => ∃ k : Nat, k ≤ L ∧ s20 = .int .i64 k ∧ Hid (∃ cs', cs'.length = cs.length ∧ Blk wr g 5 cs' ∧ DecR ok n fs (W1.heap.size + 1) wr (.slice sa sn sc) err ∧ Below w.heap.size w wr ∧ Blk wr w.heap.size 25 [.int .u64 0, .slice none 0 0] ∧ Blk wr w2.heap.size 25 [.int .u64 (n : Int), .slice sa sn sc])) (fun s20 _ => L - (intOf s20).toNat)
    case atStart => exact ⟨0, Nat.zero_le _, rfl, cs, rfl, HI0.out⟩
    case round =>
      clear HI0
      obtain ⟨k, hk, rfl, HI⟩ := hrel
      obtain ⟨cs', hl', hBl, hR, hbw, hA, hP⟩ := HI.out
      obtain ⟨hs3, hsz2, hs0, hg0, hg1⟩ := HSZ.out
      have hle := HLE.out
      by_cases hlt : k < L
      · have hlt' : (k : Int) < (L : Int) := by omega
        have t1 := hBl.cell k
        rw [List.getElem?_eq_getElem (by omega)] at t1
        generalize cs'[k]'(by omega) = old at t1
        have z1 := hBl.frozen k
        have hset : ∀ b, b ≠ g → ∀ v, (wr.setCell ⟨g, k, none⟩ v).heap[b]? = wr.heap[b]? := fun b hb v => Below.heap_setCell _ _ _ _ hb
        have HN : Hid (∀ v, ∃ cs', cs'.length = cs.length ∧ Blk (wr.setCell ⟨g, k, none⟩ v) g 5 cs' ∧ DecR ok n fs (W1.heap.size + 1) (wr.setCell ⟨g, k, none⟩ v) (.slice sa sn sc) err ∧ Below w.heap.size w (wr.setCell ⟨g, k, none⟩ v) ∧ Blk (wr.setCell ⟨g, k, none⟩ v) w.heap.size 25 [.int .u64 0, .slice none 0 0] ∧ Blk (wr.setCell ⟨g, k, none⟩ v) w2.heap.size 25 [.int .u64 (n : Int), .slice sa sn sc]) := fun v =>
          ⟨_, by rw [List.length_set]; exact hl', hBl.setCell k v, hR.of (Nat.le_refl _) (fun b h0 _ => hset b (by omega) v), hbw.setCell (p := ⟨g, k, none⟩) (by simp; omega) v, hA.of_heap (hset _ (by omega) v), hP.of_heap (hset _ (by omega) v)⟩
        clear hl' hBl hR hbw hA hP hs3 hsz2 hs0 hg0 hg1 hset HI hle
        go_wp2_with fail
        go_roundw
        case rel => exact ⟨k + 1, by omega, by go_num, HN.out _⟩
        case measure => simp [intOf]; omega
      · obtain rfl : k = L := by omega
        have hErr : ErrAt wr := cell_of HE.out (hbw.block 0 (by omega))
        have hTold : Calls Tryd.prog 12 #[err] wr fun e w' => e = .returned (.tuple #[.int .i64 ev, .int .i64 (-1)]) ∧ Below wr.heap.size wr w' := by
          rw [HEV.out]
          unfold DecR at hR
          cases ok
          · rw [if_neg (by decide)] at hR
            rw [hR.2.2]
            exact told_errno 7 Tryd.eql7 wr hErr
          · rw [if_pos rfl] at hR
            rw [hR.1]
            exact told_nil wr
        have HTOLD := hid hTold
        have HR := hid (And.intro hBl (And.intro hR (And.intro hbw (And.intro hA hP))))
        clear hTold hErr hl' hBl hR hbw hA hP hs3 hsz2 hs0 hg0 hg1 HI hle
        go_wp2_with fail
        refine HTOLD.out.mono ?_
        rintro e w5 ⟨rfl, hb5⟩
        obtain ⟨hBl, hR, hbw, hA, hP⟩ := HR.out
        obtain ⟨hs3, hsz2, hs0, hg0, hg1⟩ := HSZ.out
        have hA5 := hA.of_heap (hb5.block _ hA.lt)
        have hP5 := hP.of_heap (hb5.block _ hP.lt)
        have a0 : w5.cell? ⟨w.heap.size, 0, none⟩ = some (.int .u64 0) := hA5.cell 0
        have a1 : w5.cell? ⟨w.heap.size, 1, none⟩ = some (.slice none 0 0) := hA5.cell 1
        have p0 : w5.cell? ⟨w2.heap.size, 0, none⟩ = some (.int .u64 (n : Int)) := hP5.cell 0
        have p1 : w5.cell? ⟨w2.heap.size, 1, none⟩ = some (.slice sa sn sc) := hP5.cell 1
        have z0 := hA5.frozen 0
        have z1 := hA5.frozen 1
        have hne : ¬ (w2.heap.size = w.heap.size) := by omega
        have HF : Hid (∀ x y : Value, DecR ok n fs w.heap.size ((w5.setCell ⟨w.heap.size, 0, none⟩ x).setCell ⟨w.heap.size, 1, none⟩ y) (.slice sa sn sc) err ∧ Below w.heap.size w ((w5.setCell ⟨w.heap.size, 0, none⟩ x).setCell ⟨w.heap.size, 1, none⟩ y)) := fun x y => by
          refine ⟨hR.of (by omega) (fun b h0 hb => ?_), ((hbw.trans (hb5.mono hbw.size)).setCell (p := ⟨w.heap.size, 0, none⟩) (Nat.le_refl _) _).setCell (p := ⟨w.heap.size, 1, none⟩) (Nat.le_refl _) _⟩
          rw [Below.heap_setCell _ _ _ _ (by simp; omega), Below.heap_setCell _ _ _ _ (by simp; omega), hb5.block b hb]
        clear hBl hR hbw hA hP hs3 hsz2 hs0 hg0 hg1 hA5 hP5 hb5
        go_wp2_with fail
        obtain ⟨f1, f2⟩ := HF.out (.int .u64 (n : Int)) (.slice sa sn sc)
        exact bodyPost_ret (v := .tuple #[.agg #[.int .u64 (n : Int), .slice sa sn sc], .int .i64 ev, .int .i64 (-1)]) (by simp [results, Tryd.results5, go_sem, a0, a1]) rfl ⟨_, err, rfl, f1, f2⟩

end Go.Proofs.YtphbledmopchnaaDoor
