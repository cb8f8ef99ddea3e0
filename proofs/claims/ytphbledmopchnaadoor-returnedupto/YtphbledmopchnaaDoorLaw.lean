/-
  mediawirekeep.Returned: the walk.
-/
import Derived.Test.YtphbledmopchnaaDoorParcel
namespace Go.Proofs.YtphbledmopchnaaDoor
open Go.RowKit Go.Lib Go.Shelf Mm

theorem ErrAt.below {B : Nat} {w w' : World} (h : ErrAt w) (hb : Below B w w') (hB : 0 < B) : ErrAt w' := cell_of h (hb.block 0 hB)

theorem nil_eq (w : World) : (binOp .eql 29 (.slice none 0 0) (.slice none 0 0)).run Tryd.prog w = .ok (.bool true) w := by kernel_rfl

theorem turn_bits (x : UInt8) (r : Nat) (hr : r < 8) : bits .xor .u8 ((x.toNat : Nat) : Int) (2 ^ r % 256) = (((x ^^^ UInt8.ofNat (1 <<< r)).toNat : Nat) : Int) := by
  have e : ((2 : Int) ^ r % (256 : Int)) = (((UInt8.ofNat (1 <<< r)).toNat : Nat) : Int) := by
    have : r = 0 ∨ r = 1 ∨ r = 2 ∨ r = 3 ∨ r = 4 ∨ r = 5 ∨ r = 6 ∨ r = 7 := by omega
    rcases this with rfl | rfl | rfl | rfl | rfl | rfl | rfl | rfl <;> decide
  rw [e, u8_xor_nat _ _ x.toNat_lt (UInt8.toNat_lt _), UInt8.toNat_xor]

theorem turned_at (n : Nat) (fs : List Fr) (l : List UInt8) (hpl : pktBytes n fs = l) (j : Nat) (x y : UInt8) (hx : l[j]? = some x) (hy : x ≠ y) : DecP false 0 [] (l.set j y) := by
  subst hpl
  obtain ⟨h1, h2⟩ := List.getElem?_eq_some_iff.1 hx
  exact turned_bad n fs j y h1 (by rw [h2]; exact hy)

set_option maxHeartbeats 4000000 in
set_option maxRecDepth 100000 in
theorem returned_walk (n : Nat) (fa : Option Addr) (fs : List Fr) (fc : Nat) (ra : Nat → Option Addr) (rc : Nat → Nat) (k : Int) (w : World) (hn : n < 18446744073709551616) (hl : fs.length ≤ 1048576) (hF : FrsW w fa fs ra rc) (hT : TabAt w) (hE : ErrAt w) (h2 : 2 ≤ w.heap.size)
    (hB : (bodyBytes n fs).length ≤ 500000000) (hk : -9223372036854775808 ≤ k) (hk2 : k ≤ 9223372036854775807) :
    Calls Tryd.prog 3 #[.agg #[.int .u64 (n : Int), .slice fa fs.length fc], .int .i64 k] w fun e w' => e = .returned (.bool true) ∧ Below w.heap.size w w' := by
  obtain ⟨W0, hW0⟩ : ∃ W0, W0 = ((w.alloc (.cells #[.int .u64 (n : Int), .slice fa fs.length fc] 25)).alloc (.cells #[.int .i64 4, .int .i64 1, .int .u64 5, .int .u64 0, .int .u64 0, .bool true, .int .u64 0, .int .u64 0, .string ⟨#[97, 98]⟩, .slice none 0 0] 28)).alloc (.cells #[.int .u64 70, .slice (some ⟨w.heap.size + 1, 0, none⟩) 1 1] 25) := ⟨_, rfl⟩
  have hs0 : W0.heap.size = w.heap.size + 3 := by rw [hW0]; simp
  have hb0 : Below w.heap.size w W0 := by rw [hW0]; exact (((Below.refl _ w).alloc (Nat.le_refl _) _).alloc (by simp) _).alloc (by simp; omega) _
  have hA0 : Blk W0 w.heap.size 25 [.int .u64 (n : Int), .slice fa fs.length fc] := by rw [hW0]; exact ((Blk.new w 25 _).alloc _).alloc _
  have hO0 : Blk W0 (w.heap.size + 1) 28 oneCells := by
    rw [hW0]
    refine Blk.alloc ?_ _
    have := Blk.new (w.alloc (.cells #[.int .u64 (n : Int), .slice fa fs.length fc] 25)) 28 oneCells
    simpa [oneCells] using this
  have hT0 := hT.below hb0 h2
  have hE0 : ErrAt W0 := hE.below hb0 (by omega)
  have HONE := hid (one_enc (w.heap.size + 1) W0 hO0 hT0 hE0 (by omega))
  have HW0 := hid (And.intro hs0 (And.intro hb0 (And.intro hA0 (And.intro hT0 (And.intro hE0 hF)))))
  clear hs0 hb0 hA0 hO0 hT0 hE0 hF hT hE
  go_enter Tryd.func3, Tryd.ntmps3
  go_wp2_with fail
  rw [← hW0]
  clear hW0
  refine HONE.out.mono ?_
  rintro e w1 ⟨g1, c1, rfl, hb1⟩
  clear HONE
  have H1 : Hid (Below w.heap.size w w1 ∧ Blk w1 w.heap.size 25 [.int .u64 (n : Int), .slice fa fs.length fc] ∧ TabAt w1 ∧ ErrAt w1 ∧ FrsW w1 fa fs ra rc ∧ w.heap.size + 3 ≤ w1.heap.size) := by
    obtain ⟨hs0, hb0, hA0, hT0, hE0, hF⟩ := HW0.out
    have hb : Below w.heap.size w w1 := hb0.trans (hb1.mono (by omega))
    have := hb1.size
    exact ⟨hb, hA0.of_heap (hb1.block _ (by omega)), hT0.below hb1 (by omega), hE0.below hb1 (by omega), hF.below hb, by omega⟩
  have x0 : w1.cell? ⟨w.heap.size, 0, none⟩ = some (.int .u64 (n : Int)) := H1.out.2.1.cell 0
  have x1 : w1.cell? ⟨w.heap.size, 1, none⟩ = some (.slice fa fs.length fc) := H1.out.2.1.cell 1
  clear HW0 hb1
  by_cases hbig : 1000 < fs.length
  · have hbig' : (1000 : Int) < (fs.length : Int) := by omega
    go_wp2_with fail
    go_ret
    exact ⟨rfl, H1.out.1⟩
  · have hsmall : ¬ (1000 < fs.length) := hbig
    cases hs : sndP n fs with
    | false =>
      have HENC := hid (enc_bad n fa fs fc ra rc w1 (by omega) hn H1.out.2.2.2.2.1 H1.out.2.2.1 H1.out.2.2.2.1 (by have := H1.out.2.2.2.2.2; omega) hs)
      go_wp2_with fail
      refine HENC.out.mono ?_
      rintro e w2 ⟨rfl, hb2⟩
      have HB2 : Hid (Below w.heap.size w w2) := H1.out.1.trans (hb2.mono H1.out.1.size)
      clear hb2
      have hnil := nil_eq
      go_wp2_with fail
      go_ret
      exact ⟨rfl, HB2.out⟩
    | true =>
      obtain ⟨l, hpl⟩ : ∃ l, pktBytes n fs = l := ⟨_, rfl⟩
      have hll : l.length = (bodyBytes n fs).length + 4 := by rw [← hpl]; exact pktBytes_len n fs
      have HENC := hid (enc_good n fa fs fc ra rc w1 (by omega) hn H1.out.2.2.2.2.1 H1.out.2.2.1 H1.out.2.2.2.1 (by have := H1.out.2.2.2.2.2; omega) (by omega) hs fs.length rfl l hpl)
      have hlb : l.length ≤ 600000000 := by omega
      have hlp : 0 < l.length := by omega
      clear hll
      go_wp2_with fail
      refine HENC.out.mono ?_
      rintro e w2 ⟨g2, c2, rfl, hb2, hO2, hg2⟩
      clear HENC
      have H2 : Hid (Below w.heap.size w w2 ∧ Blk w2 w.heap.size 25 [.int .u64 (n : Int), .slice fa fs.length fc] ∧ TabAt w2 ∧ ErrAt w2 ∧ Own0 w2 g2 l ∧ w.heap.size + 3 ≤ w2.heap.size) := by
        obtain ⟨hb1, hA1, hT1, hE1, hF1, hs1⟩ := H1.out
        have := hb2.size
        exact ⟨hb1.trans (hb2.mono hb1.size), hA1.of_heap (hb2.block _ (by omega)), hT1.below hb2 (by omega), hE1.below hb2 (by omega), hO2, by omega⟩
      have HOK := hid (frs_ok H1.out.2.2.2.2.1)
      have HDEC := hid (dec_good n fs g2 c2 l w2 hs HOK.out (by omega) hpl hO2 (by omega) H2.out.2.2.1 H2.out.2.2.2.1 (by have := H2.out.2.2.2.2.2; omega))
      clear hb2 hO2 hg2 x0 x1 H1
      generalize hP : l.length = P at *
      go_wp2_with fail
      refine HDEC.out.mono ?_
      rintro e w3 ⟨sa, sc, ra3, rc3, rfl, hb3, hF3⟩
      clear HDEC
      obtain ⟨hns, hnb, hnp⟩ := norm_pkt n fs hs
      obtain ⟨W4, hW4⟩ : ∃ W4, W4 = w3.alloc (.cells #[.int .u64 (n : Int), .slice sa fs.length sc] 25) := ⟨_, rfl⟩
      have hb4 : Below w3.heap.size w3 W4 := by rw [hW4]; exact (Below.refl _ w3).alloc (Nat.le_refl _) _
      have hs4 : W4.heap.size = w3.heap.size + 1 := by rw [hW4]; simp
      have hQ4 : Blk W4 w3.heap.size 25 [.int .u64 (n : Int), .slice sa fs.length sc] := by rw [hW4]; exact Blk.new w3 25 _
      have hst4 : ∀ b, b < w2.heap.size → W4.heap[b]? = w2.heap[b]? := fun b hb => by rw [hb4.block b (by have := hb3.size; omega), hb3.block b hb]
      have H4 : Hid (Below w.heap.size w W4 ∧ Blk W4 w.heap.size 25 [.int .u64 (n : Int), .slice fa fs.length fc] ∧ TabAt W4 ∧ ErrAt W4 ∧ Own0 W4 g2 l ∧ w.heap.size + 3 ≤ W4.heap.size ∧ FrsW W4 sa (fs.map norm) ra3 rc3) := by
        obtain ⟨hb2, hA2, hT2, hE2, hO2, hs2⟩ := H2.out
        have := hb3.size
        have hb24 : Below w2.heap.size w2 W4 := hb3.trans (hb4.mono (by omega))
        exact ⟨hb2.trans (hb24.mono (by omega)), hA2.of_heap (hst4 _ (by omega)), hT2.below hb24 (by omega), hE2.below hb24 (by omega), hO2.of_heap (hst4 _ hO2.lt), by omega, hF3.below hb4⟩
      have HENC := hid (enc_good n sa (fs.map norm) sc ra3 rc3 W4 (by rw [List.length_map]; omega) hn H4.out.2.2.2.2.2.2 H4.out.2.2.1 H4.out.2.2.2.1 (by have := H4.out.2.2.2.2.2.1; omega) (by rw [hnb]; omega) hns fs.length (by rw [List.length_map]) l (hnp.trans hpl))
      rw [hP] at HENC
      have hA3 := H2.out.2.1.of_heap (hb3.block _ (by have := H2.out.2.2.2.2.2; omega))
      have y0 : w3.cell? ⟨w.heap.size, 0, none⟩ = some (.int .u64 (n : Int)) := hA3.cell 0
      have y1 : w3.cell? ⟨w.heap.size, 1, none⟩ = some (.slice fa fs.length fc) := hA3.cell 1
      have hlt3 := hA3.lt
      have hne3 : ¬ (w.heap.size = w3.heap.size) := by omega
      clear hA3 hb3 hF3 hb4 hs4 hQ4 hst4 hns hnb hnp H2 HOK
      go_wp2_with fail
      rw [← hW4]
      clear hW4
      refine HENC.out.mono ?_
      rintro e w5 ⟨g5, c5, rfl, hb5, hO5, hg5⟩
      clear HENC y0 y1 hlt3 hne3
      have H5 : Hid (Below w.heap.size w w5 ∧ TabAt w5 ∧ ErrAt w5 ∧ Own0 w5 g5 l ∧ 3 ≤ w5.heap.size ∧ w.heap.size ≤ g5) := by
        obtain ⟨hb4, _, hT4, hE4, _, hs4, _⟩ := H4.out
        have := hb5.size
        exact ⟨hb4.trans (hb5.mono (by omega)), hT4.below hb5 (by omega), hE4.below hb5 (by omega), hO5, by omega, by omega⟩
      obtain ⟨S, hS⟩ : ∃ S : ByteArray, S = ⟨l.toArray⟩ := ⟨_, rfl⟩
      have cv5 : (convert 29 9 (.slice (some ⟨g5, 0, none⟩) P c5)).run Tryd.prog w5 = .ok (.string S) w5 := by rw [← hP, hS]; exact hO5.str c5
      have cv2 : (convert 29 9 (.slice (some ⟨g2, 0, none⟩) P c2)).run Tryd.prog w5 = .ok (.string S) w5 := by
        rw [← hP, hS]
        exact (H4.out.2.2.2.2.1.of_heap (hb5.block _ H4.out.2.2.2.2.1.lt)).str c2
      clear hS hb5 hO5 hg5 H4
      obtain ⟨M, hM⟩ : ∃ M : Nat, M = 8 * P := ⟨_, rfl⟩
      have hM2 : (8 : Int) * (P : Int) = (M : Int) := by omega
      have HPICK : Hid (∀ w', Calls Tryd.prog 6 #[.int .i64 k, .int .i64 (8 * (P : Int))] w' fun e w'' => e = .returned (.int .i64 (pickN k M : Nat)) ∧ w'' = w') := fun w' => by
        rw [hM2]
        exact pick_any k M hk hk2 (by omega) (by omega) w'
      have hi := pickN_lt k M (by omega)
      generalize pickN k M = i at *
      have HM := hid hM
      clear hM hM2
      go_wp2_with fail
      refine (HPICK.out _).mono ?_
      rintro e w6 ⟨rfl, rfl⟩
      clear HPICK cv2 cv5
      obtain ⟨j, hj⟩ : ∃ j : Nat, j = i / 8 := ⟨_, rfl⟩
      obtain ⟨r, hr⟩ : ∃ r : Nat, r = i % 8 := ⟨_, rfl⟩
      have hjP : j < P := by have := HM.out; omega
      have hjl : j < l.length := by omega
      have e1 : (i : Int) / 8 = (j : Int) := by omega
      have e2 : (i : Int) % 8 = (r : Int) := by omega
      have hr8 : r < 8 := by omega
      have z5 : w6.cell? ⟨g5, j, none⟩ = some (.int .u8 ((l[j].toNat : Nat) : Int)) := H5.out.2.2.2.1.cell j hjl
      have f5 := H5.out.2.2.2.1.frozen j
      obtain ⟨x, hx⟩ : ∃ x, x = l[j] := ⟨_, rfl⟩
      rw [← hx] at z5
      have hi' : (i : Int) < 4800000000 := by have := HM.out; omega
      have HI : Hid (l[j]? = some x ∧ r < 8) := ⟨by rw [List.getElem?_eq_getElem hjl, hx], hr8⟩
      clear hj hr hjl hx hi
      go_wp2_with fail
      rw [turn_bits x r hr8]
      obtain ⟨y, hy⟩ : ∃ y, y = x ^^^ UInt8.ofNat (1 <<< r) := ⟨_, rfl⟩
      rw [← hy]
      have hne : x ≠ y := by rw [hy]; exact bit_ne x r hr8
      obtain ⟨hb5, hT5, hE5, hO5, hs5, hg5⟩ := H5.out
      have hbs : Below 2 w6 (w6.setCell ⟨g5, j, none⟩ (.int .u8 ((y.toNat : Nat) : Int))) := (Below.refl 2 w6).setCell (p := ⟨g5, j, none⟩) (by show 2 ≤ g5; omega) _
      have HDB := hid (dec_bad g5 c5 (l.set j y) (w6.setCell ⟨g5, j, none⟩ (.int .u8 ((y.toNat : Nat) : Int))) (turned_at n fs l hpl j x y HI.out.1 hne) (hO5.set j y) (by rw [List.length_set]; omega) (by rw [List.length_set]; omega) (hT5.below hbs (Nat.le_refl 2)) (hE5.below hbs (by omega)) (by have := hbs.size; omega) P (by rw [List.length_set]; exact hP))
      have HBS : Hid (Below w.heap.size w (w6.setCell ⟨g5, j, none⟩ (.int .u8 ((y.toNat : Nat) : Int)))) := hb5.setCell (p := ⟨g5, j, none⟩) hg5 _
      clear hb5 hT5 hE5 hO5 hs5 hg5 hbs hne hy z5 f5 H5
      generalize w6.setCell ⟨g5, j, none⟩ (.int .u8 ((y.toNat : Nat) : Int)) = W7 at *
      refine HDB.out.mono ?_
      rintro e w8 ⟨rfl, hb8⟩
      have HB8 : Hid (Below w.heap.size w w8) := HBS.out.trans (hb8.mono HBS.out.size)
      clear hb8
      go_wp2_with fail
      go_ret
      exact ⟨rfl, HB8.out⟩
end Go.Proofs.YtphbledmopchnaaDoor
