import Derived.Test.YtphbledmopchnaaGreatDoorQd
/-
  The document's reader: frames, by their first byte. (Written by a program of ours: wip/gen_frames.py.)
-/
namespace Go.Proofs.YtphbledmopchnaaGreatDoor
open Go.RowKit Go.Lib Mm

set_option maxHeartbeats 4000000 in
set_option maxRecDepth 100000 in
theorem rframe_17 (rb b off : Nat) (l : List UInt8) (c p : Nat) (w : World) (h : RRd w rb (some ⟨b, off, none⟩) l c p false) (hl : l.length ≤ 1000000000) (hp : p < l.length) (hX : w.cell? ⟨b, off + p, none⟩ = some (.int .u8 17)) (V1 : Nat) (q1 : Nat) (B1 : Bool) (v1 : V1 < 8) (C1 : ∀ Y, RRd Y rb (some ⟨b, off, none⟩) l c (p + 1) false → Calls Tryz.prog 74 #[.pointer (some ⟨rb, 0, none⟩)] Y fun e w' => e = .returned (.int .i64 (V1 : Int)) ∧ RRd w' rb (some ⟨b, off, none⟩) l c q1 B1 ∧ Alone rb Y w') (V2 : Nat) (q2 : Nat) (B2 : Bool) (v2 : V2 < 4611686018427387904) (C2 : ∀ Y, RRd Y rb (some ⟨b, off, none⟩) l c q1 B1 → Calls Tryz.prog 44 #[.pointer (some ⟨rb, 0, none⟩)] Y fun e w' => e = .returned (.int .u64 (V2 : Int)) ∧ RRd w' rb (some ⟨b, off, none⟩) l c q2 B2 ∧ Alone rb Y w') :
    Calls Tryz.prog 45 #[.pointer (some ⟨rb, 0, none⟩)] w (FrPost rb (some ⟨b, off, none⟩) l c (frFin (⟨6, (V1 : Int), 0, 0, V2, false, 0, 0, ⟨#[]⟩, []⟩ : Fr) q2 B2) w) := by
  have c0 : w.cell? ⟨rb, 0, none⟩ = some (.slice (some ⟨b, off, none⟩) l.length c) := h.blk.cell 0
  have c1 : w.cell? ⟨rb, 1, none⟩ = some (.int .i64 (p : Int)) := h.blk.cell 1
  have f1 := h.blk.frozen 1
  have hrb := h.blk.lt
  have hbl : b < w.heap.size := World.block_lt_of_cell? _ _ hX
  have hne : ¬ (rb = w.heap.size) := by omega
  have hne1 : ¬ (rb = w.heap.size + 1) := by omega
  have hne2 : ¬ (b = w.heap.size) := by omega
  have hp' : (p : Int) < (l.length : Int) := by omega
  have H := hid h
  have HBY := hid h.by_
  have HP := hid hp
  clear h hp
  have HC1 := hid C1
  clear C1
  have HC2 := hid C2
  clear C2
  obtain ⟨D, hD⟩ : ∃ D, D = frFin (⟨6, (V1 : Int), 0, 0, V2, false, 0, 0, ⟨#[]⟩, []⟩ : Fr) q2 B2 := ⟨_, rfl⟩
  rw [← hD]
  have HD := hid hD
  clear hD
  go_enter Tryz.func45, Tryz.ntmps45
  go_wp2_with fail
  go_quiet (fail)
  go_wp2_with fail
  obtain ⟨W0, hW0⟩ : ∃ W0, W0 = ((((w.alloc (.cells #[.int .i64 0, .int .i64 0, .int .u64 0, .int .u64 0, .int .u64 0, .bool false, .int .u64 0, .int .u64 0, .string ⟨#[]⟩, .slice none 0 0] 65)).drewN nq).setCell ⟨rb, 1, none⟩ (.int .i64 ((p : Int) + 1))).alloc (.cells #[.int .i64 6, .int .i64 0, .int .u64 0, .int .u64 0, .int .u64 0, .bool false, .int .u64 0, .int .u64 0, .string ⟨#[]⟩, .slice none 0 0] 65)) := ⟨_, rfl⟩
  rw [← hW0]
  have HG0 : Hid (FrSt w rb (some ⟨b, off, none⟩) l c W0 (p + 1) false (⟨6, 0, 0, 0, 0, false, 0, 0, ⟨#[]⟩, []⟩ : Fr) (.slice none 0 0)) := FrSt.start H.out HP.out nq 6 (by decide) false W0 hW0
  clear hW0 c0 c1 f1 hX H HP
  refine (HC1.out _ HG0.out.rd).mono ?_
  rintro e y1 ⟨rfl, h1, k1⟩
  have hg1 := HG0.out.read h1 k1 hrb
  have HG1 : Hid (FrSt w rb (some ⟨b, off, none⟩) l c (y1.setCell ⟨w.heap.size + 1, 1, none⟩ (.int .i64 (V1 : Int))) q1 B1 (⟨6, (V1 : Int), 0, 0, 0, false, 0, 0, ⟨#[]⟩, []⟩ : Fr) (.slice none 0 0)) := hg1.field hrb HBY.out 1 _ rfl rfl ⟨hg1.ok.rlen, hg1.ok.dlen, hg1.ok.k0, ⟨show -9223372036854775808 ≤ (V1 : Int) by omega, show (V1 : Int) ≤ 9223372036854775807 by omega⟩, hg1.ok.u0, hg1.ok.r0⟩
  have x1 : y1.cell? ⟨w.heap.size + 1, 1, none⟩ = some (.int .i64 0) := hg1.fr.cell 1
  have z1 := hg1.fr.frozen 1
  clear hg1 h1 k1 HG0
  go_wp2_with fail
  clear x1 z1
  refine (HC2.out _ HG1.out.rd).mono ?_
  rintro e y2 ⟨rfl, h2, k2⟩
  have hg2 := HG1.out.read h2 k2 hrb
  have HG2 : Hid (FrSt w rb (some ⟨b, off, none⟩) l c (y2.setCell ⟨w.heap.size + 1, 4, none⟩ (.int .u64 (V2 : Int))) q2 B2 (⟨6, (V1 : Int), 0, 0, V2, false, 0, 0, ⟨#[]⟩, []⟩ : Fr) (.slice none 0 0)) := hg2.field hrb HBY.out 4 _ rfl rfl ⟨hg2.ok.rlen, hg2.ok.dlen, hg2.ok.k0, hg2.ok.s0, ⟨hg2.ok.u0.1, hg2.ok.u0.2.1, (show V2 < 18446744073709551616 by omega), hg2.ok.u0.2.2.2⟩, hg2.ok.r0⟩
  have c2 : y2.cell? ⟨rb, 2, none⟩ = some (.bool B2) := hg2.rd.blk.cell 2
  have f2 := hg2.rd.blk.frozen 2
  have x0 : y2.cell? ⟨w.heap.size + 1, 0, none⟩ = some (.int .i64 6) := hg2.fr.cell 0
  have x1 : y2.cell? ⟨w.heap.size + 1, 1, none⟩ = some (.int .i64 (V1 : Int)) := hg2.fr.cell 1
  have x2 : y2.cell? ⟨w.heap.size + 1, 2, none⟩ = some (.int .u64 0) := hg2.fr.cell 2
  have x3 : y2.cell? ⟨w.heap.size + 1, 3, none⟩ = some (.int .u64 0) := hg2.fr.cell 3
  have x4 : y2.cell? ⟨w.heap.size + 1, 4, none⟩ = some (.int .u64 0) := hg2.fr.cell 4
  have x5 : y2.cell? ⟨w.heap.size + 1, 5, none⟩ = some (.bool false) := hg2.fr.cell 5
  have x6 : y2.cell? ⟨w.heap.size + 1, 6, none⟩ = some (.int .u64 0) := hg2.fr.cell 6
  have x7 : y2.cell? ⟨w.heap.size + 1, 7, none⟩ = some (.int .u64 0) := hg2.fr.cell 7
  have x8 : y2.cell? ⟨w.heap.size + 1, 8, none⟩ = some (.string ⟨#[]⟩) := hg2.fr.cell 8
  have x9 : y2.cell? ⟨w.heap.size + 1, 9, none⟩ = some (.slice none 0 0) := hg2.fr.cell 9
  have z4 := hg2.fr.frozen 4
  have r0 : y2.cell? ⟨w.heap.size, 0, none⟩ = some (.int .i64 0) := hg2.re.cell 0
  have r1 : y2.cell? ⟨w.heap.size, 1, none⟩ = some (.int .i64 0) := hg2.re.cell 1
  have r2 : y2.cell? ⟨w.heap.size, 2, none⟩ = some (.int .u64 0) := hg2.re.cell 2
  have r3 : y2.cell? ⟨w.heap.size, 3, none⟩ = some (.int .u64 0) := hg2.re.cell 3
  have r4 : y2.cell? ⟨w.heap.size, 4, none⟩ = some (.int .u64 0) := hg2.re.cell 4
  have r5 : y2.cell? ⟨w.heap.size, 5, none⟩ = some (.bool false) := hg2.re.cell 5
  have r6 : y2.cell? ⟨w.heap.size, 6, none⟩ = some (.int .u64 0) := hg2.re.cell 6
  have r7 : y2.cell? ⟨w.heap.size, 7, none⟩ = some (.int .u64 0) := hg2.re.cell 7
  have r8 : y2.cell? ⟨w.heap.size, 8, none⟩ = some (.string ⟨#[]⟩) := hg2.re.cell 8
  have r9 : y2.cell? ⟨w.heap.size, 9, none⟩ = some (.slice none 0 0) := hg2.re.cell 9
  have zr := fun o => hg2.re.frozen o
  clear hg2 h2 k2 HG1
  cases B2 with
  | true =>
    go_wp2_with fail
    rw [put10_eq]
    have hBf := put10_blk HG2.out.re (.int .i64 6) (.int .i64 (V1 : Int)) (.int .u64 0) (.int .u64 0) (.int .u64 (V2 : Int)) (.bool false) (.int .u64 0) (.int .u64 0) (.string ⟨#[]⟩) (.slice none 0 0)
    have hTf := put10_touch (y2.setCell ⟨w.heap.size + 1, 4, none⟩ (.int .u64 (V2 : Int))) w.heap.size (.int .i64 6) (.int .i64 (V1 : Int)) (.int .u64 0) (.int .u64 0) (.int .u64 (V2 : Int)) (.bool false) (.int .u64 0) (.int .u64 0) (.string ⟨#[]⟩) (.slice none 0 0)
    generalize put10 (y2.setCell ⟨w.heap.size + 1, 4, none⟩ (.int .u64 (V2 : Int))) w.heap.size (.int .i64 6) (.int .i64 (V1 : Int)) (.int .u64 0) (.int .u64 0) (.int .u64 (V2 : Int)) (.bool false) (.int .u64 0) (.int .u64 0) (.string ⟨#[]⟩) (.slice none 0 0) = Wf at *
    have a0 := hBf.cell 0
    have a1 := hBf.cell 1
    have a2 := hBf.cell 2
    have a3 := hBf.cell 3
    have a4 := hBf.cell 4
    have a5 := hBf.cell 5
    have a6 := hBf.cell 6
    have a7 := hBf.cell 7
    have a8 := hBf.cell 8
    have a9 := hBf.cell 9
    simp only [List.getElem?_cons_zero, List.getElem?_cons_succ] at a0 a1 a2 a3 a4 a5 a6 a7 a8 a9
    exact bodyPost_ret (v := frV (⟨6, (V1 : Int), 0, 0, V2, false, 0, 0, ⟨#[]⟩, []⟩ : Fr) (.slice none 0 0)) (by simp [results, Tryz.results45, go_sem, a0, a1, a2, a3, a4, a5, a6, a7, a8, a9, frV]) rfl (HG2.out.shut hrb HBY.out hTf D (by rw [HD.out]; rfl))
  | false =>
    go_wp2_with fail
    refine (rsound_any (⟨6, (V1 : Int), 0, 0, V2, false, 0, 0, ⟨#[]⟩, []⟩ : Fr) none 0 _ HG2.out.ok (fun j hj => absurd hj (Nat.not_lt_zero _))).mono ?_
    rintro e yz ⟨rfl, hbz⟩
    have hgz := HG2.out.below hbz
    clear c2 f2 z4 zr x0 r0 x1 r1 x2 r2 x3 r3 x4 r4 x5 r5 x6 r6 x7 r7 x8 r8 x9 r9
    have c2 : yz.cell? ⟨rb, 2, none⟩ = some (.bool false) := hgz.rd.blk.cell 2
    have f2 := hgz.rd.blk.frozen 2
    have x0 : yz.cell? ⟨w.heap.size + 1, 0, none⟩ = some (.int .i64 6) := hgz.fr.cell 0
    have x1 : yz.cell? ⟨w.heap.size + 1, 1, none⟩ = some (.int .i64 (V1 : Int)) := hgz.fr.cell 1
    have x2 : yz.cell? ⟨w.heap.size + 1, 2, none⟩ = some (.int .u64 0) := hgz.fr.cell 2
    have x3 : yz.cell? ⟨w.heap.size + 1, 3, none⟩ = some (.int .u64 0) := hgz.fr.cell 3
    have x4 : yz.cell? ⟨w.heap.size + 1, 4, none⟩ = some (.int .u64 (V2 : Int)) := hgz.fr.cell 4
    have x5 : yz.cell? ⟨w.heap.size + 1, 5, none⟩ = some (.bool false) := hgz.fr.cell 5
    have x6 : yz.cell? ⟨w.heap.size + 1, 6, none⟩ = some (.int .u64 0) := hgz.fr.cell 6
    have x7 : yz.cell? ⟨w.heap.size + 1, 7, none⟩ = some (.int .u64 0) := hgz.fr.cell 7
    have x8 : yz.cell? ⟨w.heap.size + 1, 8, none⟩ = some (.string ⟨#[]⟩) := hgz.fr.cell 8
    have x9 : yz.cell? ⟨w.heap.size + 1, 9, none⟩ = some (.slice none 0 0) := hgz.fr.cell 9
    have r0 : yz.cell? ⟨w.heap.size, 0, none⟩ = some (.int .i64 0) := hgz.re.cell 0
    have r1 : yz.cell? ⟨w.heap.size, 1, none⟩ = some (.int .i64 0) := hgz.re.cell 1
    have r2 : yz.cell? ⟨w.heap.size, 2, none⟩ = some (.int .u64 0) := hgz.re.cell 2
    have r3 : yz.cell? ⟨w.heap.size, 3, none⟩ = some (.int .u64 0) := hgz.re.cell 3
    have r4 : yz.cell? ⟨w.heap.size, 4, none⟩ = some (.int .u64 0) := hgz.re.cell 4
    have r5 : yz.cell? ⟨w.heap.size, 5, none⟩ = some (.bool false) := hgz.re.cell 5
    have r6 : yz.cell? ⟨w.heap.size, 6, none⟩ = some (.int .u64 0) := hgz.re.cell 6
    have r7 : yz.cell? ⟨w.heap.size, 7, none⟩ = some (.int .u64 0) := hgz.re.cell 7
    have r8 : yz.cell? ⟨w.heap.size, 8, none⟩ = some (.string ⟨#[]⟩) := hgz.re.cell 8
    have r9 : yz.cell? ⟨w.heap.size, 9, none⟩ = some (.slice none 0 0) := hgz.re.cell 9
    have zr := fun o => hgz.re.frozen o
    have HGZ := hid hgz
    have HD2 : Hid (D = if !(snd (⟨6, (V1 : Int), 0, 0, V2, false, 0, 0, ⟨#[]⟩, []⟩ : Fr)) then none else some ((⟨6, (V1 : Int), 0, 0, V2, false, 0, 0, ⟨#[]⟩, []⟩ : Fr), q2)) := by unfold Hid; rw [HD.out]; rfl
    clear hgz hbz HG2 HD
    generalize snd (⟨6, (V1 : Int), 0, 0, V2, false, 0, 0, ⟨#[]⟩, []⟩ : Fr) = SS at *
    go_wp2_with fail
    rw [put10_eq]
    have hBf := put10_blk (HGZ.out.flag hrb (!SS)).re (.int .i64 6) (.int .i64 (V1 : Int)) (.int .u64 0) (.int .u64 0) (.int .u64 (V2 : Int)) (.bool false) (.int .u64 0) (.int .u64 0) (.string ⟨#[]⟩) (.slice none 0 0)
    have hTf := put10_touch (yz.setCell ⟨rb, 2, none⟩ (.bool (!SS))) w.heap.size (.int .i64 6) (.int .i64 (V1 : Int)) (.int .u64 0) (.int .u64 0) (.int .u64 (V2 : Int)) (.bool false) (.int .u64 0) (.int .u64 0) (.string ⟨#[]⟩) (.slice none 0 0)
    generalize put10 (yz.setCell ⟨rb, 2, none⟩ (.bool (!SS))) w.heap.size (.int .i64 6) (.int .i64 (V1 : Int)) (.int .u64 0) (.int .u64 0) (.int .u64 (V2 : Int)) (.bool false) (.int .u64 0) (.int .u64 0) (.string ⟨#[]⟩) (.slice none 0 0) = Wf at *
    have a0 := hBf.cell 0
    have a1 := hBf.cell 1
    have a2 := hBf.cell 2
    have a3 := hBf.cell 3
    have a4 := hBf.cell 4
    have a5 := hBf.cell 5
    have a6 := hBf.cell 6
    have a7 := hBf.cell 7
    have a8 := hBf.cell 8
    have a9 := hBf.cell 9
    simp only [List.getElem?_cons_zero, List.getElem?_cons_succ] at a0 a1 a2 a3 a4 a5 a6 a7 a8 a9
    exact bodyPost_ret (v := frV (⟨6, (V1 : Int), 0, 0, V2, false, 0, 0, ⟨#[]⟩, []⟩ : Fr) (.slice none 0 0)) (by simp [results, Tryz.results45, go_sem, a0, a1, a2, a3, a4, a5, a6, a7, a8, a9, frV]) rfl ((HGZ.out.flag hrb (!SS)).shut hrb HBY.out hTf D HD2.out)

set_option maxHeartbeats 4000000 in
set_option maxRecDepth 100000 in
theorem rframe_48 (rb b off : Nat) (l : List UInt8) (c p : Nat) (w : World) (h : RRd w rb (some ⟨b, off, none⟩) l c p false) (hl : l.length ≤ 1000000000) (hp : p < l.length) (hX : w.cell? ⟨b, off + p, none⟩ = some (.int .u8 48)) (V1 : Nat) (q1 : Nat) (B1 : Bool) (v1 : V1 < 4611686018427387904) (C1 : ∀ Y, RRd Y rb (some ⟨b, off, none⟩) l c (p + 1) false → Calls Tryz.prog 44 #[.pointer (some ⟨rb, 0, none⟩)] Y fun e w' => e = .returned (.int .u64 (V1 : Int)) ∧ RRd w' rb (some ⟨b, off, none⟩) l c q1 B1 ∧ Alone rb Y w') (V2 : Nat) (q2 : Nat) (B2 : Bool) (v2 : V2 < 4611686018427387904) (C2 : ∀ Y, RRd Y rb (some ⟨b, off, none⟩) l c q1 B1 → Calls Tryz.prog 44 #[.pointer (some ⟨rb, 0, none⟩)] Y fun e w' => e = .returned (.int .u64 (V2 : Int)) ∧ RRd w' rb (some ⟨b, off, none⟩) l c q2 B2 ∧ Alone rb Y w') (V3 : ByteArray) (q3 : Nat) (B3 : Bool) (v3 : V3.size ≤ 1000000000) (C3 : ∀ Y, RRd Y rb (some ⟨b, off, none⟩) l c q2 B2 → Calls Tryz.prog 75 #[.pointer (some ⟨rb, 0, none⟩)] Y fun e w' => e = .returned (.string V3) ∧ RRd w' rb (some ⟨b, off, none⟩) l c q3 B3 ∧ Alone rb Y w') :
    Calls Tryz.prog 45 #[.pointer (some ⟨rb, 0, none⟩)] w (FrPost rb (some ⟨b, off, none⟩) l c (frFin (⟨7, 0, 0, 0, 0, false, V1, V2, V3, []⟩ : Fr) q3 B3) w) := by
  have c0 : w.cell? ⟨rb, 0, none⟩ = some (.slice (some ⟨b, off, none⟩) l.length c) := h.blk.cell 0
  have c1 : w.cell? ⟨rb, 1, none⟩ = some (.int .i64 (p : Int)) := h.blk.cell 1
  have f1 := h.blk.frozen 1
  have hrb := h.blk.lt
  have hbl : b < w.heap.size := World.block_lt_of_cell? _ _ hX
  have hne : ¬ (rb = w.heap.size) := by omega
  have hne1 : ¬ (rb = w.heap.size + 1) := by omega
  have hne2 : ¬ (b = w.heap.size) := by omega
  have hp' : (p : Int) < (l.length : Int) := by omega
  have H := hid h
  have HBY := hid h.by_
  have HP := hid hp
  clear h hp
  have HC1 := hid C1
  clear C1
  have HC2 := hid C2
  clear C2
  have HC3 := hid C3
  clear C3
  obtain ⟨D, hD⟩ : ∃ D, D = frFin (⟨7, 0, 0, 0, 0, false, V1, V2, V3, []⟩ : Fr) q3 B3 := ⟨_, rfl⟩
  rw [← hD]
  have HD := hid hD
  clear hD
  go_enter Tryz.func45, Tryz.ntmps45
  go_wp2_with fail
  go_quiet (fail)
  go_wp2_with fail
  obtain ⟨W0, hW0⟩ : ∃ W0, W0 = ((((w.alloc (.cells #[.int .i64 0, .int .i64 0, .int .u64 0, .int .u64 0, .int .u64 0, .bool false, .int .u64 0, .int .u64 0, .string ⟨#[]⟩, .slice none 0 0] 65)).drewN nq).setCell ⟨rb, 1, none⟩ (.int .i64 ((p : Int) + 1))).alloc (.cells #[.int .i64 7, .int .i64 0, .int .u64 0, .int .u64 0, .int .u64 0, .bool false, .int .u64 0, .int .u64 0, .string ⟨#[]⟩, .slice none 0 0] 65)) := ⟨_, rfl⟩
  rw [← hW0]
  have HG0 : Hid (FrSt w rb (some ⟨b, off, none⟩) l c W0 (p + 1) false (⟨7, 0, 0, 0, 0, false, 0, 0, ⟨#[]⟩, []⟩ : Fr) (.slice none 0 0)) := FrSt.start H.out HP.out nq 7 (by decide) false W0 hW0
  clear hW0 c0 c1 f1 hX H HP
  refine (HC1.out _ HG0.out.rd).mono ?_
  rintro e y1 ⟨rfl, h1, k1⟩
  have hg1 := HG0.out.read h1 k1 hrb
  have HG1 : Hid (FrSt w rb (some ⟨b, off, none⟩) l c (y1.setCell ⟨w.heap.size + 1, 6, none⟩ (.int .u64 (V1 : Int))) q1 B1 (⟨7, 0, 0, 0, 0, false, V1, 0, ⟨#[]⟩, []⟩ : Fr) (.slice none 0 0)) := hg1.field hrb HBY.out 6 _ rfl rfl ⟨hg1.ok.rlen, hg1.ok.dlen, hg1.ok.k0, hg1.ok.s0, ⟨hg1.ok.u0.1, hg1.ok.u0.2.1, hg1.ok.u0.2.2.1, (show V1 < 18446744073709551616 by omega), hg1.ok.u0.2.2.2.2⟩, hg1.ok.r0⟩
  have x6 : y1.cell? ⟨w.heap.size + 1, 6, none⟩ = some (.int .u64 0) := hg1.fr.cell 6
  have z6 := hg1.fr.frozen 6
  clear hg1 h1 k1 HG0
  go_wp2_with fail
  clear x6 z6
  refine (HC2.out _ HG1.out.rd).mono ?_
  rintro e y2 ⟨rfl, h2, k2⟩
  have hg2 := HG1.out.read h2 k2 hrb
  have HG2 : Hid (FrSt w rb (some ⟨b, off, none⟩) l c (y2.setCell ⟨w.heap.size + 1, 7, none⟩ (.int .u64 (V2 : Int))) q2 B2 (⟨7, 0, 0, 0, 0, false, V1, V2, ⟨#[]⟩, []⟩ : Fr) (.slice none 0 0)) := hg2.field hrb HBY.out 7 _ rfl rfl ⟨hg2.ok.rlen, hg2.ok.dlen, hg2.ok.k0, hg2.ok.s0, ⟨hg2.ok.u0.1, hg2.ok.u0.2.1, hg2.ok.u0.2.2.1, hg2.ok.u0.2.2.2.1, (show V2 < 18446744073709551616 by omega)⟩, hg2.ok.r0⟩
  have x7 : y2.cell? ⟨w.heap.size + 1, 7, none⟩ = some (.int .u64 0) := hg2.fr.cell 7
  have z7 := hg2.fr.frozen 7
  clear hg2 h2 k2 HG1
  go_wp2_with fail
  clear x7 z7
  refine (HC3.out _ HG2.out.rd).mono ?_
  rintro e y3 ⟨rfl, h3, k3⟩
  have hg3 := HG2.out.read h3 k3 hrb
  have HG3 : Hid (FrSt w rb (some ⟨b, off, none⟩) l c (y3.setCell ⟨w.heap.size + 1, 8, none⟩ (.string V3)) q3 B3 (⟨7, 0, 0, 0, 0, false, V1, V2, V3, []⟩ : Fr) (.slice none 0 0)) := hg3.field hrb HBY.out 8 _ rfl rfl ⟨hg3.ok.rlen, v3, hg3.ok.k0, hg3.ok.s0, hg3.ok.u0, hg3.ok.r0⟩
  have c2 : y3.cell? ⟨rb, 2, none⟩ = some (.bool B3) := hg3.rd.blk.cell 2
  have f2 := hg3.rd.blk.frozen 2
  have x0 : y3.cell? ⟨w.heap.size + 1, 0, none⟩ = some (.int .i64 7) := hg3.fr.cell 0
  have x1 : y3.cell? ⟨w.heap.size + 1, 1, none⟩ = some (.int .i64 0) := hg3.fr.cell 1
  have x2 : y3.cell? ⟨w.heap.size + 1, 2, none⟩ = some (.int .u64 0) := hg3.fr.cell 2
  have x3 : y3.cell? ⟨w.heap.size + 1, 3, none⟩ = some (.int .u64 0) := hg3.fr.cell 3
  have x4 : y3.cell? ⟨w.heap.size + 1, 4, none⟩ = some (.int .u64 0) := hg3.fr.cell 4
  have x5 : y3.cell? ⟨w.heap.size + 1, 5, none⟩ = some (.bool false) := hg3.fr.cell 5
  have x6 : y3.cell? ⟨w.heap.size + 1, 6, none⟩ = some (.int .u64 (V1 : Int)) := hg3.fr.cell 6
  have x7 : y3.cell? ⟨w.heap.size + 1, 7, none⟩ = some (.int .u64 (V2 : Int)) := hg3.fr.cell 7
  have x8 : y3.cell? ⟨w.heap.size + 1, 8, none⟩ = some (.string ⟨#[]⟩) := hg3.fr.cell 8
  have x9 : y3.cell? ⟨w.heap.size + 1, 9, none⟩ = some (.slice none 0 0) := hg3.fr.cell 9
  have z8 := hg3.fr.frozen 8
  have r0 : y3.cell? ⟨w.heap.size, 0, none⟩ = some (.int .i64 0) := hg3.re.cell 0
  have r1 : y3.cell? ⟨w.heap.size, 1, none⟩ = some (.int .i64 0) := hg3.re.cell 1
  have r2 : y3.cell? ⟨w.heap.size, 2, none⟩ = some (.int .u64 0) := hg3.re.cell 2
  have r3 : y3.cell? ⟨w.heap.size, 3, none⟩ = some (.int .u64 0) := hg3.re.cell 3
  have r4 : y3.cell? ⟨w.heap.size, 4, none⟩ = some (.int .u64 0) := hg3.re.cell 4
  have r5 : y3.cell? ⟨w.heap.size, 5, none⟩ = some (.bool false) := hg3.re.cell 5
  have r6 : y3.cell? ⟨w.heap.size, 6, none⟩ = some (.int .u64 0) := hg3.re.cell 6
  have r7 : y3.cell? ⟨w.heap.size, 7, none⟩ = some (.int .u64 0) := hg3.re.cell 7
  have r8 : y3.cell? ⟨w.heap.size, 8, none⟩ = some (.string ⟨#[]⟩) := hg3.re.cell 8
  have r9 : y3.cell? ⟨w.heap.size, 9, none⟩ = some (.slice none 0 0) := hg3.re.cell 9
  have zr := fun o => hg3.re.frozen o
  clear hg3 h3 k3 HG2
  cases B3 with
  | true =>
    go_wp2_with fail
    rw [put10_eq]
    have hBf := put10_blk HG3.out.re (.int .i64 7) (.int .i64 0) (.int .u64 0) (.int .u64 0) (.int .u64 0) (.bool false) (.int .u64 (V1 : Int)) (.int .u64 (V2 : Int)) (.string V3) (.slice none 0 0)
    have hTf := put10_touch (y3.setCell ⟨w.heap.size + 1, 8, none⟩ (.string V3)) w.heap.size (.int .i64 7) (.int .i64 0) (.int .u64 0) (.int .u64 0) (.int .u64 0) (.bool false) (.int .u64 (V1 : Int)) (.int .u64 (V2 : Int)) (.string V3) (.slice none 0 0)
    generalize put10 (y3.setCell ⟨w.heap.size + 1, 8, none⟩ (.string V3)) w.heap.size (.int .i64 7) (.int .i64 0) (.int .u64 0) (.int .u64 0) (.int .u64 0) (.bool false) (.int .u64 (V1 : Int)) (.int .u64 (V2 : Int)) (.string V3) (.slice none 0 0) = Wf at *
    have a0 := hBf.cell 0
    have a1 := hBf.cell 1
    have a2 := hBf.cell 2
    have a3 := hBf.cell 3
    have a4 := hBf.cell 4
    have a5 := hBf.cell 5
    have a6 := hBf.cell 6
    have a7 := hBf.cell 7
    have a8 := hBf.cell 8
    have a9 := hBf.cell 9
    simp only [List.getElem?_cons_zero, List.getElem?_cons_succ] at a0 a1 a2 a3 a4 a5 a6 a7 a8 a9
    exact bodyPost_ret (v := frV (⟨7, 0, 0, 0, 0, false, V1, V2, V3, []⟩ : Fr) (.slice none 0 0)) (by simp [results, Tryz.results45, go_sem, a0, a1, a2, a3, a4, a5, a6, a7, a8, a9, frV]) rfl (HG3.out.shut hrb HBY.out hTf D (by rw [HD.out]; rfl))
  | false =>
    go_wp2_with fail
    refine (rsound_any (⟨7, 0, 0, 0, 0, false, V1, V2, V3, []⟩ : Fr) none 0 _ HG3.out.ok (fun j hj => absurd hj (Nat.not_lt_zero _))).mono ?_
    rintro e yz ⟨rfl, hbz⟩
    have hgz := HG3.out.below hbz
    clear c2 f2 z8 zr x0 r0 x1 r1 x2 r2 x3 r3 x4 r4 x5 r5 x6 r6 x7 r7 x8 r8 x9 r9
    have c2 : yz.cell? ⟨rb, 2, none⟩ = some (.bool false) := hgz.rd.blk.cell 2
    have f2 := hgz.rd.blk.frozen 2
    have x0 : yz.cell? ⟨w.heap.size + 1, 0, none⟩ = some (.int .i64 7) := hgz.fr.cell 0
    have x1 : yz.cell? ⟨w.heap.size + 1, 1, none⟩ = some (.int .i64 0) := hgz.fr.cell 1
    have x2 : yz.cell? ⟨w.heap.size + 1, 2, none⟩ = some (.int .u64 0) := hgz.fr.cell 2
    have x3 : yz.cell? ⟨w.heap.size + 1, 3, none⟩ = some (.int .u64 0) := hgz.fr.cell 3
    have x4 : yz.cell? ⟨w.heap.size + 1, 4, none⟩ = some (.int .u64 0) := hgz.fr.cell 4
    have x5 : yz.cell? ⟨w.heap.size + 1, 5, none⟩ = some (.bool false) := hgz.fr.cell 5
    have x6 : yz.cell? ⟨w.heap.size + 1, 6, none⟩ = some (.int .u64 (V1 : Int)) := hgz.fr.cell 6
    have x7 : yz.cell? ⟨w.heap.size + 1, 7, none⟩ = some (.int .u64 (V2 : Int)) := hgz.fr.cell 7
    have x8 : yz.cell? ⟨w.heap.size + 1, 8, none⟩ = some (.string V3) := hgz.fr.cell 8
    have x9 : yz.cell? ⟨w.heap.size + 1, 9, none⟩ = some (.slice none 0 0) := hgz.fr.cell 9
    have r0 : yz.cell? ⟨w.heap.size, 0, none⟩ = some (.int .i64 0) := hgz.re.cell 0
    have r1 : yz.cell? ⟨w.heap.size, 1, none⟩ = some (.int .i64 0) := hgz.re.cell 1
    have r2 : yz.cell? ⟨w.heap.size, 2, none⟩ = some (.int .u64 0) := hgz.re.cell 2
    have r3 : yz.cell? ⟨w.heap.size, 3, none⟩ = some (.int .u64 0) := hgz.re.cell 3
    have r4 : yz.cell? ⟨w.heap.size, 4, none⟩ = some (.int .u64 0) := hgz.re.cell 4
    have r5 : yz.cell? ⟨w.heap.size, 5, none⟩ = some (.bool false) := hgz.re.cell 5
    have r6 : yz.cell? ⟨w.heap.size, 6, none⟩ = some (.int .u64 0) := hgz.re.cell 6
    have r7 : yz.cell? ⟨w.heap.size, 7, none⟩ = some (.int .u64 0) := hgz.re.cell 7
    have r8 : yz.cell? ⟨w.heap.size, 8, none⟩ = some (.string ⟨#[]⟩) := hgz.re.cell 8
    have r9 : yz.cell? ⟨w.heap.size, 9, none⟩ = some (.slice none 0 0) := hgz.re.cell 9
    have zr := fun o => hgz.re.frozen o
    have HGZ := hid hgz
    have HD2 : Hid (D = if !(snd (⟨7, 0, 0, 0, 0, false, V1, V2, V3, []⟩ : Fr)) then none else some ((⟨7, 0, 0, 0, 0, false, V1, V2, V3, []⟩ : Fr), q3)) := by unfold Hid; rw [HD.out]; rfl
    clear hgz hbz HG3 HD
    generalize snd (⟨7, 0, 0, 0, 0, false, V1, V2, V3, []⟩ : Fr) = SS at *
    go_wp2_with fail
    rw [put10_eq]
    have hBf := put10_blk (HGZ.out.flag hrb (!SS)).re (.int .i64 7) (.int .i64 0) (.int .u64 0) (.int .u64 0) (.int .u64 0) (.bool false) (.int .u64 (V1 : Int)) (.int .u64 (V2 : Int)) (.string V3) (.slice none 0 0)
    have hTf := put10_touch (yz.setCell ⟨rb, 2, none⟩ (.bool (!SS))) w.heap.size (.int .i64 7) (.int .i64 0) (.int .u64 0) (.int .u64 0) (.int .u64 0) (.bool false) (.int .u64 (V1 : Int)) (.int .u64 (V2 : Int)) (.string V3) (.slice none 0 0)
    generalize put10 (yz.setCell ⟨rb, 2, none⟩ (.bool (!SS))) w.heap.size (.int .i64 7) (.int .i64 0) (.int .u64 0) (.int .u64 0) (.int .u64 0) (.bool false) (.int .u64 (V1 : Int)) (.int .u64 (V2 : Int)) (.string V3) (.slice none 0 0) = Wf at *
    have a0 := hBf.cell 0
    have a1 := hBf.cell 1
    have a2 := hBf.cell 2
    have a3 := hBf.cell 3
    have a4 := hBf.cell 4
    have a5 := hBf.cell 5
    have a6 := hBf.cell 6
    have a7 := hBf.cell 7
    have a8 := hBf.cell 8
    have a9 := hBf.cell 9
    simp only [List.getElem?_cons_zero, List.getElem?_cons_succ] at a0 a1 a2 a3 a4 a5 a6 a7 a8 a9
    exact bodyPost_ret (v := frV (⟨7, 0, 0, 0, 0, false, V1, V2, V3, []⟩ : Fr) (.slice none 0 0)) (by simp [results, Tryz.results45, go_sem, a0, a1, a2, a3, a4, a5, a6, a7, a8, a9, frV]) rfl ((HGZ.out.flag hrb (!SS)).shut hrb HBY.out hTf D HD2.out)

set_option maxHeartbeats 4000000 in
set_option maxRecDepth 100000 in
theorem rframe_28 (rb b off : Nat) (l : List UInt8) (c p : Nat) (w : World) (h : RRd w rb (some ⟨b, off, none⟩) l c p false) (hl : l.length ≤ 1000000000) (hp : p < l.length) (hX : w.cell? ⟨b, off + p, none⟩ = some (.int .u8 28)) (V1 : Nat) (q1 : Nat) (B1 : Bool) (v1 : V1 < 4611686018427387904) (C1 : ∀ Y, RRd Y rb (some ⟨b, off, none⟩) l c (p + 1) false → Calls Tryz.prog 44 #[.pointer (some ⟨rb, 0, none⟩)] Y fun e w' => e = .returned (.int .u64 (V1 : Int)) ∧ RRd w' rb (some ⟨b, off, none⟩) l c q1 B1 ∧ Alone rb Y w') :
    Calls Tryz.prog 45 #[.pointer (some ⟨rb, 0, none⟩)] w (FrPost rb (some ⟨b, off, none⟩) l c (frFin (⟨8, 0, 0, 0, V1, false, 0, 0, ⟨#[]⟩, []⟩ : Fr) q1 B1) w) := by
  have c0 : w.cell? ⟨rb, 0, none⟩ = some (.slice (some ⟨b, off, none⟩) l.length c) := h.blk.cell 0
  have c1 : w.cell? ⟨rb, 1, none⟩ = some (.int .i64 (p : Int)) := h.blk.cell 1
  have f1 := h.blk.frozen 1
  have hrb := h.blk.lt
  have hbl : b < w.heap.size := World.block_lt_of_cell? _ _ hX
  have hne : ¬ (rb = w.heap.size) := by omega
  have hne1 : ¬ (rb = w.heap.size + 1) := by omega
  have hne2 : ¬ (b = w.heap.size) := by omega
  have hp' : (p : Int) < (l.length : Int) := by omega
  have H := hid h
  have HBY := hid h.by_
  have HP := hid hp
  clear h hp
  have HC1 := hid C1
  clear C1
  obtain ⟨D, hD⟩ : ∃ D, D = frFin (⟨8, 0, 0, 0, V1, false, 0, 0, ⟨#[]⟩, []⟩ : Fr) q1 B1 := ⟨_, rfl⟩
  rw [← hD]
  have HD := hid hD
  clear hD
  go_enter Tryz.func45, Tryz.ntmps45
  go_wp2_with fail
  go_quiet (fail)
  go_wp2_with fail
  obtain ⟨W0, hW0⟩ : ∃ W0, W0 = ((((w.alloc (.cells #[.int .i64 0, .int .i64 0, .int .u64 0, .int .u64 0, .int .u64 0, .bool false, .int .u64 0, .int .u64 0, .string ⟨#[]⟩, .slice none 0 0] 65)).drewN nq).setCell ⟨rb, 1, none⟩ (.int .i64 ((p : Int) + 1))).alloc (.cells #[.int .i64 8, .int .i64 0, .int .u64 0, .int .u64 0, .int .u64 0, .bool false, .int .u64 0, .int .u64 0, .string ⟨#[]⟩, .slice none 0 0] 65)) := ⟨_, rfl⟩
  rw [← hW0]
  have HG0 : Hid (FrSt w rb (some ⟨b, off, none⟩) l c W0 (p + 1) false (⟨8, 0, 0, 0, 0, false, 0, 0, ⟨#[]⟩, []⟩ : Fr) (.slice none 0 0)) := FrSt.start H.out HP.out nq 8 (by decide) false W0 hW0
  clear hW0 c0 c1 f1 hX H HP
  refine (HC1.out _ HG0.out.rd).mono ?_
  rintro e y1 ⟨rfl, h1, k1⟩
  have hg1 := HG0.out.read h1 k1 hrb
  have HG1 : Hid (FrSt w rb (some ⟨b, off, none⟩) l c (y1.setCell ⟨w.heap.size + 1, 4, none⟩ (.int .u64 (V1 : Int))) q1 B1 (⟨8, 0, 0, 0, V1, false, 0, 0, ⟨#[]⟩, []⟩ : Fr) (.slice none 0 0)) := hg1.field hrb HBY.out 4 _ rfl rfl ⟨hg1.ok.rlen, hg1.ok.dlen, hg1.ok.k0, hg1.ok.s0, ⟨hg1.ok.u0.1, hg1.ok.u0.2.1, (show V1 < 18446744073709551616 by omega), hg1.ok.u0.2.2.2⟩, hg1.ok.r0⟩
  have c2 : y1.cell? ⟨rb, 2, none⟩ = some (.bool B1) := hg1.rd.blk.cell 2
  have f2 := hg1.rd.blk.frozen 2
  have x0 : y1.cell? ⟨w.heap.size + 1, 0, none⟩ = some (.int .i64 8) := hg1.fr.cell 0
  have x1 : y1.cell? ⟨w.heap.size + 1, 1, none⟩ = some (.int .i64 0) := hg1.fr.cell 1
  have x2 : y1.cell? ⟨w.heap.size + 1, 2, none⟩ = some (.int .u64 0) := hg1.fr.cell 2
  have x3 : y1.cell? ⟨w.heap.size + 1, 3, none⟩ = some (.int .u64 0) := hg1.fr.cell 3
  have x4 : y1.cell? ⟨w.heap.size + 1, 4, none⟩ = some (.int .u64 0) := hg1.fr.cell 4
  have x5 : y1.cell? ⟨w.heap.size + 1, 5, none⟩ = some (.bool false) := hg1.fr.cell 5
  have x6 : y1.cell? ⟨w.heap.size + 1, 6, none⟩ = some (.int .u64 0) := hg1.fr.cell 6
  have x7 : y1.cell? ⟨w.heap.size + 1, 7, none⟩ = some (.int .u64 0) := hg1.fr.cell 7
  have x8 : y1.cell? ⟨w.heap.size + 1, 8, none⟩ = some (.string ⟨#[]⟩) := hg1.fr.cell 8
  have x9 : y1.cell? ⟨w.heap.size + 1, 9, none⟩ = some (.slice none 0 0) := hg1.fr.cell 9
  have z4 := hg1.fr.frozen 4
  have r0 : y1.cell? ⟨w.heap.size, 0, none⟩ = some (.int .i64 0) := hg1.re.cell 0
  have r1 : y1.cell? ⟨w.heap.size, 1, none⟩ = some (.int .i64 0) := hg1.re.cell 1
  have r2 : y1.cell? ⟨w.heap.size, 2, none⟩ = some (.int .u64 0) := hg1.re.cell 2
  have r3 : y1.cell? ⟨w.heap.size, 3, none⟩ = some (.int .u64 0) := hg1.re.cell 3
  have r4 : y1.cell? ⟨w.heap.size, 4, none⟩ = some (.int .u64 0) := hg1.re.cell 4
  have r5 : y1.cell? ⟨w.heap.size, 5, none⟩ = some (.bool false) := hg1.re.cell 5
  have r6 : y1.cell? ⟨w.heap.size, 6, none⟩ = some (.int .u64 0) := hg1.re.cell 6
  have r7 : y1.cell? ⟨w.heap.size, 7, none⟩ = some (.int .u64 0) := hg1.re.cell 7
  have r8 : y1.cell? ⟨w.heap.size, 8, none⟩ = some (.string ⟨#[]⟩) := hg1.re.cell 8
  have r9 : y1.cell? ⟨w.heap.size, 9, none⟩ = some (.slice none 0 0) := hg1.re.cell 9
  have zr := fun o => hg1.re.frozen o
  clear hg1 h1 k1 HG0
  cases B1 with
  | true =>
    go_wp2_with fail
    rw [put10_eq]
    have hBf := put10_blk HG1.out.re (.int .i64 8) (.int .i64 0) (.int .u64 0) (.int .u64 0) (.int .u64 (V1 : Int)) (.bool false) (.int .u64 0) (.int .u64 0) (.string ⟨#[]⟩) (.slice none 0 0)
    have hTf := put10_touch (y1.setCell ⟨w.heap.size + 1, 4, none⟩ (.int .u64 (V1 : Int))) w.heap.size (.int .i64 8) (.int .i64 0) (.int .u64 0) (.int .u64 0) (.int .u64 (V1 : Int)) (.bool false) (.int .u64 0) (.int .u64 0) (.string ⟨#[]⟩) (.slice none 0 0)
    generalize put10 (y1.setCell ⟨w.heap.size + 1, 4, none⟩ (.int .u64 (V1 : Int))) w.heap.size (.int .i64 8) (.int .i64 0) (.int .u64 0) (.int .u64 0) (.int .u64 (V1 : Int)) (.bool false) (.int .u64 0) (.int .u64 0) (.string ⟨#[]⟩) (.slice none 0 0) = Wf at *
    have a0 := hBf.cell 0
    have a1 := hBf.cell 1
    have a2 := hBf.cell 2
    have a3 := hBf.cell 3
    have a4 := hBf.cell 4
    have a5 := hBf.cell 5
    have a6 := hBf.cell 6
    have a7 := hBf.cell 7
    have a8 := hBf.cell 8
    have a9 := hBf.cell 9
    simp only [List.getElem?_cons_zero, List.getElem?_cons_succ] at a0 a1 a2 a3 a4 a5 a6 a7 a8 a9
    exact bodyPost_ret (v := frV (⟨8, 0, 0, 0, V1, false, 0, 0, ⟨#[]⟩, []⟩ : Fr) (.slice none 0 0)) (by simp [results, Tryz.results45, go_sem, a0, a1, a2, a3, a4, a5, a6, a7, a8, a9, frV]) rfl (HG1.out.shut hrb HBY.out hTf D (by rw [HD.out]; rfl))
  | false =>
    go_wp2_with fail
    refine (rsound_any (⟨8, 0, 0, 0, V1, false, 0, 0, ⟨#[]⟩, []⟩ : Fr) none 0 _ HG1.out.ok (fun j hj => absurd hj (Nat.not_lt_zero _))).mono ?_
    rintro e yz ⟨rfl, hbz⟩
    have hgz := HG1.out.below hbz
    clear c2 f2 z4 zr x0 r0 x1 r1 x2 r2 x3 r3 x4 r4 x5 r5 x6 r6 x7 r7 x8 r8 x9 r9
    have c2 : yz.cell? ⟨rb, 2, none⟩ = some (.bool false) := hgz.rd.blk.cell 2
    have f2 := hgz.rd.blk.frozen 2
    have x0 : yz.cell? ⟨w.heap.size + 1, 0, none⟩ = some (.int .i64 8) := hgz.fr.cell 0
    have x1 : yz.cell? ⟨w.heap.size + 1, 1, none⟩ = some (.int .i64 0) := hgz.fr.cell 1
    have x2 : yz.cell? ⟨w.heap.size + 1, 2, none⟩ = some (.int .u64 0) := hgz.fr.cell 2
    have x3 : yz.cell? ⟨w.heap.size + 1, 3, none⟩ = some (.int .u64 0) := hgz.fr.cell 3
    have x4 : yz.cell? ⟨w.heap.size + 1, 4, none⟩ = some (.int .u64 (V1 : Int)) := hgz.fr.cell 4
    have x5 : yz.cell? ⟨w.heap.size + 1, 5, none⟩ = some (.bool false) := hgz.fr.cell 5
    have x6 : yz.cell? ⟨w.heap.size + 1, 6, none⟩ = some (.int .u64 0) := hgz.fr.cell 6
    have x7 : yz.cell? ⟨w.heap.size + 1, 7, none⟩ = some (.int .u64 0) := hgz.fr.cell 7
    have x8 : yz.cell? ⟨w.heap.size + 1, 8, none⟩ = some (.string ⟨#[]⟩) := hgz.fr.cell 8
    have x9 : yz.cell? ⟨w.heap.size + 1, 9, none⟩ = some (.slice none 0 0) := hgz.fr.cell 9
    have r0 : yz.cell? ⟨w.heap.size, 0, none⟩ = some (.int .i64 0) := hgz.re.cell 0
    have r1 : yz.cell? ⟨w.heap.size, 1, none⟩ = some (.int .i64 0) := hgz.re.cell 1
    have r2 : yz.cell? ⟨w.heap.size, 2, none⟩ = some (.int .u64 0) := hgz.re.cell 2
    have r3 : yz.cell? ⟨w.heap.size, 3, none⟩ = some (.int .u64 0) := hgz.re.cell 3
    have r4 : yz.cell? ⟨w.heap.size, 4, none⟩ = some (.int .u64 0) := hgz.re.cell 4
    have r5 : yz.cell? ⟨w.heap.size, 5, none⟩ = some (.bool false) := hgz.re.cell 5
    have r6 : yz.cell? ⟨w.heap.size, 6, none⟩ = some (.int .u64 0) := hgz.re.cell 6
    have r7 : yz.cell? ⟨w.heap.size, 7, none⟩ = some (.int .u64 0) := hgz.re.cell 7
    have r8 : yz.cell? ⟨w.heap.size, 8, none⟩ = some (.string ⟨#[]⟩) := hgz.re.cell 8
    have r9 : yz.cell? ⟨w.heap.size, 9, none⟩ = some (.slice none 0 0) := hgz.re.cell 9
    have zr := fun o => hgz.re.frozen o
    have HGZ := hid hgz
    have HD2 : Hid (D = if !(snd (⟨8, 0, 0, 0, V1, false, 0, 0, ⟨#[]⟩, []⟩ : Fr)) then none else some ((⟨8, 0, 0, 0, V1, false, 0, 0, ⟨#[]⟩, []⟩ : Fr), q1)) := by unfold Hid; rw [HD.out]; rfl
    clear hgz hbz HG1 HD
    generalize snd (⟨8, 0, 0, 0, V1, false, 0, 0, ⟨#[]⟩, []⟩ : Fr) = SS at *
    go_wp2_with fail
    rw [put10_eq]
    have hBf := put10_blk (HGZ.out.flag hrb (!SS)).re (.int .i64 8) (.int .i64 0) (.int .u64 0) (.int .u64 0) (.int .u64 (V1 : Int)) (.bool false) (.int .u64 0) (.int .u64 0) (.string ⟨#[]⟩) (.slice none 0 0)
    have hTf := put10_touch (yz.setCell ⟨rb, 2, none⟩ (.bool (!SS))) w.heap.size (.int .i64 8) (.int .i64 0) (.int .u64 0) (.int .u64 0) (.int .u64 (V1 : Int)) (.bool false) (.int .u64 0) (.int .u64 0) (.string ⟨#[]⟩) (.slice none 0 0)
    generalize put10 (yz.setCell ⟨rb, 2, none⟩ (.bool (!SS))) w.heap.size (.int .i64 8) (.int .i64 0) (.int .u64 0) (.int .u64 0) (.int .u64 (V1 : Int)) (.bool false) (.int .u64 0) (.int .u64 0) (.string ⟨#[]⟩) (.slice none 0 0) = Wf at *
    have a0 := hBf.cell 0
    have a1 := hBf.cell 1
    have a2 := hBf.cell 2
    have a3 := hBf.cell 3
    have a4 := hBf.cell 4
    have a5 := hBf.cell 5
    have a6 := hBf.cell 6
    have a7 := hBf.cell 7
    have a8 := hBf.cell 8
    have a9 := hBf.cell 9
    simp only [List.getElem?_cons_zero, List.getElem?_cons_succ] at a0 a1 a2 a3 a4 a5 a6 a7 a8 a9
    exact bodyPost_ret (v := frV (⟨8, 0, 0, 0, V1, false, 0, 0, ⟨#[]⟩, []⟩ : Fr) (.slice none 0 0)) (by simp [results, Tryz.results45, go_sem, a0, a1, a2, a3, a4, a5, a6, a7, a8, a9, frV]) rfl ((HGZ.out.flag hrb (!SS)).shut hrb HBY.out hTf D HD2.out)

end Go.Proofs.YtphbledmopchnaaGreatDoor
