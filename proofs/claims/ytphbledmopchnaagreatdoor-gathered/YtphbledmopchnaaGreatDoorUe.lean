import Derived.Test.YtphbledmopchnaaGreatDoorQd
/-
  The document's reader: the frames Ping and Ack, and what is none.
-/
namespace Go.Proofs.YtphbledmopchnaaGreatDoor
open Go.RowKit Go.Lib Mm

theorem rgGo_lt (l : List UInt8) : ∀ (n p lo : Nat) (acc rs : List (Nat × Nat)) (q : Nat), lo < 4611686018427387904 → (∀ x ∈ acc, x.1 < 4611686018427387904 ∧ x.2 < 4611686018427387904) → rgGo l n p lo acc = some (rs, q) → ∀ x ∈ rs, x.1 < 4611686018427387904 ∧ x.2 < 4611686018427387904
  | 0, p, lo, acc, rs, q, _, h, e => by
    rw [rgGo] at e
    simp only [Option.some.injEq, Prod.mk.injEq] at e
    rw [← e.1]
    exact h
  | n + 1, p, lo, acc, rs, q, hlo, h, e => by
    rw [rgGo] at e
    split at e
    · cases e
    · refine rgGo_lt l n _ _ _ rs q (by omega) (fun x hx => ?_) e
      rcases List.mem_append.1 hx with h1 | h1
      · exact h x h1
      · simp only [List.mem_singleton] at h1
        rw [h1]
        exact ⟨by show _ - _ - _ - _ < _; omega, by show _ - _ - _ < _; omega⟩
theorem rgAll_lt {l : List UInt8} {p q : Nat} {rs : List (Nat × Nat)} (e : rgAll l p = some (rs, q)) : ∀ j, j < rs.length → (rs.getD j (0, 0)).1 < 18446744073709551616 ∧ (rs.getD j (0, 0)).2 < 18446744073709551616 := fun j hj => by
  have hV := rV_lt l p
  unfold rgAll at e
  split at e
  · cases e
  · have := rgGo_lt l _ _ _ _ rs q (by omega) (fun x hx => by
      simp only [List.mem_singleton] at hx
      rw [hx]
      exact ⟨by show _ - _ < _; omega, hV⟩) e (rs.getD j (0, 0)) (by
        rw [List.getD_eq_getElem?_getD, List.getElem?_eq_getElem hj]
        exact List.getElem_mem hj)
    exact ⟨by omega, by omega⟩

theorem rng_of_gbuf {y : World} {ra : Option Addr} {rc : Nat} {rs : List (Nat × Nat)} (h : GBuf 170 2 y (.slice ra rs.length rc) rs.length (rcells rs)) (hb : ∀ j, j < rs.length → (rs.getD j (0, 0)).1 < 18446744073709551616 ∧ (rs.getD j (0, 0)).2 < 18446744073709551616) : RngAt y ra rs := fun j hj => by
  obtain ⟨g1, g2⟩ := rcells_get rs j hj
  obtain ⟨g, ha, hc, _⟩ := h.cell rfl (j * 2) _ g1
  obtain ⟨g', ha', hc', _⟩ := h.cell rfl (j * 2 + 1) _ g2
  have e := ha.symm.trans ha'
  simp at e
  subst e
  exact ⟨g, 0, ha, by rw [Nat.zero_add]; exact hc, by rw [Nat.zero_add]; exact hc', hb j hj⟩

theorem FrSt.ranges {w : World} {rb : Nat} {a : Option Addr} {l : List UInt8} {c : Nat} {y : World} {p : Nat} {bad : Bool} {f : Fr} (h : FrSt w rb a l c y p bad f (.slice none 0 0)) (hrb : rb < w.heap.size) (hby : BytesAt w a l) (v : Value) (rs : List (Nat × Nat)) (hbuf : GBuf 170 2 y v rs.length (rcells rs)) (hown : Own (w.heap.size + 2) v) (hlen : rs.length ≤ 1000000000) (hb : ∀ j, j < rs.length → (rs.getD j (0, 0)).1 < 18446744073709551616 ∧ (rs.getD j (0, 0)).2 < 18446744073709551616) :
    FrSt w rb a l c (y.setCell ⟨w.heap.size + 1, 9, none⟩ v) p bad { f with ranges := rs } v := by
  have hoth : ∀ b, b ≠ w.heap.size + 1 → (y.setCell ⟨w.heap.size + 1, 9, none⟩ v).heap[b]? = y.heap[b]? := fun b hb => Below.heap_setCell _ _ _ _ (by simpa using hb)
  have hsz := h.sz
  refine ⟨⟨h.rd.blk.of_heap (hoth _ (by omega)), fun j hj => ?_, h.rd.le, h.rd.ne, h.rd.cap⟩, blk_set h.fr 9 v, h.re.of_heap (hoth _ (by omega)), ⟨h.al.os, h.al.tape, h.al.output, by have := h.al.size; simpa [World.setCell] using this, fun k hk hn => by rw [hoth k (by omega)]; exact h.al.block k hk hn⟩, by simpa using hsz, hbuf.of_heap (fun b hb => hoth b (by have := hown b hb; omega)), hown, ⟨hlen, h.ok.dlen, h.ok.k0, h.ok.s0, h.ok.u0, hb⟩⟩
  obtain ⟨b, off, ha, hc⟩ := h.rd.by_ j hj
  obtain ⟨b', off', ha', hc'⟩ := hby j hj
  have e := ha.symm.trans ha'
  simp at e
  obtain ⟨rfl, rfl⟩ := e
  have := World.block_lt_of_cell? _ _ hc'
  exact ⟨b, off, ha, cell_of hc (hoth b (by simp at this; omega))⟩

set_option maxHeartbeats 4000000 in
set_option maxRecDepth 100000 in
theorem rframe_1 (rb b off : Nat) (l : List UInt8) (c p : Nat) (w : World) (h : RRd w rb (some ⟨b, off, none⟩) l c p false) (hp : p < l.length) (hX : w.cell? ⟨b, off + p, none⟩ = some (.int .u8 1)) (hl : l.length ≤ 1000000000) :
    Calls Tryz.prog 45 #[.pointer (some ⟨rb, 0, none⟩)] w (FrPost rb (some ⟨b, off, none⟩) l c (frFin (⟨1, 0, 0, 0, 0, false, 0, 0, ⟨#[]⟩, []⟩ : Fr) (p + 1) false) w) := by
  have c0 : w.cell? ⟨rb, 0, none⟩ = some (.slice (some ⟨b, off, none⟩) l.length c) := h.blk.cell 0
  have c1 : w.cell? ⟨rb, 1, none⟩ = some (.int .i64 (p : Int)) := h.blk.cell 1
  have c2 : w.cell? ⟨rb, 2, none⟩ = some (.bool false) := h.blk.cell 2
  have f1 := h.blk.frozen 1
  have f2 := h.blk.frozen 2
  have hrb := h.blk.lt
  have hbl : b < w.heap.size := World.block_lt_of_cell? _ _ hX
  have hne : ¬ (rb = w.heap.size) := by omega
  have hne1 : ¬ (rb = w.heap.size + 1) := by omega
  have hne2 : ¬ (b = w.heap.size) := by omega
  have hp' : (p : Int) < (l.length : Int) := by omega
  have H := hid h
  have HBY := hid h.by_
  have HP := hid hp
  clear h hp
  obtain ⟨D, hD⟩ : ∃ D, D = frFin (⟨1, 0, 0, 0, 0, false, 0, 0, ⟨#[]⟩, []⟩ : Fr) (p + 1) false := ⟨_, rfl⟩
  rw [← hD]
  have HD := hid hD
  clear hD
  go_enter Tryz.func45, Tryz.ntmps45
  go_wp2_with fail
  go_quiet (fail)
  go_wp2_with fail
  obtain ⟨W0, hW0⟩ : ∃ W0, W0 = ((((w.alloc (.cells #[.int .i64 0, .int .i64 0, .int .u64 0, .int .u64 0, .int .u64 0, .bool false, .int .u64 0, .int .u64 0, .string ⟨#[]⟩, .slice none 0 0] 65)).drewN nq).setCell ⟨rb, 1, none⟩ (.int .i64 ((p : Int) + 1))).alloc (.cells #[.int .i64 1, .int .i64 0, .int .u64 0, .int .u64 0, .int .u64 0, .bool false, .int .u64 0, .int .u64 0, .string ⟨#[]⟩, .slice none 0 0] 65)) := ⟨_, rfl⟩
  rw [← hW0]
  have HG0 : Hid (FrSt w rb (some ⟨b, off, none⟩) l c W0 (p + 1) false (⟨1, 0, 0, 0, 0, false, 0, 0, ⟨#[]⟩, []⟩ : Fr) (.slice none 0 0)) := FrSt.start H.out HP.out nq 1 (by decide) false W0 hW0
  clear hW0 c0 c1 f1 c2 f2 hX H HP
  refine (rsound_any (⟨1, 0, 0, 0, 0, false, 0, 0, ⟨#[]⟩, []⟩ : Fr) none 0 _ HG0.out.ok (fun j hj => absurd hj (Nat.not_lt_zero _))).mono ?_
  rintro e yz ⟨rfl, hbz⟩
  have hgz := HG0.out.below hbz
  have c2 : yz.cell? ⟨rb, 2, none⟩ = some (.bool false) := hgz.rd.blk.cell 2
  have f2 := hgz.rd.blk.frozen 2
  have x0 : yz.cell? ⟨w.heap.size + 1, 0, none⟩ = some (.int .i64 1) := hgz.fr.cell 0
  have x1 : yz.cell? ⟨w.heap.size + 1, 1, none⟩ = some (.int .i64 0) := hgz.fr.cell 1
  have x2 : yz.cell? ⟨w.heap.size + 1, 2, none⟩ = some (.int .u64 0) := hgz.fr.cell 2
  have x3 : yz.cell? ⟨w.heap.size + 1, 3, none⟩ = some (.int .u64 0) := hgz.fr.cell 3
  have x4 : yz.cell? ⟨w.heap.size + 1, 4, none⟩ = some (.int .u64 0) := hgz.fr.cell 4
  have x5 : yz.cell? ⟨w.heap.size + 1, 5, none⟩ = some (.bool false) := hgz.fr.cell 5
  have x6 : yz.cell? ⟨w.heap.size + 1, 6, none⟩ = some (.int .u64 0) := hgz.fr.cell 6
  have x7 : yz.cell? ⟨w.heap.size + 1, 7, none⟩ = some (.int .u64 0) := hgz.fr.cell 7
  have x8 : yz.cell? ⟨w.heap.size + 1, 8, none⟩ = some (.string ⟨#[]⟩) := hgz.fr.cell 8
  have x9 : yz.cell? ⟨w.heap.size + 1, 9, none⟩ = some (.slice none 0 0) := hgz.fr.cell 9
  have r0 : yz.cell? ⟨w.heap.size, 0, none⟩ = some (.int .i64 0) := hgz.re.cell 0
  have r1 : yz.cell? ⟨w.heap.size, 1, none⟩ = some (.int .i64 0) := hgz.re.cell 1
  have r2 : yz.cell? ⟨w.heap.size, 2, none⟩ = some (.int .u64 0) := hgz.re.cell 2
  have r3 : yz.cell? ⟨w.heap.size, 3, none⟩ = some (.int .u64 0) := hgz.re.cell 3
  have r4 : yz.cell? ⟨w.heap.size, 4, none⟩ = some (.int .u64 0) := hgz.re.cell 4
  have r5 : yz.cell? ⟨w.heap.size, 5, none⟩ = some (.bool false) := hgz.re.cell 5
  have r6 : yz.cell? ⟨w.heap.size, 6, none⟩ = some (.int .u64 0) := hgz.re.cell 6
  have r7 : yz.cell? ⟨w.heap.size, 7, none⟩ = some (.int .u64 0) := hgz.re.cell 7
  have r8 : yz.cell? ⟨w.heap.size, 8, none⟩ = some (.string ⟨#[]⟩) := hgz.re.cell 8
  have r9 : yz.cell? ⟨w.heap.size, 9, none⟩ = some (.slice none 0 0) := hgz.re.cell 9
  have zr := fun o => hgz.re.frozen o
  have HGZ := hid hgz
  have HD2 : Hid (D = if !(snd (⟨1, 0, 0, 0, 0, false, 0, 0, ⟨#[]⟩, []⟩ : Fr)) then none else some ((⟨1, 0, 0, 0, 0, false, 0, 0, ⟨#[]⟩, []⟩ : Fr), p + 1)) := by unfold Hid; rw [HD.out]; rfl
  clear hgz hbz HG0 HD
  generalize snd (⟨1, 0, 0, 0, 0, false, 0, 0, ⟨#[]⟩, []⟩ : Fr) = SS at *
  go_wp2_with fail
  rw [put10_eq]
  have hBf := put10_blk (HGZ.out.flag hrb (!SS)).re (.int .i64 1) (.int .i64 0) (.int .u64 0) (.int .u64 0) (.int .u64 0) (.bool false) (.int .u64 0) (.int .u64 0) (.string ⟨#[]⟩) (.slice none 0 0)
  have hTf := put10_touch (yz.setCell ⟨rb, 2, none⟩ (.bool (!SS))) w.heap.size (.int .i64 1) (.int .i64 0) (.int .u64 0) (.int .u64 0) (.int .u64 0) (.bool false) (.int .u64 0) (.int .u64 0) (.string ⟨#[]⟩) (.slice none 0 0)
  generalize put10 (yz.setCell ⟨rb, 2, none⟩ (.bool (!SS))) w.heap.size (.int .i64 1) (.int .i64 0) (.int .u64 0) (.int .u64 0) (.int .u64 0) (.bool false) (.int .u64 0) (.int .u64 0) (.string ⟨#[]⟩) (.slice none 0 0) = Wf at *
  have a0 := hBf.cell 0
  have a1 := hBf.cell 1
  have a2 := hBf.cell 2
  have a3 := hBf.cell 3
  have a4 := hBf.cell 4
  have a5 := hBf.cell 5
  have a6 := hBf.cell 6
  have a7 := hBf.cell 7
  have a8 := hBf.cell 8
  have a9 := hBf.cell 9
  simp only [List.getElem?_cons_zero, List.getElem?_cons_succ] at a0 a1 a2 a3 a4 a5 a6 a7 a8 a9
  exact bodyPost_ret (v := frV (⟨1, 0, 0, 0, 0, false, 0, 0, ⟨#[]⟩, []⟩ : Fr) (.slice none 0 0)) (by simp [results, Tryz.results45, go_sem, a0, a1, a2, a3, a4, a5, a6, a7, a8, a9, frV]) rfl ((HGZ.out.flag hrb (!SS)).shut hrb HBY.out hTf D HD2.out)

set_option maxHeartbeats 4000000 in
set_option maxRecDepth 100000 in
theorem rframe_none (rb b off : Nat) (l : List UInt8) (c p X : Nat) (w : World) (h : RRd w rb (some ⟨b, off, none⟩) l c p false) (hp : p < l.length) (hX : w.cell? ⟨b, off + p, none⟩ = some (.int .u8 (X : Int))) (hl : l.length ≤ 1000000000) (n1 : X ≠ 1) (n2 : X ≠ 2) (n36 : X ≠ 36) (n8 : X ≠ 8) (n9 : X ≠ 9) (n16 : X ≠ 16) (n17 : X ≠ 17) (n48 : X ≠ 48) (n28 : X ≠ 28) :
    Calls Tryz.prog 45 #[.pointer (some ⟨rb, 0, none⟩)] w (FrPost rb (some ⟨b, off, none⟩) l c none w) := by
  have c0 : w.cell? ⟨rb, 0, none⟩ = some (.slice (some ⟨b, off, none⟩) l.length c) := h.blk.cell 0
  have c1 : w.cell? ⟨rb, 1, none⟩ = some (.int .i64 (p : Int)) := h.blk.cell 1
  have c2 : w.cell? ⟨rb, 2, none⟩ = some (.bool false) := h.blk.cell 2
  have f1 := h.blk.frozen 1
  have f2 := h.blk.frozen 2
  have hrb := h.blk.lt
  have hbl : b < w.heap.size := World.block_lt_of_cell? _ _ hX
  have hne : ¬ (rb = w.heap.size) := by omega
  have hne1 : ¬ (rb = w.heap.size + 1) := by omega
  have hne2 : ¬ (b = w.heap.size) := by omega
  have hp' : (p : Int) < (l.length : Int) := by omega
  have H := hid h
  have HBY := hid h.by_
  have HP := hid hp
  clear h hp
  have e1 : ((X : Int) == 1) = false := by simp; omega
  have e2 : ((X : Int) == 2) = false := by simp; omega
  have e36 : ((X : Int) == 36) = false := by simp; omega
  have e8 : ((X : Int) == 8) = false := by simp; omega
  have e9 : ((X : Int) == 9) = false := by simp; omega
  have e16 : ((X : Int) == 16) = false := by simp; omega
  have e17 : ((X : Int) == 17) = false := by simp; omega
  have e48 : ((X : Int) == 48) = false := by simp; omega
  have e28 : ((X : Int) == 28) = false := by simp; omega
  obtain ⟨D, hD⟩ : ∃ D : Option (Fr × Nat), D = none := ⟨_, rfl⟩
  rw [← hD]
  have HD := hid hD
  clear hD
  go_enter Tryz.func45, Tryz.ntmps45
  go_wp2_with fail
  go_quiet (fail)
  go_wp2_with fail
  rw [put10_eq]
  obtain ⟨w1, hw1⟩ : ∃ w1, w1 = w.alloc (.cells #[.int .i64 0, .int .i64 0, .int .u64 0, .int .u64 0, .int .u64 0, .bool false, .int .u64 0, .int .u64 0, .string ⟨#[]⟩, .slice none 0 0] 65) := ⟨_, rfl⟩
  rw [← hw1]
  have hs1 : w1.heap.size = w.heap.size + 1 := by rw [hw1]; simp
  have hb1 : ∀ k, k < w.heap.size → w1.heap[k]? = w.heap[k]? := fun k hk => by rw [hw1]; exact Below.heap_alloc _ _ _ hk
  have hr1 : RRd w1 rb (some ⟨b, off, none⟩) l c p false := H.out.of_heap hb1
  have hR1 : Blk w1 w.heap.size 65 (frBox fr0 (.slice none 0 0)) := by rw [hw1]; exact Blk.new w 65 (frBox fr0 (.slice none 0 0))
  have ho1 : w1.os = w.os ∧ w1.tape = w.tape ∧ w1.output = w.output := by rw [hw1]; exact ⟨rfl, rfl, rfl⟩
  clear hw1
  obtain ⟨y, hy⟩ : ∃ y, y = ((w1.drewN nq).setCell ⟨rb, 1, none⟩ (.int .i64 ((p : Int) + 1))).setCell ⟨rb, 2, none⟩ (.bool true) := ⟨_, rfl⟩
  rw [← hy]
  have hr2 : RRd y rb (some ⟨b, off, none⟩) l c (p + 1) true := by rw [hy]; exact ((hr1.drewN nq).moved (p + 1) (by have := HP.out; omega) (by omega)).fail
  have hy1 : Alone rb w1 y := by rw [hy]; exact (((Alone.refl rb w1).drewN nq).setCell 1 _).setCell 2 _
  have hR2 := hR1.of_heap (hy1.block _ (by omega) (by omega))
  clear hy
  have hBf := put10_blk hR2 (.int .i64 0) (.int .i64 0) (.int .u64 0) (.int .u64 0) (.int .u64 0) (.bool false) (.int .u64 0) (.int .u64 0) (.string ⟨#[]⟩) (.slice none 0 0)
  have hTf := put10_touch y w.heap.size (.int .i64 0) (.int .i64 0) (.int .u64 0) (.int .u64 0) (.int .u64 0) (.bool false) (.int .u64 0) (.int .u64 0) (.string ⟨#[]⟩) (.slice none 0 0)
  generalize put10 y w.heap.size (.int .i64 0) (.int .i64 0) (.int .u64 0) (.int .u64 0) (.int .u64 0) (.bool false) (.int .u64 0) (.int .u64 0) (.string ⟨#[]⟩) (.slice none 0 0) = Wf at *
  have hsy := hy1.size
  obtain ⟨Wz, hWz⟩ : ∃ Wz, Wz = Wf.alloc (.cells #[.int .i64 0, .int .i64 0, .int .u64 0, .int .u64 0, .int .u64 0, .bool false, .int .u64 0, .int .u64 0, .string ⟨#[]⟩, .slice none 0 0] 65) := ⟨_, rfl⟩
  rw [← hWz]
  have hBz := hBf.alloc (.cells #[.int .i64 0, .int .i64 0, .int .u64 0, .int .u64 0, .int .u64 0, .bool false, .int .u64 0, .int .u64 0, .string ⟨#[]⟩, .slice none 0 0] 65)
  rw [← hWz] at hBz
  have hz : ∀ k, k < w.heap.size → Wz.heap[k]? = y.heap[k]? := fun k hk => by rw [hWz, Below.heap_alloc _ _ _ (by rw [hTf.size]; omega), hTf.block k (by omega)]
  have ho : Wz.os = w.os ∧ Wz.tape = w.tape ∧ Wz.output = w.output ∧ w.heap.size ≤ Wz.heap.size := by
    rw [hWz]
    exact ⟨hTf.os.trans (hy1.os.trans ho1.1), hTf.tape.trans (hy1.tape.trans ho1.2.1), hTf.output.trans (hy1.output.trans ho1.2.2), by simp; rw [hTf.size]; omega⟩
  have hP : FrPost rb (some ⟨b, off, none⟩) l c D w (.returned (frV (⟨0, 0, 0, 0, 0, false, 0, 0, ⟨#[]⟩, []⟩ : Fr) (.slice none 0 0))) Wz := by
    refine ⟨(⟨0, 0, 0, 0, 0, false, 0, 0, ⟨#[]⟩, []⟩ : Fr), .slice none 0 0, p + 1, true, rfl, ⟨ho.1, ho.2.1, ho.2.2.1, ho.2.2.2, fun k hk hn => by rw [hz k hk, hy1.block k (by omega) hn, hb1 k hk]⟩, ⟨hr2.blk.of_heap (hz _ hrb), fun j hj => ?_, hr2.le, hr2.ne, hr2.cap⟩, GBuf.nil _ _ _, Own.nil _, ⟨by decide, by decide, by decide, by decide, by decide, fun j hj => absurd hj (Nat.not_lt_zero _)⟩, HD.out⟩
    obtain ⟨b', off', ha, hc⟩ := hr2.by_ j hj
    have hbb : b' = b := by simp at ha; exact ha.1.symm
    exact ⟨b', off', ha, cell_of hc (hz b' (by omega))⟩
  have HP2 := hid hP
  clear hP hz ho hr1 hR1 ho1 hr2 hy1 hR2 hTf hBf hWz hs1 hb1
  have a0 := hBz.cell 0
  have a1 := hBz.cell 1
  have a2 := hBz.cell 2
  have a3 := hBz.cell 3
  have a4 := hBz.cell 4
  have a5 := hBz.cell 5
  have a6 := hBz.cell 6
  have a7 := hBz.cell 7
  have a8 := hBz.cell 8
  have a9 := hBz.cell 9
  simp only [List.getElem?_cons_zero, List.getElem?_cons_succ] at a0 a1 a2 a3 a4 a5 a6 a7 a8 a9
  exact bodyPost_ret (v := frV (⟨0, 0, 0, 0, 0, false, 0, 0, ⟨#[]⟩, []⟩ : Fr) (.slice none 0 0)) (by simp [results, Tryz.results45, go_sem, a0, a1, a2, a3, a4, a5, a6, a7, a8, a9, frV]) rfl HP2.out

set_option maxHeartbeats 4000000 in
set_option maxRecDepth 100000 in
theorem rframe_2 (rb b off : Nat) (l : List UInt8) (c p : Nat) (w : World) (h : RRd w rb (some ⟨b, off, none⟩) l c p false) (hp : p < l.length) (hX : w.cell? ⟨b, off + p, none⟩ = some (.int .u8 2)) (hl : l.length ≤ 1000000000) :
    Calls Tryz.prog 45 #[.pointer (some ⟨rb, 0, none⟩)] w (FrPost rb (some ⟨b, off, none⟩) l c (match rgAll l (p + 1) with | none => none | some (rs, q) => frFin (⟨2, 0, 0, 0, 0, false, 0, 0, ⟨#[]⟩, rs⟩ : Fr) q false) w) := by
  have c0 : w.cell? ⟨rb, 0, none⟩ = some (.slice (some ⟨b, off, none⟩) l.length c) := h.blk.cell 0
  have c1 : w.cell? ⟨rb, 1, none⟩ = some (.int .i64 (p : Int)) := h.blk.cell 1
  have c2 : w.cell? ⟨rb, 2, none⟩ = some (.bool false) := h.blk.cell 2
  have f1 := h.blk.frozen 1
  have f2 := h.blk.frozen 2
  have hrb := h.blk.lt
  have hbl : b < w.heap.size := World.block_lt_of_cell? _ _ hX
  have hne : ¬ (rb = w.heap.size) := by omega
  have hne1 : ¬ (rb = w.heap.size + 1) := by omega
  have hne2 : ¬ (b = w.heap.size) := by omega
  have hp' : (p : Int) < (l.length : Int) := by omega
  have H := hid h
  have HBY := hid h.by_
  have HP := hid hp
  clear h hp
  obtain ⟨D, hD⟩ : ∃ D, D = (match rgAll l (p + 1) with | none => none | some (rs, q) => frFin (⟨2, 0, 0, 0, 0, false, 0, 0, ⟨#[]⟩, rs⟩ : Fr) q false) := ⟨_, rfl⟩
  rw [← hD]
  have HD := hid hD
  clear hD
  go_enter Tryz.func45, Tryz.ntmps45
  go_wp2_with fail
  go_quiet (fail)
  go_wp2_with fail
  obtain ⟨W0, hW0⟩ : ∃ W0, W0 = ((((w.alloc (.cells #[.int .i64 0, .int .i64 0, .int .u64 0, .int .u64 0, .int .u64 0, .bool false, .int .u64 0, .int .u64 0, .string ⟨#[]⟩, .slice none 0 0] 65)).drewN nq).setCell ⟨rb, 1, none⟩ (.int .i64 ((p : Int) + 1))).alloc (.cells #[.int .i64 2, .int .i64 0, .int .u64 0, .int .u64 0, .int .u64 0, .bool false, .int .u64 0, .int .u64 0, .string ⟨#[]⟩, .slice none 0 0] 65)) := ⟨_, rfl⟩
  rw [← hW0]
  have HG0 : Hid (FrSt w rb (some ⟨b, off, none⟩) l c W0 (p + 1) false (⟨2, 0, 0, 0, 0, false, 0, 0, ⟨#[]⟩, []⟩ : Fr) (.slice none 0 0)) := FrSt.start H.out HP.out nq 2 (by decide) false W0 hW0
  clear hW0 c0 c1 f1 c2 f2 hX H HP
  refine (rranges_any rb _ l c _ _ W0 HG0.out.rd hl).mono ?_
  rintro e y1 ⟨k1, ⟨v, rs, q, _, hall, rfl, hbuf, hown, h1, hrl⟩ | ⟨hbad, rfl, q, h1⟩⟩
  · have hg1 := HG0.out.read h1 k1 hrb
    obtain ⟨ra, rc, hv, _⟩ := hbuf.shape
    subst hv
    have hlt := rgAll_lt hall
    have hg2 := hg1.ranges hrb HBY.out _ rs hbuf (hown.mono HG0.out.sz) (by omega) hlt
    have HD0 : Hid (D = frFin (⟨2, 0, 0, 0, 0, false, 0, 0, ⟨#[]⟩, rs⟩ : Fr) q false) := by unfold Hid; rw [HD.out, hall]
    have HG2 : Hid (FrSt w rb (some ⟨b, off, none⟩) l c (y1.setCell ⟨w.heap.size + 1, 9, none⟩ (.slice ra rs.length rc)) q false (⟨2, 0, 0, 0, 0, false, 0, 0, ⟨#[]⟩, rs⟩ : Fr) (.slice ra rs.length rc)) := hg2
    have HRN : Hid (RngAt (y1.setCell ⟨w.heap.size + 1, 9, none⟩ (.slice ra rs.length rc)) ra rs) := rng_of_gbuf hg2.rng hlt
    have c2 : y1.cell? ⟨rb, 2, none⟩ = some (.bool false) := hg1.rd.blk.cell 2
    have f2 := hg1.rd.blk.frozen 2
    have x0 : y1.cell? ⟨w.heap.size + 1, 0, none⟩ = some (.int .i64 2) := hg1.fr.cell 0
    have x1 : y1.cell? ⟨w.heap.size + 1, 1, none⟩ = some (.int .i64 0) := hg1.fr.cell 1
    have x2 : y1.cell? ⟨w.heap.size + 1, 2, none⟩ = some (.int .u64 0) := hg1.fr.cell 2
    have x3 : y1.cell? ⟨w.heap.size + 1, 3, none⟩ = some (.int .u64 0) := hg1.fr.cell 3
    have x4 : y1.cell? ⟨w.heap.size + 1, 4, none⟩ = some (.int .u64 0) := hg1.fr.cell 4
    have x5 : y1.cell? ⟨w.heap.size + 1, 5, none⟩ = some (.bool false) := hg1.fr.cell 5
    have x6 : y1.cell? ⟨w.heap.size + 1, 6, none⟩ = some (.int .u64 0) := hg1.fr.cell 6
    have x7 : y1.cell? ⟨w.heap.size + 1, 7, none⟩ = some (.int .u64 0) := hg1.fr.cell 7
    have x8 : y1.cell? ⟨w.heap.size + 1, 8, none⟩ = some (.string ⟨#[]⟩) := hg1.fr.cell 8
    have x9 : y1.cell? ⟨w.heap.size + 1, 9, none⟩ = some (.slice none 0 0) := hg1.fr.cell 9
    have r0 : y1.cell? ⟨w.heap.size, 0, none⟩ = some (.int .i64 0) := hg1.re.cell 0
    have r1 : y1.cell? ⟨w.heap.size, 1, none⟩ = some (.int .i64 0) := hg1.re.cell 1
    have r2 : y1.cell? ⟨w.heap.size, 2, none⟩ = some (.int .u64 0) := hg1.re.cell 2
    have r3 : y1.cell? ⟨w.heap.size, 3, none⟩ = some (.int .u64 0) := hg1.re.cell 3
    have r4 : y1.cell? ⟨w.heap.size, 4, none⟩ = some (.int .u64 0) := hg1.re.cell 4
    have r5 : y1.cell? ⟨w.heap.size, 5, none⟩ = some (.bool false) := hg1.re.cell 5
    have r6 : y1.cell? ⟨w.heap.size, 6, none⟩ = some (.int .u64 0) := hg1.re.cell 6
    have r7 : y1.cell? ⟨w.heap.size, 7, none⟩ = some (.int .u64 0) := hg1.re.cell 7
    have r8 : y1.cell? ⟨w.heap.size, 8, none⟩ = some (.string ⟨#[]⟩) := hg1.re.cell 8
    have r9 : y1.cell? ⟨w.heap.size, 9, none⟩ = some (.slice none 0 0) := hg1.re.cell 9
    have zr := fun o => hg1.re.frozen o
    have z9 := hg1.fr.frozen 9
    clear hg1 hg2 h1 k1 HG0 hbuf hown hall HD hlt
    have HD := HD0
    clear HD0
    go_wp2_with fail
    refine (rsound_any (⟨2, 0, 0, 0, 0, false, 0, 0, ⟨#[]⟩, rs⟩ : Fr) ra rc _ HG2.out.ok HRN.out).mono ?_
    rintro e yz ⟨rfl, hbz⟩
    have hgz := HG2.out.below hbz
    have c2 : yz.cell? ⟨rb, 2, none⟩ = some (.bool false) := hgz.rd.blk.cell 2
    have f2 := hgz.rd.blk.frozen 2
    have x0 : yz.cell? ⟨w.heap.size + 1, 0, none⟩ = some (.int .i64 2) := hgz.fr.cell 0
    have x1 : yz.cell? ⟨w.heap.size + 1, 1, none⟩ = some (.int .i64 0) := hgz.fr.cell 1
    have x2 : yz.cell? ⟨w.heap.size + 1, 2, none⟩ = some (.int .u64 0) := hgz.fr.cell 2
    have x3 : yz.cell? ⟨w.heap.size + 1, 3, none⟩ = some (.int .u64 0) := hgz.fr.cell 3
    have x4 : yz.cell? ⟨w.heap.size + 1, 4, none⟩ = some (.int .u64 0) := hgz.fr.cell 4
    have x5 : yz.cell? ⟨w.heap.size + 1, 5, none⟩ = some (.bool false) := hgz.fr.cell 5
    have x6 : yz.cell? ⟨w.heap.size + 1, 6, none⟩ = some (.int .u64 0) := hgz.fr.cell 6
    have x7 : yz.cell? ⟨w.heap.size + 1, 7, none⟩ = some (.int .u64 0) := hgz.fr.cell 7
    have x8 : yz.cell? ⟨w.heap.size + 1, 8, none⟩ = some (.string ⟨#[]⟩) := hgz.fr.cell 8
    have x9 : yz.cell? ⟨w.heap.size + 1, 9, none⟩ = some (.slice ra rs.length rc) := hgz.fr.cell 9
    have r0 : yz.cell? ⟨w.heap.size, 0, none⟩ = some (.int .i64 0) := hgz.re.cell 0
    have r1 : yz.cell? ⟨w.heap.size, 1, none⟩ = some (.int .i64 0) := hgz.re.cell 1
    have r2 : yz.cell? ⟨w.heap.size, 2, none⟩ = some (.int .u64 0) := hgz.re.cell 2
    have r3 : yz.cell? ⟨w.heap.size, 3, none⟩ = some (.int .u64 0) := hgz.re.cell 3
    have r4 : yz.cell? ⟨w.heap.size, 4, none⟩ = some (.int .u64 0) := hgz.re.cell 4
    have r5 : yz.cell? ⟨w.heap.size, 5, none⟩ = some (.bool false) := hgz.re.cell 5
    have r6 : yz.cell? ⟨w.heap.size, 6, none⟩ = some (.int .u64 0) := hgz.re.cell 6
    have r7 : yz.cell? ⟨w.heap.size, 7, none⟩ = some (.int .u64 0) := hgz.re.cell 7
    have r8 : yz.cell? ⟨w.heap.size, 8, none⟩ = some (.string ⟨#[]⟩) := hgz.re.cell 8
    have r9 : yz.cell? ⟨w.heap.size, 9, none⟩ = some (.slice none 0 0) := hgz.re.cell 9
    have zr := fun o => hgz.re.frozen o
    have HGZ := hid hgz
    have HD2 : Hid (D = if !(snd (⟨2, 0, 0, 0, 0, false, 0, 0, ⟨#[]⟩, rs⟩ : Fr)) then none else some ((⟨2, 0, 0, 0, 0, false, 0, 0, ⟨#[]⟩, rs⟩ : Fr), q)) := by unfold Hid; rw [HD.out]; rfl
    clear hgz hbz HG2 HD
    generalize snd (⟨2, 0, 0, 0, 0, false, 0, 0, ⟨#[]⟩, rs⟩ : Fr) = SS at *
    go_wp2_with fail
    rw [put10_eq]
    have hBf := put10_blk (HGZ.out.flag hrb (!SS)).re (.int .i64 2) (.int .i64 0) (.int .u64 0) (.int .u64 0) (.int .u64 0) (.bool false) (.int .u64 0) (.int .u64 0) (.string ⟨#[]⟩) (.slice ra rs.length rc)
    have hTf := put10_touch (yz.setCell ⟨rb, 2, none⟩ (.bool (!SS))) w.heap.size (.int .i64 2) (.int .i64 0) (.int .u64 0) (.int .u64 0) (.int .u64 0) (.bool false) (.int .u64 0) (.int .u64 0) (.string ⟨#[]⟩) (.slice ra rs.length rc)
    generalize put10 (yz.setCell ⟨rb, 2, none⟩ (.bool (!SS))) w.heap.size (.int .i64 2) (.int .i64 0) (.int .u64 0) (.int .u64 0) (.int .u64 0) (.bool false) (.int .u64 0) (.int .u64 0) (.string ⟨#[]⟩) (.slice ra rs.length rc) = Wf at *
    have a0 := hBf.cell 0
    have a1 := hBf.cell 1
    have a2 := hBf.cell 2
    have a3 := hBf.cell 3
    have a4 := hBf.cell 4
    have a5 := hBf.cell 5
    have a6 := hBf.cell 6
    have a7 := hBf.cell 7
    have a8 := hBf.cell 8
    have a9 := hBf.cell 9
    simp only [List.getElem?_cons_zero, List.getElem?_cons_succ] at a0 a1 a2 a3 a4 a5 a6 a7 a8 a9
    exact bodyPost_ret (v := frV (⟨2, 0, 0, 0, 0, false, 0, 0, ⟨#[]⟩, rs⟩ : Fr) (.slice ra rs.length rc)) (by simp [results, Tryz.results45, go_sem, a0, a1, a2, a3, a4, a5, a6, a7, a8, a9, frV]) rfl ((HGZ.out.flag hrb (!SS)).shut hrb HBY.out hTf D HD2.out)
  · have hg1 := HG0.out.read h1 k1 hrb
    have hD1 : D = none := by
      rw [HD.out]
      rcases hbad with hb | hb
      · cases hb
      · rw [hb]
    have HG1 : Hid (FrSt w rb (some ⟨b, off, none⟩) l c (y1.setCell ⟨w.heap.size + 1, 9, none⟩ (.slice none 0 0)) q true (⟨2, 0, 0, 0, 0, false, 0, 0, ⟨#[]⟩, []⟩ : Fr) (.slice none 0 0)) := hg1.field hrb HBY.out 9 _ rfl rfl hg1.ok
    have c2 : y1.cell? ⟨rb, 2, none⟩ = some (.bool true) := hg1.rd.blk.cell 2
    have f2 := hg1.rd.blk.frozen 2
    have x0 : y1.cell? ⟨w.heap.size + 1, 0, none⟩ = some (.int .i64 2) := hg1.fr.cell 0
    have x1 : y1.cell? ⟨w.heap.size + 1, 1, none⟩ = some (.int .i64 0) := hg1.fr.cell 1
    have x2 : y1.cell? ⟨w.heap.size + 1, 2, none⟩ = some (.int .u64 0) := hg1.fr.cell 2
    have x3 : y1.cell? ⟨w.heap.size + 1, 3, none⟩ = some (.int .u64 0) := hg1.fr.cell 3
    have x4 : y1.cell? ⟨w.heap.size + 1, 4, none⟩ = some (.int .u64 0) := hg1.fr.cell 4
    have x5 : y1.cell? ⟨w.heap.size + 1, 5, none⟩ = some (.bool false) := hg1.fr.cell 5
    have x6 : y1.cell? ⟨w.heap.size + 1, 6, none⟩ = some (.int .u64 0) := hg1.fr.cell 6
    have x7 : y1.cell? ⟨w.heap.size + 1, 7, none⟩ = some (.int .u64 0) := hg1.fr.cell 7
    have x8 : y1.cell? ⟨w.heap.size + 1, 8, none⟩ = some (.string ⟨#[]⟩) := hg1.fr.cell 8
    have x9 : y1.cell? ⟨w.heap.size + 1, 9, none⟩ = some (.slice none 0 0) := hg1.fr.cell 9
    have r0 : y1.cell? ⟨w.heap.size, 0, none⟩ = some (.int .i64 0) := hg1.re.cell 0
    have r1 : y1.cell? ⟨w.heap.size, 1, none⟩ = some (.int .i64 0) := hg1.re.cell 1
    have r2 : y1.cell? ⟨w.heap.size, 2, none⟩ = some (.int .u64 0) := hg1.re.cell 2
    have r3 : y1.cell? ⟨w.heap.size, 3, none⟩ = some (.int .u64 0) := hg1.re.cell 3
    have r4 : y1.cell? ⟨w.heap.size, 4, none⟩ = some (.int .u64 0) := hg1.re.cell 4
    have r5 : y1.cell? ⟨w.heap.size, 5, none⟩ = some (.bool false) := hg1.re.cell 5
    have r6 : y1.cell? ⟨w.heap.size, 6, none⟩ = some (.int .u64 0) := hg1.re.cell 6
    have r7 : y1.cell? ⟨w.heap.size, 7, none⟩ = some (.int .u64 0) := hg1.re.cell 7
    have r8 : y1.cell? ⟨w.heap.size, 8, none⟩ = some (.string ⟨#[]⟩) := hg1.re.cell 8
    have r9 : y1.cell? ⟨w.heap.size, 9, none⟩ = some (.slice none 0 0) := hg1.re.cell 9
    have zr := fun o => hg1.re.frozen o
    have z9 := hg1.fr.frozen 9
    have HD1 := hid hD1
    clear hg1 h1 k1 HG0 hbad hD1 HD
    go_wp2_with fail
    rw [put10_eq]
    have hBf := put10_blk HG1.out.re (.int .i64 2) (.int .i64 0) (.int .u64 0) (.int .u64 0) (.int .u64 0) (.bool false) (.int .u64 0) (.int .u64 0) (.string ⟨#[]⟩) (.slice none 0 0)
    have hTf := put10_touch (y1.setCell ⟨w.heap.size + 1, 9, none⟩ (.slice none 0 0)) w.heap.size (.int .i64 2) (.int .i64 0) (.int .u64 0) (.int .u64 0) (.int .u64 0) (.bool false) (.int .u64 0) (.int .u64 0) (.string ⟨#[]⟩) (.slice none 0 0)
    generalize put10 (y1.setCell ⟨w.heap.size + 1, 9, none⟩ (.slice none 0 0)) w.heap.size (.int .i64 2) (.int .i64 0) (.int .u64 0) (.int .u64 0) (.int .u64 0) (.bool false) (.int .u64 0) (.int .u64 0) (.string ⟨#[]⟩) (.slice none 0 0) = Wf at *
    have a0 := hBf.cell 0
    have a1 := hBf.cell 1
    have a2 := hBf.cell 2
    have a3 := hBf.cell 3
    have a4 := hBf.cell 4
    have a5 := hBf.cell 5
    have a6 := hBf.cell 6
    have a7 := hBf.cell 7
    have a8 := hBf.cell 8
    have a9 := hBf.cell 9
    simp only [List.getElem?_cons_zero, List.getElem?_cons_succ] at a0 a1 a2 a3 a4 a5 a6 a7 a8 a9
    exact bodyPost_ret (v := frV (⟨2, 0, 0, 0, 0, false, 0, 0, ⟨#[]⟩, []⟩ : Fr) (.slice none 0 0)) (by simp [results, Tryz.results45, go_sem, a0, a1, a2, a3, a4, a5, a6, a7, a8, a9, frV]) rfl (HG1.out.shut hrb HBY.out hTf D (by rw [HD1.out]; rfl))

end Go.Proofs.YtphbledmopchnaaGreatDoor
