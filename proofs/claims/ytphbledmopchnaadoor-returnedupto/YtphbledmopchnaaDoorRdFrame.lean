/-
  The reader: a frame.
-/
import Derived.Test.YtphbledmopchnaaDoorNorm
import Derived.Deep.RegionWith
import Derived.Deep.CutRange
namespace Go.Proofs.YtphbledmopchnaaDoor
open Go.RowKit Go.Lib Go.Shelf Mm

theorem set_os (w : World) (a : Addr) (v : Value) : (w.setCell a v).os = w.os := rfl
theorem set_tape (w : World) (a : Addr) (v : Value) : (w.setCell a v).tape = w.tape := rfl
theorem set_output (w : World) (a : Addr) (v : Value) : (w.setCell a v).output = w.output := rfl
theorem set_size (w : World) (a : Addr) (v : Value) : (w.setCell a v).heap.size = w.heap.size := by simp

/-- A frame that lies alone. -/
theorem frAt_of {w : World} {fb : Nat} {f : Fr} {ra : Option Addr} {rc : Nat} (hF : Blk w fb 28 (fcells f (.slice ra f.ranges.length rc))) (hR : GBuf 50 2 w (.slice ra f.ranges.length rc) f.ranges.length (rcells f.ranges)) (ok : FrOk f) : FrAt w fb 0 f ra rc :=
  ⟨hF.cell 0, hF.cell 1, hF.cell 2, hF.cell 3, hF.cell 4, hF.cell 5, hF.cell 6, hF.cell 7, hF.cell 8, hF.cell 9, fun i hi => by
    obtain ⟨r1, r2⟩ := rcells_get _ i hi
    obtain ⟨b1, e1, d1, _⟩ := hR.cell rfl _ _ r1
    obtain ⟨b2, e2, d2, _⟩ := hR.cell rfl _ _ r2
    rw [e1] at e2
    cases e2
    exact ⟨b1, 0, e1, by rw [Nat.zero_add]; exact d1, by rw [Nat.zero_add]; exact d2, ok.r0 i hi⟩, ok.rlen, ok.dlen, ok.k0, ok.s0, ok.u0⟩

set_option maxHeartbeats 4000000 in
set_option maxRecDepth 100000 in
theorem frame_any (f : Fr) (hs : snd f = true) (ok : FrOk f) (rb yb yo cap : Nat) (body : List UInt8) (p bg : Nat) (rest : List UInt8) (w : World) (h : RdAt w rb yb yo cap body p bg) (hb : body.drop p = frBytes f ++ rest) (hrb : rb < w.heap.size) (hyb : yb < w.heap.size) :
    Calls Tryd.prog 48 #[.pointer (some ⟨rb, 0, none⟩)] w fun e w' => ∃ v9, e = .returned (.agg (fcells (norm f) v9).toArray) ∧ GBuf 50 2 w' v9 (norm f).ranges.length (rcells (norm f).ranges) ∧ Own (w.heap.size + 1) v9 ∧ RdAt w' rb yb yo cap body (p + (frBytes f).length) p ∧ St2 w.heap.size rb rb w w' := by
  obtain ⟨F, hF⟩ : ∃ F, norm f = F := ⟨_, rfl⟩
  have HFF : Hid (norm f = F ∧ snd F = true ∧ FrOk F) := ⟨hF, by rw [← hF]; exact norm_snd f hs, by rw [← hF]; exact norm_ok f hs ok⟩
  rw [hF]
  clear hF
  obtain ⟨x, t, hx, hK⟩ := first_byte f hs
  have hb1 : body.drop p = [x] ++ (t ++ rest) := by rw [hb, hx]; rfl
  obtain ⟨hp, hbx⟩ := drop_byte hb1
  have hby := h.byte p hp
  rw [hbx] at hby
  have x0 : w.cell? ⟨rb, 0, none⟩ = some (.slice (some ⟨yb, yo, none⟩) body.length cap) := h.blk.cell 0
  have x1 : w.cell? ⟨rb, 1, none⟩ = some (.int .i64 (p : Int)) := h.blk.cell 1
  have x2 : w.cell? ⟨rb, 2, none⟩ = some (.int .i64 (bg : Int)) := h.blk.cell 2
  have z2 := h.blk.frozen 2
  have hne := h.ne
  have hp' : (p : Int) < (body.length : Int) := by omega
  have HK := hid hK
  have HH := hid h
  have HB := hid hb
  have HBX := hid hbx
  clear hK h hb hb1 hx hbx
  go_enter Tryd.func48, Tryd.ntmps48
  go_upto_region 2 with fail
  generalize hW : (w.setCell ⟨rb, 2, none⟩ (.int .i64 (p : Int))).alloc (.cells #[.int .i64 0, .int .i64 0, .int .u64 0, .int .u64 0, .int .u64 0, .bool false, .int .u64 0, .int .u64 0, .string ⟨#[]⟩, .slice none 0 0] 28) = W
  have hWs : W.heap.size = w.heap.size + 1 := by rw [← hW]; simp
  have hRd : RdAt W rb yb yo cap body p p := by
    have h := HH.out
    rw [← hW]
    have h2 : RdAt (w.setCell ⟨rb, 2, none⟩ (.int .i64 (p : Int))) rb yb yo cap body p p := ⟨h.blk.setCell 2 _, h.bts.of (fun x hx => by simp at hx; subst hx; exact Below.heap_setCell _ _ _ _ (Ne.symm h.ne)), h.le, h.room, h.cap, h.ne⟩
    exact h2.of (Below.heap_alloc _ _ _ (by simpa using hrb)) (Below.heap_alloc _ _ _ (by simpa using hyb))
  have hRes : Blk W w.heap.size 28 [.int .i64 0, .int .i64 0, .int .u64 0, .int .u64 0, .int .u64 0, .bool false, .int .u64 0, .int .u64 0, .string ⟨#[]⟩, .slice none 0 0] := by
    rw [← hW]
    have := Blk.new (w.setCell ⟨rb, 2, none⟩ (.int .i64 (p : Int))) 28 [.int .i64 0, .int .i64 0, .int .u64 0, .int .u64 0, .int .u64 0, .bool false, .int .u64 0, .int .u64 0, .string ⟨#[]⟩, .slice none 0 0]
    simpa using this
  have hSt : St2 w.heap.size rb rb w W := by
    rw [← hW]
    exact ⟨rfl, rfl, rfl, by simp, fun k hk h1 _ => by rw [Below.heap_alloc _ _ _ (by simpa using hk), Below.heap_setCell _ _ _ _ h1]⟩
  have k0 : W.cell? ⟨rb, 0, none⟩ = some (.slice (some ⟨yb, yo, none⟩) body.length cap) := hRd.blk.cell 0
  have k1 : W.cell? ⟨rb, 1, none⟩ = some (.int .i64 (p : Int)) := hRd.blk.cell 1
  have kb := hRd.byte p hp
  rw [HBX.out] at kb
  have l1 : rb < W.heap.size := by omega
  have l2 : yb < W.heap.size := by omega
  have HW := hid (And.intro hWs (And.intro hRd (And.intro hRes hSt)))
  clear hW hWs hRd hRes hSt x0 x1 x2 z2 hby HH
  go_cut [3] from 11 to 22 (fun s3 wx => s3 = .pointer (some ⟨W.heap.size, 0, none⟩) ∧ wx.heap = (W.alloc (.cells #[.int .i64 f.kind, .int .i64 0, .int .u64 0, .int .u64 0, .int .u64 0, .bool false, .int .u64 0, .int .u64 0, .string ⟨#[]⟩, .slice none 0 0] 28)).heap ∧ wx.os = W.os ∧ wx.tape = W.tape ∧ wx.output = W.output)
  case first =>
    go_region_with (go_at_call 71; refine (HK.out _).mono ?_; rintro e w4 ⟨rfl, hw4⟩; subst hw4)
    all_goals ((try go_wp2_with fail); go_meet; exact ⟨rfl, rfl, rfl, rfl, rfl⟩)
  case rest =>
    obtain ⟨rfl, hh, ho, ht, hout⟩ := hcut
    obtain ⟨hWs, hRd, hRes, hSt⟩ := HW.out
    have hcs : wc.heap.size = W.heap.size + 1 := by rw [hh]; simp
    have hold : ∀ b, b < W.heap.size → wc.heap[b]? = W.heap[b]? := fun b hb => by rw [hh]; exact Below.heap_alloc _ _ _ hb
    have hF : Blk wc W.heap.size 28 (fcells (frK f.kind) (.slice none 0 0)) := (Blk.new W 28 (fcells (frK f.kind) (.slice none 0 0))).of_heap (by rw [hh]; rfl)
    have y0 : wc.cell? ⟨W.heap.size, 0, none⟩ = some (.int .i64 f.kind) := hF.cell 0
    obtain ⟨_, hk1, hk8, _⟩ := fit_of f hs
    have HIK := hid (isKind_any f.kind wc)
    rw [decide_eq_true (p := 1 ≤ f.kind ∧ f.kind ≤ 8) ⟨hk1, hk8⟩] at HIK
    have HLAY := hid (layoutOf_any f.kind hk1 hk8 wc)
    have hrdC : ∀ (wl : World) (fw fr : Value), LayK (wc.heap.size + 1) wl f.kind fw fr → Below wc.heap.size wc wl →
        ∃ g cb, fr = .func (.func g) #[] cb ∧ (∀ args w, (callFunc g args).run Tryd.prog w = .ok (.enter g args) w) ∧
          Calls Tryd.prog g (#[.pointer (some ⟨rb, 0, none⟩), .pointer (some ⟨W.heap.size, 0, none⟩)] ++ cb) wl fun e y => e = .returned (.tuple #[]) ∧ ∃ v9, RP (wc.heap.size + 1) wl.heap.size rb W.heap.size yb yo cap body y (p + (frBytes f).length) p (F) v9 ∧ St2 wl.heap.size rb W.heap.size wl y := by
      intro wl fw fr hL hbl
      obtain ⟨g, cb, h1, h2, h3⟩ := layK_rd f hL hs ok.dlen ok.rlen rb W.heap.size yb yo cap body p
      have hsz : wc.heap.size + 1 ≤ wl.heap.size := by
        rcases hL with ⟨_, hP⟩ | ⟨_, pb, qb, _, _, hB, _⟩
        · rcases hP with ⟨_, xb, hx, _⟩ | ⟨h, _⟩ | ⟨h, _⟩ | ⟨h, _⟩ | ⟨h, _⟩ | ⟨h, _⟩
          · have := World.block_lt_of_cell? _ _ hx.2
            have := hx.1
            simp at *
            omega
          all_goals simp at h
        · have := World.block_lt_of_cell? _ _ hB.2
          have := hB.1
          simp at *
          omega
      refine ⟨g, cb, h1, h2, ?_⟩
      refine (h3 wl p (frK f.kind) (.slice none 0 0) rest ⟨Nat.le_refl _, fun _ _ _ => rfl⟩ ⟨?_, hF.of_heap (hbl.block _ (by omega)), GBuf.nil _ _ _, Own.nil _, hsz, Nat.le_refl _, by omega, by omega, by omega, by omega, by omega⟩ rfl HB.out).mono ?_
      · exact hRd.of (by rw [hbl.block _ (by omega), hold _ l1]) (by rw [hbl.block _ (by omega), hold _ l2])
      · rintro e y ⟨he, v9, hP, hS⟩
        have hP' : RP (wc.heap.size + 1) wl.heap.size rb W.heap.size yb yo cap body y (p + (frBytes f).length) p (norm f) v9 := hP
        rw [HFF.out.1] at hP'
        exact ⟨he, v9, hP', hS⟩
    have HRD := hid hrdC
    have HW2 := hid (And.intro hcs (And.intro hold (And.intro ho (And.intro ht hout))))
    clear hrdC hh ho ht hout hWs hRd hRes hSt hcs hold hF hk1 hk8 k0 k1 kb
    go_wp2_with fail
    refine HIK.out.mono ?_
    rintro e w4 ⟨rfl, hw4⟩
    subst hw4
    go_wp2_with fail
    refine HLAY.out.mono ?_
    rintro e wl ⟨fw, fr, rfl, hL, hbl⟩
    obtain ⟨g1, cb1, _, _, hfw, _⟩ := hL.shape
    subst hfw
    obtain ⟨g, cb, hfr, eg, hC⟩ := HRD.out wl _ fr hL hbl
    subst hfr
    have HC := hid hC
    have HBL := hid hbl
    have hfd := fld1 g1 g cb1 cb
    clear hC hL hbl HRD HLAY HIK y0
    go_wp2_with fail
    refine HC.out.mono ?_
    rintro e y ⟨rfl, v9, hP, hS⟩
    obtain ⟨ra, rc, hv, _⟩ := hP.rng.shape
    subst hv
    have hFA : FrAt y W.heap.size 0 (F) ra rc := frAt_of hP.frm hP.rng HFF.out.2.2
    have HSND := hid (soundFrame_any W.heap.size 0 (F) ra rc y hFA)
    rw [HFF.out.2.1] at HSND
    have HP := hid hP
    have HS := hid hS
    clear hP hS hFA HC
    go_wp2_with fail
    refine HSND.out.mono ?_
    rintro e y2 ⟨rfl, hb2⟩
    obtain ⟨hcs, hold, ho, ht, hout⟩ := HW2.out
    obtain ⟨hWs, hRd, hRes, hSt⟩ := HW.out
    have hbl := HBL.out
    have hls := hbl.size
    have hys := HS.out.size
    have hF2 := HP.out.frm.of_heap (hb2.block _ (by omega))
    have hst : ∀ k, k < W.heap.size → k ≠ rb → y2.heap[k]? = W.heap[k]? := fun k hk h1 => by
      rw [hb2.block k (by omega), HS.out.block k (by omega) h1 (by omega), hbl.block k (by omega), hold k hk]
    have hRes2 := hRes.of_heap (hst w.heap.size (by omega) (by omega))
    have n0 := hF2.cell 0
    have n1 := hF2.cell 1
    have n2 := hF2.cell 2
    have n3 := hF2.cell 3
    have n4 := hF2.cell 4
    have n5 := hF2.cell 5
    have n6 := hF2.cell 6
    have n7 := hF2.cell 7
    have n8 := hF2.cell 8
    have n9 := hF2.cell 9
    have HRW := hid (show ∀ i : Nat, y2.frozen? ⟨w.heap.size, i, none⟩ = false from fun i => hRes2.frozen i)
    have r0 := hRes2.cell 0
    have r1 := hRes2.cell 1
    have r2 := hRes2.cell 2
    have r3 := hRes2.cell 3
    have r4 := hRes2.cell 4
    have r5 := hRes2.cell 5
    have r6 := hRes2.cell 6
    have r7 := hRes2.cell 7
    have r8 := hRes2.cell 8
    have r9 := hRes2.cell 9
    have z0 := HRW.out 0
    have z1 := HRW.out 1
    have z2 := HRW.out 2
    have z3 := HRW.out 3
    have z4 := HRW.out 4
    have z5 := HRW.out 5
    have z6 := HRW.out 6
    have z7 := HRW.out 7
    have z8 := HRW.out 8
    have z9 := HRW.out 9
    simp only [fcells, List.getElem?_cons_zero, List.getElem?_cons_succ] at n0 n1 n2 n3 n4 n5 n6 n7 n8 n9 r0 r1 r2 r3 r4 r5 r6 r7 r8 r9
    have hne2 : ¬ (W.heap.size = w.heap.size) := by omega
    have hfin : ∀ y3 : World, y3.os = y2.os → y3.tape = y2.tape → y3.output = y2.output → y3.heap.size = y2.heap.size → (∀ k, k ≠ w.heap.size → y3.heap[k]? = y2.heap[k]?) →
        GBuf 50 2 y3 (.slice ra (F).ranges.length rc) (F).ranges.length (rcells (F).ranges) ∧ Own (w.heap.size + 1) (.slice ra (F).ranges.length rc) ∧ RdAt y3 rb yb yo cap body (p + (frBytes f).length) p ∧ St2 w.heap.size rb rb w y3 := fun y3 e1 e2 e3 e4 e5 => by
      have hP := HP.out
      refine ⟨hP.rng.of_heap (fun b hb => ?_), hP.own.mono (by omega), hP.rd.of ?_ ?_, ?_⟩
      · have := hP.own b hb
        rw [e5 b (by omega), hb2.block b (hP.rng.lt b hb)]
      · rw [e5 rb (by omega), hb2.block rb (by omega)]
      · rw [e5 yb (by omega), hb2.block yb (by omega)]
      · refine ⟨?_, ?_, ?_, by rw [e4]; have := hb2.size; omega, fun k hk h1 _ => ?_⟩
        · rw [e1, hb2.os, HS.out.os, hbl.os, ho, hSt.os]
        · rw [e2, hb2.tape, HS.out.tape, hbl.tape, ht, hSt.tape]
        · rw [e3, hb2.output, HS.out.output, hbl.output, hout, hSt.output]
        · rw [e5 k (by omega), hst k (by omega) h1, hSt.block k hk h1 h1]
    have HFIN := hid hfin
    clear hfin hcs hold ho ht hout hWs hRd hRes hSt hbl hls hys hF2 hst hRes2 hb2 HRW HP HS
    go_wp2_with fail
    exact bodyPost_ret (v := .agg #[.int .i64 (F).kind, .int .i64 (F).stream, .int .u64 ((F).offset : Int), .int .u64 ((F).reliable : Int), .int .u64 ((F).limit : Int), .bool (F).fin, .int .u64 ((F).id : Int), .int .u64 ((F).deadline : Int), .string (F).data, .slice ra (F).ranges.length rc]) (by simp [results, Tryd.results48, go_sem, r0, r1, r2, r3, r4, r5, r6, r7, r8, r9]) rfl ⟨.slice ra (F).ranges.length rc, rfl, HFIN.out _ (by simp only [set_os]) (by simp only [set_tape]) (by simp only [set_output]) (by simp only [set_size]) (fun k hk => by rw [Below.heap_setCell _ _ _ _ hk, Below.heap_setCell _ _ _ _ hk, Below.heap_setCell _ _ _ _ hk, Below.heap_setCell _ _ _ _ hk, Below.heap_setCell _ _ _ _ hk, Below.heap_setCell _ _ _ _ hk, Below.heap_setCell _ _ _ _ hk, Below.heap_setCell _ _ _ _ hk, Below.heap_setCell _ _ _ _ hk, Below.heap_setCell _ _ _ _ hk])⟩

end Go.Proofs.YtphbledmopchnaaDoor
