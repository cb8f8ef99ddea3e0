import Derived.Test.YtphbledmopchnaaGreatDoorQe
import Derived.Test.YtphbledmopchnaaGreatDoorQg
/-
  The document's Decode.
-/
namespace Go.Proofs.YtphbledmopchnaaGreatDoor
open Go.RowKit Go.Lib Mm

theorem BytesAt.of_below {w w' : World} {a : Option Addr} {l : List UInt8} (h : BytesAt w a l) (hb : Below w.heap.size w w') : BytesAt w' a l := fun j hj => by
  obtain ⟨b, off, ha, hc⟩ := h j hj
  exact ⟨b, off, ha, cell_of hc (hb.block _ (World.block_lt_of_cell? _ _ hc))⟩
theorem BytesAt.str {w : World} {b off : Nat} {l : List UInt8} (h : BytesAt w (some ⟨b, off, none⟩) l) (c : Nat) : (convert 60 9 (.slice (some ⟨b, off, none⟩) l.length c)).run Tryz.prog w = .ok (.string ⟨l.toArray⟩) w :=
  run_convert_bytes_back (P := Tryz.prog) w 60 9 5 ⟨b, off, none⟩ c l u29 (by kernel_rfl) u9 (fun j hj => by
    obtain ⟨b', off', ha, hc⟩ := h j hj
    simp at ha
    obtain ⟨rfl, rfl⟩ := ha
    rw [Addr.add_lit]
    exact hc)

set_option maxHeartbeats 4000000 in
set_option maxRecDepth 100000 in
theorem rdecode_sum (b off : Nat) (l body : List UInt8) (c : Nat) (w : World) (hl : l.length ≤ 800000000) (hbl : l.length = body.length + 4) (hc : l.length ≤ c) (hby : BytesAt w (some ⟨b, off, none⟩) l) (hbb : BytesAt w (some ⟨b, off, none⟩) body) (hs : body ++ sumBytes body ≠ l) :
    Calls Tryz.prog 27 #[.slice (some ⟨b, off, none⟩) l.length c] w fun e w' => e = .returned (.tuple #[.agg #[.int .u64 0, .slice none 0 0], .int .i64 7, .int .i64 (-1)]) ∧ Below w.heap.size w w' := by
  obtain ⟨W0, hW0⟩ : ∃ W0, W0 = w.alloc (.cells #[.int .u64 0, .slice none 0 0] 56) := ⟨_, rfl⟩
  have hb0 : Below w.heap.size w W0 := by rw [hW0]; exact (Below.refl _ w).alloc (Nat.le_refl _) _
  have hs0 : W0.heap.size = w.heap.size + 1 := by rw [hW0]; simp
  have hR0 : Blk W0 w.heap.size 56 [.int .u64 0, .slice none 0 0] := by rw [hW0]; exact Blk.new w 56 _
  have HSE := hid (rsealed_any (some ⟨b, off, none⟩) body c W0 (by omega) (hbb.of_below hb0))
  have HW := hid (And.intro hb0 (And.intro hs0 (And.intro hR0 (hby.of_below hb0))))
  have HNE := hid hs
  have hl4 : ¬ ((l.length : Int) < 4) := by omega
  have e4 : (l.length : Int) - 4 = (body.length : Int) := by omega
  have hbc : (body.length : Int) ≤ (c : Int) := by omega
  have hb1 : body.length ≤ 800000000 := by omega
  clear hb0 hs0 hR0 hby hbb hs hbl
  generalize hLL : l.length = L at *
  generalize hNN : body.length = N at *
  have HLL := hid hLL
  clear hLL hNN
  go_enter Tryz.func27, Tryz.ntmps27
  go_wp2_with fail
  rw [← hW0]
  clear hW0
  refine HSE.out.mono ?_
  rintro e w1 ⟨v, rfl, hB, hO, hb1'⟩
  obtain ⟨g, cg, cs, hv, hBl, hcl, hc2, _, hc4, _⟩ : ∃ g cap cs, v = .slice (some ⟨g, 0, none⟩) (body ++ sumBytes body).length cap ∧ Blk w1 g 5 cs ∧ cs.length = cap ∧ (body ++ sumBytes body).length ≤ cap ∧ cap ≤ 9223372036854775807 ∧ cs.take (body ++ sumBytes body).length = bcells (body ++ sumBytes body) ∧ ∀ v ∈ cs, v.oneCell' = true := by
    rcases hB with ⟨_, h0⟩ | h
    · have := congrArg List.length h0
      rw [List.length_append, sumBytes_len] at this
      simp at this
    · exact h
  subst hv
  obtain ⟨hb0, hs0, hR0, hby0⟩ := HW.out
  have hO1 : Own0 w1 g (body ++ sumBytes body) := ⟨cs, hBl, by omega, hc4⟩
  obtain ⟨S1, hS1⟩ : ∃ S : ByteArray, S = ⟨(body ++ sumBytes body).toArray⟩ := ⟨_, rfl⟩
  obtain ⟨S2, hS2⟩ : ∃ S : ByteArray, S = ⟨l.toArray⟩ := ⟨_, rfl⟩
  have cv1 : (convert 60 9 (.slice (some ⟨g, 0, none⟩) (body ++ sumBytes body).length cg)).run Tryz.prog w1 = .ok (.string S1) w1 := by rw [hS1]; exact hO1.str cg
  have cv2 : (convert 60 9 (.slice (some ⟨b, off, none⟩) L c)).run Tryz.prog w1 = .ok (.string S2) w1 := by rw [hS2, ← HLL.out]; exact (hby0.of_below hb1').str c
  have hne : (S1.toList == S2.toList) = false := by
    rw [ByteArray.toList_eq, ByteArray.toList_eq, hS1, hS2]
    simpa using HNE.out
  have hR1 := hR0.of_heap (hb1'.block _ (by omega))
  have r0 : w1.cell? ⟨w.heap.size, 0, none⟩ = some (.int .u64 0) := hR1.cell 0
  have r1 : w1.cell? ⟨w.heap.size, 1, none⟩ = some (.slice none 0 0) := hR1.cell 1
  have z0 := hR1.frozen 0
  have z1 := hR1.frozen 1
  have HB := hid (hb0.trans (hb1'.mono (by omega)))
  clear hB hO hb1' hBl hcl hc2 hc4 hO1 hS1 hS2 hb0 hs0 hR0 hby0 hR1
  generalize (body ++ sumBytes body).length = LS at *
  go_wp2_with fail
  exact bodyPost_ret (v := .tuple #[.agg #[.int .u64 0, .slice none 0 0], .int .i64 7, .int .i64 (-1)]) (by simp [results, Tryz.results27, go_sem, r0, r1]) rfl ⟨rfl, (HB.out.setCell (p := ⟨w.heap.size, 0, none⟩) (Nat.le_refl _) _).setCell (p := ⟨w.heap.size, 1, none⟩) (Nat.le_refl _) _⟩
end Go.Proofs.YtphbledmopchnaaGreatDoor

/-
  The document's Decode, behind the sum.
-/
namespace Go.Proofs.YtphbledmopchnaaGreatDoor
open Go.RowKit Go.Lib Mm

/-- What Decode answers. -/
def DcPost (body : List UInt8) (w : World) (e : Ending) (w' : World) : Prop :=
  Below w.heap.size w w' ∧
  (((rB body 0 = true ∨ rP body 0 = body.length) ∧ e = .returned (.tuple #[.agg #[.int .u64 0, .slice none 0 0], .int .i64 8, .int .i64 0])) ∨
   (∃ q : Nat, rB body 0 = false ∧ rP body 0 ≠ body.length ∧ dcGo body (body.length + 1) (rP body 0) [] = .error q ∧ e = .returned (.tuple #[.agg #[.int .u64 0, .slice none 0 0], .int .i64 8, .int .i64 (q : Int)])) ∨
   (∃ fs s v9, rB body 0 = false ∧ rP body 0 ≠ body.length ∧ dcGo body (body.length + 1) (rP body 0) [] = .ok fs ∧ e = .returned (.tuple #[.agg #[.int .u64 ((rV body 0 : Nat) : Int), s], .int .i64 0, .int .i64 (-1)]) ∧ CpTo w.heap.size w' s fs v9 fs.length ∧ ∀ j, j < fs.length → FrOk (fs.getD j fr0)))

/-- Where the loop stands. -/
structure DcInv (w : World) (rb PB : Nat) (a : Option Addr) (body : List UInt8) (c V : Nat) (D : Except Nat (List Fr)) (wr : World) (p k : Nat) (fs : List Fr) (s : Value) (v9 : Nat → Value) : Prop where
  rd : RRd wr rb a body c p false
  pk : Blk wr PB 56 [.int .u64 (V : Int), s]
  re : Blk wr w.heap.size 56 [.int .u64 0, .slice none 0 0]
  cp : CpTo (PB + 1) wr s fs v9 fs.length
  bl : Below w.heap.size w wr
  go : dcGo body k p fs = D
  fuel : body.length < k + p
  len : fs.length ≤ p
  ok : ∀ j, j < fs.length → FrOk (fs.getD j fr0)

theorem CpTo.of_heap {B : Nat} {w w' : World} {s : Value} {fs : List Fr} {v9 : Nat → Value} {k : Nat} (h : CpTo B w s fs v9 k) (e : ∀ b, B ≤ b → b < w.heap.size → w'.heap[b]? = w.heap[b]?) : CpTo B w' s fs v9 k :=
  ⟨h.buf.of_heap (fun b hb => e b (h.own b hb) (h.buf.lt b hb)), h.own, fun j hj => by
    obtain ⟨r1, r2, r3⟩ := h.rng j hj
    exact ⟨r1.of_heap (fun b hb => e b (r2 b hb) (r1.lt b hb)), r2, r3⟩⟩
theorem CpTo.low {A B : Nat} {w : World} {s : Value} {fs : List Fr} {v9 : Nat → Value} {k : Nat} (h : CpTo B w s fs v9 k) (hA : A ≤ B) : CpTo A w s fs v9 k :=
  ⟨h.buf, h.own.mono hA, fun j hj => by
    obtain ⟨r1, r2, r3⟩ := h.rng j hj
    exact ⟨r1, r2.mono hA, r3⟩⟩

set_option maxHeartbeats 4000000 in
set_option maxRecDepth 100000 in
theorem rdecode_body (b off : Nat) (l body : List UInt8) (c : Nat) (w : World) (hl : l.length ≤ 800000000) (hbl : l.length = body.length + 4) (hc : l.length ≤ c) (hby : BytesAt w (some ⟨b, off, none⟩) l) (hbb : BytesAt w (some ⟨b, off, none⟩) body) (hs : body ++ sumBytes body = l) :
    Calls Tryz.prog 27 #[.slice (some ⟨b, off, none⟩) l.length c] w (DcPost body w) := by
  obtain ⟨W0, hW0⟩ : ∃ W0, W0 = w.alloc (.cells #[.int .u64 0, .slice none 0 0] 56) := ⟨_, rfl⟩
  have hb0 : Below w.heap.size w W0 := by rw [hW0]; exact (Below.refl _ w).alloc (Nat.le_refl _) _
  have hs0 : W0.heap.size = w.heap.size + 1 := by rw [hW0]; simp
  have hR0 : Blk W0 w.heap.size 56 [.int .u64 0, .slice none 0 0] := by rw [hW0]; exact Blk.new w 56 _
  have HSE := hid (rsealed_any (some ⟨b, off, none⟩) body c W0 (by omega) (hbb.of_below hb0))
  have hblt : b < w.heap.size := by
    obtain ⟨b', off', ha, hcc⟩ := hby 0 (by omega)
    simp at ha
    obtain ⟨rfl, rfl⟩ := ha
    exact World.block_lt_of_cell? _ _ hcc
  have HW := hid (And.intro hb0 (And.intro hs0 (And.intro hR0 (And.intro (hby.of_below hb0) (And.intro (hbb.of_below hb0) hblt)))))
  have HEQ := hid hs
  have hl4 : ¬ ((l.length : Int) < 4) := by omega
  have e4 : (l.length : Int) - 4 = (body.length : Int) := by omega
  have hbc : (body.length : Int) ≤ (c : Int) := by omega
  have HBC : Hid (body.length ≤ c) := by unfold Hid; omega
  have hb1 : body.length ≤ 800000000 := by omega
  clear hb0 hs0 hR0 hby hbb hs hbl hblt
  generalize hLL : l.length = L at *
  generalize hNN : body.length = N at *
  have HLL := hid hLL
  have HNN := hid hNN
  clear hLL hNN
  go_enter Tryz.func27, Tryz.ntmps27
  go_wp2_with fail
  rw [← hW0]
  clear hW0
  refine HSE.out.mono ?_
  rintro e w1 ⟨v, rfl, hB, hO, hb1'⟩
  obtain ⟨g, cg, cs, hv, hBl, hcl, hc2, _, hc4, _⟩ : ∃ g cap cs, v = .slice (some ⟨g, 0, none⟩) (body ++ sumBytes body).length cap ∧ Blk w1 g 5 cs ∧ cs.length = cap ∧ (body ++ sumBytes body).length ≤ cap ∧ cap ≤ 9223372036854775807 ∧ cs.take (body ++ sumBytes body).length = bcells (body ++ sumBytes body) ∧ ∀ v ∈ cs, v.oneCell' = true := by
    rcases hB with ⟨_, h0⟩ | h
    · have := congrArg List.length h0
      rw [List.length_append, sumBytes_len] at this
      simp at this
    · exact h
  subst hv
  obtain ⟨hb0, hs0, hR0, hby0, hbb0, hblt⟩ := HW.out
  have hO1 : Own0 w1 g (body ++ sumBytes body) := ⟨cs, hBl, by omega, hc4⟩
  obtain ⟨S1, hS1⟩ : ∃ S : ByteArray, S = ⟨(body ++ sumBytes body).toArray⟩ := ⟨_, rfl⟩
  have cv1 : (convert 60 9 (.slice (some ⟨g, 0, none⟩) (body ++ sumBytes body).length cg)).run Tryz.prog w1 = .ok (.string S1) w1 := by rw [hS1]; exact hO1.str cg
  have cv2 : (convert 60 9 (.slice (some ⟨b, off, none⟩) L c)).run Tryz.prog w1 = .ok (.string S1) w1 := by rw [hS1, HEQ.out, ← HLL.out]; exact (hby0.of_below hb1').str c
  have hR1 := hR0.of_heap (hb1'.block _ (by omega))
  have hsz1 := hb1'.size
  obtain ⟨W2, hW2⟩ : ∃ W2, W2 = w1.alloc (.cells #[.slice (some ⟨b, off, none⟩) N c, .int .i64 0, .bool false] 101) := ⟨_, rfl⟩
  have hb2 : Below w1.heap.size w1 W2 := by rw [hW2]; exact (Below.refl _ w1).alloc (Nat.le_refl _) _
  have hrd2 : RRd W2 w1.heap.size (some ⟨b, off, none⟩) body c 0 false := by
    refine ⟨by rw [hW2, HNN.out]; exact Blk.new w1 101 [.slice (some ⟨b, off, none⟩) N c, .int .i64 0, .bool false], ?_, Nat.zero_le _, fun x hx e => by simp at hx; subst hx; simp at e; omega, by rw [HNN.out]; exact HBC.out⟩
    exact (hbb0.of_below hb1').of_below hb2
  have HNUM := hid (rnumber_any w1.heap.size _ body c 0 false W2 hrd2 (by rw [HNN.out]; omega))
  have H2 : Hid (Below w.heap.size w W2 ∧ Blk W2 w.heap.size 56 [.int .u64 0, .slice none 0 0] ∧ W2.heap.size = w1.heap.size + 1 ∧ w.heap.size + 1 ≤ w1.heap.size) := by
    refine ⟨(hb0.trans (hb1'.mono (by omega))).trans (hb2.mono (by omega)), hR1.of_heap (hb2.block _ (by omega)), by rw [hW2]; simp, by omega⟩
  have HBLT := hid hblt
  clear hB hO hb1' hBl hcl hc2 hc4 hO1 hS1 hb0 hs0 hR0 hby0 hbb0 hblt hR1 hsz1 hb2 hrd2
  generalize (body ++ sumBytes body).length = LS at *
  go_wp2_with fail
  rw [← hW2]
  clear hW2 cv1 cv2
  refine HNUM.out.mono ?_
  rintro e y ⟨rfl, hy, ky⟩
  rw [Bool.false_or] at hy
  obtain ⟨hbW2, hRW2, hsW2, hsw⟩ := H2.out
  have hsy := ky.size
  have hby2 : Below w.heap.size w y := ⟨ky.os.trans hbW2.os, ky.tape.trans hbW2.tape, ky.output.trans hbW2.output, by have := hbW2.size; omega, fun k hk => by rw [ky.block k (by omega) (by omega), hbW2.block k hk]⟩
  have hRy := hRW2.of_heap (ky.block _ (by omega) (by omega))
  have hV := rV_lt body 0
  have hQ := (rP_le body 0 (Nat.zero_le _)).1
  rw [HNN.out] at hQ
  generalize hVV : rV body 0 = V at *
  have HVV := hid hVV
  clear hVV
  have hlty : w.heap.size < y.heap.size := by omega
  have hlty1 : w1.heap.size < y.heap.size := by omega
  have HY := hid (And.intro hy (And.intro hby2 (And.intro hRy (And.intro hlty hlty1))))
  clear hbW2 hRW2 hsW2 hsy hby2 hRy hy ky H2 HNUM hlty hlty1
  have HSW := hid hsw
  clear hsw
  go_wp2_with fail
  obtain ⟨W3, hW3⟩ : ∃ W3, W3 = y.alloc (.cells #[.int .u64 (V : Int), .slice none 0 0] 56) := ⟨_, rfl⟩
  rw [← hW3]
  obtain ⟨PB, hPB⟩ : ∃ PB, PB = y.heap.size := ⟨_, rfl⟩
  rw [← hPB]
  have H3 : Hid (RRd W3 w1.heap.size (some ⟨b, off, none⟩) body c (rP body 0) (rB body 0) ∧ Below w.heap.size w W3 ∧ Blk W3 w.heap.size 56 [.int .u64 0, .slice none 0 0] ∧ Blk W3 PB 56 [.int .u64 (V : Int), .slice none 0 0] ∧ W3.heap.size = PB + 1 ∧ w1.heap.size < PB ∧ w.heap.size < w1.heap.size) := by
    obtain ⟨hy, hby2, hRy, hlty, hlty1⟩ := HY.out
    rw [hPB]
    refine ⟨by rw [hW3]; exact hy.of_heap (fun k hk => Below.heap_alloc _ _ _ hk), by rw [hW3]; exact hby2.alloc (by omega) _, by rw [hW3]; exact hRy.alloc _, by rw [hW3]; exact Blk.new y 56 _, by rw [hW3]; simp, hlty1, by have := HSW.out; omega⟩
  clear hW3 hPB HY HSW
  obtain ⟨hrd, hblw, hRe, hPk, hsW3, hl1, hl2⟩ := H3.out
  have c0 : W3.cell? ⟨w1.heap.size, 0, none⟩ = some (.slice (some ⟨b, off, none⟩) N c) := by have := hrd.blk.cell 0; rw [HNN.out] at this; exact this
  have c1 : W3.cell? ⟨w1.heap.size, 1, none⟩ = some (.int .i64 ((rP body 0 : Nat) : Int)) := hrd.blk.cell 1
  have c2 : W3.cell? ⟨w1.heap.size, 2, none⟩ = some (.bool (rB body 0)) := hrd.blk.cell 2
  have r0 : W3.cell? ⟨w.heap.size, 0, none⟩ = some (.int .u64 0) := hRe.cell 0
  have r1 : W3.cell? ⟨w.heap.size, 1, none⟩ = some (.slice none 0 0) := hRe.cell 1
  have z0 := hRe.frozen 0
  have z1 := hRe.frozen 1
  have HOUT : Hid (rB body 0 = true ∨ rP body 0 = N → ∀ q u v, DcPost body w (.returned (.tuple #[.agg #[.int .u64 0, .slice none 0 0], .int .i64 8, .int .i64 0])) (((W3.drewN q).setCell ⟨w.heap.size, 0, none⟩ u).setCell ⟨w.heap.size, 1, none⟩ v)) := fun h q u v =>
    ⟨((below_drew hblw q).setCell (p := ⟨w.heap.size, 0, none⟩) (Nat.le_refl _) _).setCell (p := ⟨w.heap.size, 1, none⟩) (Nat.le_refl _) _, .inl ⟨by rw [HNN.out]; exact h, rfl⟩⟩
  clear hrd hblw hRe hPk hsW3 hl1 hl2
  cases hBB : rB body 0 with
  | true =>
    have HO := hid (HOUT.out (.inl hBB))
    rw [hBB] at c2
    clear HOUT hBB
    generalize rP body 0 = Q at *
    go_quiet (fail)
    go_wp2_with fail
    exact bodyPost_ret (v := .tuple #[.agg #[.int .u64 0, .slice none 0 0], .int .i64 8, .int .i64 0]) (by simp [results, Tryz.results27, go_sem, r0, r1]) rfl (HO.out _ _ _)
  | false =>
    by_cases hQN : rP body 0 = N
    · have HO := hid (HOUT.out (.inr hQN))
      rw [hBB] at c2
      rw [hQN] at c1
      clear HOUT hBB hQ hQN
      go_quiet (fail)
      go_wp2_with fail
      exact bodyPost_ret (v := .tuple #[.agg #[.int .u64 0, .slice none 0 0], .int .i64 8, .int .i64 0]) (by simp [results, Tryz.results27, go_sem, r0, r1]) rfl (HO.out _ _ _)
    · have HQN := hid hQN
      have hQN' : ¬ (rP body 0 = N) := hQN
      have hQNi : ¬ (((rP body 0 : Nat) : Int) = (N : Int)) := by omega
      have hQlt : rP body 0 < N := by omega
      rw [hBB] at c2
      have HBB := hid hBB
      clear HOUT hBB hQN
      generalize hQQ : rP body 0 = Q at *
      have HQQ := hid hQQ
      clear hQQ
      have hQNb : ((Q : Int) == (N : Int)) = false := by simp; omega
      go_quiet (fail)
      go_wp2_with fail
      obtain ⟨D, hD⟩ : ∃ D, D = dcGo body (N + 1) Q [] := ⟨_, rfl⟩
      have HD : Hid (dcGo body (body.length + 1) (rP body 0) [] = D) := by unfold Hid; rw [HNN.out, HQQ.out, hD]
      have HI0 : Hid (∃ p k fs s v9, DcInv w w1.heap.size PB (some ⟨b, off, none⟩) body c V D (W3.drewN nq) p k fs s v9) := by
        obtain ⟨hrd, hblw, hRe, hPk, hsW3, hl1, hl2⟩ := H3.out
        rw [HBB.out] at hrd
        exact ⟨Q, N + 1, [], .slice none 0 0, fun _ => .slice none 0 0, hrd.drewN nq, hPk, hRe, ⟨GBuf.nil _ _ _, Own.nil _, fun j hj => absurd hj (Nat.not_lt_zero _)⟩, below_drew hblw nq, hD.symm, by rw [HNN.out]; omega, Nat.zero_le _, fun j hj => absurd hj (Nat.not_lt_zero _)⟩
      have HSZ : Hid (w1.heap.size < PB ∧ w.heap.size < w1.heap.size) := ⟨H3.out.2.2.2.2.2.1, H3.out.2.2.2.2.2.2⟩
      clear hD H3 c0 c1 c2 r0 r1 z0 z1
      go_loopw [8] (fun _ wr => ∃ z : Nat, z = 0 ∧ Hid (∃ p k fs s v9, DcInv w w1.heap.size PB (some ⟨b, off, none⟩) body c V D wr p k fs s v9)) (fun _ wr => N - posAt w1.heap.size wr)
      case atStart => exact ⟨0, rfl, HI0⟩
      case round =>
        clear HI0
        obtain ⟨_, _, HREL⟩ := hrel
        obtain ⟨p, k, fs, s, v9, hI⟩ := HREL.out
        clear HREL
        have hpN := hI.rd.le
        rw [HNN.out] at hpN
        have hpos := hI.rd.posAt
        have c0 : wr.cell? ⟨w1.heap.size, 0, none⟩ = some (.slice (some ⟨b, off, none⟩) N c) := by have := hI.rd.blk.cell 0; rw [HNN.out] at this; exact this
        have c1 : wr.cell? ⟨w1.heap.size, 1, none⟩ = some (.int .i64 (p : Int)) := hI.rd.blk.cell 1
        have hszr : PB < wr.heap.size := hI.pk.lt
        by_cases hlt : p < N
        · have hlt' : (p : Int) < (N : Int) := by omega
          obtain ⟨k', hk'⟩ : ∃ k', k = k' + 1 := ⟨k - 1, by have := hI.fuel; rw [HNN.out] at this; omega⟩
          subst hk'
          have HFR := hid (fun q => rframe_any w1.heap.size b off body c p (wr.drewN q) (hI.rd.drewN q) (by rw [HNN.out]; omega) (by rw [HNN.out]; omega))
          have HII := hid hI
          have HPOS := hid hpos
          clear hI hpos
          go_wp2_with fail
          go_quiet (fail)
          go_wp2_with fail
          refine (HFR.out _).mono ?_
          rintro e y ⟨f, v, p', bad, rfl, hal, hrd, hgb, hown, hok, hfr⟩
          obtain ⟨ra, rc, hv, _⟩ := hgb.shape
          subst hv
          unfold frV
          have hsy : wr.heap.size ≤ y.heap.size := hal.size
          have hsame : ∀ x, x < wr.heap.size → x ≠ w1.heap.size → y.heap[x]? = wr.heap[x]? := hal.block
          obtain ⟨hl1, hl2⟩ := HSZ.out
          have hblw : Below w.heap.size w y := ⟨hal.os.trans HII.out.bl.os, hal.tape.trans HII.out.bl.tape, hal.output.trans HII.out.bl.output, by have := HII.out.bl.size; omega, fun x hx => by rw [hsame x (by omega) (by omega)]; exact HII.out.bl.block x hx⟩
          have hRe := HII.out.re.of_heap (hsame _ (by omega) (by omega))
          have hPk := HII.out.pk.of_heap (hsame _ hszr (by omega))
          have c2 : y.cell? ⟨w1.heap.size, 2, none⟩ = some (.bool bad) := hrd.blk.cell 2
          have m1 : w1.heap.size < y.heap.size := by omega
          have m2 : ¬ (w1.heap.size = y.heap.size) := by omega
          have m3 : w.heap.size < y.heap.size := by omega
          have m4 : ¬ (w.heap.size = y.heap.size) := by omega
          have m5 : PB < y.heap.size := by omega
          have m6 : ¬ (PB = y.heap.size) := by omega
          cases bad with
          | true =>
            have r0 : y.cell? ⟨w.heap.size, 0, none⟩ = some (.int .u64 0) := hRe.cell 0
            have r1 : y.cell? ⟨w.heap.size, 1, none⟩ = some (.slice none 0 0) := hRe.cell 1
            have z0 := hRe.frozen 0
            have z1 := hRe.frozen 1
            have hgo := HII.out.go
            rw [dcGo_none (by rw [HNN.out]; exact hlt) (by rw [hfr]; rfl)] at hgo
            have HG := hid (And.intro hblw hgo)
            clear hal hrd hgb hown hok hfr hsame hblw hRe hPk hgo
            go_wp2_with fail
            exact bodyPost_ret (v := .tuple #[.agg #[.int .u64 0, .slice none 0 0], .int .i64 8, .int .i64 (p : Int)]) (by simp [results, Tryz.results27, go_sem, r0, r1, m3]) rfl ⟨((HG.out.1.setCell (p := ⟨w.heap.size, 0, none⟩) (Nat.le_refl _) _).setCell (p := ⟨w.heap.size, 1, none⟩) (Nat.le_refl _) _).alloc (by simp; omega) _, .inr (.inl ⟨p, HBB.out, by rw [HQQ.out, HNN.out]; exact HQN.out, by rw [HD.out, HG.out.2], rfl⟩)⟩
          | false =>
            obtain ⟨hq1, hq2⟩ := frD_pos (by rw [HNN.out]; exact hlt) hfr
            rw [HNN.out] at hq2
            have hgo := HII.out.go
            rw [dcGo_some (by rw [HNN.out]; exact hlt) hfr] at hgo
            have hcpy : CpTo (PB + 1) y s fs v9 fs.length := HII.out.cp.of_heap (fun x hx hx2 => hsame x hx2 (by omega))
            obtain ⟨W4, hW4⟩ : ∃ W4, W4 = y.alloc (.cells #[.int .i64 f.kind, .int .i64 f.stream, .int .u64 (f.offset : Int), .int .u64 (f.reliable : Int), .int .u64 (f.limit : Int), .bool f.fin, .int .u64 (f.id : Int), .int .u64 (f.deadline : Int), .string f.data, .slice ra f.ranges.length rc] 65) := ⟨_, rfl⟩
            have hs4 : W4.heap.size = y.heap.size + 1 := by rw [hW4]; simp
            have h4 : ∀ x, x < y.heap.size → W4.heap[x]? = y.heap[x]? := fun x hx => by rw [hW4]; exact Below.heap_alloc _ _ _ hx
            have hslt := HII.out.cp.buf.lt
            have hgb4 : GBuf 170 2 W4 (.slice ra f.ranges.length rc) f.ranges.length (rcells f.ranges) := hgb.of_heap (fun x hx => h4 x (hgb.lt x hx))
            obtain ⟨s', W5, run5, hcp5, hb5⟩ := push (hcpy.of_heap (fun x _ hx2 => h4 x hx2)) (by omega) (by have := HII.out.len; omega) f ra rc hgb4 (fun x hx => by have := hown x hx; simp at this; omega) (fun x hx e => by
              have h1 := hown x hx
              have h2 := hslt x e
              simp at h1
              omega)
            have run5' := run5
            rw [hs4, hW4] at run5'
            obtain ⟨sa', sc', hs', _⟩ := hcp5.buf.shape
            subst hs'
            obtain ⟨sa, sc, hs, _⟩ := hcpy.buf.shape
            subst hs
            have hrd5 : RRd W5 w1.heap.size (some ⟨b, off, none⟩) body c p' false := by
              refine ⟨hrd.blk.of_heap (by rw [hb5.block _ (by omega), h4 _ (by omega)]), fun j hj => ?_, hrd.le, hrd.ne, hrd.cap⟩
              obtain ⟨b', off', ha, hcc⟩ := hrd.by_ j hj
              have hbb' : b' = b := by simp at ha; exact ha.1.symm
              have := HBLT.out
              exact ⟨b', off', ha, cell_of hcc (by show W5.heap[b']? = y.heap[b']?; rw [hb5.block _ (by omega), h4 _ (by omega)])⟩
            have hPk5 := hPk.of_heap (show W5.heap[PB]? = y.heap[PB]? by rw [hb5.block _ (by omega), h4 _ (by omega)])
            have hRe5 := hRe.of_heap (show W5.heap[w.heap.size]? = y.heap[w.heap.size]? by rw [hb5.block _ (by omega), h4 _ (by omega)])
            have hbl5 : Below w.heap.size w W5 := (hblw.trans ((show Below w.heap.size y W4 by rw [hW4]; exact (Below.refl _ y).alloc (by omega) _))).trans (hb5.mono (by omega))
            have hoth : ∀ u x, x ≠ PB → (W5.setCell ⟨PB, 1, none⟩ u).heap[x]? = W5.heap[x]? := fun u x hx => Below.heap_setCell _ _ _ _ (by simpa using hx)
            have HI' : Hid (DcInv w w1.heap.size PB (some ⟨b, off, none⟩) body c V D (W5.setCell ⟨PB, 1, none⟩ (.slice sa' (fs.length + 1) sc')) p' k' (fs ++ [f]) (.slice sa' (fs.length + 1) sc') (fun j => if j = fs.length then .slice ra f.ranges.length rc else v9 j)) := by
              refine ⟨?_, blk_set hPk5 1 _, hRe5.of_heap (hoth _ _ (by omega)), ?_, hbl5.setCell (p := ⟨PB, 1, none⟩) (by show w.heap.size ≤ PB; omega) _, hgo, ?_, ?_, ?_⟩
              · refine ⟨hrd5.blk.of_heap (hoth _ _ (by omega)), fun j hj => ?_, hrd5.le, hrd5.ne, hrd5.cap⟩
                obtain ⟨b', off', ha, hcc⟩ := hrd5.by_ j hj
                have hbb' : b' = b := by simp at ha; exact ha.1.symm
                have := HBLT.out
                exact ⟨b', off', ha, cell_of hcc (hoth _ _ (by show b' ≠ PB; omega))⟩
              · have e : (fs ++ [f]).length = fs.length + 1 := by simp
                rw [e]
                exact hcp5.of_heap (fun x hx _ => hoth _ _ (by omega))
              · have := HII.out.fuel; omega
              · have := HII.out.len; rw [List.length_append]; simp; omega
              · intro j hj
                rw [List.length_append] at hj
                simp at hj
                by_cases e : j < fs.length
                · rw [getD_snoc fs f j e]; exact HII.out.ok j e
                · obtain rfl : j = fs.length := by omega
                  rw [getD_snoc_last]; exact hok
            have HM : Hid (posAt w1.heap.size (W5.setCell ⟨PB, 1, none⟩ (.slice sa' (fs.length + 1) sc')) = p') := HI'.out.rd.posAt
            have x1 : y.cell? ⟨PB, 1, none⟩ = some (.slice sa fs.length sc) := hPk.cell 1
            have k1 : W5.cell? ⟨PB, 1, none⟩ = some (.slice sa fs.length sc) := hPk5.cell 1
            have kz := hPk5.frozen 1
            clear hal hrd hgb hown hok hfr hsame hblw hRe hPk hgo hcpy hgb4 run5 hcp5 hb5 hrd5 hPk5 hRe5 hbl5 hoth hW4 hs4 h4 hslt HII
            go_wp2_with (at_builtin; refine Lib.wpList_append_run _ rfl _ _ _ _ rfl _ _ rfl rfl _ _ (run5' _) ?_)
            go_roundw
            case rel => exact ⟨0, rfl, ⟨_, _, _, _, _, HI'.out⟩⟩
            case measure => have h1 := HM.out; have h2 := HPOS.out; omega
        · obtain rfl : p = N := by omega
          have hlt' : ¬ ((p : Int) < (p : Int)) := by omega
          obtain ⟨sa, sc, hs, _⟩ := hI.cp.buf.shape
          subst hs
          have x0 : wr.cell? ⟨PB, 0, none⟩ = some (.int .u64 (V : Int)) := hI.pk.cell 0
          have x1 : wr.cell? ⟨PB, 1, none⟩ = some (.slice sa fs.length sc) := hI.pk.cell 1
          have r0 : wr.cell? ⟨w.heap.size, 0, none⟩ = some (.int .u64 0) := hI.re.cell 0
          have r1 : wr.cell? ⟨w.heap.size, 1, none⟩ = some (.slice none 0 0) := hI.re.cell 1
          have z0 := hI.re.frozen 0
          have z1 := hI.re.frozen 1
          have hgo := hI.go
          rw [dcGo_end (by rw [HNN.out]; omega)] at hgo
          have HO : Hid (∀ q u v, DcPost body w (.returned (.tuple #[.agg #[.int .u64 (V : Int), .slice sa fs.length sc], .int .i64 0, .int .i64 (-1)])) (((wr.drewN q).setCell ⟨w.heap.size, 0, none⟩ u).setCell ⟨w.heap.size, 1, none⟩ v)) := fun q u v => by
            refine ⟨((below_drew hI.bl q).setCell (p := ⟨w.heap.size, 0, none⟩) (Nat.le_refl _) _).setCell (p := ⟨w.heap.size, 1, none⟩) (Nat.le_refl _) _, .inr (.inr ⟨fs, _, v9, HBB.out, by rw [HQQ.out, HNN.out]; exact HQN.out, by rw [HD.out, hgo], by rw [HVV.out], ?_, hI.ok⟩)⟩
            refine CpTo.low (B := PB + 1) (hI.cp.of_heap (fun x hx _ => ?_)) (by have := HSZ.out; omega)
            have := HSZ.out
            rw [Below.heap_setCell _ _ _ _ (by simp; omega), Below.heap_setCell _ _ _ _ (by simp; omega)]
            rfl
          clear hI hgo hpos
          go_wp2_with fail
          go_quiet (fail)
          go_wp2_with fail
          exact bodyPost_ret (v := .tuple #[.agg #[.int .u64 (V : Int), .slice sa fs.length sc], .int .i64 0, .int .i64 (-1)]) (by simp [results, Tryz.results27, go_sem, r0, r1]) rfl (HO.out _ _ _)
end Go.Proofs.YtphbledmopchnaaGreatDoor

/-
  The document's Decode, of any bytes.
-/
namespace Go.Proofs.YtphbledmopchnaaGreatDoor
open Go.RowKit Go.Lib Mm

/-- The packet's number, its frames, the error, its place. -/
def dcAll (l : List UInt8) : Nat × List Fr × Int × Int :=
  if l.length < 4 then (0, [], 7, -1)
  else if l.take (l.length - 4) ++ sumBytes (l.take (l.length - 4)) ≠ l then (0, [], 7, -1)
  else if rB (l.take (l.length - 4)) 0 = true ∨ rP (l.take (l.length - 4)) 0 = (l.take (l.length - 4)).length then (0, [], 8, 0)
  else match dcGo (l.take (l.length - 4)) ((l.take (l.length - 4)).length + 1) (rP (l.take (l.length - 4)) 0) [] with
    | .error q => (0, [], 8, (q : Int))
    | .ok fs => (rV (l.take (l.length - 4)) 0, fs, 0, -1)

/-- What comes out. -/
def DcOut (l : List UInt8) (w : World) (e : Ending) (w' : World) : Prop :=
  Below w.heap.size w w' ∧ ∃ s v9, e = .returned (.tuple #[.agg #[.int .u64 ((dcAll l).1 : Int), s], .int .i64 (dcAll l).2.2.1, .int .i64 (dcAll l).2.2.2]) ∧ CpTo w.heap.size w' s (dcAll l).2.1 v9 (dcAll l).2.1.length ∧ ∀ j, j < (dcAll l).2.1.length → FrOk ((dcAll l).2.1.getD j fr0)

theorem cp_nil (B : Nat) (w : World) (v9 : Nat → Value) : CpTo B w (.slice none 0 0) [] v9 0 := ⟨GBuf.nil _ _ _, Own.nil _, fun _ hj => absurd hj (Nat.not_lt_zero _)⟩
theorem DcOut.bad {l : List UInt8} {w w' : World} {e : Ending} {er at_ : Int} (hd : dcAll l = (0, [], er, at_)) (hb : Below w.heap.size w w') (he : e = .returned (.tuple #[.agg #[.int .u64 0, .slice none 0 0], .int .i64 er, .int .i64 at_])) : DcOut l w e w' := by
  unfold DcOut
  rw [hd]
  exact ⟨hb, .slice none 0 0, fun _ => .slice none 0 0, he, cp_nil _ _ _, fun _ hj => absurd hj (Nat.not_lt_zero _)⟩

theorem rdecode_any (a : Option Addr) (l : List UInt8) (c : Nat) (w : World) (hl : l.length ≤ 800000000) (hc : l.length ≤ c) (hby : BytesAt w a l) :
    Calls Tryz.prog 27 #[.slice a l.length c] w (DcOut l w) := by
  by_cases h4 : l.length < 4
  · refine (rdecode_short a l c w h4).mono ?_
    rintro e w' ⟨he, hb⟩
    exact DcOut.bad (by unfold dcAll; rw [if_pos h4]) hb he
  · obtain ⟨b, off, ha, _⟩ := hby 0 (by omega)
    subst ha
    have hbl : l.length = (l.take (l.length - 4)).length + 4 := by rw [List.length_take]; omega
    have hbb := hby.cut (l.length - 4)
    by_cases hs : l.take (l.length - 4) ++ sumBytes (l.take (l.length - 4)) = l
    · refine (rdecode_body b off l (l.take (l.length - 4)) c w hl hbl hc hby hbb hs).mono ?_
      rintro e w' ⟨hb, ⟨h1, he⟩ | ⟨q, h1, h2, hg, he⟩ | ⟨fs, s, v9, h1, h2, hg, he, hcp, hok⟩⟩
      · exact DcOut.bad (by unfold dcAll; rw [if_neg h4, if_neg (by simpa using hs), if_pos h1]) hb he
      · exact DcOut.bad (by unfold dcAll; rw [if_neg h4, if_neg (by simpa using hs), if_neg (fun h => h.elim (fun e => by rw [h1] at e; cases e) h2), hg]) hb he
      · have hd : dcAll l = (rV (l.take (l.length - 4)) 0, fs, 0, -1) := by unfold dcAll; rw [if_neg h4, if_neg (by simpa using hs), if_neg (fun h => h.elim (fun e => by rw [h1] at e; cases e) h2), hg]
        unfold DcOut
        rw [hd]
        exact ⟨hb, s, v9, he, hcp, hok⟩
    · refine (rdecode_sum b off l (l.take (l.length - 4)) c w hl hbl hc hby hbb hs).mono ?_
      rintro e w' ⟨he, hb⟩
      exact DcOut.bad (by unfold dcAll; rw [if_neg h4, if_pos hs]) hb he
end Go.Proofs.YtphbledmopchnaaGreatDoor

/-
  early.
-/
namespace Go.Proofs.YtphbledmopchnaaGreatDoor
open Go.RowKit Go.Lib Mm

/-- A bool comes out. -/
def IsBool (e : Ending) : Prop := ∃ B : Bool, e = .returned (.bool B)

set_option maxHeartbeats 4000000 in
set_option maxRecDepth 100000 in
theorem early_any (n : Int) (fa : Option Addr) (fs : List Fr) (fc : Nat) (ra : Nat → Option Addr) (rc : Nat → Nat) (w : World) (hl : fs.length ≤ 1000000000) (hF : FrsW w fa fs ra rc) :
    Calls Tryz.prog 26 #[.agg #[.int .u64 n, .slice fa fs.length fc]] w fun e w' => IsBool e ∧ Below w.heap.size w w' := by
  obtain ⟨W0, hW0⟩ : ∃ W0, W0 = w.alloc (.cells #[.int .u64 n, .slice fa fs.length fc] 56) := ⟨_, rfl⟩
  have hb0 : Below w.heap.size w W0 := by rw [hW0]; exact (Below.refl _ w).alloc (Nat.le_refl _) _
  have hA0 : Blk W0 w.heap.size 56 [.int .u64 n, .slice fa fs.length fc] := by rw [hW0]; exact Blk.new w 56 _
  have HF := hid (hF.below hb0)
  have HB := hid hb0
  have x1 : W0.cell? ⟨w.heap.size, 1, none⟩ = some (.slice fa fs.length fc) := hA0.cell 1
  clear hb0 hA0 hF
  go_enter Tryz.func26, Tryz.ntmps26
  go_wp2_with fail
  rw [← hW0]
  clear hW0
  go_loop [3] (fun s3 => ∃ k : Nat, k ≤ fs.length ∧ s3 = .int .i64 k) (fun s3 => fs.length - (intOf s3).toNat)
  case atStart => exact ⟨0, Nat.zero_le _, rfl⟩
  case round =>
    obtain ⟨k, hk, rfl⟩ := hrel
    by_cases hlt : k < fs.length
    · have hlt' : (k : Int) < (fs.length : Int) := by omega
      obtain ⟨b, off, ha, hFr⟩ := HF.out k hlt
      subst ha
      have c0 := hFr.c0
      clear hFr
      generalize (fs.getD k fr0).kind = KI at c0
      by_cases h3 : KI = 3
      · have g3 : (KI == 3) = true := by simp [h3]
        go_wp2_with fail
        go_ret
        exact ⟨⟨_, rfl⟩, HB.out⟩
      · have g3 : (KI == 3) = false := by simp [h3]
        by_cases h7 : KI = 7
        · have g7 : (KI == 7) = true := by simp [h7]
          go_wp2_with fail
          go_ret
          exact ⟨⟨_, rfl⟩, HB.out⟩
        · have g7 : (KI == 7) = false := by simp [h7]
          by_cases h8 : KI = 8
          · have g8 : (KI == 8) = true := by simp [h8]
            go_wp2_with fail
            go_ret
            exact ⟨⟨_, rfl⟩, HB.out⟩
          · have g8 : (KI == 8) = false := by simp [h8]
            go_wp2_with fail
            go_round
            case rel => exact ⟨k + 1, by omega, by go_num⟩
            case measure => simp [intOf]; omega
    · obtain rfl : k = fs.length := by omega
      go_wp2_with fail
      go_ret
      exact ⟨⟨_, rfl⟩, HB.out⟩
end Go.Proofs.YtphbledmopchnaaGreatDoor

/-
  The steps of a script, in memory; small.
-/
namespace Go.Proofs.YtphbledmopchnaaGreatDoor
open Go.RowKit Go.Lib Mm

/-- A step of a script. -/
structure OpR where
  k : Int
  a : Int
  b : Int
  c : Int
  s : ByteArray
  n : Nat
  fs : List Fr
  fa : Option Addr
  fc : Nat
  ra : Nat → Option Addr
  rc : Nat → Nat
def op0 : OpR := ⟨0, 0, 0, 0, ⟨#[]⟩, 0, [], none, 0, fun _ => none, fun _ => 0⟩

structure OpAt (w : World) (b off : Nat) (o : OpR) : Prop where
  c0 : w.cell? ⟨b, off, none⟩ = some (.int .i64 o.k)
  c1 : w.cell? ⟨b, off + 1, none⟩ = some (.int .i64 o.a)
  c2 : w.cell? ⟨b, off + 2, none⟩ = some (.int .i64 o.b)
  c3 : w.cell? ⟨b, off + 3, none⟩ = some (.int .i64 o.c)
  c4 : w.cell? ⟨b, off + 4, none⟩ = some (.string o.s)
  c5 : w.cell? ⟨b, off + 5, none⟩ = some (.int .u64 (o.n : Int))
  c6 : w.cell? ⟨b, off + 6, none⟩ = some (.slice o.fa o.fs.length o.fc)
  frs : FrsW w o.fa o.fs o.ra o.rc
  ha : -9223372036854775808 ≤ o.a ∧ o.a ≤ 9223372036854775807
  hb : -9223372036854775808 ≤ o.b ∧ o.b ≤ 9223372036854775807
  hs : o.s.size ≤ 1048576
  hf : o.fs.length ≤ 1048576
  hn : o.n < 18446744073709551616
  ld : loadTo o.fs o.fs.length ≤ 1048576

def OpsW (w : World) (oa : Option Addr) (os : List OpR) : Prop := ∀ j, j < os.length → ∃ b off, oa = some ⟨b, off, none⟩ ∧ OpAt w b (off + j * 7) (os.getD j op0)

theorem OpAt.below {w w' : World} {b off : Nat} {o : OpR} (h : OpAt w b off o) (hb : Below w.heap.size w w') : OpAt w' b off o := by
  have hl := World.block_lt_of_cell? _ _ h.c0
  have e : ∀ o, w'.cell? ⟨b, o, none⟩ = w.cell? ⟨b, o, none⟩ := fun o => hb.cell (p := ⟨b, o, none⟩) hl
  exact ⟨by rw [e, h.c0], by rw [e, h.c1], by rw [e, h.c2], by rw [e, h.c3], by rw [e, h.c4], by rw [e, h.c5], by rw [e, h.c6], h.frs.below hb, h.ha, h.hb, h.hs, h.hf, h.hn, h.ld⟩
theorem OpsW.below {w w' : World} {oa : Option Addr} {os : List OpR} (h : OpsW w oa os) (hb : Below w.heap.size w w') : OpsW w' oa os := fun j hj => by
  obtain ⟨b, off, ha, h1⟩ := h j hj
  exact ⟨b, off, ha, h1.below hb⟩

set_option maxHeartbeats 4000000 in
set_option maxRecDepth 100000 in
theorem small_any (oa : Option Addr) (os : List OpR) (oc : Nat) (w : World) (hO : OpsW w oa os) (hn : os.length ≤ 1048576) :
    Calls Tryz.prog 25 #[.slice oa os.length oc] w fun e w' => IsBool e ∧ ∃ q, w' = w.drewN q := by
  have HO := hid hO
  clear hO
  go_enter Tryz.func25, Tryz.ntmps25
  go_wp2_with fail
  go_loopw [3, 4] (fun s3 s4 wr => ∃ (i q : Nat) (M : Int), i ≤ os.length ∧ 0 ≤ M ∧ M ≤ 3000000000 ∧ s4 = .int .i64 i ∧ s3 = .int .i64 M ∧ wr = w.drewN q) (fun _ s4 _ => os.length - (intOf s4).toNat)
  case atStart => exact ⟨0, 0, os.length, Nat.zero_le _, by omega, by omega, rfl, rfl, rfl⟩
  case round =>
    obtain ⟨i, q, M, hi, hM0, hM1, rfl, rfl, rfl⟩ := hrel
    by_cases hlt : i < os.length
    · have hlt' : (i : Int) < (os.length : Int) := by omega
      by_cases hM : M ≤ 65536
      · obtain ⟨b, off, hoa, hop⟩ := HO.out i hlt
        subst hoa
        have c4 := hop.c4
        have c6 := hop.c6
        have hs := hop.hs
        have hf := hop.hf
        have HF := hid hop.frs
        clear hop
        generalize (os.getD i op0).s = S at *
        generalize (os.getD i op0).fs = fs at *
        generalize (os.getD i op0).fa = fa at *
        generalize (os.getD i op0).fc = fc at *
        generalize (os.getD i op0).ra = ra at *
        generalize (os.getD i op0).rc = rc at *
        go_wp2_with fail
        go_quiet (fail)
        go_wp2_with fail
        go_loopw [3, 5] (fun s3 s5 wr => ∃ (k q' : Nat) (M' : Int), k ≤ fs.length ∧ 0 ≤ M' ∧ M' ≤ 3000000000 ∧ s5 = .int .i64 k ∧ s3 = .int .i64 M' ∧ wr = w.drewN q') (fun _ s5 _ => fs.length - (intOf s5).toNat)
        case atStart => exact ⟨0, q + nq, M + S.size + fs.length, Nat.zero_le _, by omega, by omega, rfl, by go_num, by simp [World.drewN_drewN]⟩
        case round =>
          obtain ⟨k, q', M', hk, hM0', hM1', rfl, rfl, rfl⟩ := hrel
          by_cases hkl : k < fs.length
          · have hkl' : (k : Int) < (fs.length : Int) := by omega
            by_cases hM' : M' ≤ 65536
            · obtain ⟨b2, off2, hfa, hFr⟩ := HF.out k hkl
              subst hfa
              have c8 := hFr.c8
              have c9 := hFr.c9
              have hd := hFr.dlen
              have hr := hFr.rlen
              clear hFr
              generalize (fs.getD k fr0).data = D at *
              generalize (fs.getD k fr0).ranges.length = rl at *
              generalize ra k = rak at *
              generalize rc k = rck at *
              go_wp2_with fail
              go_quiet (fail)
              go_wp2_with fail
              go_roundw
              case rel => exact ⟨k + 1, q' + nq, M' + D.size + rl, by omega, by omega, by omega, by go_num, by go_num, rfl⟩
              case measure => simp [intOf]; omega
            · have hM'' : ¬ (M' ≤ 65536) := hM'
              go_wp2_with fail
              go_roundw
              case rel => exact ⟨i + 1, q', M', by omega, hM0', hM1', by go_num, rfl, rfl⟩
              case measure => simp [intOf]; omega
          · obtain rfl : k = fs.length := by omega
            go_wp2_with fail
            go_roundw
            case rel => exact ⟨i + 1, q', M', by omega, hM0', hM1', by go_num, rfl, rfl⟩
            case measure => simp [intOf]; omega
      · have hM' : ¬ (M ≤ 65536) := hM
        go_wp2_with fail
        go_ret
        exact ⟨⟨_, rfl⟩, q, rfl⟩
    · obtain rfl : i = os.length := by omega
      go_wp2_with fail
      go_ret
      exact ⟨⟨_, rfl⟩, q, rfl⟩

end Go.Proofs.YtphbledmopchnaaGreatDoor
