import Derived.Test.YtphbledmopchnaaGreatDoorQm
import Derived.Deep.RegionHeld3
import Derived.Deep.RegionLaw
import Derived.Deep.CutRange
import Derived.Deep.LoopGhost
/-
  The document's Acks, written.
-/
namespace Go.Proofs.YtphbledmopchnaaGreatDoor
open Go.RowKit Go.Lib Mm

/-- As WrSt; and the ranges' block is as it was. -/
structure WrS2 (w : World) (v : Value) (fb rb : Nat) (cs : List Value) (W : World) (v' : Value) (l' : List UInt8) : Prop where
  st : WrSt w v fb cs W v' l'
  same : W.heap[rb]? = w.heap[rb]?
  nr : v'.ownBlock ≠ some rb
  lt : rb < w.heap.size

theorem WrS2.num {w : World} {v : Value} {fb rb : Nat} {cs : List Value} {W : World} {v' : Value} {l' : List UInt8} (h : WrS2 w v fb rb cs W v' l') (n : Nat) (hn : n < 4611686018427387904) (hl : l'.length ≤ 35184372088832) :
    Calls Tryz.prog 92 #[v', .int .u64 (n : Int)] W fun e W' => ∃ v'', e = .returned v'' ∧ WrS2 w v fb rb cs W' v'' (l' ++ Num.bytes n) := by
  refine (varint_any v' l' n W h.st.buf hn hl).mono ?_
  rintro e W' ⟨v'', rfl, hb, hg⟩
  have hs := h.st.gr.1.size
  have hlt := h.lt
  refine ⟨v'', rfl, h.st.grow hb hg, (hg.1.block rb (by omega) (fun e => h.nr e.symm)).trans h.same, fun e => ?_, h.lt⟩
  rcases hg.2 rb e with e' | e'
  · exact h.nr e'
  · omega

theorem WrS2.drew {w : World} {v : Value} {fb rb : Nat} {cs : List Value} {W : World} {v' : Value} {l' : List UInt8} (h : WrS2 w v fb rb cs W v' l') : WrS2 w v fb rb cs W.drew v' l' :=
  ⟨⟨h.st.buf.of_heap (fun _ _ => rfl), ⟨grown_trans h.st.gr.1 (grown_drew W _), h.st.gr.2⟩, h.st.fr, h.st.ne⟩, h.same, h.nr, h.lt⟩

theorem WrS2.rng {w : World} {v : Value} {fb rb ro : Nat} {cs : List Value} {W : World} {v' : Value} {l' : List UInt8} (h : WrS2 w v fb rb cs W v' l') {rs : List (Nat × Nat)} (hR : RngAt w (some ⟨rb, ro, none⟩) rs) (k : Nat) (hk : k < rs.length) :
    W.cell? ⟨rb, ro + k * 2, none⟩ = some (.int .u64 ((rs.getD k (0, 0)).1 : Int)) ∧ W.cell? ⟨rb, ro + k * 2 + 1, none⟩ = some (.int .u64 ((rs.getD k (0, 0)).2 : Int)) := by
  obtain ⟨b, off, e, c0, c1, _, _⟩ := hR k hk
  simp at e
  obtain ⟨rfl, rfl⟩ := e
  exact ⟨cell_of c0 h.same, cell_of c1 h.same⟩

set_option maxHeartbeats 4000000 in
set_option maxRecDepth 100000 in
theorem written_2 (v : Value) (l : List UInt8) (stream : Int) (offset reliable limit : Nat) (fin : Bool) (id deadline : Nat) (data : ByteArray) (rb ro rc : Nat) (rs : List (Nat × Nat)) (w : World) (hb : Buf w v l) (hl : l.length ≤ 30000000000) (hS : sndR rs = true) (hrl : rs.length ≤ 1000000000) (hR : RngAt w (some ⟨rb, ro, none⟩) rs) (hnr : v.ownBlock ≠ some rb) :
    Calls Tryz.prog 93 #[v, .agg #[.int .i64 2, .int .i64 stream, .int .u64 (offset : Int), .int .u64 (reliable : Int), .int .u64 (limit : Int), .bool fin, .int .u64 (id : Int), .int .u64 (deadline : Int), .string data, .slice (some ⟨rb, ro, none⟩) rs.length rc]] w fun e w' => ∃ v', e = .returned v' ∧ Buf w' v' (l ++ [UInt8.ofNat 2] ++ rngBytes rs) ∧ Gr w w' v v' := by
  obtain ⟨LF, hLF⟩ : ∃ LF, l ++ [UInt8.ofNat 2] ++ rngBytes rs = LF := ⟨_, rfl⟩
  rw [hLF]
  have HLF := hid hLF
  clear hLF
  obtain ⟨hpos, hat⟩ := sndR_at hS
  obtain ⟨cs, hcs⟩ : ∃ cs : List Value, cs = [.int .i64 2, .int .i64 stream, .int .u64 (offset : Int), .int .u64 (reliable : Int), .int .u64 (limit : Int), .bool fin, .int .u64 (id : Int), .int .u64 (deadline : Int), .string data, .slice (some ⟨rb, ro, none⟩) rs.length rc] := ⟨_, rfl⟩
  obtain ⟨W0, hW0⟩ : ∃ W0, W0 = w.alloc (.cells #[.int .i64 2, .int .i64 stream, .int .u64 (offset : Int), .int .u64 (reliable : Int), .int .u64 (limit : Int), .bool fin, .int .u64 (id : Int), .int .u64 (deadline : Int), .string data, .slice (some ⟨rb, ro, none⟩) rs.length rc] 65) := ⟨_, rfl⟩
  have hg0 : Gr w W0 v v := by rw [hW0]; exact Gr.alloc _ (Gr.refl _ v)
  have hlt := hb.lt
  have hrbl : rb < w.heap.size := by
    obtain ⟨b, off, e, c0, _⟩ := hR 0 hpos
    simp at e
    obtain ⟨rfl, rfl⟩ := e
    exact World.block_lt_of_cell? _ _ c0
  have st0 : WrSt w v w.heap.size cs W0 v l := ⟨by rw [hW0]; exact hb.alloc _, hg0, by rw [hW0, hcs]; exact Blk.new w 65 _, fun e => by have := hlt _ e; omega⟩
  obtain ⟨v1, W1, run1, st1⟩ := st0.byte 2 2 rfl (by omega) (by omega)
  have s1 : WrS2 w v w.heap.size rb cs W1 v1 (l ++ [UInt8.ofNat 2]) := by
    have hg := st1.gr
    refine ⟨st1, (hg.1.block rb hrbl (fun e => hnr e.symm)), fun e => ?_, hrbl⟩
    rcases hg.2 rb e with e' | e'
    · exact hnr e'
    · omega
  rw [hW0, World.size_alloc] at run1
  have n0 := hat 0 hpos
  have HAT := hid hat
  have HR := hid hR
  have HS := hid s1
  have HC : Hid (∀ W v' l', WrS2 w v w.heap.size rb cs W v' l' → W.cell? ⟨w.heap.size, 9, none⟩ = some (.slice (some ⟨rb, ro, none⟩) rs.length rc)) := fun W v' l' h => by have := h.st.fr.cell 9; rw [hcs] at this; exact this
  have cx := HC.out _ _ _ s1
  have c01 := (s1.rng hR 0 hpos).2
  rw [Nat.zero_mul, Nat.add_zero] at c01
  have hz0 : (rs.getD 0 (0, 0)).1 ≤ (rs.getD 0 (0, 0)).2 ∧ (rs.getD 0 (0, 0)).2 < 4611686018427387904 := by unfold M62 at n0; exact ⟨n0.1, by omega⟩
  have HHEAD : Hid (rngHead rs = Num.bytes (rs.getD 0 (0, 0)).2 ++ (Num.bytes (rs.length - 1) ++ Num.bytes ((rs.getD 0 (0, 0)).2 - (rs.getD 0 (0, 0)).1))) := rfl
  have HR0 : Hid (∀ W v' l', WrS2 w v w.heap.size rb cs W v' l' → W.cell? ⟨rb, ro, none⟩ = some (.int .u64 ((rs.getD 0 (0, 0)).1 : Int)) ∧ W.cell? ⟨rb, ro + 1, none⟩ = some (.int .u64 ((rs.getD 0 (0, 0)).2 : Int))) := fun W v' l' h => by have := h.rng hR 0 hpos; rw [Nat.zero_mul, Nat.add_zero] at this; exact this
  have HHL := hid (rngHead_le rs)
  have HTL := hid (rngTo_le rs)
  have HFIN : Hid (rngBytes rs = rngHead rs ++ rngTo rs (rs.length - 1)) := rfl
  generalize (rs.getD 0 (0, 0)).1 = lo0 at *
  generalize (rs.getD 0 (0, 0)).2 = hi0 at *
  have HL := hid (And.intro hl hrl)
  have hposI : (0 : Int) < (rs.length : Int) := by omega
  clear st0 st1 s1 hg0 hb hlt n0 hat hR hS hnr hl hcs hrbl
  subst hW0
  go_enter Tryz.func93, Tryz.ntmps93
  go_wp2_with (at_builtin; refine Lib.wpList_append_run _ rfl _ _ _ _ rfl _ _ rfl rfl _ _ (run1 _) ?_)
  refine (HS.out.num hi0 hz0.2 (by have := HL.out.1; simp only [List.length_append, List.length_cons, List.length_nil]; omega)).mono ?_
  rintro e W2 ⟨v2, rfl, s2⟩
  obtain ⟨N1, hN1⟩ : ∃ N1, N1 = rs.length - 1 := ⟨_, rfl⟩
  have eN : (rs.length : Int) - 1 = (N1 : Int) := by omega
  have eW : IntKind.u64.wrap (N1 : Int) = (N1 : Int) := by rw [IntKind.wrap_u64]; omega
  have hN2 : N1 < 4611686018427387904 := by omega
  have cx2 := HC.out _ _ _ s2
  have HS2 := hid s2
  have HN1 := hid hN1
  clear s2 cx c01 run1 HS hN1
  go_wp2_with fail
  refine (HS2.out.num N1 hN2 (by have := HL.out.1; have := num_len hi0; simp only [List.length_append, List.length_cons, List.length_nil]; omega)).mono ?_
  rintro e W3 ⟨v3, rfl, s3⟩
  obtain ⟨d0, hd0⟩ : ∃ d0, d0 = hi0 - lo0 := ⟨_, rfl⟩
  have ed : (hi0 : Int) - (lo0 : Int) = (d0 : Int) := by omega
  have hd2 : d0 < 4611686018427387904 := by omega
  have eWd : IntKind.u64.wrap (d0 : Int) = (d0 : Int) := by rw [IntKind.wrap_u64]; omega
  have cx3 : W3.cell? ⟨w.heap.size, 9, none⟩ = some (.slice (some ⟨rb, ro, none⟩) rs.length rc) := HC.out _ _ _ s3
  obtain ⟨c30, c31⟩ := HR0.out _ _ _ s3
  have HN : Hid (Calls Tryz.prog 92 #[v3, .int .u64 (d0 : Int)] W3.drew fun e W' => ∃ v'', e = .returned v'' ∧ WrS2 w v w.heap.size rb cs W' v'' (l ++ [UInt8.ofNat 2] ++ rngHead rs)) := by
    refine (s3.drew.num d0 hd2 (by have := HL.out.1; have := num_len hi0; have := num_len N1; simp only [List.length_append, List.length_cons, List.length_nil]; omega)).mono ?_
    rintro e W' ⟨v'', he, h⟩
    refine ⟨v'', he, ?_⟩
    rw [HHEAD.out, ← HN1.out, ← hd0]
    simpa only [List.append_assoc] using h
  clear s3 HS2 cx2 hd0 eN eW hN2 HHEAD
  go_upto_region 8 with fail
  go_cut [0] from 33 to 45 (fun s0 wx => Hid (WrS2 w v w.heap.size rb cs wx s0 (l ++ [UInt8.ofNat 2] ++ rngHead rs)))
  case first =>
    go_region_with (go_at_call 92; refine HN.out.mono ?_; rintro e W4 ⟨v4, rfl, s4⟩; have HS4 := hid s4; clear s4 HN)
    all_goals ((try go_wp2_with fail); go_meet; exact HS4)
  case rest =>
    have HI0 := hcut
    clear hcut HN c30 c31 cx3 ed eWd hd2 HR0 hz0
    go_wp2_with fail
    go_loopg [0, 5] rs.length (fun g s0 s5 wx => ∃ j : Nat, j + 1 ≤ rs.length ∧ Hid (g = rs.length - j) ∧ s5 = .int .i64 ((j : Int) + 1) ∧ Hid (WrS2 w v w.heap.size rb cs wx s0 (l ++ [UInt8.ofNat 2] ++ rngHead rs ++ rngTo rs j)))
    case atStart => exact ⟨0, by omega, rfl, rfl, by rw [rngTo, List.append_nil]; exact HI0.out⟩
    case round =>
      clear HI0
      obtain ⟨j, hj, HG, rfl, HI⟩ := hrel
      have cxr := HC.out _ _ _ HI.out
      by_cases hlt : j + 1 < rs.length
      · have hlt' : (j : Int) + 1 < (rs.length : Int) := by omega
        have hlt0 : (j : Int) < (rs.length : Int) := by omega
        obtain ⟨ga, gb, hga, hgb, e1, e2, e3, hgal, hgbl, e4, e5, e6⟩ := rng_nums HAT.out j (by omega)
        have hstep : Hid (rngTo rs (j + 1) = rngTo rs j ++ (Num.bytes ((rs.getD j (0, 0)).1 - (rs.getD (j + 1) (0, 0)).2 - 2) ++ Num.bytes ((rs.getD (j + 1) (0, 0)).2 - (rs.getD (j + 1) (0, 0)).1))) := rfl
        rw [← hga, ← hgb] at hstep
        have HRR : Hid (∀ W v' l', WrS2 w v w.heap.size rb cs W v' l' → W.cell? ⟨rb, ro + j * 2, none⟩ = some (.int .u64 ((rs.getD j (0, 0)).1 : Int)) ∧ W.cell? ⟨rb, ro + (j + 1) * 2, none⟩ = some (.int .u64 ((rs.getD (j + 1) (0, 0)).1 : Int)) ∧ W.cell? ⟨rb, ro + (j + 1) * 2 + 1, none⟩ = some (.int .u64 ((rs.getD (j + 1) (0, 0)).2 : Int))) := fun W v' l' h => ⟨(h.rng HR.out j (by omega)).1, h.rng HR.out (j + 1) hlt⟩
        clear hga hgb
        generalize (rs.getD j (0, 0)).1 = lok at *
        generalize (rs.getD (j + 1) (0, 0)).2 = hi' at *
        generalize (rs.getD (j + 1) (0, 0)).1 = lo' at *
        obtain ⟨t1, t2, t3⟩ := HRR.out _ _ _ HI.out
        have hbnd : (l ++ [UInt8.ofNat 2] ++ rngHead rs ++ rngTo rs j).length ≤ 30000000000 + 1 + 24 + 16 * 1000000000 := by
          have h1 := HL.out
          have h2 := HHL.out
          have h3 := HTL.out j
          simp only [List.length_append, List.length_cons, List.length_nil]
          omega
        have HA := hid (HI.out.drew.num ga hgal (by omega))
        have HGB := hid (fun W v' (h : WrS2 w v w.heap.size rb cs W v' (l ++ [UInt8.ofNat 2] ++ rngHead rs ++ rngTo rs j ++ Num.bytes ga)) => h.drew.num gb hgbl (by have := num_len ga; rw [List.length_append]; omega))
        have i1 : (j : Int) + 1 - 1 = (j : Int) := by omega
        have i2 : ((j : Int) + 1).toNat = j + 1 := by omega
        have i3 : IntKind.i64.wrap (j : Int) = (j : Int) := by rw [IntKind.wrap_i64]; omega
        have i4 : 0 ≤ (j : Int) + 1 := by omega
        clear hgal hgbl hbnd HR HAT HL HHL HTL
        go_wp2_with fail
        go_upto_region 12 with fail
        go_cut [0] from 46 to 84 (fun s0 wx => Hid (WrS2 w v w.heap.size rb cs wx s0 (l ++ [UInt8.ofNat 2] ++ rngHead rs ++ rngTo rs j ++ Num.bytes ga)))
        case first =>
          go_region_with (go_at_call 92; refine HA.out.mono ?_; rintro e W4 ⟨v4, rfl, s4⟩; have HS4 := hid s4; clear s4 HA)
          all_goals ((try go_wp2_with fail); go_meet; exact HS4)
        case rest =>
          have HI2 := hcut
          obtain ⟨p1, p2, p3⟩ := HRR.out _ _ _ HI2.out
          have cxs := HC.out _ _ _ HI2.out
          have HA2 := hid (HGB.out _ _ HI2.out)
          clear hcut HA HI t1 t2 t3 cxr HGB HI2 HRR e1 e2 e4 e5 i1
          go_upto_region 13 with fail
          have HST : Hid (∀ W v', WrS2 w v w.heap.size rb cs W v' (l ++ [UInt8.ofNat 2] ++ rngHead rs ++ rngTo rs j ++ Num.bytes ga ++ Num.bytes gb) → WrS2 w v w.heap.size rb cs W v' (l ++ [UInt8.ofNat 2] ++ rngHead rs ++ rngTo rs (j + 1))) := fun W v' h => by
            rw [hstep.out]
            simpa only [List.append_assoc] using h
          clear hstep
          go_region_with (go_at_call 92; refine HA2.out.mono ?_; rintro e W4 ⟨v4, rfl, s4⟩; have HI3 := hid (HST.out _ _ s4); clear s4 HA2 HST)
          all_goals
            (try go_wp2_with fail)
            go_roundg (rs.length - (j + 1))
            case measure => have := HG.out; omega
            case rel => exact ⟨j + 1, by omega, rfl, by go_num, HI3⟩
      · have hnl : ¬ ((j : Int) + 1 < (rs.length : Int)) := by omega
        have hj2 : rs.length - 1 = j := by omega
        have HF : Hid (Buf wr u0 LF ∧ Gr w wr v u0) := by
          have h := HI.out
          unfold Hid
          rw [← HLF.out, HFIN.out, hj2, ← List.append_assoc]
          exact ⟨h.st.buf, h.st.gr⟩
        clear HI hj2 HFIN HLF
        go_wp2_with fail
        go_ret
        exact ⟨u0, rfl, HF.out⟩

end Go.Proofs.YtphbledmopchnaaGreatDoor
