/-
  readRanges.
-/
import Derived.Test.YtphbledmopchnaaDoorRdPart
namespace Go.Proofs.YtphbledmopchnaaDoor
open Go.RowKit Go.Lib Go.Shelf Mm

/-- One range more. -/
theorem rng_app {B0 B1 rb fb yb yo cap : Nat} {body : List UInt8} {w : World} {p bg : Nat} {cur : Fr} {v9 : Value} (h : RP B0 B1 rb fb yb yo cap body w p bg cur v9) (lo hi n m : Nat) (hn : cur.ranges.length = n) (hm : n + 1 = m) (hl : n ≤ 1000000000) :
    ∃ a' c' W2, (∀ ty, (Builtin.append_ #[26, 26] ty #[v9, .slice (some ⟨w.heap.size, 0, none⟩) 1 1]).run Tryd.prog (w.alloc (.cells #[.int .u64 (lo : Int), .int .u64 (hi : Int)] 50)) = .ok (.slice a' m c') W2) ∧
      Blk W2 fb 28 (fcells cur v9) ∧ RP B0 B1 rb fb yb yo cap body (W2.setCell ⟨fb, 9, none⟩ (.slice a' m c')) p bg { cur with ranges := cur.ranges ++ [(lo, hi)] } (.slice a' m c') ∧ St2 B1 rb fb w (W2.setCell ⟨fb, 9, none⟩ (.slice a' m c')) := by
  subst hn
  subst hm
  obtain ⟨W1, hW1⟩ : ∃ W1, W1 = w.alloc (.cells #[.int .u64 (lo : Int), .int .u64 (hi : Int)] 50) := ⟨_, rfl⟩
  have hs1 : W1.heap.size = w.heap.size + 1 := by rw [hW1]; simp
  have hb1 : Below w.heap.size w W1 := by rw [hW1]; exact (Below.refl _ _).alloc (Nat.le_refl _) _
  have hN : Blk W1 w.heap.size 50 [.int .u64 (lo : Int), .int .u64 (hi : Int)] := by rw [hW1]; exact Blk.new w 50 _
  rw [← hW1]
  have hg1 : GBuf 50 2 W1 v9 cur.ranges.length (rcells cur.ranges) := h.rng.of_heap (fun b hb => hb1.block b (h.rng.lt b hb))
  obtain ⟨v', W2, hrun, hG, hGr⟩ := run_append_gbuf eltR hg1 ⟨w.heap.size, 0, none⟩ 1 1 (rcells [(lo, hi)]) rfl (by omega) (rcells_one _) (fun j u hu => by rw [Addr.add_lit, Nat.zero_add, hN.cell]; exact hu) (by omega)
  obtain ⟨a', c', hv, _⟩ := hG.shape
  subst hv
  have hBw := h.hB
  have hb2 : Below B1 W1 W2 := hGr.below h.own (by omega)
  have hO2 := hGr.own h.own (by omega)
  have h1 := h.h01
  have h2 := h.fbl
  have h3 := h.rbl
  have h4 := h.ybl
  have hsz := hb2.size
  have hst : ∀ b, b < B1 → W2.heap[b]? = w.heap[b]? := fun b hb => by rw [hb2.block b hb, hb1.block b (by omega)]
  have hF2 : Blk W2 fb 28 (fcells cur v9) := h.frm.of_heap (hst fb (by omega))
  refine ⟨a', c', W2, hrun, hF2, ⟨?_, ?_, ?_, hO2, h.h01, by simp; omega, h3, h2, h4, h.rf, h.fy⟩, ?_⟩
  · exact (h.rd.of (hst rb (by omega)) (hst yb (by omega))).of (Below.heap_setCell _ _ _ _ h.rf) (Below.heap_setCell _ _ _ _ (Ne.symm h.fy))
  · exact hF2.setCell 9 _
  · show GBuf 50 2 _ _ (cur.ranges ++ [(lo, hi)]).length (rcells (cur.ranges ++ [(lo, hi)]))
    rw [List.length_append, rcells_append]
    exact hG.of_heap (fun b hb => Below.heap_setCell _ _ _ _ (by have := hO2 b hb; simp; omega))
  · refine ⟨hb2.os.trans hb1.os, hb2.tape.trans hb1.tape, hb2.output.trans hb1.output, by simp; omega, fun k hk _ hf => ?_⟩
    rw [Below.heap_setCell _ _ _ _ hf]
    exact hst k hk

theorem rngTo_prefix (rs : List (Nat × Nat)) (k : Nat) : ∀ N, k ≤ N → ∃ s, rngTo rs N = rngTo rs k ++ s
  | 0, h => ⟨[], by obtain rfl : k = 0 := by omega
                    simp⟩
  | N + 1, h => by
    by_cases e : k = N + 1
    · exact ⟨[], by rw [e]; simp⟩
    · obtain ⟨s, hs⟩ := rngTo_prefix rs k N (by omega)
      exact ⟨s ++ _, by rw [rngTo, hs, List.append_assoc]⟩
/-- What is left of the ranges behind the k-th. -/
def rngFrom (rs : List (Nat × Nat)) (N k : Nat) : List UInt8 := (rngTo rs N).drop (rngTo rs k).length
theorem rngFrom_zero (rs : List (Nat × Nat)) (N : Nat) : rngFrom rs N 0 = rngTo rs N := rfl
theorem rngFrom_end (rs : List (Nat × Nat)) (N : Nat) : rngFrom rs N N = [] := by unfold rngFrom; exact List.drop_of_length_le (Nat.le_refl _)
theorem rngFrom_step (rs : List (Nat × Nat)) (N k : Nat) (h : k < N) : rngFrom rs N k = Num.bytes ((rs.getD k (0, 0)).1 - (rs.getD (k + 1) (0, 0)).2 - 2) ++ (Num.bytes ((rs.getD (k + 1) (0, 0)).2 - (rs.getD (k + 1) (0, 0)).1) ++ rngFrom rs N (k + 1)) := by
  obtain ⟨s, hs⟩ := rngTo_prefix rs (k + 1) N (by omega)
  have hA : (rngTo rs N).drop (rngTo rs (k + 1)).length = s := by rw [hs]; exact List.drop_left' rfl
  have hB : rngTo rs N = rngTo rs k ++ (Num.bytes ((rs.getD k (0, 0)).1 - (rs.getD (k + 1) (0, 0)).2 - 2) ++ (Num.bytes ((rs.getD (k + 1) (0, 0)).2 - (rs.getD (k + 1) (0, 0)).1) ++ s)) := by
    rw [hs, rngTo]
    simp only [List.append_assoc]
  unfold rngFrom
  rw [hA, hB]
  exact List.drop_left' rfl

theorem take_snoc (rs : List (Nat × Nat)) (k : Nat) (h : k < rs.length) : rs.take k ++ [((rs.getD k (0, 0)).1, (rs.getD k (0, 0)).2)] = rs.take (k + 1) := by
  rw [List.take_succ_eq_append_getElem h, List.getD_eq_getElem?_getD, List.getElem?_eq_getElem h]
  rfl

set_option maxHeartbeats 1000000 in
set_option maxRecDepth 100000 in
theorem ranges_rd {B0 B1 : Nat} {w1 : World} (rs : List (Nat × Nat)) (hR : sndR rs = true) (hrl : rs.length ≤ 1000000000) (rb fb yb yo cap : Nat) (body : List UInt8) (bg : Nat) :
    Rd B0 B1 w1 (.func (.func 61) #[] #[]) (rngBytes rs) (fun cur => { cur with ranges := rs }) rb fb yb yo cap body bg := by
  refine ⟨61, _, rfl, enters_of Tryd.func61 (by kernel_rfl) rfl, fun w p cur v9 rest _ hP hc0 hb => ?_⟩
  obtain ⟨hpos, hat⟩ := sndR_at hR
  obtain ⟨N, hN⟩ : ∃ N, rs.length = N + 1 := ⟨rs.length - 1, by omega⟩
  have hb0 : body.drop p = Num.bytes (rs.getD 0 (0, 0)).2 ++ (Num.bytes N ++ (Num.bytes ((rs.getD 0 (0, 0)).2 - (rs.getD 0 (0, 0)).1) ++ (rngFrom rs N 0 ++ rest))) := by
    rw [hb, rngFrom_zero]
    unfold rngBytes rngHead
    rw [hN, Nat.add_sub_cancel]
    simp only [List.append_assoc]
  have hlenT : (rngBytes rs).length = (Num.bytes (rs.getD 0 (0, 0)).2).length + (Num.bytes N).length + (Num.bytes ((rs.getD 0 (0, 0)).2 - (rs.getD 0 (0, 0)).1)).length + (rngTo rs N).length := by
    unfold rngBytes rngHead
    rw [hN, Nat.add_sub_cancel]
    simp only [List.length_append]
    omega
  obtain ⟨q1, q2, _⟩ := hat 0 hpos
  have hb1 := drop_next hb0
  have hb2 := drop_next hb1
  have hb3 := drop_next hb2
  have HN1 := hid (number_read rb yb yo cap body p bg _ _ w hP.rd (by unfold M62 at q2; omega) hb0)
  have HN2 := hid (fun w' (h' : RdAt w' rb yb yo cap body _ bg) => number_read rb yb yo cap body _ bg _ _ w' h' (by omega) hb1)
  have HN3 := hid (fun w' (h' : RdAt w' rb yb yo cap body _ bg) => number_read rb yb yo cap body _ bg _ _ w' h' (by unfold M62 at q2; omega) hb2)
  have HAT := hid hat
  have HLT := hid hlenT
  have HB3 := hid hb3
  have HP := hid hP
  have hlo : (rs.getD 0 (0, 0)).2 - ((rs.getD 0 (0, 0)).2 - (rs.getD 0 (0, 0)).1) = (rs.getD 0 (0, 0)).1 := by omega
  have HL := hid (fun (r : Value) (w : World) => less_any r (rs.getD 0 (0, 0)).2 ((rs.getD 0 (0, 0)).2 - (rs.getD 0 (0, 0)).1) w (by omega) (by unfold M62 at q2; omega))
  rw [hlo] at HL
  have HT1 : Hid ([((rs.getD 0 (0, 0)).1, (rs.getD 0 (0, 0)).2)] = rs.take 1) := take_snoc rs 0 hpos
  clear hP hb hb0 hb1 hb2 hb3 hat hlenT hR hlo
  generalize hLO : (rs.getD 0 (0, 0)).1 = lo0 at *
  generalize hHI : (rs.getD 0 (0, 0)).2 = hi0 at *
  generalize hD0 : hi0 - lo0 = d0 at *
  have HLO := hid hLO
  clear hLO hHI hD0
  go_enter Tryd.func61, Tryd.ntmps61
  go_wp2_with fail
  refine HN1.out.mono ?_
  rintro e x1 ⟨rfl, hR1, hS1⟩
  have HA2 := hid (HN2.out x1 hR1)
  have HP1 := hid (HP.out.step hR1 hS1)
  have HS1 := hid (hS1.two B1 fb)
  clear hR1 hS1 HN1 HN2 HP
  go_wp2_with fail
  refine HA2.out.mono ?_
  rintro e x2 ⟨rfl, hR2, hS2⟩
  have HA3 := hid (HN3.out x2 hR2)
  have HP2 := hid (HP1.out.step hR2 hS2)
  have HS2 := hid (HS1.out.trans (hS2.two B1 fb))
  clear hR2 hS2 HA2 HP1 HN3 HS1
  go_wp2_with fail
  refine HA3.out.mono ?_
  rintro e x3 ⟨rfl, hR3, hS3⟩
  have HP3 := hid (HP2.out.step hR3 hS3)
  have HS3 := hid (HS2.out.trans (hS3.two B1 fb))
  clear hR3 hS3 HA3 HP2 HS2
  go_wp2_with fail
  refine (HL.out _ _).mono ?_
  rintro e x4 ⟨rfl, hx4⟩
  subst hx4
  obtain ⟨a', c', W2, run1, hF2, hP4, hS4⟩ := rng_app HP3.out lo0 hi0 0 1 (by rw [hc0]; rfl) rfl (by omega)
  have hx9 : x4.cell? ⟨fb, 9, none⟩ = some v9 := HP3.out.frm.cell 9
  obtain ⟨a9, c9, hv9, _⟩ := HP3.out.rng.shape
  rw [show cur.ranges.length = 0 by rw [hc0]; rfl] at hv9
  subst hv9
  have k9 : W2.cell? ⟨fb, 9, none⟩ = some (.slice a9 0 c9) := hF2.cell 9
  have z9 := hF2.frozen 9
  rw [hc0, List.nil_append, HT1.out] at hP4
  have HP4 := hid hP4
  have HS4 := hid (HS3.out.trans hS4)
  have hfl : fb < x4.heap.size := HP3.out.frm.lt
  clear hF2 hP4 hS4 HP3 HS3 HL
  go_wp2_with (at_builtin; refine Lib.wpList_append_run _ rfl _ _ _ _ rfl _ _ rfl rfl _ _ (run1 _) ?_)
  clear run1 hx9 k9 z9 hfl
  have HSTEP := hid (fun k (hk : k < N) => rngFrom_step rs N k hk)
  have HEND := hid (rngFrom_end rs N)
  have HPE : Hid (p + (Num.bytes hi0).length + (Num.bytes N).length + (Num.bytes d0).length + (rngFrom rs N 0).length = p + (rngBytes rs).length) := by
    unfold Hid; rw [HLT.out, rngFrom_zero]; omega
  generalize p + (Num.bytes hi0).length + (Num.bytes N).length + (Num.bytes d0).length = p0 at *
  go_loopw [4, 5, 6] (fun s4 s5 s6 wr => ∃ k : Nat, k ≤ N ∧ s5 = .int .u64 ((N - k : Nat) : Int) ∧ s6 = .int .u64 (((rs.getD k (0, 0)).1 : Nat) : Int) ∧ (∃ x : Nat, s4 = .int .u64 (x : Int)) ∧ Hid (∃ pk v9, RP B0 B1 rb fb yb yo cap body wr pk bg { cur with ranges := rs.take (k + 1) } v9 ∧ St2 B1 rb fb w wr ∧ body.drop pk = rngFrom rs N k ++ rest ∧ pk + (rngFrom rs N k).length = p + (rngBytes rs).length)) (fun _ s5 _ _ => (intOf s5).toNat)
  case atStart => exact ⟨0, Nat.zero_le _, rfl, by rw [HLO.out], ⟨_, rfl⟩, p0, _, HP4.out, HS4.out, HB3.out, HPE.out⟩
  case round =>
    clear HP4 HS4 HB3 HPE HLT HLO HT1
    obtain ⟨k, hk, rfl, rfl, ⟨xh, rfl⟩, HI⟩ := hrel
    by_cases hlt : k < N
    · obtain ⟨pk, v9, hPk, hSk, hbk, hpe⟩ := HI.out
      rw [HSTEP.out k hlt] at hbk hpe
      rw [List.append_assoc, List.append_assoc] at hbk
      obtain ⟨o1, o2, o3⟩ := HAT.out (k + 1) (by omega)
      have o4 := o3 (by omega)
      rw [Nat.add_sub_cancel] at o4
      obtain ⟨o5, o6, _⟩ := HAT.out k (by omega)
      have htk := take_snoc rs (k + 1) (by omega)
      have hlen : (rs.take (k + 1)).length = k + 1 := by simp; omega
      unfold M62 at o2 o6
      generalize (rs.getD k (0, 0)).1 = lok at *
      generalize hHI' : (rs.getD (k + 1) (0, 0)).2 = hi' at *
      generalize hLO' : (rs.getD (k + 1) (0, 0)).1 = lo' at *
      generalize hG : lok - hi' - 2 = g at *
      generalize hD : hi' - lo' = d at *
      have HN1 := hid (number_read rb yb yo cap body pk bg g _ wr hPk.rd (by omega) hbk)
      have hbk2 := drop_next hbk
      have HN2 := hid (fun w' (h' : RdAt w' rb yb yo cap body _ bg) => number_read rb yb yo cap body _ bg d _ w' h' (by omega) hbk2)
      have hbk3 := drop_next hbk2
      have HL1 := hid (fun (r : Value) (w : World) => less_any r lok (g + 2) w (by omega) (by omega))
      rw [show lok - (g + 2) = hi' by omega] at HL1
      have HL2 := hid (fun (r : Value) (w : World) => less_any r hi' d w (by omega) (by omega))
      rw [show hi' - d = lo' by omega] at HL2
      have hpe2 : pk + (Num.bytes g).length + (Num.bytes d).length + (rngFrom rs N (k + 1)).length = p + (rngBytes rs).length := by
        rw [List.length_append, List.length_append] at hpe; omega
      have HPk := hid hPk
      have HSk := hid hSk
      have HB := hid (And.intro hbk3 hpe2)
      have HTK := hid htk
      have HLEN := hid hlen
      have HLO := hid hLO'
      have g0 : 0 < N - k := by omega
      have g1 : (g : Int) + 2 = ((g + 2 : Nat) : Int) := by omega
      have g2 : ((g + 2 : Nat) : Int) < 18446744073709551616 := by omega
      have g3 : ((N - k : Nat) : Int) - 1 = ((N - (k + 1) : Nat) : Int) := by omega
      have g4 : ((N - (k + 1) : Nat) : Int) < 18446744073709551616 := by omega
      have HM : Hid (N - (k + 1) < N - k) := by unfold Hid; omega
      generalize g + 2 = g22 at *
      generalize hn1 : N - (k + 1) = n1 at *
      have HE1 := hid hn1
      clear hn1
      generalize N - k = n0 at *
      clear hPk hSk hbk hbk2 hbk3 hpe hpe2 htk hlen hHI' hLO' hG hD HI o1 o2 o3 o4 o5 o6
      go_wp2_with fail
      refine HN1.out.mono ?_
      rintro e y1 ⟨rfl, hR1, hS1⟩
      have HA2 := hid (HN2.out y1 hR1)
      have HP1 := hid (HPk.out.step hR1 hS1)
      have HS1 := hid (HSk.out.trans (hS1.two B1 fb))
      clear hR1 hS1 HN1 HN2 HPk HSk
      go_wp2_with fail
      refine (HL1.out _ _).mono ?_
      rintro e y2 ⟨rfl, hy2⟩
      subst hy2
      go_wp2_with fail
      refine HA2.out.mono ?_
      rintro e y3 ⟨rfl, hR3, hS3⟩
      have HP3 := hid (HP1.out.step hR3 hS3)
      have HS3 := hid (HS1.out.trans (hS3.two B1 fb))
      clear hR3 hS3 HA2 HP1 HS1
      go_wp2_with fail
      refine (HL2.out _ _).mono ?_
      rintro e y4 ⟨rfl, hy4⟩
      subst hy4
      obtain ⟨a', c', W2, run1, hF2, hP4, hS4⟩ := rng_app HP3.out lo' hi' (k + 1) (k + 2) HLEN.out rfl (by omega)
      have hx9 : y4.cell? ⟨fb, 9, none⟩ = some v9 := HP3.out.frm.cell 9
      obtain ⟨a9, c9, hv9, _⟩ := HP3.out.rng.shape
      rw [HLEN.out] at hv9
      subst hv9
      have k9 : W2.cell? ⟨fb, 9, none⟩ = some (.slice a9 (k + 1) c9) := hF2.cell 9
      have z9 := hF2.frozen 9
      simp only [HTK.out] at hP4
      have HI' : Hid (∃ pk v9, RP B0 B1 rb fb yb yo cap body (W2.setCell ⟨fb, 9, none⟩ (.slice a' (k + 2) c')) pk bg { cur with ranges := rs.take (k + 1 + 1) } v9 ∧ St2 B1 rb fb w (W2.setCell ⟨fb, 9, none⟩ (.slice a' (k + 2) c')) ∧ body.drop pk = rngFrom rs N (k + 1) ++ rest ∧ pk + (rngFrom rs N (k + 1)).length = p + (rngBytes rs).length) := ⟨_, _, hP4, HS3.out.trans hS4, HB.out.1, HB.out.2⟩
      have hfl : fb < y4.heap.size := HP3.out.frm.lt
      clear hF2 hP4 hS4 HP3 HS3 HL1 HL2
      go_wp2_with (at_builtin; refine Lib.wpList_append_run _ rfl _ _ _ _ rfl _ _ rfl rfl _ _ (run1 _) ?_)
      go_roundw
      case rel => exact ⟨k + 1, by omega, by rw [HE1.out], by rw [HLO.out], ⟨_, rfl⟩, HI'⟩
      case measure => simp [intOf]; exact HM.out
    · obtain rfl : k = N := by omega
      obtain ⟨pk, v9, hPk, hSk, hbk, hpe⟩ := HI.out
      rw [HEND.out, List.length_nil, Nat.add_zero] at hpe
      rw [← hN, List.take_length, hpe] at hPk
      have HF := hid (And.intro hPk hSk)
      clear hPk hSk hbk hpe HI
      have g0 : ((k - k : Nat) : Int) = 0 := by omega
      go_wp2
      go_end0
      exact ⟨rfl, v9, HF.out⟩

end Go.Proofs.YtphbledmopchnaaDoor
