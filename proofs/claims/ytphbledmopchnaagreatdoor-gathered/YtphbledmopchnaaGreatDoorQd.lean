import Derived.Test.YtphbledmopchnaaGreatDoorQb
import Derived.Test.YtphbledmopchnaaGreatDoorQc
import Derived.Test.YtphbledmopchnaaGreatDoorQa
/-
  The document's reader: ranges.
-/
namespace Go.Proofs.YtphbledmopchnaaGreatDoor
open Go.RowKit Go.Lib Mm

/-- Is it no range? -/
def rgBad (l : List UInt8) (p lo : Nat) : Bool := rB l p || rB l (rP l p) || decide (lo < 2) || decide (lo - 2 < rV l p) || decide (lo - 2 - rV l p < rV l (rP l p))
/-- The ranges behind the first: so many, from p on, below lo. -/
def rgGo (l : List UInt8) : Nat → Nat → Nat → List (Nat × Nat) → Option (List (Nat × Nat) × Nat)
  | 0, p, _, acc => some (acc, p)
  | n + 1, p, lo, acc =>
    if rgBad l p lo then none
    else rgGo l n (rP l (rP l p)) (lo - 2 - rV l p - rV l (rP l p)) (acc ++ [(lo - 2 - rV l p - rV l (rP l p), lo - 2 - rV l p)])
/-- All of them. -/
def rgAll (l : List UInt8) (p : Nat) : Option (List (Nat × Nat) × Nat) :=
  if rB l p || rB l (rP l p) || rB l (rP l (rP l p)) || decide (rV l p < rV l (rP l (rP l p))) then none
  else rgGo l (rV l (rP l p)) (rP l (rP l (rP l p))) (rV l p - rV l (rP l (rP l p))) [(rV l p - rV l (rP l (rP l p)), rV l p)]

theorem Alone.of_alloc {rb : Nat} {w w' : World} (h : Alone rb w w') (o : Obj) : Alone rb w (w'.alloc o) :=
  h.trans ⟨rfl, rfl, rfl, by simp, fun k hk _ => Below.heap_alloc w' o k hk⟩
theorem Alone.of_below {rb B : Nat} {w w1 w' : World} (h : Alone rb w w1) (hb : Below B w1 w') (hB : w.heap.size ≤ B) : Alone rb w w' :=
  ⟨hb.os.trans h.os, hb.tape.trans h.tape, hb.output.trans h.output, Nat.le_trans h.size hb.size, fun k hk hn => (hb.block k (by omega)).trans (h.block k hk hn)⟩

theorem RRd.of_heap {w w' : World} {rb : Nat} {a : Option Addr} {l : List UInt8} {c p : Nat} {bad : Bool} (h : RRd w rb a l c p bad) (e : ∀ k, k < w.heap.size → w'.heap[k]? = w.heap[k]?) : RRd w' rb a l c p bad :=
  ⟨h.blk.of_heap (e _ h.blk.lt), fun j hj => by
    obtain ⟨b, off, ha, hc⟩ := h.by_ j hj
    exact ⟨b, off, ha, cell_of hc (e _ (World.block_lt_of_cell? _ _ hc))⟩, h.le, h.ne, h.cap⟩

/-- What ranges answers. -/
def RgPost (rb : Nat) (a : Option Addr) (l : List UInt8) (c p : Nat) (bad : Bool) (w : World) (e : Ending) (w' : World) : Prop :=
  Alone rb w w' ∧ ((∃ v rs p', bad = false ∧ rgAll l p = some (rs, p') ∧ e = .returned v ∧ GBuf 170 2 w' v rs.length (rcells rs) ∧ Own w.heap.size v ∧ RRd w' rb a l c p' false ∧ rs.length ≤ l.length) ∨
    ((bad = true ∨ rgAll l p = none) ∧ e = .returned (.slice none 0 0) ∧ ∃ p', RRd w' rb a l c p' true))

theorem RRd.of_below {w y w' : World} {rb : Nat} {a : Option Addr} {l : List UInt8} {c p : Nat} {bad : Bool} (h : RRd y rb a l c p bad) (hby : BytesAt w a l) (hrb : rb < w.heap.size) (hb : Below w.heap.size y w') : RRd w' rb a l c p bad :=
  ⟨h.blk.of_heap (hb.block _ hrb), fun j hj => by
    obtain ⟨b, off, ha, hc⟩ := h.by_ j hj
    obtain ⟨b', off', ha', hc'⟩ := hby j hj
    have e := ha.symm.trans ha'
    simp at e
    obtain ⟨rfl, rfl⟩ := e
    exact ⟨b, off, ha, cell_of hc (hb.block _ (World.block_lt_of_cell? _ _ hc'))⟩, h.le, h.ne, h.cap⟩

/-- How far the ranges have come. -/
structure RgInv (rb : Nat) (a : Option Addr) (l : List UInt8) (c : Nat) (w : World) (R : Option (List (Nat × Nat) × Nat)) (wr : World) (v : Value) (M m pk lo : Nat) (acc : List (Nat × Nat)) : Prop where
  buf : GBuf 170 2 wr v (M + 1) (rcells acc)
  own : Own w.heap.size v
  rd : RRd wr rb a l c pk false
  al : Alone rb w wr
  go : rgGo l m pk lo acc = R
  len : acc.length = M + 1
  le : M + 1 ≤ pk
  last : (rcells acc)[M * 2]? = some (.int .u64 (lo : Int))
  lt : lo < 4611686018427387904

theorem rgGo_bad {l : List UInt8} {m pk lo : Nat} {acc : List (Nat × Nat)} (h : rgBad l pk lo = true) : rgGo l (m + 1) pk lo acc = none := by rw [rgGo, if_pos h]
theorem rgGo_ok {l : List UInt8} {m pk lo : Nat} {acc : List (Nat × Nat)} (h : rgBad l pk lo = false) : rgGo l (m + 1) pk lo acc = rgGo l m (rP l (rP l pk)) (lo - 2 - rV l pk - rV l (rP l pk)) (acc ++ [(lo - 2 - rV l pk - rV l (rP l pk), lo - 2 - rV l pk)]) := by rw [rgGo, if_neg (by rw [h]; decide)]

theorem rgBad_ok {l : List UInt8} {p lo : Nat} (h : rgBad l p lo = false) : rB l p = false ∧ rB l (rP l p) = false ∧ 2 ≤ lo ∧ rV l p ≤ lo - 2 ∧ rV l (rP l p) ≤ lo - 2 - rV l p := by
  unfold rgBad at h
  rw [Bool.or_eq_false_iff, Bool.or_eq_false_iff, Bool.or_eq_false_iff, Bool.or_eq_false_iff] at h
  obtain ⟨⟨⟨⟨h1, h2⟩, h3⟩, h4⟩, h5⟩ := h
  have a3 := of_decide_eq_false h3
  have a4 := of_decide_eq_false h4
  have a5 := of_decide_eq_false h5
  exact ⟨h1, h2, by omega, by omega, by omega⟩

set_option maxHeartbeats 4000000 in
set_option maxRecDepth 100000 in
theorem rranges_any (rb : Nat) (a : Option Addr) (l : List UInt8) (c p : Nat) (bad : Bool) (w : World) (h : RRd w rb a l c p bad) (hl : l.length ≤ 1000000000) :
    Calls Tryz.prog 73 #[.pointer (some ⟨rb, 0, none⟩)] w (RgPost rb a l c p bad w) := by
  have HN1 := hid (rnumber_any rb a l c p bad w h hl)
  have HN2 := hid (fun w' (h' : RRd w' rb a l c (rP l p) (bad || rB l p)) => rnumber_any rb a l c _ _ w' h' hl)
  have HN3 := hid (fun w' (h' : RRd w' rb a l c (rP l (rP l p)) (bad || rB l p || rB l (rP l p))) => rnumber_any rb a l c _ _ w' h' hl)
  have hV1 := rV_lt l p
  have hV2 := rV_lt l (rP l p)
  have hV3 := rV_lt l (rP l (rP l p))
  have HALL : Hid (rgAll l p = if rB l p || rB l (rP l p) || rB l (rP l (rP l p)) || decide (rV l p < rV l (rP l (rP l p))) then none
    else rgGo l (rV l (rP l p)) (rP l (rP l (rP l p))) (rV l p - rV l (rP l (rP l p))) [(rV l p - rV l (rP l (rP l p)), rV l p)]) := rfl
  have HPP : Hid (rP l (rP l p) ≤ rP l (rP l (rP l p)) ∧ (rB l (rP l (rP l p)) = false → 1 ≤ rP l (rP l (rP l p)))) := by
    have h1 := rP_le l p h.le
    have h2 := rP_le l (rP l p) h1.1
    have h3 := rP_le l (rP l (rP l p)) h2.1
    exact ⟨h3.2, fun hb => by have := rP_lt l _ hb; omega⟩
  have HLT := hid h.blk.lt
  have HBY := hid h.by_
  clear h
  generalize rV l p = V1 at *
  generalize rV l (rP l p) = V2 at *
  generalize rV l (rP l (rP l p)) = V3 at *
  generalize hb2 : (bad || rB l p || rB l (rP l p)) = b2 at *
  generalize hb3 : (b2 || rB l (rP l (rP l p))) = b3 at *
  generalize rP l (rP l (rP l p)) = p3 at *
  go_enter Tryz.func73, Tryz.ntmps73
  go_wp2_with fail
  refine HN1.out.mono ?_
  rintro e w1 ⟨rfl, h1, k1⟩
  have HB := hid (HN2.out w1 h1)
  have HK1 := hid k1
  clear h1 k1 HN1 HN2
  go_wp2_with fail
  refine HB.out.mono ?_
  rintro e w2 ⟨rfl, h2, k2⟩
  have HC := hid (HN3.out w2 h2)
  have HK2 := hid (HK1.out.trans k2)
  clear h2 k2 HB HK1 HN3
  go_wp2_with fail
  refine HC.out.mono ?_
  rintro e w3 ⟨rfl, h3, k3⟩
  have H3 := hid h3
  have HK3 := hid (HK2.out.trans k3)
  have c2 : w3.cell? ⟨rb, 2, none⟩ = some (.bool b3) := h3.blk.cell 2
  have f2 := h3.blk.frozen 2
  clear h3 k3 HC HK2
  have HB3 : Hid (b3 = (bad || (rB l p || rB l (rP l p) || rB l (rP l (rP l p))))) := by unfold Hid; rw [← hb3, ← hb2, Bool.or_assoc, Bool.or_assoc, Bool.or_assoc]
  clear hb2 hb3
  cases b3 with
  | true =>
    go_wp2_with fail
    go_ret
    refine ⟨HK3.out.setCell 2 _, .inr ⟨?_, rfl, _, H3.out.fail⟩⟩
    have hb := HB3.out
    cases bad with
    | true => exact .inl rfl
    | false =>
      rw [Bool.false_or] at hb
      exact .inr (by rw [HALL.out, ← hb, Bool.true_or, if_pos rfl])
  | false =>
    have hb0 : bad = false ∧ (rB l p || rB l (rP l p) || rB l (rP l (rP l p))) = false := by
      have := HB3.out
      cases bad with
      | true => simp at this
      | false => exact ⟨rfl, by rw [Bool.false_or] at this; exact this.symm⟩
    have HB0 := hid hb0
    clear hb0 HB3
    by_cases hsz : V1 < V3
    · have hsz' : (V1 : Int) < (V3 : Int) := by omega
      go_wp2_with fail
      go_ret
      exact ⟨HK3.out.setCell 2 _, .inr ⟨.inr (by rw [HALL.out, decide_eq_true hsz, Bool.or_true, if_pos rfl]), rfl, _, H3.out.fail⟩⟩
    · have HGO : Hid (rgAll l p = rgGo l V2 p3 (V1 - V3) [(V1 - V3, V1)]) := by unfold Hid; rw [HALL.out, HB0.out.2, decide_eq_false hsz, Bool.or_false, if_neg (by decide)]
      have hp31 : 1 ≤ p3 := HPP.out.2 (by have := HB0.out.2; rw [Bool.or_eq_false_iff] at this; exact this.2)
      have eL : IntKind.u64.wrap ((V1 : Int) - (V3 : Int)) = ((V1 - V3 : Nat) : Int) := by rw [IntKind.wrap_u64]; omega
      have eL2 : (V1 : Int) - (V3 : Int) = ((V1 - V3 : Nat) : Int) := by omega
      have hLO : V1 - V3 < 4611686018427387904 := by omega
      clear HALL
      generalize V1 - V3 = LO at *
      have hsz' : ¬ (V1 < V3) := hsz
      go_wp2_with fail
      obtain ⟨W4, hW4⟩ : ∃ W4, W4 = w3.alloc (.cells #[.int .u64 (LO : Int), .int .u64 (V1 : Int)] 170) := ⟨_, rfl⟩
      rw [← hW4]
      have hsz3 := HK3.out.size
      have HI0 : Hid (RgInv rb a l c w (rgAll l p) W4 (.slice (some ⟨w3.heap.size, 0, none⟩) (0 + 1) 1) 0 V2 p3 LO [(LO, V1)]) := by
        have hB4 : Blk W4 w3.heap.size 170 [.int .u64 (LO : Int), .int .u64 (V1 : Int)] := by rw [hW4]; exact Blk.new w3 170 _
        refine ⟨.inr ⟨w3.heap.size, 1, _, rfl, hB4, rfl, Nat.le_refl _, by decide, rfl, rfl, ?_⟩, ?_, ?_, ?_, HGO.out.symm, rfl, by omega, rfl, hLO⟩
        · intro v hv
          simp at hv
          rcases hv with rfl | rfl <;> rfl
        · intro k hk
          simp [Value.ownBlock] at hk
          omega
        · rw [hW4]; exact H3.out.of_heap (fun k hk => Below.heap_alloc _ _ _ hk)
        · rw [hW4]; exact HK3.out.of_alloc _
      clear hW4 H3 HK3 HGO c2 f2 eL eL2 hLO hp31 HPP
      go_loopw [6, 7] (fun s6 s7 wr => ∃ i m M g C : Nat, Hid (i + m = V2) ∧ i ≤ V2 ∧ s7 = .int .u64 (i : Int) ∧ s6 = .slice (some ⟨g, 0, none⟩) (M + 1) C ∧ Hid (∃ pk lo acc, RgInv rb a l c w (rgAll l p) wr (.slice (some ⟨g, 0, none⟩) (M + 1) C) M m pk lo acc)) (fun _ s7 _ => V2 - (intOf s7).toNat)
      case atStart => exact ⟨0, V2, 0, _, 1, by unfold Hid; omega, Nat.zero_le _, rfl, rfl, _, _, _, HI0.out⟩
      case round =>
        clear HI0
        obtain ⟨i, m, M, g, C, HIM, hiV, rfl, rfl, HI⟩ := hrel
        cases m with
        | zero =>
          have hi2 : i = V2 := by have := HIM.out; omega
          subst hi2
          obtain ⟨pk, lo, acc, hI⟩ := HI.out
          have c2 : wr.cell? ⟨rb, 2, none⟩ = some (.bool false) := hI.rd.blk.cell 2
          have HF : Hid (RgPost rb a l c p bad w (.returned (.slice (some ⟨g, 0, none⟩) (M + 1) C)) wr) := by
            refine ⟨hI.al, .inl ⟨_, acc, pk, HB0.out.1, hI.go.symm, rfl, ?_, hI.own, hI.rd, ?_⟩⟩
            · rw [hI.len]; exact hI.buf
            · have := hI.le; have := hI.rd.le; have := hI.len; omega
          clear hI HI
          go_wp2_with fail
          go_ret
          exact HF.out
        | succ m =>
          have hilt : i < V2 := by have := HIM.out; omega
          have hilt' : (i : Int) < (V2 : Int) := by omega
          obtain ⟨pk, lo, acc, hI⟩ := HI.out
          have c2 : wr.cell? ⟨rb, 2, none⟩ = some (.bool false) := hI.rd.blk.cell 2
          have HN1 := hid (rnumber_any rb a l c pk false wr hI.rd hl)
          have HN2 := hid (fun w' (h' : RRd w' rb a l c (rP l pk) (false || rB l pk)) => rnumber_any rb a l c _ _ w' h' hl)
          have hG := rV_lt l pk
          have hD := rV_lt l (rP l pk)
          have hlo := hI.lt
          have hMb : M ≤ 1000000000 := by have := hI.le; have := hI.rd.le; omega
          have HII := hid hI
          have HBD : Hid (rgBad l pk lo = (rB l pk || rB l (rP l pk) || decide (lo < 2) || decide (lo - 2 < rV l pk) || decide (lo - 2 - rV l pk < rV l (rP l pk)))) := rfl
          have HOKE : Hid (rgBad l pk lo = false → rgGo l (m + 1) pk lo acc = rgGo l m (rP l (rP l pk)) (lo - 2 - rV l pk - rV l (rP l pk)) (acc ++ [(lo - 2 - rV l pk - rV l (rP l pk), lo - 2 - rV l pk)])) := fun h => rgGo_ok h
          have HPK : Hid (rB l pk = false → pk < rP l (rP l pk)) := fun h => by
            have h1 := rP_lt l pk h
            have h2 := rP_le l pk hI.rd.le
            have h3 := rP_le l (rP l pk) h2.1
            omega
          clear hI HI
          generalize rV l pk = G at *
          generalize rV l (rP l pk) = D at *
          generalize rP l (rP l pk) = pk2 at *
          go_wp2_with fail
          refine HN1.out.mono ?_
          rintro e y1 ⟨rfl, h1, k1⟩
          have HB := hid (HN2.out y1 h1)
          have HK1 := hid k1
          clear h1 k1 HN1 HN2 c2
          go_wp2_with fail
          refine HB.out.mono ?_
          rintro e y2 ⟨rfl, h2, k2⟩
          have H2 := hid h2
          have HK2 := hid (HK1.out.trans k2)
          have c2 : y2.cell? ⟨rb, 2, none⟩ = some (.bool (false || rB l pk || rB l (rP l pk))) := h2.blk.cell 2
          have f2 := h2.blk.frozen 2
          have hgs : ∀ k, k < wr.heap.size → k ≠ rb → y2.heap[k]? = wr.heap[k]? := HK2.out.block
          obtain ⟨g', hgg, hcl, _⟩ := HII.out.buf.cell rfl (M * 2) _ HII.out.last
          simp at hgg
          subst hgg
          have hgo : w.heap.size ≤ g := HII.out.own g rfl
          have hgrb : g ≠ rb := by have := HLT.out; omega
          have hgl := World.block_lt_of_cell? _ _ hcl
          have clo : y2.cell? ⟨g, M * 2, none⟩ = some (.int .u64 (lo : Int)) := cell_of hcl (hgs g hgl hgrb)
          have HGS := hid (And.intro hgs (And.intro hgrb hgl))
          have HBB : Hid ((rB l pk || rB l (rP l pk)) = (false || rB l pk || rB l (rP l pk))) := by unfold Hid; rw [Bool.false_or]
          clear h2 k2 HB HK1 hgs hgrb hgl hcl hgo
          generalize (false || rB l pk || rB l (rP l pk)) = FL at *
          cases FL with
          | true =>
            have HF : Hid (rgAll l p = none) := by unfold Hid; rw [← HII.out.go]; exact rgGo_bad (by rw [HBD.out, HBB.out]; rfl)
            go_wp2_with fail
            go_ret
            exact ⟨(HII.out.al.trans HK2.out).setCell 2 _, .inr ⟨.inr HF.out, rfl, _, H2.out.fail⟩⟩
          | false =>
            by_cases hl2 : lo < 2
            · have HF : Hid (rgAll l p = none) := by unfold Hid; rw [← HII.out.go]; exact rgGo_bad (by rw [HBD.out, decide_eq_true hl2]; simp)
              have hl2' : (lo : Int) < 2 := by omega
              go_wp2_with fail
              go_ret
              exact ⟨(HII.out.al.trans HK2.out).setCell 2 _, .inr ⟨.inr HF.out, rfl, _, H2.out.fail⟩⟩
            · have hl2' : ¬ (lo < 2) := hl2
              obtain ⟨L2, hL2⟩ : ∃ L2, L2 = lo - 2 := ⟨_, rfl⟩
              have eq2 : (lo : Int) - 2 = (L2 : Int) := by omega
              have hL2b : L2 < 4611686018427387904 := by omega
              by_cases hg2 : L2 < G
              · have HF : Hid (rgAll l p = none) := by unfold Hid; rw [← HII.out.go]; exact rgGo_bad (by rw [HBD.out, ← hL2, decide_eq_true hg2]; simp)
                have hg2' : (L2 : Int) < (G : Int) := by omega
                go_wp2_with fail
                go_ret
                exact ⟨(HII.out.al.trans HK2.out).setCell 2 _, .inr ⟨.inr HF.out, rfl, _, H2.out.fail⟩⟩
              · have hg2' : ¬ (L2 < G) := hg2
                obtain ⟨L3, hL3⟩ : ∃ L3, L3 = L2 - G := ⟨_, rfl⟩
                have eq3 : (L2 : Int) - (G : Int) = (L3 : Int) := by omega
                have hL3b : L3 < 4611686018427387904 := by omega
                by_cases hd3 : L3 < D
                · have HF : Hid (rgAll l p = none) := by unfold Hid; rw [← HII.out.go]; exact rgGo_bad (by rw [HBD.out, ← hL2, ← hL3, decide_eq_true hd3]; simp)
                  have hd3' : (L3 : Int) < (D : Int) := by omega
                  go_wp2_with fail
                  go_ret
                  exact ⟨(HII.out.al.trans HK2.out).setCell 2 _, .inr ⟨.inr HF.out, rfl, _, H2.out.fail⟩⟩
                · have hd3' : ¬ (L3 < D) := hd3
                  obtain ⟨L4, hL4⟩ : ∃ L4, L4 = L3 - D := ⟨_, rfl⟩
                  have eq4 : (L3 : Int) - (D : Int) = (L4 : Int) := by omega
                  have hL4b : L4 < 4611686018427387904 := by omega
                  have hgood : rgBad l pk lo = false := by rw [HBD.out, HBB.out, ← hL2, ← hL3, decide_eq_false hl2, decide_eq_false hg2, decide_eq_false hd3]; rfl
                  have hgo := HOKE.out hgood
                  rw [← hL2, ← hL3, ← hL4] at hgo
                  have hB1 : rB l pk = false := by have := HBB.out; rw [Bool.or_eq_false_iff] at this; exact this.1
                  have hpk := HPK.out hB1
                  have hbuf2 : GBuf 170 2 (y2.alloc (.cells #[.int .u64 (L4 : Int), .int .u64 (L3 : Int)] 170)) (.slice (some ⟨g, 0, none⟩) (M + 1) C) (M + 1) (rcells acc) := HII.out.buf.of_heap (fun b hb => by
                    have hbg : b = g := by simp [Value.ownBlock] at hb; omega
                    obtain ⟨s1, s2, s3⟩ := HGS.out
                    have hss := HK2.out.size
                    rw [hbg, Below.heap_alloc y2 _ g (Nat.lt_of_lt_of_le s3 hss), s1 g s3 s2])
                  obtain ⟨v', W5, run5, hB5, hG5⟩ := run_append_gbuf eltR hbuf2 ⟨y2.heap.size, 0, none⟩ 1 1 [.int .u64 (L4 : Int), .int .u64 (L3 : Int)] rfl (by decide) (fun v hv => by simp at hv; rcases hv with rfl | rfl <;> rfl)
                    (fun j u hu => by
                      rw [Addr.add_lit, Nat.zero_add, (Blk.new y2 170 [.int .u64 (L4 : Int), .int .u64 (L3 : Int)]).cell]
                      exact hu) (by omega)
                  have hwy : w.heap.size ≤ y2.heap.size := Nat.le_trans HII.out.al.size HK2.out.size
                  have hO5 := hG5.own HII.out.own (by simp; omega)
                  have hbl5 := hG5.below HII.out.own (by simp; omega)
                  have hba : Below w.heap.size y2 (y2.alloc (.cells #[.int .u64 (L4 : Int), .int .u64 (L3 : Int)] 170)) := (Below.refl _ y2).alloc hwy _
                  have hb25 := hba.trans hbl5
                  obtain ⟨g', C', hv', -⟩ : ∃ g' C', v' = .slice (some ⟨g', 0, none⟩) (M + 1 + 1) C' ∧ True := by
                    rcases hB5 with ⟨_, h0, _⟩ | ⟨g', C', _, h0, _⟩
                    · omega
                    · exact ⟨g', C', h0, trivial⟩
                  subst hv'
                  have hrc : rcells acc ++ [.int .u64 (L4 : Int), .int .u64 (L3 : Int)] = rcells (acc ++ [(L4, L3)]) := by rw [rcells_append]; rfl
                  rw [hrc] at hB5
                  have HI' : Hid (∃ pk lo acc, RgInv rb a l c w (rgAll l p) W5 (.slice (some ⟨g', 0, none⟩) (M + 1 + 1) C') (M + 1) m pk lo acc) := by
                    refine ⟨pk2, L4, acc ++ [(L4, L3)], hB5, hO5, H2.out.of_below HBY.out HLT.out hb25, (HII.out.al.trans HK2.out).of_below hb25 (Nat.le_refl _), ?_, ?_, ?_, ?_, hL4b⟩
                    · rw [← hgo]; exact HII.out.go
                    · rw [List.length_append, HII.out.len]; rfl
                    · have := HII.out.le; omega
                    · rw [rcells_append, List.getElem?_append_right (by rw [rcells_len, HII.out.len]; omega), rcells_len, HII.out.len, Nat.sub_self]; rfl
                  clear hB5 hO5 hbl5 hba hb25 hrc hG5 hbuf2 hgo hgood HII HK2 H2 HGS HBB HBD HOKE HPK hL2 hL3 hL4 hwy hB1
                  have HIM' : Hid (i + 1 + m = V2) := by have := HIM.out; unfold Hid; omega
                  go_wp2_with (at_builtin; refine Lib.wpList_append_run _ rfl _ _ _ _ rfl _ _ rfl rfl _ _ (run5 _) ?_)
                  go_roundw
                  case rel => exact ⟨i + 1, m, M + 1, g', C', HIM', by omega, by go_num, rfl, HI'⟩
                  case measure => simp [intOf]; omega
end Go.Proofs.YtphbledmopchnaaGreatDoor

/-
  The document's sound.
-/
namespace Go.Proofs.YtphbledmopchnaaGreatDoor
open Go.RowKit Go.Lib Mm

/-- The frame's value. -/
def frV (f : Fr) (v9 : Value) : Value := .agg #[.int .i64 f.kind, .int .i64 f.stream, .int .u64 (f.offset : Int), .int .u64 (f.reliable : Int), .int .u64 (f.limit : Int), .bool f.fin, .int .u64 (f.id : Int), .int .u64 (f.deadline : Int), .string f.data, v9]

/-- Ranges that lie in memory, in a frame or anywhere. -/
structure RgAt (w : World) (ra : Option Addr) (rs : List (Nat × Nat)) : Prop where
  rng : RngAt w ra rs
  len : rs.length ≤ 1000000000

set_option maxHeartbeats 4000000 in
set_option maxRecDepth 100000 in
theorem rsound_numbers (f : Fr) (ra : Option Addr) (rc : Nat) (w : World) (hok : FrOk f) (hbad : sndN f = false ∨ ¬ (0 ≤ f.stream ∧ f.stream < 8)) :
    Calls Tryz.prog 76 #[frV f (.slice ra f.ranges.length rc)] w fun e w' => e = .returned (.bool false) ∧ Below w.heap.size w w' := by
  obtain ⟨_, _, k0, s0, ⟨u1, u2, u3, u4, u5⟩, _⟩ := hok
  unfold frV
  generalize f.ranges.length = RL at *
  generalize f.data = DA at *
  generalize f.kind = KI at *
  generalize f.fin = FI at *
  have hbad' : ¬ (f.offset ≤ M62 ∧ f.reliable ≤ M62 ∧ f.limit ≤ M62 ∧ f.id ≤ M62 ∧ f.deadline ≤ M62 ∧ 0 ≤ f.stream ∧ f.stream < 8) := by
    rintro ⟨a1, a2, a3, a4, a5, a6, a7⟩
    rcases hbad with h | h
    · unfold sndN at h
      rw [decide_eq_true a1, decide_eq_true a2, decide_eq_true a3, decide_eq_true a4, decide_eq_true a5] at h
      cases h
    · exact h ⟨a6, a7⟩
  clear hbad
  unfold M62 at hbad'
  generalize f.offset = F2 at *
  generalize f.reliable = F3 at *
  generalize f.limit = F4 at *
  generalize f.id = F6 at *
  generalize f.deadline = F7 at *
  generalize f.stream = F1 at *
  by_cases d0 : 4611686018427387903 < F2
  · go_enter Tryz.func76, Tryz.ntmps76
    go_wp2_with fail
    go_ret
    exact ⟨rfl, (Below.refl _ w).alloc (Nat.le_refl _) _⟩
  · have n0 : ¬ (4611686018427387903 < F2) := d0
    by_cases d1 : 4611686018427387903 < F3
    · go_enter Tryz.func76, Tryz.ntmps76
      go_wp2_with fail
      go_ret
      exact ⟨rfl, (Below.refl _ w).alloc (Nat.le_refl _) _⟩
    · have n1 : ¬ (4611686018427387903 < F3) := d1
      by_cases d2 : 4611686018427387903 < F4
      · go_enter Tryz.func76, Tryz.ntmps76
        go_wp2_with fail
        go_ret
        exact ⟨rfl, (Below.refl _ w).alloc (Nat.le_refl _) _⟩
      · have n2 : ¬ (4611686018427387903 < F4) := d2
        by_cases d3 : 4611686018427387903 < F6
        · go_enter Tryz.func76, Tryz.ntmps76
          go_wp2_with fail
          go_ret
          exact ⟨rfl, (Below.refl _ w).alloc (Nat.le_refl _) _⟩
        · have n3 : ¬ (4611686018427387903 < F6) := d3
          by_cases d4 : 4611686018427387903 < F7
          · go_enter Tryz.func76, Tryz.ntmps76
            go_wp2_with fail
            go_ret
            exact ⟨rfl, (Below.refl _ w).alloc (Nat.le_refl _) _⟩
          · have n4 : ¬ (4611686018427387903 < F7) := d4
            by_cases d5 : F1 < 0
            · go_enter Tryz.func76, Tryz.ntmps76
              go_wp2_with fail
              go_ret
              exact ⟨rfl, (Below.refl _ w).alloc (Nat.le_refl _) _⟩
            · have n5 : ¬ (F1 < 0) := d5
              by_cases d6 : 8 ≤ F1
              · go_enter Tryz.func76, Tryz.ntmps76
                go_wp2_with fail
                go_ret
                exact ⟨rfl, (Below.refl _ w).alloc (Nat.le_refl _) _⟩
              · have n6 : ¬ (8 ≤ F1) := d6
                exact absurd ⟨by omega, by omega, by omega, by omega, by omega, by omega, by omega⟩ hbad'

/-- The frame, boxed. -/
def frBox (f : Fr) (v9 : Value) : List Value := [.int .i64 f.kind, .int .i64 f.stream, .int .u64 (f.offset : Int), .int .u64 (f.reliable : Int), .int .u64 (f.limit : Int), .bool f.fin, .int .u64 (f.id : Int), .int .u64 (f.deadline : Int), .string f.data, v9]

set_option maxHeartbeats 4000000 in
set_option maxRecDepth 100000 in
theorem rsound_kind (f : Fr) (ra : Option Addr) (rc : Nat) (w : World) (hok : FrOk f) (hnum : sndN f = true) (hst : 0 ≤ f.stream ∧ f.stream < 8) (hk2 : f.kind ≠ 2) (B : Bool) (hB : B = (decide (1 ≤ f.kind ∧ f.kind ≤ 8) && sndT f)) :
    Calls Tryz.prog 76 #[frV f (.slice ra f.ranges.length rc)] w fun e w' => e = .returned (.bool B) ∧ Below w.heap.size w w' := by
  obtain ⟨_, hdl, k0, s0, ⟨u1, u2, u3, u4, u5⟩, _⟩ := hok
  have hN : f.offset ≤ M62 ∧ f.reliable ≤ M62 ∧ f.limit ≤ M62 ∧ f.id ≤ M62 ∧ f.deadline ≤ M62 := by
    unfold sndN at hnum
    simp only [Bool.and_eq_true] at hnum
    obtain ⟨⟨⟨⟨a1, a2⟩, a3⟩, a4⟩, a5⟩ := hnum
    exact ⟨of_decide_eq_true a1, of_decide_eq_true a2, of_decide_eq_true a3, of_decide_eq_true a4, of_decide_eq_true a5⟩
  have HT : Hid (sndT f = if f.kind = 2 then sndR f.ranges else if f.kind = 3 then decide (f.reliable ≤ f.offset) else if f.kind = 4 then decide (f.data.size + f.offset ≤ M62) else true) := rfl
  unfold frV
  unfold M62 at hN
  obtain ⟨a1, a2, a3, a4, a5⟩ := hN
  have b1 : ¬ (4611686018427387903 < f.offset) := by omega
  have b2 : ¬ (4611686018427387903 < f.reliable) := by omega
  have b3 : ¬ (4611686018427387903 < f.limit) := by omega
  have b4 : ¬ (4611686018427387903 < f.id) := by omega
  have b5 : ¬ (4611686018427387903 < f.deadline) := by omega
  have b6 : ¬ (f.stream < 0) := by omega
  have b7 : ¬ (8 ≤ f.stream) := by omega
  have e1 : IntKind.u64.wrap (4611686018427387903 - (f.offset : Int)) = 4611686018427387903 - (f.offset : Int) := by rw [IntKind.wrap_u64]; omega
  have e2 : IntKind.u64.wrap ((f.data.size : Nat) : Int) = ((f.data.size : Nat) : Int) := by rw [IntKind.wrap_u64]; omega
  generalize f.ranges.length = RL at *
  have g2 : (f.kind == 2) = false := by simp [hk2]
  by_cases h3 : f.kind = 3
  · have HF : Hid (B = decide (f.reliable ≤ f.offset)) := by unfold Hid; rw [hB, HT.out, if_neg hk2, if_pos h3, h3]; rfl
    have g3 : (f.kind == 3) = true := by simp [h3]
    clear HT hk2 h3 hnum hB
    go_enter Tryz.func76, Tryz.ntmps76
    go_wp2_with fail
    go_ret
    exact ⟨ret_bool (by rw [HF.out, decide_eq_decide]), (Below.refl _ w).alloc (Nat.le_refl _) _⟩
  · have g3 : (f.kind == 3) = false := by simp [h3]
    by_cases h4 : f.kind = 4
    · have HF : Hid (B = decide (f.data.size + f.offset ≤ 4611686018427387903)) := by unfold Hid; rw [hB, HT.out, if_neg hk2, if_neg h3, if_pos h4, h4]; rfl
      have g4 : (f.kind == 4) = true := by simp [h4]
      clear HT hk2 h3 h4 hnum hB
      go_enter Tryz.func76, Tryz.ntmps76
      go_wp2_with fail
      go_ret
      exact ⟨ret_bool (by rw [HF.out, decide_eq_decide]; omega), (Below.refl _ w).alloc (Nat.le_refl _) _⟩
    · have HF : Hid (B = decide (1 ≤ f.kind ∧ f.kind ≤ 8)) := by unfold Hid; rw [hB, HT.out, if_neg hk2, if_neg h3, if_neg h4, Bool.and_true]
      have g4 : (f.kind == 4) = false := by simp [h4]
      clear HT hk2 h3 h4 hnum hB
      by_cases d1 : 1 ≤ f.kind
      · go_enter Tryz.func76, Tryz.ntmps76
        go_wp2_with fail
        go_ret
        exact ⟨ret_bool (by rw [HF.out, decide_eq_decide]; omega), (Below.refl _ w).alloc (Nat.le_refl _) _⟩
      · go_enter Tryz.func76, Tryz.ntmps76
        go_wp2_with fail
        go_ret
        exact ⟨ret_bool (by rw [HF.out, eq_comm, decide_eq_false_iff_not]; omega), (Below.refl _ w).alloc (Nat.le_refl _) _⟩
end Go.Proofs.YtphbledmopchnaaGreatDoor

/-
  The document's sound, of an Ack.
-/
namespace Go.Proofs.YtphbledmopchnaaGreatDoor
open Go.RowKit Go.Lib Mm

theorem below_drew {B : Nat} {w w' : World} (h : Below B w w') (q : Nat) : Below B w (w'.drewN q) := ⟨h.os, h.tape, h.output, h.size, h.block⟩

set_option maxHeartbeats 4000000 in
set_option maxRecDepth 100000 in
theorem rsound_ack (f : Fr) (ra : Option Addr) (rc : Nat) (w : World) (hok : FrOk f) (hr : RngAt w ra f.ranges) (hnum : sndN f = true) (hst : 0 ≤ f.stream ∧ f.stream < 8) (hk2 : f.kind = 2) :
    Calls Tryz.prog 76 #[frV f (.slice ra f.ranges.length rc)] w fun e w' => e = .returned (.bool (sndR f.ranges)) ∧ Below w.heap.size w w' := by
  obtain ⟨hl, hdl, k0, s0, ⟨u1, u2, u3, u4, u5⟩, _⟩ := hok
  have hN : f.offset ≤ M62 ∧ f.reliable ≤ M62 ∧ f.limit ≤ M62 ∧ f.id ≤ M62 ∧ f.deadline ≤ M62 := by
    unfold sndN at hnum
    simp only [Bool.and_eq_true] at hnum
    obtain ⟨⟨⟨⟨a1, a2⟩, a3⟩, a4⟩, a5⟩ := hnum
    exact ⟨of_decide_eq_true a1, of_decide_eq_true a2, of_decide_eq_true a3, of_decide_eq_true a4, of_decide_eq_true a5⟩
  have HSR : Hid (sndR f.ranges = ((List.range f.ranges.length).all (okAt f.ranges) && decide (0 < f.ranges.length))) := rfl
  obtain ⟨W0, hW0⟩ : ∃ W0, W0 = w.alloc (.cells #[.int .i64 f.kind, .int .i64 f.stream, .int .u64 (f.offset : Int), .int .u64 (f.reliable : Int), .int .u64 (f.limit : Int), .bool f.fin, .int .u64 (f.id : Int), .int .u64 (f.deadline : Int), .string f.data, .slice ra f.ranges.length rc] 65) := ⟨_, rfl⟩
  have hs0 : W0.heap.size = w.heap.size + 1 := by rw [hW0]; simp
  have hb0 : Below w.heap.size w W0 := by rw [hW0]; exact (Below.refl _ w).alloc (Nat.le_refl _) _
  have hB0 : Blk W0 w.heap.size 65 (frBox f (.slice ra f.ranges.length rc)) := by rw [hW0]; exact Blk.new w 65 (frBox f (.slice ra f.ranges.length rc))
  have HR := hid hr
  have HW0 := hid (And.intro hs0 (And.intro hb0 hB0))
  unfold frV
  unfold M62 at hN
  obtain ⟨a1, a2, a3, a4, a5⟩ := hN
  have b1 : ¬ ((4611686018427387903 : Int) < (f.offset : Int)) := by omega
  have b2 : ¬ ((4611686018427387903 : Int) < (f.reliable : Int)) := by omega
  have b3 : ¬ ((4611686018427387903 : Int) < (f.limit : Int)) := by omega
  have b4 : ¬ ((4611686018427387903 : Int) < (f.id : Int)) := by omega
  have b5 : ¬ ((4611686018427387903 : Int) < (f.deadline : Int)) := by omega
  have b6 : ¬ (f.stream < 0) := by omega
  have b7 : ¬ (8 ≤ f.stream) := by omega
  have g2 : (f.kind == 2) = true := by simp [hk2]
  clear hr hs0 hb0 hB0 hnum hk2
  generalize hRS : f.ranges = rs at *
  clear hRS
  go_enter Tryz.func76, Tryz.ntmps76
  go_wp2_with fail
  rw [← hW0]
  clear hW0
  go_loopw [3] (fun s3 wr => ∃ k : Nat, k ≤ rs.length ∧ s3 = .int .i64 k ∧ Hid (∀ i, i < k → okAt rs i = true) ∧ Hid (Below (w.heap.size + 1) W0 wr)) (fun s3 _ => rs.length - (intOf s3).toNat)
  case atStart => exact ⟨0, Nat.zero_le _, rfl, fun i hi => absurd hi (Nat.not_lt_zero _), Below.refl _ _⟩
  case round =>
    obtain ⟨k, hk, rfl, HOK, HB⟩ := hrel
    obtain ⟨hs0, hb0, hB0⟩ := HW0.out
    have hbw : Below w.heap.size w wr := hb0.trans (HB.out.mono (by omega))
    have hBr := hB0.of_heap (HB.out.block _ (by omega))
    have x9 : wr.cell? ⟨w.heap.size, 9, none⟩ = some (.slice ra rs.length rc) := hBr.cell 9
    by_cases hlt : k < rs.length
    · have hlt' : (k : Int) < (rs.length : Int) := by omega
      obtain ⟨b, off, ha, k1, k2, hb1, hb2⟩ := HR.out.below hbw k hlt
      subst ha
      have hprev : 0 < k → wr.cell? ⟨b, off + (k - 1) * 2, none⟩ = some (.int .u64 ((rs.getD (k - 1) (0, 0)).1 : Int)) ∧ (rs.getD (k - 1) (0, 0)).1 < 18446744073709551616 := fun h0 => by
        obtain ⟨b', off', ha', k1', _, hb', _⟩ := HR.out.below hbw (k - 1) (by omega)
        simp at ha'
        obtain ⟨rfl, rfl⟩ := ha'
        exact ⟨k1', hb'⟩
      have hok : Hid (okAt rs k = (decide ((rs.getD k (0, 0)).1 ≤ (rs.getD k (0, 0)).2) && decide ((rs.getD k (0, 0)).2 ≤ M62) && (decide (k = 0) || decide ((rs.getD k (0, 0)).2 + 1 < (rs.getD (k - 1) (0, 0)).1)))) := rfl
      have hbad : okAt rs k = false → Hid (sndR rs = false) := fun h => by
        have : (List.range rs.length).all (okAt rs) = false := by
          rw [List.all_eq_false]
          exact ⟨k, by simpa using hlt, by simp [h]⟩
        rw [HSR.out, this]; rfl
      have hgood : okAt rs k = true → Hid (∀ i, i < k + 1 → okAt rs i = true) := fun h i hi => by
        by_cases e : i = k
        · rw [e]; exact h
        · exact HOK.out i (by omega)
      generalize (rs.getD k (0, 0)).1 = x at k1 hb1 hok
      generalize (rs.getD k (0, 0)).2 = y at k2 hb2 hok
      generalize (rs.getD (k - 1) (0, 0)).1 = z at hprev hok
      generalize okAt rs k = okk at hok hbad hgood
      have HHB := hid hbad
      have HHG := hid hgood
      have hbl : b < wr.heap.size := World.block_lt_of_cell? _ _ k1
      have hwl : w.heap.size < wr.heap.size := hBr.lt
      obtain ⟨Wq, hWq⟩ : ∃ Wq, Wq = wr.alloc (.cells #[.int .u64 (x : Int), .int .u64 (y : Int)] 170) := ⟨_, rfl⟩
      have HBq : Hid (Below (w.heap.size + 1) W0 Wq ∧ Below w.heap.size w Wq) := by
        have h1 : Below (w.heap.size + 1) W0 Wq := by rw [hWq]; exact HB.out.alloc (by omega) _
        exact ⟨h1, hb0.trans (h1.mono (by omega))⟩
      have j0 : Wq.cell? ⟨wr.heap.size, 0, none⟩ = some (.int .u64 (x : Int)) := by rw [hWq]; exact (Blk.new wr 170 [.int .u64 (x : Int), .int .u64 (y : Int)]).cell 0
      have j1 : Wq.cell? ⟨wr.heap.size, 1, none⟩ = some (.int .u64 (y : Int)) := by rw [hWq]; exact (Blk.new wr 170 [.int .u64 (x : Int), .int .u64 (y : Int)]).cell 1
      have j9 : Wq.cell? ⟨w.heap.size, 9, none⟩ = some (.slice (some ⟨b, off, none⟩) rs.length rc) := by rw [hWq, World.cell?_alloc_past _ w.heap.size _ hwl]; exact x9
      have jz : 0 < k → Wq.cell? ⟨b, off + (k - 1) * 2, none⟩ = some (.int .u64 (z : Int)) := fun h0 => by rw [hWq, World.cell?_alloc_past _ b _ hbl]; exact (hprev h0).1
      have hzb : 0 < k → z < 18446744073709551616 := fun h0 => (hprev h0).2
      have HHW := hid hWq
      clear hbad hgood HR HOK hprev hbw hBr hs0 hb0 hB0 hWq
      by_cases h1 : x ≤ y
      · have g1 : ¬ ((y : Int) < (x : Int)) := by omega
        have g1n : ¬ (y < x) := by omega
        by_cases h2 : y ≤ M62
        · have g2' : ¬ ((4611686018427387903 : Int) < (y : Int)) := by unfold M62 at h2; omega
          have g2n : y ≤ 4611686018427387903 := by omega
          have g2m : (y : Int) ≤ 4611686018427387903 := by omega
          have g2k : decide ((4611686018427387903 : Int) < (y : Int)) = false := decide_eq_false g2'
          by_cases h3 : 0 < k
          · obtain ⟨m, hm⟩ : ∃ m, k = m + 1 := ⟨k - 1, by omega⟩
            subst hm
            have k3 := jz h3
            rw [Nat.add_sub_cancel] at k3
            have hz := hzb h3
            have g3 : (0 : Int) < (m : Int) + 1 := by omega
            have hml : m < rs.length := by omega
            have hmb : m ≤ 1000000000 := by omega
            have hml' : (m : Int) < (rs.length : Int) := by omega
            have e6 : IntKind.i64.wrap (m : Int) = (m : Int) := by rw [IntKind.wrap_i64]; omega
            by_cases h4 : z < 2
            · have hk1 : okk = false := by rw [hok.out]; simp; omega
              have g4 : (z : Int) < 2 := by omega
              have HG2 := HHB.out hk1
              clear hok HHB HHG hk1 jz hzb
              go_wp2_with fail
              rw [← HHW.out]
              clear x9 k1 k2
              go_big_quiet (fail)
              go_wp2_with fail
              go_ret
              exact ⟨ret_bool HG2.out.symm, below_drew HBq.out.2 _⟩
            · have g4 : ¬ ((z : Int) < 2) := by omega
              have g4n : 2 ≤ z := by omega
              have g4k : decide ((z : Int) < 2) = false := decide_eq_false g4
              have e9 : IntKind.u64.wrap ((z : Int) - 2) = (z : Int) - 2 := by rw [IntKind.wrap_u64]; omega
              by_cases h5 : (z : Int) - 2 < (y : Int)
              · have hk1 : okk = false := by rw [hok.out]; simp; omega
                have HG2 := HHB.out hk1
                clear hok HHB HHG hk1 jz hzb
                go_wp2_with fail
                rw [← HHW.out]
                clear x9 k1 k2
                go_big_quiet (fail)
                go_wp2_with fail
                go_ret
                exact ⟨ret_bool HG2.out.symm, below_drew HBq.out.2 _⟩
              · have hk1 : okk = true := by rw [hok.out]; simp [h1, h2]; omega
                have g5 : (y : Int) ≤ (z : Int) - 2 := by omega
                have g5k : decide ((z : Int) - 2 < (y : Int)) = false := decide_eq_false h5
                have HG2 := HHG.out hk1
                clear hok HHB HHG hk1 jz hzb
                go_wp2_with fail
                rw [← HHW.out]
                clear x9 k1 k2
                go_big_quiet (fail)
                go_wp2_with fail
                go_roundw
                case rel => exact ⟨m + 1 + 1, by omega, by go_num, HG2, below_drew HBq.out.1 _⟩
                case measure => simp [intOf]; omega
          · have hk1 : okk = true := by rw [hok.out]; simp [h1, h2]; omega
            have g3 : decide ((0 : Int) < (k : Int)) = false := by simp; omega
            have g3n : k ≤ 0 := by omega
            have g3m : (k : Int) ≤ 0 := by omega
            have g3k : decide (0 < k) = false := by simp; omega
            have HG2 := HHG.out hk1
            clear hok HHB HHG hk1 jz hzb
            go_wp2_with fail
            rw [← HHW.out]
            clear x9 k1 k2
            go_big_quiet (fail)
            go_wp2_with fail
            go_roundw
            case rel => exact ⟨k + 1, by omega, by go_num, HG2, below_drew HBq.out.1 _⟩
            case measure => simp [intOf]; omega
        · have hk1 : okk = false := by rw [hok.out]; simp [h2]
          have g2' : (4611686018427387903 : Int) < (y : Int) := by unfold M62 at h2; omega
          have g2n : 4611686018427387903 < y := by unfold M62 at h2; omega
          have g2k : decide ((4611686018427387903 : Int) < (y : Int)) = true := decide_eq_true g2'
          clear h2
          have HG2 := HHB.out hk1
          clear hok HHB HHG hk1 jz hzb
          go_wp2_with fail
          rw [← HHW.out]
          clear x9 k1 k2
          go_big_quiet (fail)
          go_wp2_with fail
          go_ret
          exact ⟨ret_bool HG2.out.symm, below_drew HBq.out.2 _⟩
      · have hk1 : okk = false := by rw [hok.out]; simp [h1]
        have g1 : (y : Int) < (x : Int) := by omega
        have HG2 := HHB.out hk1
        clear hok HHB HHG hk1 jz hzb
        go_wp2_with fail
        rw [← HHW.out]
        clear x9 k1 k2
        go_big_quiet (fail)
        go_wp2_with fail
        go_ret
        exact ⟨ret_bool HG2.out.symm, below_drew HBq.out.2 _⟩
    · obtain rfl : k = rs.length := by omega
      have hall : Hid (sndR rs = decide (0 < rs.length)) := by
        have : (List.range rs.length).all (okAt rs) = true := by
          rw [List.all_eq_true]
          intro i hi
          exact HOK.out i (by simpa using hi)
        rw [HSR.out, this]; rfl
      have HBW := hid hbw
      clear HSR HOK hbw hBr hs0 hb0 hB0
      go_wp2
      go_ret
      exact ⟨ret_bool (by rw [hall.out, decide_eq_decide]), HBW.out⟩
end Go.Proofs.YtphbledmopchnaaGreatDoor

/-
  The document's reader: a frame.
-/
namespace Go.Proofs.YtphbledmopchnaaGreatDoor
open Go.RowKit Go.Lib Mm

theorem rsound_any (f : Fr) (ra : Option Addr) (rc : Nat) (w : World) (hok : FrOk f) (hr : RngAt w ra f.ranges) :
    Calls Tryz.prog 76 #[frV f (.slice ra f.ranges.length rc)] w fun e w' => e = .returned (.bool (snd f)) ∧ Below w.heap.size w w' := by
  by_cases hst : 0 ≤ f.stream ∧ f.stream < 8
  · cases hnum : sndN f with
    | false =>
      have e : snd f = false := by unfold snd; rw [hnum, Bool.and_false, Bool.false_and, Bool.false_and]
      rw [e]
      exact rsound_numbers f ra rc w hok (.inl hnum)
    | true =>
      have e : snd f = (decide (1 ≤ f.kind ∧ f.kind ≤ 8) && sndT f) := by unfold snd; rw [hnum, decide_eq_true hst, Bool.and_true, Bool.and_true]
      by_cases hk : f.kind = 2
      · have e2 : snd f = sndR f.ranges := by
          rw [e]
          unfold sndT
          rw [if_pos hk, hk]
          rfl
        rw [e2]
        exact rsound_ack f ra rc w hok hr hnum hst hk
      · exact rsound_kind f ra rc w hok hnum hst hk _ e
  · have e : snd f = false := by unfold snd; rw [decide_eq_false hst, Bool.and_false, Bool.false_and]
    rw [e]
    exact rsound_numbers f ra rc w hok (.inr hst)

/-- What lies between the reader and the frame: the frame's block, and the answer's. -/
structure FrSt (w : World) (rb : Nat) (a : Option Addr) (l : List UInt8) (c : Nat) (y : World) (p : Nat) (bad : Bool) (f : Fr) (v9 : Value) : Prop where
  rd : RRd y rb a l c p bad
  fr : Blk y (w.heap.size + 1) 65 (frBox f v9)
  re : Blk y w.heap.size 65 (frBox fr0 (.slice none 0 0))
  al : Alone rb w y
  sz : w.heap.size + 2 ≤ y.heap.size
  rng : GBuf 170 2 y v9 f.ranges.length (rcells f.ranges)
  own : Own (w.heap.size + 2) v9
  ok : FrOk f

/-- A part of it that is read: the reader's block alone turns. -/
theorem FrSt.read {w : World} {rb : Nat} {a : Option Addr} {l : List UInt8} {c : Nat} {y y' : World} {p p' : Nat} {bad bad' : Bool} {f : Fr} {v9 : Value} (h : FrSt w rb a l c y p bad f v9) (hr : RRd y' rb a l c p' bad') (ha : Alone rb y y') (hrb : rb < w.heap.size) : FrSt w rb a l c y' p' bad' f v9 := by
  have hs := ha.size
  have hsz := h.sz
  refine ⟨hr, h.fr.of_heap (ha.block _ (by omega) (by omega)), h.re.of_heap (ha.block _ (by omega) (by omega)), h.al.trans ha, by omega, h.rng.of_heap (fun b hb => ha.block b (h.rng.lt b hb) (by have := h.own b hb; omega)), h.own, h.ok⟩

/-- A field that is written. -/
theorem FrSt.field {w : World} {rb : Nat} {a : Option Addr} {l : List UInt8} {c : Nat} {y : World} {p : Nat} {bad : Bool} {f f' : Fr} {v9 : Value} (h : FrSt w rb a l c y p bad f v9) (hrb : rb < w.heap.size) (hby : BytesAt w a l) (o : Nat) (v : Value) (hf : (frBox f v9).set o v = frBox f' v9) (hrs : f'.ranges = f.ranges) (hok : FrOk f') :
    FrSt w rb a l c (y.setCell ⟨w.heap.size + 1, o, none⟩ v) p bad f' v9 := by
  have hoth : ∀ b, b ≠ w.heap.size + 1 → (y.setCell ⟨w.heap.size + 1, o, none⟩ v).heap[b]? = y.heap[b]? := fun b hb => Below.heap_setCell _ _ _ _ (by simpa using hb)
  have hsz := h.sz
  refine ⟨⟨h.rd.blk.of_heap (hoth _ (by omega)), fun j hj => ?_, h.rd.le, h.rd.ne, h.rd.cap⟩, by rw [← hf]; exact blk_set h.fr o v, h.re.of_heap (hoth _ (by omega)), ?_, by simpa using hsz, ?_, h.own, hok⟩
  · obtain ⟨b, off, ha, hc⟩ := h.rd.by_ j hj
    obtain ⟨b', off', ha', hc'⟩ := hby j hj
    have e := ha.symm.trans ha'
    simp at e
    obtain ⟨rfl, rfl⟩ := e
    have := World.block_lt_of_cell? _ _ hc'
    exact ⟨b, off, ha, cell_of hc (hoth b (by simp at this; omega))⟩
  · exact ⟨h.al.os, h.al.tape, h.al.output, by have := h.al.size; simpa [World.setCell] using this, fun k hk hn => by rw [hoth k (by omega)]; exact h.al.block k hk hn⟩
  · rw [hrs]
    exact h.rng.of_heap (fun b hb => hoth b (by have := h.own b hb; omega))

theorem rtext_any (rb : Nat) (a : Option Addr) (l : List UInt8) (c p : Nat) (bad : Bool) (w : World) (h : RRd w rb a l c p bad) (hl : l.length ≤ 1000000000) :
    Calls Tryz.prog 75 #[.pointer (some ⟨rb, 0, none⟩)] w fun e w' => e = .returned (.string ⟨(tV l p bad).toArray⟩) ∧ RRd w' rb a l c (tP l p bad) (tB l p bad) ∧ Alone rb w w' := by
  cases hb : tB l p bad with
  | true =>
    have e1 : tV l p bad = [] := by unfold tV; rw [if_pos hb]
    have e2 : tP l p bad = rP l p := by unfold tP; rw [if_pos hb]
    rw [e1, e2]
    exact rtext_bad rb a l c p bad w h hl hb
  | false =>
    cases bad with
    | true => unfold tB at hb; simp at hb
    | false =>
      have e1 : tV l p false = (l.drop (rP l p)).take (rV l p) := by unfold tV; rw [if_neg (by rw [hb]; decide)]
      have e2 : tP l p false = rP l p + rV l p := by unfold tP; rw [if_neg (by rw [hb]; decide)]
      rw [e1, e2]
      exact rtext_good rb a l c p w h hl hb

/-! ### What a frame is -/
def frFin (f : Fr) (p : Nat) (bad : Bool) : Option (Fr × Nat) := if bad || !(snd f) then none else some (f, p)
def frKind (k : Int) : Fr := ⟨k, 0, 0, 0, 0, false, 0, 0, ⟨#[]⟩, []⟩

/-- A world in which only one block has turned. -/
structure Touch (R : Nat) (y y' : World) : Prop where
  os : y'.os = y.os
  tape : y'.tape = y.tape
  output : y'.output = y.output
  size : y'.heap.size = y.heap.size
  block : ∀ b, b ≠ R → y'.heap[b]? = y.heap[b]?
theorem Touch.refl (R : Nat) (y : World) : Touch R y y := ⟨rfl, rfl, rfl, rfl, fun _ _ => rfl⟩
theorem Touch.set {R : Nat} {y y' : World} (h : Touch R y y') (o : Nat) (v : Value) : Touch R y (y'.setCell ⟨R, o, none⟩ v) :=
  ⟨h.os, h.tape, h.output, by have := h.size; simpa using this, fun b hb => by rw [Below.heap_setCell _ _ _ _ (by simpa using hb)]; exact h.block b hb⟩

/-- What frame answers: D: what the frame is. -/
def FrPost (rb : Nat) (a : Option Addr) (l : List UInt8) (c : Nat) (D : Option (Fr × Nat)) (w : World) (e : Ending) (w' : World) : Prop :=
  ∃ f v9 p' bad, e = .returned (frV f v9) ∧ Alone rb w w' ∧ RRd w' rb a l c p' bad ∧ GBuf 170 2 w' v9 f.ranges.length (rcells f.ranges) ∧ Own w.heap.size v9 ∧ FrOk f ∧ D = (if bad then none else some (f, p'))

/-- The end, where it is none already. -/
theorem FrSt.shut {w : World} {rb : Nat} {a : Option Addr} {l : List UInt8} {c : Nat} {y y' : World} {p : Nat} {bad : Bool} {f : Fr} {v9 : Value} (h : FrSt w rb a l c y p bad f v9) (hrb : rb < w.heap.size) (hby : BytesAt w a l) (ht : Touch w.heap.size y y') (D : Option (Fr × Nat)) (hD : D = (if bad then none else some (f, p))) :
    FrPost rb a l c D w (.returned (frV f v9)) y' := by
  have hsz := h.sz
  refine ⟨f, v9, p, bad, rfl, ⟨ht.os.trans h.al.os, ht.tape.trans h.al.tape, ht.output.trans h.al.output, by rw [ht.size]; exact h.al.size, fun k hk hn => by rw [ht.block k (by omega)]; exact h.al.block k hk hn⟩, ⟨h.rd.blk.of_heap (ht.block _ (by omega)), fun j hj => ?_, h.rd.le, h.rd.ne, h.rd.cap⟩, h.rng.of_heap (fun b hb => ht.block b (by have := h.own b hb; omega)), fun k hk => by have := h.own k hk; omega, h.ok, hD⟩
  obtain ⟨b, off, ha, hc⟩ := h.rd.by_ j hj
  obtain ⟨b', off', ha', hc'⟩ := hby j hj
  have e := ha.symm.trans ha'
  simp at e
  obtain ⟨rfl, rfl⟩ := e
  have := World.block_lt_of_cell? _ _ hc'
  exact ⟨b, off, ha, cell_of hc (ht.block b (by simp at this; omega))⟩

/-- Behind sound. -/
theorem FrSt.below {w : World} {rb : Nat} {a : Option Addr} {l : List UInt8} {c : Nat} {y y' : World} {p : Nat} {bad : Bool} {f : Fr} {v9 : Value} (h : FrSt w rb a l c y p bad f v9) (hb : Below y.heap.size y y') : FrSt w rb a l c y' p bad f v9 := by
  have hsz := h.sz
  have hs := hb.size
  exact ⟨h.rd.of_heap (fun k hk => hb.block k hk), h.fr.of_heap (hb.block _ (by omega)), h.re.of_heap (hb.block _ (by omega)), h.al.of_below hb h.al.size, by omega, h.rng.of_heap (fun b hb' => hb.block b (h.rng.lt b hb')), h.own, h.ok⟩
theorem FrSt.flag {w : World} {rb : Nat} {a : Option Addr} {l : List UInt8} {c : Nat} {y : World} {p : Nat} {bad : Bool} {f : Fr} {v9 : Value} (h : FrSt w rb a l c y p bad f v9) (hrb : rb < w.heap.size) (b : Bool) : FrSt w rb a l c (y.setCell ⟨rb, 2, none⟩ (.bool b)) p b f v9 := by
  refine h.read ⟨blk_set h.rd.blk 2 _, RRd.bytes_set h.rd.by_ h.rd.ne _ _, h.rd.le, h.rd.ne, h.rd.cap⟩ ((Alone.refl rb y).setCell 2 _) hrb

/-- The answer's ten cells, written. -/
def put10 (y : World) (R : Nat) (v0 v1 v2 v3 v4 v5 v6 v7 v8 v9 : Value) : World :=
  (((((((((y.setCell ⟨R, 0, none⟩ v0).setCell ⟨R, 1, none⟩ v1).setCell ⟨R, 2, none⟩ v2).setCell ⟨R, 3, none⟩ v3).setCell ⟨R, 4, none⟩ v4).setCell ⟨R, 5, none⟩ v5).setCell ⟨R, 6, none⟩ v6).setCell ⟨R, 7, none⟩ v7).setCell ⟨R, 8, none⟩ v8).setCell ⟨R, 9, none⟩ v9
theorem put10_touch (y : World) (R : Nat) (v0 v1 v2 v3 v4 v5 v6 v7 v8 v9 : Value) : Touch R y (put10 y R v0 v1 v2 v3 v4 v5 v6 v7 v8 v9) :=
  ((((((((((Touch.refl R y).set 0 v0).set 1 v1).set 2 v2).set 3 v3).set 4 v4).set 5 v5).set 6 v6).set 7 v7).set 8 v8).set 9 v9
theorem put10_blk {y : World} {R : Nat} {u0 u1 u2 u3 u4 u5 u6 u7 u8 u9 : Value} (h : Blk y R 65 [u0, u1, u2, u3, u4, u5, u6, u7, u8, u9]) (v0 v1 v2 v3 v4 v5 v6 v7 v8 v9 : Value) : Blk (put10 y R v0 v1 v2 v3 v4 v5 v6 v7 v8 v9) R 65 [v0, v1, v2, v3, v4, v5, v6, v7, v8, v9] :=
  blk_set (blk_set (blk_set (blk_set (blk_set (blk_set (blk_set (blk_set (blk_set (blk_set h 0 v0) 1 v1) 2 v2) 3 v3) 4 v4) 5 v5) 6 v6) 7 v7) 8 v8) 9 v9
theorem put10_eq (y : World) (R : Nat) (v0 v1 v2 v3 v4 v5 v6 v7 v8 v9 : Value) :
    (((((((((y.setCell ⟨R, 0, none⟩ v0).setCell ⟨R, 1, none⟩ v1).setCell ⟨R, 2, none⟩ v2).setCell ⟨R, 3, none⟩ v3).setCell ⟨R, 4, none⟩ v4).setCell ⟨R, 5, none⟩ v5).setCell ⟨R, 6, none⟩ v6).setCell ⟨R, 7, none⟩ v7).setCell ⟨R, 8, none⟩ v8).setCell ⟨R, 9, none⟩ v9 = put10 y R v0 v1 v2 v3 v4 v5 v6 v7 v8 v9 := rfl

/-- Where the frame begins. -/
theorem FrSt.start {w : World} {rb : Nat} {a : Option Addr} {l : List UInt8} {c p : Nat} (h : RRd w rb a l c p false) (hp : p < l.length) (q : Nat) (k : Int) (hk : -9223372036854775808 ≤ k ∧ k ≤ 9223372036854775807) (fi : Bool) (y : World)
    (hy : y = ((((w.alloc (.cells #[.int .i64 0, .int .i64 0, .int .u64 0, .int .u64 0, .int .u64 0, .bool false, .int .u64 0, .int .u64 0, .string ⟨#[]⟩, .slice none 0 0] 65)).drewN q).setCell ⟨rb, 1, none⟩ (.int .i64 ((p : Int) + 1))).alloc (.cells #[.int .i64 k, .int .i64 0, .int .u64 0, .int .u64 0, .int .u64 0, .bool fi, .int .u64 0, .int .u64 0, .string ⟨#[]⟩, .slice none 0 0] 65))) :
    FrSt w rb a l c y (p + 1) false { frKind k with fin := fi } (.slice none 0 0) := by
  obtain ⟨w1, hw1⟩ : ∃ w1, w1 = w.alloc (.cells #[.int .i64 0, .int .i64 0, .int .u64 0, .int .u64 0, .int .u64 0, .bool false, .int .u64 0, .int .u64 0, .string ⟨#[]⟩, .slice none 0 0] 65) := ⟨_, rfl⟩
  have hs1 : w1.heap.size = w.heap.size + 1 := by rw [hw1]; simp
  have hb1 : ∀ b, b < w.heap.size → w1.heap[b]? = w.heap[b]? := fun b hb => by rw [hw1]; exact Below.heap_alloc _ _ _ hb
  have hr1 : RRd w1 rb a l c p false := h.of_heap hb1
  have hR1 : Blk w1 w.heap.size 65 (frBox fr0 (.slice none 0 0)) := by rw [hw1]; exact Blk.new w 65 (frBox fr0 (.slice none 0 0))
  rw [← hw1] at hy
  obtain ⟨w2, hw2⟩ : ∃ w2, w2 = (w1.drewN q).setCell ⟨rb, 1, none⟩ (.int .i64 ((p : Int) + 1)) := ⟨_, rfl⟩
  have hrb := h.blk.lt
  have hr2 : RRd w2 rb a l c (p + 1) false := by rw [hw2]; exact (hr1.drewN q).moved (p + 1) (by omega) (by omega)
  have hs2 : w2.heap.size = w.heap.size + 1 := by rw [hw2]; simpa using hs1
  have ho2 : ∀ b, b ≠ rb → w2.heap[b]? = w1.heap[b]? := fun b hb => by rw [hw2, Below.heap_setCell _ _ _ _ (by simpa using hb)]; rfl
  rw [← hw2] at hy
  have hy2 : ∀ b, b < w2.heap.size → y.heap[b]? = w2.heap[b]? := fun b hb => by rw [hy]; exact Below.heap_alloc _ _ _ hb
  have hF : Blk y (w.heap.size + 1) 65 (frBox { frKind k with fin := fi } (.slice none 0 0)) := by
    rw [hy, ← hs2]
    exact Blk.new w2 65 (frBox { frKind k with fin := fi } (.slice none 0 0))
  refine ⟨hr2.of_heap hy2, hF, hR1.of_heap (by rw [hy2 _ (by omega), ho2 _ (by omega)]), ?_, ?_, GBuf.nil _ _ _, Own.nil _, ⟨show (0 : Nat) ≤ 1000000000 by decide, show (0 : Nat) ≤ 1000000000 by decide, hk, show -9223372036854775808 ≤ (0 : Int) ∧ (0 : Int) ≤ 9223372036854775807 by decide, show (0 : Nat) < 18446744073709551616 ∧ (0 : Nat) < 18446744073709551616 ∧ (0 : Nat) < 18446744073709551616 ∧ (0 : Nat) < 18446744073709551616 ∧ (0 : Nat) < 18446744073709551616 by decide, fun j hj => absurd hj (Nat.not_lt_zero _)⟩⟩
  · refine ⟨?_, ?_, ?_, ?_, fun b hb hn => by rw [hy2 b (by omega), ho2 b hn, hb1 b hb]⟩
    · rw [hy, hw2, hw1]; rfl
    · rw [hy, hw2, hw1]; rfl
    · rw [hy, hw2, hw1]; rfl
    · rw [hy]; simp; omega
  · rw [hy]; simp; omega

end Go.Proofs.YtphbledmopchnaaGreatDoor
