/-
  wire.Encode, mediawire.Encode.
-/
import Derived.Test.YtphbledmopchnaaDoorEnc
namespace Go.Proofs.YtphbledmopchnaaDoor
open Go.RowKit Go.Lib Go.Shelf Mm

/-- The bytes of a packet ahead of its sum. -/
def bodyTo (n : Nat) (fs : List Fr) : Nat → List UInt8
  | 0 => Num.bytes n
  | k + 1 => bodyTo n fs k ++ frBytes (fs.getD k fr0)
def bodyBytes (n : Nat) (fs : List Fr) : List UInt8 := bodyTo n fs fs.length
def pktBytes (n : Nat) (fs : List Fr) : List UInt8 := bodyBytes n fs ++ sumBytes (bodyBytes n fs)
theorem bodyTo_mono (n : Nat) (fs : List Fr) : ∀ (m k : Nat), k ≤ m → (bodyTo n fs k).length ≤ (bodyTo n fs m).length
  | 0, k, h => by obtain rfl : k = 0 := by omega
                  exact Nat.le_refl _
  | m + 1, k, h => by
    by_cases e : k = m + 1
    · rw [e]; exact Nat.le_refl _
    · have := bodyTo_mono n fs m k (by omega)
      rw [bodyTo, List.length_append]
      omega

/-- What is written into lies at B or behind. -/
def Own (B : Nat) (v : Value) : Prop := ∀ k, v.ownBlock = some k → B ≤ k
theorem Own.nil (B : Nat) : Own B (.slice none 0 0) := fun k hk => by simp [Value.ownBlock] at hk
theorem Gr.own {B : Nat} {w w' : World} {v v' : Value} (h : Gr w w' v v') (hv : Own B v) (hB : B ≤ w.heap.size) : Own B v' := fun k hk => by
  rcases h.2 k hk with e | e
  · exact hv k e
  · omega
theorem Gr.below {B : Nat} {w w' : World} {v v' : Value} (h : Gr w w' v v') (hv : Own B v) (hB : B ≤ w.heap.size) : Below B w w' :=
  ⟨h.1.os, h.1.tape, h.1.output, h.1.size, fun k hk => h.1.block k (by omega) (fun e => by have := hv k e.symm; omega)⟩
theorem TabAt.below {B : Nat} {w w' : World} (h : TabAt w) (hb : Below B w w') (hB : 2 ≤ B) : TabAt w' := fun k hk => cell_of (h k hk) (hb.block 1 (by omega))

theorem fld0 (a b : Nat) (c d : Array Value) (w : World) : (Instr.field 64 (.agg #[.func (.func a) #[] c, .func (.func b) #[] d]) 0).run Tryd.prog w = .ok (.func (.func a) #[] c) w := by kernel_rfl
theorem fld1 (a b : Nat) (c d : Array Value) (w : World) : (Instr.field 64 (.agg #[.func (.func a) #[] c, .func (.func b) #[] d]) 1).run Tryd.prog w = .ok (.func (.func b) #[] d) w := by kernel_rfl

theorem PartIs.shape {B0 : Nat} {w : World} {tag : Nat × Nat} {fw fr : Value} (h : PartIs B0 w tag fw fr) : ∃ g1 c1 g2 c2, fw = .func (.func g1) #[] c1 ∧ fr = .func (.func g2) #[] c2 := by
  rcases h with ⟨_, xb, _, h, h2⟩ | ⟨_, h, h2⟩ | ⟨_, h, h2⟩ | ⟨_, xb, _, h, h2⟩ | ⟨_, h, h2⟩ | ⟨_, h, h2⟩ <;> exact ⟨_, _, _, _, h, h2⟩
theorem LayK.shape {B0 : Nat} {w : World} {k : Int} {fw fr : Value} (h : LayK B0 w k fw fr) : ∃ g1 c1 g2 c2, fw = .func (.func g1) #[] c1 ∧ fr = .func (.func g2) #[] c2 := by
  rcases h with ⟨_, h⟩ | ⟨_, pb, qb, h, h2, _⟩
  · exact h.shape
  · exact ⟨_, _, _, _, h, h2⟩

set_option maxHeartbeats 1000000 in
set_option maxRecDepth 100000 in
theorem wireEncode_bad (n : Nat) (fa : Option Addr) (fs : List Fr) (fc : Nat) (ra : Nat → Option Addr) (rc : Nat → Nat) (w : World) (hl : fs.length ≤ 1000000000) (hn : n < 18446744073709551616) (hF : FrsAt w fa fs ra rc) (hS : sndP n fs = false) :
    Calls Tryd.prog 13 #[.agg #[.int .u64 (n : Int), .slice fa fs.length fc]] w fun e w' => e = .returned (.tuple #[.slice none 0 0, .iface 30 (.int .i64 8)]) ∧ Below w.heap.size w w' := by
  have HS := hid (soundPacket_any n fa fs fc ra rc (w.alloc (.cells #[.int .u64 (n : Int), .slice fa fs.length fc] 25)) hl hn (hF.below ((Below.refl _ w).alloc (Nat.le_refl _) _)))
  rw [hS] at HS
  clear hS hF
  go_enter Tryd.func13, Tryd.ntmps13
  go_wp2_with fail
  refine HS.out.mono ?_
  rintro e w2 ⟨rfl, hb2⟩
  have HB : Hid (Below w.heap.size w w2) := ((Below.refl _ w).alloc (Nat.le_refl _) _).trans (hb2.mono (by simp))
  clear hb2
  go_wp2
  go_ret2
  exact ⟨rfl, HB.out⟩

set_option maxHeartbeats 1000000 in
set_option maxRecDepth 100000 in
theorem wireEncode_any (n : Nat) (fa : Option Addr) (fs : List Fr) (fc : Nat) (ra : Nat → Option Addr) (rc : Nat → Nat) (w : World) (hl : fs.length ≤ 1000000000) (hF : FrsAt w fa fs ra rc) (hS : sndP n fs = true) (hT : TabAt w) (h2 : 2 ≤ w.heap.size) (hlen : (bodyBytes n fs).length ≤ 1000000000) :
    Calls Tryd.prog 13 #[.agg #[.int .u64 (n : Int), .slice fa fs.length fc]] w fun e w' => ∃ v, e = .returned (.tuple #[v, .nilIface]) ∧ Buf w' v (pktBytes n fs) ∧ Own w.heap.size v ∧ Below w.heap.size w w' := by
  have hS2 := hS
  unfold sndP at hS2
  rw [Bool.and_eq_true, Bool.and_eq_true] at hS2
  have hn := of_decide_eq_true hS2.1.2
  have hsnd := (all_getD fs).1 hS2.1.1
  unfold M62 at hn
  have HS := hid (soundPacket_any n fa fs fc ra rc (w.alloc (.cells #[.int .u64 (n : Int), .slice fa fs.length fc] 25)) hl (by omega) (hF.below ((Below.refl _ w).alloc (Nat.le_refl _) _)))
  rw [hS] at HS
  have HF := hid hF
  have HSND := hid hsnd
  have HT := hid hT
  have HMONO := hid (bodyTo_mono n fs fs.length)
  have HLEN : Hid ((bodyTo n fs fs.length).length ≤ 1000000000) := hlen
  have HPK : Hid (pktBytes n fs = bodyTo n fs fs.length ++ sumBytes (bodyTo n fs fs.length)) := rfl
  have HST : Hid (∀ k, bodyTo n fs (k + 1) = bodyTo n fs k ++ frBytes (fs.getD k fr0)) := fun _ => rfl
  have HZ : Hid (bodyTo n fs 0 = Num.bytes n) := rfl
  have hn' : n < 4611686018427387904 := by omega
  have HN := hid hn'
  clear hS hS2 hF hsnd hT hlen hn hn'
  go_enter Tryd.func13, Tryd.ntmps13
  go_wp2_with fail
  refine HS.out.mono ?_
  rintro e w2 ⟨rfl, hb2⟩
  obtain ⟨W0, hW0⟩ : ∃ W0, W0 = w.alloc (.cells #[.int .u64 (n : Int), .slice fa fs.length fc] 25) := ⟨_, rfl⟩
  have hW0s : W0.heap.size = w.heap.size + 1 := by rw [hW0]; simp
  have hblk0 : Blk W0 w.heap.size 25 [.int .u64 (n : Int), .slice fa fs.length fc] := by rw [hW0]; exact Blk.new w 25 _
  have hbw : Below w.heap.size w W0 := by rw [hW0]; exact (Below.refl _ w).alloc (Nat.le_refl _) _
  rw [← hW0] at hb2
  have hblk2 := hblk0.of_heap (hb2.block _ (by omega))
  have x0 := hblk2.cell 0
  simp only [List.getElem?_cons_zero] at x0
  have HA := hid (appendNumber_any (.slice none 0 0) [] n w2 (Buf.nil w2) HN.out (by simp))
  have HW := hid (And.intro hW0s (And.intro hblk0 hbw))
  have HB2 := hid hb2
  clear hb2 hblk2 hblk0 hbw hW0 hW0s
  go_wp2_with fail
  refine HA.out.mono ?_
  rintro e w3 ⟨v3, rfl, hB3, hG3⟩
  obtain ⟨hW0s, hblk0, hbw⟩ := HW.out
  have hb3 : Below W0.heap.size W0 w3 := HB2.out.trans (hG3.below (Own.nil _) HB2.out.size)
  have hO3 : Own W0.heap.size v3 := hG3.own (Own.nil _) HB2.out.size
  rw [List.nil_append, ← HZ.out] at hB3
  have hblk3 := hblk0.of_heap (hb3.block _ (by omega))
  have y1 := hblk3.cell 1
  simp only [List.getElem?_cons_zero, List.getElem?_cons_succ] at y1
  have HI := hid (And.intro hB3 (And.intro hb3 hO3))
  clear hB3 hG3 hb3 hO3 hblk3 hW0s hblk0 hbw x0
  go_wp2_with fail
  go_loopw [4, 17] (fun s4 s17 wr => ∃ k : Nat, k ≤ fs.length ∧ s17 = .int .i64 k ∧ Hid (Buf wr s4 (bodyTo n fs k) ∧ Below W0.heap.size W0 wr ∧ Own W0.heap.size s4)) (fun _ s17 _ => fs.length - (intOf s17).toNat)
  case atStart => exact ⟨0, Nat.zero_le _, rfl, HI.out⟩
  case round =>
    clear HI y1 HA HS
    obtain ⟨k, hk, rfl, HI⟩ := hrel
    by_cases hlt : k < fs.length
    · have hlt' : (k : Int) < (fs.length : Int) := by omega
      obtain ⟨hB, hb, hO⟩ := HI.out
      obtain ⟨hW0s, hblk0, hbw⟩ := HW.out
      have hbwr : Below w.heap.size w wr := hbw.trans (hb.mono (by omega))
      obtain ⟨b, off, ha, hFr, hrc, hrl⟩ := HF.out k hlt
      have hFrr := hFr.below hbwr
      subst ha
      have hsk := HSND.out k hlt
      obtain ⟨_, hk1, hk8, _⟩ := fit_of _ hsk
      have c0 := hFrr.c0
      have hbl : b < w.heap.size := World.block_lt_of_cell? _ _ hFr.c0
      have hblk := hblk0.of_heap (hb.block _ (by omega))
      have y1 := hblk.cell 1
      simp only [List.getElem?_cons_zero, List.getElem?_cons_succ] at y1
      have HLAY := hid (layoutOf_any _ hk1 hk8 wr)
      have hwr : ∀ (wl : World) (fw fr : Value), LayK (wr.heap.size + 1) wl (fs.getD k fr0).kind fw fr → Below wr.heap.size wr wl →
          ∃ g cb, fw = .func (.func g) #[] cb ∧ (∀ args w, (callFunc g args).run Tryd.prog w = .ok (.enter g args) w) ∧
            Calls Tryd.prog g (#[u4, .pointer (some ⟨b, off + k * 10, none⟩)] ++ cb) wl fun e w' => ∃ v', e = .returned v' ∧ Buf w' v' (bodyTo n fs (k + 1)) ∧ Below W0.heap.size W0 w' ∧ Own W0.heap.size v' := by
        intro wl fw fr hL hbl2
        obtain ⟨g, cb, h1, h2, h3⟩ := layK_wr _ hL hsk b (off + k * 10) (ra k) (rc k) hrc
        refine ⟨g, cb, h1, h2, ?_⟩
        have hlen := HMONO.out (k + 1) (by omega)
        have hl2 := HLEN.out
        rw [HST.out, List.length_append] at hlen
        have hbs := hb.size
        have hbs2 := hbl2.size
        refine (h3 wl u4 (bodyTo n fs k) ⟨⟨Nat.le_refl _, fun _ _ _ => rfl⟩, hB.of_heap (fun j hj => hbl2.block j (hB.lt j hj)), fun j hj => .inl (by have := hB.lt j hj; omega), hFrr.below hbl2, fun e => by have := hO _ e; omega, fun x hx e => by have := hO _ e; have := hrl x hx; omega, fun x hx => by have := hrl x hx; omega⟩ (by omega)).mono ?_
        rintro e w' ⟨v', rfl, hB', hG'⟩
        exact ⟨v', rfl, by rw [HST.out]; exact hB', (hb.trans (hbl2.mono hbs)).trans (hG'.below hO (by omega)), hG'.own hO (by omega)⟩
      have HWR := hid hwr
      clear hwr hB hb hO hbwr hFr hFrr hsk hblk hblk0 hbw hk1 hk8 hrc hrl
      generalize fs.getD k fr0 = F at c0 HLAY HWR
      go_wp2_with fail
      refine HLAY.out.mono ?_
      rintro e wl ⟨fw, fr, rfl, hL, hbl2⟩
      obtain ⟨_, _, g2, cb2, _, hfr⟩ := hL.shape
      subst hfr
      obtain ⟨g, cb, hfw, eg, hC⟩ := HWR.out wl fw _ hL hbl2
      subst hfw
      have HC := hid hC
      have hfd := fld0 g g2 cb cb2
      clear hC hL hbl2 HWR
      go_wp2_with fail
      refine HC.out.mono ?_
      rintro e w' ⟨v', rfl, hI'⟩
      have HI' := hid hI'
      clear hI'
      go_wp2_with fail
      go_roundw
      case rel => exact ⟨k + 1, by omega, by go_num, HI'⟩
      case measure => simp [intOf]; omega
    · obtain rfl : k = fs.length := by omega
      obtain ⟨hB, hb, hO⟩ := HI.out
      obtain ⟨hW0s, hblk0, hbw⟩ := HW.out
      have hbwr : Below w.heap.size w wr := hbw.trans (hb.mono (by omega))
      have HA2 := hid (appendSum_any u4 _ wr hB (HT.out.below hbwr h2) HLEN.out)
      have hfin : ∀ w' v', Buf w' v' (bodyTo n fs fs.length ++ sumBytes (bodyTo n fs fs.length)) → Gr wr w' u4 v' → Buf w' v' (pktBytes n fs) ∧ Own w.heap.size v' ∧ Below w.heap.size w w' := fun w' v' hB' hG' => by
        have hO' : Own w.heap.size u4 := fun j hj => by have := hO j hj; omega
        exact ⟨by rw [HPK.out]; exact hB', hG'.own hO' hbwr.size, hbwr.trans (hG'.below hO' hbwr.size)⟩
      have HFIN := hid hfin
      clear hfin hB hb hO hbwr hblk0 hbw hW0s
      go_wp2_with fail
      refine HA2.out.mono ?_
      rintro e w' ⟨v', rfl, hB', hG'⟩
      have HR := hid (HFIN.out w' v' hB' hG')
      clear hB' hG'
      go_wp2
      go_ret2
      exact ⟨_, rfl, HR.out⟩

end Go.Proofs.YtphbledmopchnaaDoor
