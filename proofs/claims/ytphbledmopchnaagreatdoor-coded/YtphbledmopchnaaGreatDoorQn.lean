import Derived.Test.YtphbledmopchnaaGreatDoorUg
import Derived.Test.YtphbledmopchnaaGreatDoorQd
import Derived.Test.YtphbledmopchnaaGreatDoorQf
import Derived.Test.YtphbledmopchnaaGreatDoorQe
import Derived.Test.YtphbledmopchnaaGreatDoorQg
import Derived.Test.YtphbledmopchnaaGreatDoorQc
/-
  The document's frames, written: any.
-/
namespace Go.Proofs.YtphbledmopchnaaGreatDoor
open Go.RowKit Go.Lib Mm

theorem fb1 (f : Fr) (h : f.kind = 1) : frBytes f = [UInt8.ofNat 1] := by unfold frBytes; rw [h]; rfl
theorem fb2 (f : Fr) (h : f.kind = 2) : frBytes f = [UInt8.ofNat 2] ++ rngBytes f.ranges := by unfold frBytes; rw [h]; rfl
theorem fb3 (f : Fr) (h : f.kind = 3) : frBytes f = [UInt8.ofNat 36] ++ Num.bytes f.stream.toNat ++ Num.bytes f.offset ++ Num.bytes f.reliable := by unfold frBytes; rw [h]; rfl
theorem fb4 (f : Fr) (h : f.kind = 4) : frBytes f = [if f.fin then 9 else 8] ++ Num.bytes f.stream.toNat ++ Num.bytes f.offset ++ (Num.bytes f.data.size ++ f.data.data.toList) := by unfold frBytes; rw [h]; rfl
theorem fb5 (f : Fr) (h : f.kind = 5) : frBytes f = [UInt8.ofNat 16] ++ Num.bytes f.limit := by unfold frBytes; rw [h]; rfl
theorem fb6 (f : Fr) (h : f.kind = 6) : frBytes f = [UInt8.ofNat 17] ++ Num.bytes f.stream.toNat ++ Num.bytes f.limit := by unfold frBytes; rw [h]; rfl
theorem fb7 (f : Fr) (h : f.kind = 7) : frBytes f = [UInt8.ofNat 48] ++ Num.bytes f.id ++ Num.bytes f.deadline ++ (Num.bytes f.data.size ++ f.data.data.toList) := by unfold frBytes; rw [h]; rfl
theorem fb8 (f : Fr) (h : f.kind = 8) : frBytes f = [UInt8.ofNat 28] ++ Num.bytes f.limit := by unfold frBytes; rw [h]; rfl

theorem rwritten_any (v : Value) (l : List UInt8) (f : Fr) (ra : Option Addr) (rc : Nat) (w : World) (hb : Buf w v l) (hl : l.length ≤ 30000000000) (hs : snd f = true) (hok : FrOk f) (hr : RngAt w ra f.ranges) (hn : ∀ x : Addr, ra = some x → 0 < f.ranges.length → v.ownBlock ≠ some x.block) :
    Calls Tryz.prog 93 #[v, frV f (.slice ra f.ranges.length rc)] w fun e w' => ∃ v', e = .returned v' ∧ Buf w' v' (l ++ frBytes f) ∧ Gr w w' v v' := by
  obtain ⟨⟨s0, s8, n0, n1, n2, n3, n4⟩, _, _, hT⟩ := fit_of f hs
  unfold M62 at n0 n1 n2 n3 n4
  have hd := hok.dlen
  have hrl := hok.rlen
  obtain ⟨s, hst⟩ := Int.eq_ofNat_of_zero_le s0
  have hs8 : s < 8 := by omega
  have hst2 : f.stream.toNat = s := by omega
  unfold frV
  rw [hst]
  rcases kinds_of hs with e | e | e | e | e | e | e | e
  · rw [fb1 f e, e]
    exact written_1 v l s f.offset f.reliable f.limit f.fin f.id f.deadline f.data ra _ rc w hb (by omega) hs8 (by omega) (by omega) (by omega) (by omega) (by omega) hd
  · have hS : sndR f.ranges = true := by unfold sndT at hT; rw [if_pos e] at hT; exact hT
    obtain ⟨hpos, _⟩ := sndR_at hS
    obtain ⟨b, off, ha, _⟩ := hr 0 hpos
    subst ha
    have := written_2 v l (s : Int) f.offset f.reliable f.limit f.fin f.id f.deadline f.data b off rc f.ranges w hb hl hS hrl hr (hn _ rfl hpos)
    rw [fb2 f e, e, ← List.append_assoc]
    exact this
  · have := written_3 v l s f.offset f.reliable f.limit f.fin f.id f.deadline f.data ra f.ranges.length rc w hb (by omega) hs8 (by omega) (by omega) (by omega) (by omega) (by omega) hd
    rw [fb3 f e, e, hst2]
    simpa only [List.append_assoc] using this
  · rw [fb4 f e, e, hst2]
    cases hf : f.fin with
    | false =>
      have := written_4f v l s f.offset f.reliable f.limit f.id f.deadline f.data ra f.ranges.length rc w hb (by omega) hs8 (by omega) (by omega) (by omega) (by omega) (by omega) hd
      have e8 : ([if false = true then 9 else 8] : List UInt8) = [UInt8.ofNat 8] := rfl
      rw [e8]
      simpa only [List.append_assoc] using this
    | true =>
      have := written_4t v l s f.offset f.reliable f.limit f.id f.deadline f.data ra f.ranges.length rc w hb (by omega) hs8 (by omega) (by omega) (by omega) (by omega) (by omega) hd
      have e9 : ([if true = true then 9 else 8] : List UInt8) = [UInt8.ofNat 9] := rfl
      rw [e9]
      simpa only [List.append_assoc] using this
  · have := written_5 v l s f.offset f.reliable f.limit f.fin f.id f.deadline f.data ra f.ranges.length rc w hb (by omega) hs8 (by omega) (by omega) (by omega) (by omega) (by omega) hd
    rw [fb5 f e, e]
    simpa only [List.append_assoc] using this
  · have := written_6 v l s f.offset f.reliable f.limit f.fin f.id f.deadline f.data ra f.ranges.length rc w hb (by omega) hs8 (by omega) (by omega) (by omega) (by omega) (by omega) hd
    rw [fb6 f e, e, hst2]
    simpa only [List.append_assoc] using this
  · have := written_7 v l s f.offset f.reliable f.limit f.fin f.id f.deadline f.data ra f.ranges.length rc w hb (by omega) hs8 (by omega) (by omega) (by omega) (by omega) (by omega) hd
    rw [fb7 f e, e]
    simpa only [List.append_assoc] using this
  · have := written_8 v l s f.offset f.reliable f.limit f.fin f.id f.deadline f.data ra f.ranges.length rc w hb (by omega) hs8 (by omega) (by omega) (by omega) (by omega) (by omega) hd
    rw [fb8 f e, e]
    simpa only [List.append_assoc] using this

end Go.Proofs.YtphbledmopchnaaGreatDoor

/-
  The document's Encode.
-/
namespace Go.Proofs.YtphbledmopchnaaGreatDoor
open Go.RowKit Go.Lib Mm

/-- Is it sound so far? -/
def okTo (n : Nat) (fs : List Fr) (k : Nat) : Bool := decide (0 < fs.length) && decide (n ≤ M62) && (fs.take k).all snd
theorem okTo_succ (n : Nat) (fs : List Fr) (k : Nat) (hk : k < fs.length) : okTo n fs (k + 1) = (okTo n fs k && snd (fs.getD k fr0)) := by
  unfold okTo
  rw [List.take_add_one, List.all_append, List.getElem?_eq_getElem hk, List.getD_eq_getElem?_getD, List.getElem?_eq_getElem hk]
  simp [Bool.and_assoc]
theorem okTo_all (n : Nat) (fs : List Fr) : okTo n fs fs.length = sndP n fs := by
  unfold okTo sndP
  rw [List.take_of_length_le (Nat.le_refl _)]
  cases decide (0 < fs.length) <;> cases decide (n ≤ M62) <;> cases fs.all snd <;> rfl
theorem okTo_false {n : Nat} {fs : List Fr} {k : Nat} (h : okTo n fs k = false) : sndP n fs = false := by
  unfold okTo at h
  unfold sndP
  rw [Bool.and_eq_false_iff, Bool.and_eq_false_iff] at h
  rcases h with (h | h) | h
  · rw [h, Bool.and_false]
  · rw [h, Bool.and_false, Bool.false_and]
  · have : fs.all snd = false := by
      rw [← Bool.not_eq_true] at h ⊢
      intro ha
      exact h (by rw [List.all_eq_true] at ha ⊢; exact fun x hx => ha x (List.mem_of_mem_take hx))
    rw [this, Bool.false_and, Bool.false_and]

set_option maxHeartbeats 1000000 in
set_option maxRecDepth 100000 in
theorem rencode_none (n : Nat) (fa : Option Addr) (L fc : Nat) (w : World) (hz : ¬ 0 < L) :
    Calls Tryz.prog 54 #[.agg #[.int .u64 (n : Int), .slice fa L fc]] w fun e w' => e = .returned (.tuple #[.slice none 0 0, .int .i64 8]) ∧ Below w.heap.size w w' := by
  obtain rfl : L = 0 := by omega
  have HB : Hid (Below w.heap.size w (w.alloc (.cells #[.int .u64 (n : Int), .slice fa 0 fc] 56))) := (Below.refl _ w).alloc (Nat.le_refl _) _
  clear hz
  go_enter Tryz.func54, Tryz.ntmps54
  go_wp2_with fail
  go_loopw [4, 5] (fun s4 s5 wr => s4 = .bool false ∧ s5 = .int .i64 0 ∧ wr = w.alloc (.cells #[.int .u64 (n : Int), .slice fa 0 fc] 56)) (fun _ _ _ => 0)
  case atStart => exact ⟨rfl, rfl, rfl⟩
  case round =>
    obtain ⟨rfl, rfl, rfl⟩ := hrel
    go_wp2_with fail
    go_ret2
    exact ⟨rfl, HB.out⟩

set_option maxHeartbeats 1000000 in
set_option maxRecDepth 100000 in
theorem rencode_great (n : Nat) (fa : Option Addr) (L fc : Nat) (w : World) (hz : 0 < L) (hn : ¬ n ≤ 4611686018427387903) :
    Calls Tryz.prog 54 #[.agg #[.int .u64 (n : Int), .slice fa L fc]] w fun e w' => e = .returned (.tuple #[.slice none 0 0, .int .i64 8]) ∧ Below w.heap.size w w' := by
  have HB : Hid (Below w.heap.size w (w.alloc (.cells #[.int .u64 (n : Int), .slice fa L fc] 56))) := (Below.refl _ w).alloc (Nat.le_refl _) _
  have hz' : (0 : Int) < (L : Int) := by omega
  have hn' : decide ((n : Int) ≤ 4611686018427387903) = false := by simp; omega
  have hn2 : ¬ ((n : Int) ≤ 4611686018427387903) := by omega
  clear hz hn
  go_enter Tryz.func54, Tryz.ntmps54
  go_wp2_with fail
  go_loopw [4, 5] (fun s4 s5 wr => s4 = .bool false ∧ s5 = .int .i64 0 ∧ wr = w.alloc (.cells #[.int .u64 (n : Int), .slice fa L fc] 56)) (fun _ _ _ => 0)
  case atStart => exact ⟨rfl, rfl, rfl⟩
  case round =>
    obtain ⟨rfl, rfl, rfl⟩ := hrel
    go_wp2_with fail
    go_ret2
    exact ⟨rfl, HB.out⟩

/-- What Encode answers. -/
def EcOut (n : Nat) (fs : List Fr) (w : World) (e : Ending) (w' : World) : Prop :=
  Below w.heap.size w w' ∧ ((sndP n fs = false ∧ e = .returned (.tuple #[.slice none 0 0, .int .i64 8])) ∨ (sndP n fs = true ∧ ∃ v, e = .returned (.tuple #[v, .int .i64 0]) ∧ Buf w' v (pktBytes n fs) ∧ Own w.heap.size v))

set_option maxHeartbeats 4000000 in
set_option maxRecDepth 100000 in
theorem rencode_some (n : Nat) (fa : Option Addr) (fs : List Fr) (fc : Nat) (ra : Nat → Option Addr) (rc : Nat → Nat) (w : World) (hl : fs.length ≤ 1000000000) (hF : FrsW w fa fs ra rc) (hlen : (bodyBytes n fs).length ≤ 800000000) (q1 : 0 < fs.length) (q2 : n ≤ 4611686018427387903) :
    Calls Tryz.prog 54 #[.agg #[.int .u64 (n : Int), .slice fa fs.length fc]] w (EcOut n fs w) := by
  obtain ⟨W0, hW0⟩ : ∃ W0, W0 = w.alloc (.cells #[.int .u64 (n : Int), .slice fa fs.length fc] 56) := ⟨_, rfl⟩
  have hB0 : Below w.heap.size w W0 := by rw [hW0]; exact (Below.refl _ w).alloc (Nat.le_refl _) _
  have p1 : Blk W0 w.heap.size 56 [.int .u64 (n : Int), .slice fa fs.length fc] := by rw [hW0]; exact Blk.new w 56 _
  have hs0 : W0.heap.size = w.heap.size + 1 := by rw [hW0]; simp
  have HF := hid (hF.below hB0)
  have HF0 := hid hF
  have HOK := hid (frs_ok hF)
  have HPC : Hid (∀ wr, Below W0.heap.size W0 wr → wr.cell? ⟨w.heap.size, 0, none⟩ = some (.int .u64 (n : Int)) ∧ wr.cell? ⟨w.heap.size, 1, none⟩ = some (.slice fa fs.length fc)) := fun wr hb => ⟨(p1.of_heap (hb.block _ p1.lt)).cell 0, (p1.of_heap (hb.block _ p1.lt)).cell 1⟩
  have HB0 := hid (And.intro hB0 hs0)
  have HLEN : Hid ((bodyTo n fs fs.length).length ≤ 800000000) := hlen
  have HMONO := hid (bodyTo_mono n fs fs.length)
  have HOK0 : Hid (okTo n fs 0 = true) := by unfold Hid okTo M62; simp [q1, q2]
  have HBAD : Hid (∀ k wr, okTo n fs k = false → Below W0.heap.size W0 wr → EcOut n fs w (.returned (.tuple #[.slice none 0 0, .int .i64 8])) wr) := fun k wr h hb => ⟨hB0.trans (hb.mono (by omega)), .inl ⟨okTo_false h, rfl⟩⟩
  have q1' : (0 : Int) < (fs.length : Int) := by omega
  have q2' : (n : Int) ≤ 4611686018427387903 := by omega
  have HN : Hid (n < 4611686018427387904) := by unfold Hid; omega
  clear hB0 p1 hs0 hF hlen q1 q2
  have x0 : W0.cell? ⟨w.heap.size, 0, none⟩ = some (.int .u64 (n : Int)) := (HPC.out W0 (Below.refl _ _)).1
  have x1 : W0.cell? ⟨w.heap.size, 1, none⟩ = some (.slice fa fs.length fc) := (HPC.out W0 (Below.refl _ _)).2
  go_enter Tryz.func54, Tryz.ntmps54
  go_wp2_with fail
  rw [← hW0]
  clear hW0
  go_loopw [4, 5] (fun s4 s5 wr => ∃ (k : Nat) (B : Bool), k ≤ fs.length ∧ s4 = .bool B ∧ s5 = .int .i64 k ∧ Hid (okTo n fs k = B) ∧ Hid (Below W0.heap.size W0 wr)) (fun _ s5 _ => fs.length - (intOf s5).toNat)
  case atStart => exact ⟨0, true, Nat.zero_le _, rfl, rfl, HOK0, Below.refl _ _⟩
  case round =>
    clear x0 x1 HOK0
    obtain ⟨k, B, hk, rfl, rfl, HOKB, HB⟩ := hrel
    obtain ⟨x0, x1⟩ := HPC.out wr HB.out
    cases B with
    | false =>
      have HR := hid (HBAD.out k wr HOKB.out HB.out)
      clear HB HOKB HBAD
      by_cases hlt : k < fs.length
      · have hlt' : (k : Int) < (fs.length : Int) := by omega
        go_wp2_with fail
        go_ret2
        exact HR.out
      · have hlt' : ¬ ((k : Int) < (fs.length : Int)) := by omega
        have hlt2 : decide ((k : Int) < (fs.length : Int)) = false := by simp; omega
        go_wp2_with fail
        go_ret2
        exact HR.out
    | true =>
      by_cases hlt : k < fs.length
      · have hlt' : (k : Int) < (fs.length : Int) := by omega
        obtain ⟨b, off, hfa, hFr⟩ := (HF.out.below HB.out) k hlt
        subst hfa
        have c0 := hFr.c0
        have c1 := hFr.c1
        have c2 := hFr.c2
        have c3 := hFr.c3
        have c4 := hFr.c4
        have c5 := hFr.c5
        have c6 := hFr.c6
        have c7 := hFr.c7
        have c8 := hFr.c8
        have c9 := hFr.c9
        have HC : Hid (Calls Tryz.prog 76 #[frV (fs.getD k fr0) (.slice (ra k) (fs.getD k fr0).ranges.length (rc k))] wr fun e w' => e = .returned (.bool (okTo n fs (k + 1))) ∧ Below w.heap.size w w' ∧ Below W0.heap.size W0 w') := by
          refine (rsound_any _ (ra k) (rc k) wr (HOK.out k hlt) hFr.rng).mono ?_
          rintro e w' ⟨rfl, hb⟩
          rw [okTo_succ n fs k hlt, HOKB.out, Bool.true_and]
          obtain ⟨hB0, hs0⟩ := HB0.out
          have h2 := HB.out.size
          exact ⟨rfl, (hB0.trans (HB.out.mono (by omega))).trans (hb.mono (by omega)), HB.out.trans (hb.mono (by omega))⟩
        unfold frV at HC
        generalize hBk : okTo n fs (k + 1) = B at HC
        have HBK := hid hBk
        clear hBk hFr
        generalize (fs.getD k fr0).kind = y0 at *
        generalize (fs.getD k fr0).stream = y1 at *
        generalize (fs.getD k fr0).offset = y2 at *
        generalize (fs.getD k fr0).reliable = y3 at *
        generalize (fs.getD k fr0).limit = y4 at *
        generalize (fs.getD k fr0).fin = y5 at *
        generalize (fs.getD k fr0).id = y6 at *
        generalize (fs.getD k fr0).deadline = y7 at *
        generalize (fs.getD k fr0).data = y8 at *
        generalize (fs.getD k fr0).ranges = y9 at *
        generalize ra k = q3 at *
        generalize rc k = r3 at *
        go_wp2_with fail
        refine HC.out.mono ?_
        rintro e w2 ⟨rfl, _, hb2⟩
        have HB2 := hid hb2
        clear HC c0 c1 c2 c3 c4 c5 c6 c7 c8 c9 x0 x1 hb2
        go_wp2_with fail
        go_roundw
        case rel => exact ⟨k + 1, B, by omega, rfl, by go_num, HBK, HB2⟩
        case measure => simp [intOf]; omega
      · obtain rfl : k = fs.length := by omega
        have hlt' : ¬ ((fs.length : Int) < (fs.length : Int)) := by omega
        have HSP : Hid (sndP n fs = true) := by unfold Hid; rw [← okTo_all]; exact HOKB.out
        have HSND := hid (sndP_parts HSP.out).1
        have HV := hid (varint_any (.slice none 0 0) [] n wr (Buf.nil wr) HN.out (by simp))
        clear HOKB HBAD HF
        go_wp2_with fail
        refine HV.out.mono ?_
        rintro e w3 ⟨v3, rfl, hB3, hG3⟩
        have HI : Hid (Buf w3 v3 (bodyTo n fs 0) ∧ Below W0.heap.size W0 w3 ∧ Own W0.heap.size v3) := by
          have hsz := HB.out.size
          rw [List.nil_append] at hB3
          exact ⟨hB3, HB.out.trans (hG3.below (Own.nil _) hsz), hG3.own (Own.nil _) hsz⟩
        obtain ⟨y0, y1⟩ := HPC.out w3 HI.out.2.1
        clear HV hB3 hG3 HB x0 x1
        go_wp2_with fail
        go_loopw [6, 7] (fun s6 s7 wq => ∃ k : Nat, k ≤ fs.length ∧ s7 = .int .i64 k ∧ Hid (Buf wq s6 (bodyTo n fs k) ∧ Below W0.heap.size W0 wq ∧ Own W0.heap.size s6)) (fun _ s7 _ => fs.length - (intOf s7).toNat)
        case atStart => exact ⟨0, Nat.zero_le _, rfl, HI.out⟩
        case round =>
          clear HI y0 y1
          obtain ⟨j, hj, rfl, HJ⟩ := hrel
          obtain ⟨x0, x1⟩ := HPC.out _ HJ.out.2.1
          by_cases hjl : j < fs.length
          · have hjl' : (j : Int) < (fs.length : Int) := by omega
            obtain ⟨b, off, hfa, hFr0⟩ := HF0.out j hjl
            obtain ⟨hB0, hs0⟩ := HB0.out
            have hbw := hB0.trans (HJ.out.2.1.mono (by omega))
            have hFr := hFr0.below hbw
            subst hfa
            have c0 := hFr.c0
            have c1 := hFr.c1
            have c2 := hFr.c2
            have c3 := hFr.c3
            have c4 := hFr.c4
            have c5 := hFr.c5
            have c6 := hFr.c6
            have c7 := hFr.c7
            have c8 := hFr.c8
            have c9 := hFr.c9
            have HC := hid (rwritten_any u6 (bodyTo n fs j) (fs.getD j fr0) (ra j) (rc j) wr HJ.out.1 (by have := HMONO.out j (by omega); have := HLEN.out; omega) (HSND.out j hjl) (HOK.out j hjl) hFr.rng (fun x hx hp e => by
              obtain ⟨b', o', hx', hc', _⟩ := hFr0.rng 0 hp
              rw [hx] at hx'
              have h1 := World.block_lt_of_cell? _ _ hc'
              have h2 := HJ.out.2.2 _ e
              simp at hx'
              subst hx'
              simp at h1 h2
              omega))
            have HNX : Hid (∀ w' v', Buf w' v' (bodyTo n fs j ++ frBytes (fs.getD j fr0)) → Gr wr w' u6 v' → Buf w' v' (bodyTo n fs (j + 1)) ∧ Below W0.heap.size W0 w' ∧ Own W0.heap.size v') := fun w' v' h1 h2 => by
              have hsz := HJ.out.2.1.size
              exact ⟨h1, HJ.out.2.1.trans (h2.below HJ.out.2.2 hsz), h2.own HJ.out.2.2 hsz⟩
            unfold frV at HC
            clear hFr hFr0 hB0 hs0 hbw HJ
            generalize (fs.getD j fr0).kind = y0 at *
            generalize (fs.getD j fr0).stream = y1 at *
            generalize (fs.getD j fr0).offset = y2 at *
            generalize (fs.getD j fr0).reliable = y3 at *
            generalize (fs.getD j fr0).limit = y4 at *
            generalize (fs.getD j fr0).fin = y5 at *
            generalize (fs.getD j fr0).id = y6 at *
            generalize (fs.getD j fr0).deadline = y7 at *
            generalize (fs.getD j fr0).data = y8 at *
            generalize (fs.getD j fr0).ranges = y9 at *
            generalize ra j = q3 at *
            generalize rc j = r3 at *
            go_wp2_with fail
            refine HC.out.mono ?_
            rintro e w4 ⟨v4, rfl, hB4, hG4⟩
            have HI4 := hid (HNX.out w4 v4 hB4 hG4)
            clear HC HNX hB4 hG4 c0 c1 c2 c3 c4 c5 c6 c7 c8 c9 x0 x1
            go_wp2_with fail
            go_roundw
            case rel => exact ⟨j + 1, by omega, by go_num, HI4⟩
            case measure => simp [intOf]; omega
          · obtain rfl : j = fs.length := by omega
            obtain ⟨a4, c4, hv4, hby4⟩ := HJ.out.1.bytes
            subst hv4
            have HSE := hid (rsealed_any a4 (bodyTo n fs fs.length) c4 wr (by have := HLEN.out; omega) hby4)
            have HFIN : Hid (∀ w' v', Buf w' v' (bodyTo n fs fs.length ++ sumBytes (bodyTo n fs fs.length)) → Own wr.heap.size v' → Below wr.heap.size wr w' → EcOut n fs w (.returned (.tuple #[v', .int .i64 0])) w') := fun w' v' h1 h2 h3 => by
              obtain ⟨hB0, hs0⟩ := HB0.out
              have hsz := HJ.out.2.1.size
              exact ⟨hB0.trans ((HJ.out.2.1.trans (h3.mono hsz)).mono (by omega)), .inr ⟨HSP.out, v', rfl, h1, h2.mono (by omega)⟩⟩
            clear HJ hby4 HMONO HLEN
            generalize (bodyTo n fs fs.length).length = LL at *
            go_wp2_with fail
            refine HSE.out.mono ?_
            rintro e w5 ⟨v5, rfl, hB5, hO5, hb5⟩
            have HR := hid (HFIN.out w5 v5 hB5 hO5 hb5)
            clear HSE HFIN hB5 hO5 hb5
            go_wp2_with fail
            go_ret2
            exact HR.out

theorem rencode_any (n : Nat) (fa : Option Addr) (fs : List Fr) (fc : Nat) (ra : Nat → Option Addr) (rc : Nat → Nat) (w : World) (hl : fs.length ≤ 1000000000) (hF : FrsW w fa fs ra rc) (hlen : (bodyBytes n fs).length ≤ 800000000) :
    Calls Tryz.prog 54 #[.agg #[.int .u64 (n : Int), .slice fa fs.length fc]] w (EcOut n fs w) := by
  by_cases q1 : 0 < fs.length
  · by_cases q2 : n ≤ 4611686018427387903
    · exact rencode_some n fa fs fc ra rc w hl hF hlen q1 q2
    · refine (rencode_great n fa fs.length fc w q1 q2).mono ?_
      rintro e w' ⟨rfl, hb⟩
      exact ⟨hb, .inl ⟨by unfold sndP M62; simp [q2], rfl⟩⟩
  · refine (rencode_none n fa fs.length fc w q1).mono ?_
    rintro e w' ⟨rfl, hb⟩
    exact ⟨hb, .inl ⟨by unfold sndP; simp [q1], rfl⟩⟩

end Go.Proofs.YtphbledmopchnaaGreatDoor

/-
  The law's sameRanges and samePackets, of what is the same.
-/
namespace Go.Proofs.YtphbledmopchnaaGreatDoor
open Go.RowKit Go.Lib Mm

set_option maxHeartbeats 2000000 in
set_option maxRecDepth 100000 in
theorem sameRanges_true (a1 a2 : Option Addr) (c1 c2 : Nat) (rs : List (Nat × Nat)) (w : World) (h1 : RngAt w a1 rs) (h2 : RngAt w a2 rs) (hn : rs.length ≤ 1000000000) :
    Calls Tryz.prog 88 #[.slice a1 rs.length c1, .slice a2 rs.length c2] w fun e w' => e = .returned (.bool true) ∧ ∃ q, w' = w.drewN q := by
  have H1 := hid h1
  have H2 := hid h2
  clear h1 h2
  go_enter Tryz.func88, Tryz.ntmps88
  go_wp2
  go_loopw [5] (fun s5 wr => ∃ k q : Nat, k ≤ rs.length ∧ s5 = .int .i64 k ∧ wr = w.drewN q) (fun s5 _ => rs.length - (intOf s5).toNat)
  case atStart => exact ⟨0, 0, Nat.zero_le _, rfl, rfl⟩
  case round =>
    obtain ⟨k, q, hk, rfl, rfl⟩ := hrel
    by_cases hlt : k < rs.length
    · have hlt' : (k : Int) < (rs.length : Int) := by omega
      obtain ⟨b1, o1, e1, m1, m2, _, _⟩ := H1.out k hlt
      obtain ⟨b2, o2, e2, m3, m4, _, _⟩ := H2.out k hlt
      subst e1
      subst e2
      generalize (rs.getD k (0, 0)).1 = x at *
      generalize (rs.getD k (0, 0)).2 = y at *
      go_wp2
      go_quiet (fail)
      go_wp2
      go_roundw
      case rel => exact ⟨k + 1, q + nq, by omega, by go_num, rfl⟩
      case measure => simp [intOf]; omega
    · obtain rfl : k = rs.length := by omega
      go_wp2
      go_ret
      exact ⟨rfl, q, rfl⟩

set_option maxHeartbeats 4000000 in
set_option maxRecDepth 100000 in
theorem samePackets_true (n : Int) (fs : List Fr) (fa1 fa2 : Option Addr) (fc1 fc2 : Nat) (ra1 ra2 : Nat → Option Addr) (rc1 rc2 : Nat → Nat) (w : World) (hl : fs.length ≤ 1000000000) (h1 : FrsW w fa1 fs ra1 rc1) (h2 : FrsW w fa2 fs ra2 rc2) :
    Calls Tryz.prog 80 #[.agg #[.int .u64 n, .slice fa1 fs.length fc1], .agg #[.int .u64 n, .slice fa2 fs.length fc2]] w fun e w' => e = .returned (.bool true) ∧ Below w.heap.size w w' := by
  obtain ⟨W0, hW0⟩ : ∃ W0, W0 = (w.alloc (.cells #[.int .u64 n, .slice fa1 fs.length fc1] 56)).alloc (.cells #[.int .u64 n, .slice fa2 fs.length fc2] 56) := ⟨_, rfl⟩
  have hB0 : Below w.heap.size w W0 := by rw [hW0]; exact ((Below.refl _ w).alloc (Nat.le_refl _) _).alloc (by simp) _
  have p1 : Blk W0 w.heap.size 56 [.int .u64 n, .slice fa1 fs.length fc1] := by rw [hW0]; exact (Blk.new w 56 _).alloc _
  have p2 : Blk W0 (w.heap.size + 1) 56 [.int .u64 n, .slice fa2 fs.length fc2] := by
    rw [hW0]
    have := Blk.new (w.alloc (.cells #[.int .u64 n, .slice fa1 fs.length fc1] 56)) 56 [.int .u64 n, .slice fa2 fs.length fc2]
    rwa [World.size_alloc] at this
  have H1 := hid (h1.below hB0)
  have H2 := hid (h2.below hB0)
  have HB0 := hid hB0
  have HP := hid (And.intro p1 p2)
  have HPC : Hid (∀ wr, Below W0.heap.size W0 wr → wr.cell? ⟨w.heap.size, 1, none⟩ = some (.slice fa1 fs.length fc1) ∧ wr.cell? ⟨w.heap.size + 1, 1, none⟩ = some (.slice fa2 fs.length fc2)) := fun wr hb => ⟨(p1.of_heap (hb.block _ p1.lt)).cell 1, (p2.of_heap (hb.block _ p2.lt)).cell 1⟩
  clear h1 h2 hB0 p1 p2
  go_enter Tryz.func80, Tryz.ntmps80
  go_wp2_with fail
  rw [← hW0]
  clear hW0
  go_loopw [5] (fun s5 wr => ∃ k : Nat, k ≤ fs.length ∧ s5 = .int .i64 k ∧ Hid (Below W0.heap.size W0 wr)) (fun s5 _ => fs.length - (intOf s5).toNat)
  case atStart => exact ⟨0, Nat.zero_le _, rfl, Below.refl _ _⟩
  case round =>
    obtain ⟨k, hk, rfl, HB⟩ := hrel
    obtain ⟨x1, x2⟩ := HPC.out wr HB.out
    by_cases hlt : k < fs.length
    · have hlt' : (k : Int) < (fs.length : Int) := by omega
      obtain ⟨b1, o1, e1, f1⟩ := (H1.out.below HB.out) k hlt
      obtain ⟨b2, o2, e2, f2⟩ := (H2.out.below HB.out) k hlt
      subst e1
      subst e2
      have a0 := f1.c0
      have a1 := f1.c1
      have a2 := f1.c2
      have a3 := f1.c3
      have a4 := f1.c4
      have a5 := f1.c5
      have a6 := f1.c6
      have a7 := f1.c7
      have a8 := f1.c8
      have a9 := f1.c9
      have d0 := f2.c0
      have d1 := f2.c1
      have d2 := f2.c2
      have d3 := f2.c3
      have d4 := f2.c4
      have d5 := f2.c5
      have d6 := f2.c6
      have d7 := f2.c7
      have d8 := f2.c8
      have d9 := f2.c9
      have HN := hid (fun W' (h : Below wr.heap.size wr W') => sameRanges_true _ _ (rc1 k) (rc2 k) _ W' (f1.rng.below h) (f2.rng.below h) f1.rlen)
      have hk1 : b1 < wr.heap.size := World.block_lt_of_cell? _ _ a0
      have hk2 : b2 < wr.heap.size := World.block_lt_of_cell? _ _ d0
      have hsz := HB.out.size
      clear f1 f2
      generalize (fs.getD k fr0).kind = y0 at *
      generalize (fs.getD k fr0).stream = y1 at *
      generalize (fs.getD k fr0).offset = y2 at *
      generalize (fs.getD k fr0).reliable = y3 at *
      generalize (fs.getD k fr0).limit = y4 at *
      generalize (fs.getD k fr0).fin = y5 at *
      generalize (fs.getD k fr0).id = y6 at *
      generalize (fs.getD k fr0).deadline = y7 at *
      generalize (fs.getD k fr0).data = y8 at *
      generalize (fs.getD k fr0).ranges = y9 at *
      generalize ra1 k = q1 at *
      generalize ra2 k = q2 at *
      generalize rc1 k = r1 at *
      generalize rc2 k = r2 at *
      have x2' : (wr.alloc (.cells #[.int .i64 y0, .int .i64 y1, .int .u64 (y2 : Int), .int .u64 (y3 : Int), .int .u64 (y4 : Int), .bool y5, .int .u64 (y6 : Int), .int .u64 (y7 : Int), .string y8, .slice q1 y9.length r1] 65)).cell? ⟨w.heap.size + 1, 1, none⟩ = some (.slice (some ⟨b2, o2, none⟩) fs.length fc2) := cell_of x2 (Below.heap_alloc _ _ _ (World.block_lt_of_cell? _ _ x2))
      have HS := hid (HN.out ((wr.alloc (.cells #[.int .i64 y0, .int .i64 y1, .int .u64 (y2 : Int), .int .u64 (y3 : Int), .int .u64 (y4 : Int), .bool y5, .int .u64 (y6 : Int), .int .u64 (y7 : Int), .string y8, .slice q1 y9.length r1] 65)).alloc (.cells #[.int .i64 y0, .int .i64 y1, .int .u64 (y2 : Int), .int .u64 (y3 : Int), .int .u64 (y4 : Int), .bool y5, .int .u64 (y6 : Int), .int .u64 (y7 : Int), .string y8, .slice q2 y9.length r2] 65)) (((Below.refl _ wr).alloc (Nat.le_refl _) _).alloc (by simp) _))
      have HB2 : Hid (∀ q, Below W0.heap.size W0 (((wr.alloc (.cells #[.int .i64 y0, .int .i64 y1, .int .u64 (y2 : Int), .int .u64 (y3 : Int), .int .u64 (y4 : Int), .bool y5, .int .u64 (y6 : Int), .int .u64 (y7 : Int), .string y8, .slice q1 y9.length r1] 65)).alloc (.cells #[.int .i64 y0, .int .i64 y1, .int .u64 (y2 : Int), .int .u64 (y3 : Int), .int .u64 (y4 : Int), .bool y5, .int .u64 (y6 : Int), .int .u64 (y7 : Int), .string y8, .slice q2 y9.length r2] 65)).drewN q)) := fun q => by
        have h := (HB.out.alloc HB.out.size (.cells #[.int .i64 y0, .int .i64 y1, .int .u64 (y2 : Int), .int .u64 (y3 : Int), .int .u64 (y4 : Int), .bool y5, .int .u64 (y6 : Int), .int .u64 (y7 : Int), .string y8, .slice q1 y9.length r1] 65)).alloc (by have := HB.out.size; simp; omega) (.cells #[.int .i64 y0, .int .i64 y1, .int .u64 (y2 : Int), .int .u64 (y3 : Int), .int .u64 (y4 : Int), .bool y5, .int .u64 (y6 : Int), .int .u64 (y7 : Int), .string y8, .slice q2 y9.length r2] 65)
        exact ⟨h.os, h.tape, h.output, h.size, h.block⟩
      clear HN hsz
      go_wp2_with fail
      refine HS.out.mono ?_
      rintro e W5 ⟨rfl, q, rfl⟩
      have HB5 := hid (HB2.out q)
      clear HS HB2 a0 a1 a2 a3 a4 a5 a6 a7 a8 a9 d0 d1 d2 d3 d4 d5 d6 d7 d8 d9 x1 x2 x2'
      go_wp2_with fail
      go_roundw
      case rel => exact ⟨k + 1, by omega, by go_num, HB5⟩
      case measure => simp [intOf]; omega
    · obtain rfl : k = fs.length := by omega
      go_wp2_with fail
      go_ret
      exact ⟨rfl, HB0.out.trans (HB.out.mono HB0.out.size)⟩

end Go.Proofs.YtphbledmopchnaaGreatDoor

/-
  The law's copied.
-/
namespace Go.Proofs.YtphbledmopchnaaGreatDoor
open Go.RowKit Go.Lib Mm

set_option maxHeartbeats 4000000 in
set_option maxRecDepth 100000 in
theorem lcopied_any (n : Nat) (fa : Option Addr) (fs : List Fr) (fc : Nat) (ra : Nat → Option Addr) (rc : Nat → Nat) (w : World) (hl : fs.length ≤ 1000000000) (hF : FrsW w fa fs ra rc) :
    Calls Tryz.prog 78 #[.agg #[.int .u64 (n : Int), .slice fa fs.length fc]] w fun e w' => ∃ s v9, e = .returned (.agg #[.int .u64 (n : Int), s]) ∧ CpTo (w.heap.size + 2) w' s fs v9 fs.length ∧ Below w.heap.size w w' := by
  have HF := hid hF
  clear hF
  go_enter Tryz.func78, Tryz.ntmps78
  go_wp2_with fail
  obtain ⟨W0, hW0⟩ : ∃ W0, W0 = (w.alloc (.cells #[.int .u64 (n : Int), .slice fa fs.length fc] 56)).alloc (.cells #[.int .u64 0, .slice none 0 0] 56) := ⟨_, rfl⟩
  have hs0 : W0.heap.size = w.heap.size + 2 := by rw [hW0]; simp
  have hb0 : Below w.heap.size w W0 := by rw [hW0]; exact ((Below.refl _ w).alloc (Nat.le_refl _) _).alloc (by simp) _
  have hA0 : Blk W0 w.heap.size 56 [.int .u64 (n : Int), .slice fa fs.length fc] := by rw [hW0]; exact (Blk.new w 56 _).alloc _
  have hR0 : Blk W0 (w.heap.size + 1) 56 [.int .u64 0, .slice none 0 0] := by rw [hW0]; have := Blk.new (w.alloc (.cells #[.int .u64 (n : Int), .slice fa fs.length fc] 56)) 56 [.int .u64 0, .slice none 0 0]; simpa using this
  rw [← hW0]
  have HW := hid (And.intro hs0 (And.intro hb0 (And.intro hA0 hR0)))
  clear hW0 hs0 hb0 hA0 hR0
  go_loopw [3, 4] (fun s3 s9 wr => ∃ k : Nat, k ≤ fs.length ∧ s9 = .int .i64 k ∧ Hid (∃ v9, CpTo (w.heap.size + 2) wr s3 fs v9 k ∧ Below (w.heap.size + 2) W0 wr)) (fun _ s9 _ => fs.length - (intOf s9).toNat)
  case atStart => exact ⟨0, Nat.zero_le _, rfl, fun _ => .bool false, ⟨GBuf.nil _ _ _, Own.nil _, fun j hj => absurd hj (Nat.not_lt_zero _)⟩, Below.refl _ _⟩
  case round =>
    obtain ⟨k, hk, rfl, HI⟩ := hrel
    by_cases hlt : k < fs.length
    · have hlt' : (k : Int) < (fs.length : Int) := by omega
      obtain ⟨v9, hCp, hb⟩ := HI.out
      obtain ⟨hs0, hb0, hA0, hR0⟩ := HW.out
      have hszr : w.heap.size + 2 ≤ wr.heap.size := by rw [← hs0]; exact hb.size
      have hbw : Below w.heap.size w wr := hb0.trans (hb.mono (by omega))
      obtain ⟨b, off, ha, hFr0⟩ := HF.out k hlt
      have hFr := hFr0.below hbw
      subst ha
      obtain ⟨a', c', W2, v'', W5, run1, hF2, run2, hCp', hb'⟩ := copy_step hlt hl hCp hszr _ rfl (ra k) (rc k) hFr.rng hFr.rlen
      have HI' : Hid (∃ v9, CpTo (w.heap.size + 2) W5 v'' fs v9 (k + 1) ∧ Below (w.heap.size + 2) W0 W5) := ⟨_, hCp', hb.trans hb'⟩
      have c0 := hFr.c0
      have c1 := hFr.c1
      have c2 := hFr.c2
      have c3 := hFr.c3
      have c4 := hFr.c4
      have c5 := hFr.c5
      have c6 := hFr.c6
      have c7 := hFr.c7
      have c8 := hFr.c8
      have c9 := hFr.c9
      generalize fs.getD k fr0 = F at c0 c1 c2 c3 c4 c5 c6 c7 c8 c9 run1 run2 hF2
      have d0 : W2.cell? ⟨wr.heap.size, 0, none⟩ = some (.int .i64 F.kind) := hF2.cell 0
      have d1 : W2.cell? ⟨wr.heap.size, 1, none⟩ = some (.int .i64 F.stream) := hF2.cell 1
      have d2 : W2.cell? ⟨wr.heap.size, 2, none⟩ = some (.int .u64 (F.offset : Int)) := hF2.cell 2
      have d3 : W2.cell? ⟨wr.heap.size, 3, none⟩ = some (.int .u64 (F.reliable : Int)) := hF2.cell 3
      have d4 : W2.cell? ⟨wr.heap.size, 4, none⟩ = some (.int .u64 (F.limit : Int)) := hF2.cell 4
      have d5 : W2.cell? ⟨wr.heap.size, 5, none⟩ = some (.bool F.fin) := hF2.cell 5
      have d6 : W2.cell? ⟨wr.heap.size, 6, none⟩ = some (.int .u64 (F.id : Int)) := hF2.cell 6
      have d7 : W2.cell? ⟨wr.heap.size, 7, none⟩ = some (.int .u64 (F.deadline : Int)) := hF2.cell 7
      have d8 : W2.cell? ⟨wr.heap.size, 8, none⟩ = some (.string F.data) := hF2.cell 8
      have d9 : W2.cell? ⟨wr.heap.size, 9, none⟩ = some (.slice (ra k) F.ranges.length (rc k)) := hF2.cell 9
      have z9 := hF2.frozen 9
      have hAr := hA0.of_heap (hb.block _ (by omega))
      have p1 : wr.cell? ⟨w.heap.size, 1, none⟩ = some (.slice (some ⟨b, off, none⟩) fs.length fc) := hAr.cell 1
      have p1a : (wr.alloc (.cells #[.int .i64 F.kind, .int .i64 F.stream, .int .u64 (F.offset : Int), .int .u64 (F.reliable : Int), .int .u64 (F.limit : Int), .bool F.fin, .int .u64 (F.id : Int), .int .u64 (F.deadline : Int), .string F.data, .slice (ra k) F.ranges.length (rc k)] 65)).cell? ⟨w.heap.size, 1, none⟩ = some (.slice (some ⟨b, off, none⟩) fs.length fc) := cell_of p1 (Below.heap_alloc _ _ _ (World.block_lt_of_cell? _ _ p1))
      have c9a : (wr.alloc (.cells #[.int .i64 F.kind, .int .i64 F.stream, .int .u64 (F.offset : Int), .int .u64 (F.reliable : Int), .int .u64 (F.limit : Int), .bool F.fin, .int .u64 (F.id : Int), .int .u64 (F.deadline : Int), .string F.data, .slice (ra k) F.ranges.length (rc k)] 65)).cell? ⟨b, off + k * 10 + 9, none⟩ = some (.slice (ra k) F.ranges.length (rc k)) := cell_of c9 (Below.heap_alloc _ _ _ (World.block_lt_of_cell? _ _ c9))
      clear hCp hb hs0 hb0 hA0 hR0 hszr hbw hFr0 hFr hF2 hCp' hb' HI HF hAr
      have run := run1
      clear run1
      go_wp2_with (at_builtin; refine Lib.wpList_append_run _ rfl _ _ _ _ rfl _ _ rfl rfl _ _ (run _) ?_; clear run; have run := run2)
      go_roundw
      case rel => exact ⟨k + 1, by omega, by go_num, HI'⟩
      case measure => simp [intOf]; omega
    · obtain rfl : k = fs.length := by omega
      obtain ⟨v9, hCp, hb⟩ := HI.out
      obtain ⟨hs0, hb0, hA0, hR0⟩ := HW.out
      have hAr := hA0.of_heap (hb.block _ (by omega))
      have hRr := hR0.of_heap (hb.block _ (by omega))
      obtain ⟨a3, c3, hv3, _⟩ := hCp.buf.shape
      subst hv3
      have hszr : w.heap.size + 2 ≤ wr.heap.size := by rw [← hs0]; exact hb.size
      have p0 : wr.cell? ⟨w.heap.size, 0, none⟩ = some (.int .u64 (n : Int)) := hAr.cell 0
      have p1 : wr.cell? ⟨w.heap.size, 1, none⟩ = some (.slice fa fs.length fc) := hAr.cell 1
      have q0 : wr.cell? ⟨w.heap.size + 1, 0, none⟩ = some (.int .u64 0) := hRr.cell 0
      have q1 : wr.cell? ⟨w.heap.size + 1, 1, none⟩ = some (.slice none 0 0) := hRr.cell 1
      have y0 := hRr.frozen 0
      have y1 := hRr.frozen 1
      have hfin : ∀ y z : Value, CpTo (w.heap.size + 2) ((wr.setCell ⟨w.heap.size + 1, 0, none⟩ y).setCell ⟨w.heap.size + 1, 1, none⟩ z) (.slice a3 fs.length c3) fs v9 fs.length ∧ Below w.heap.size w ((wr.setCell ⟨w.heap.size + 1, 0, none⟩ y).setCell ⟨w.heap.size + 1, 1, none⟩ z) := fun y z => by
        have hbw : Below w.heap.size w wr := hb0.trans (hb.mono (by omega))
        have hst : ∀ b, w.heap.size + 2 ≤ b → ((wr.setCell ⟨w.heap.size + 1, 0, none⟩ y).setCell ⟨w.heap.size + 1, 1, none⟩ z).heap[b]? = wr.heap[b]? := fun b hb => by
          rw [Below.heap_setCell _ _ _ _ (by simp; omega), Below.heap_setCell _ _ _ _ (by simp; omega)]
        refine ⟨⟨hCp.buf.of_heap (fun b hb => hst b (hCp.own b hb)), hCp.own, fun j hj => ?_⟩, (hbw.setCell (p := ⟨w.heap.size + 1, 0, none⟩) (by simp) _).setCell (p := ⟨w.heap.size + 1, 1, none⟩) (by simp) _⟩
        obtain ⟨r1, r2, r3⟩ := hCp.rng j hj
        exact ⟨r1.of_heap (fun b hb => hst b (r2 b hb)), r2, r3⟩
      have HFIN := hid hfin
      clear hfin hCp hb hs0 hb0 hA0 hR0 hAr hRr HI
      go_wp2_with fail
      obtain ⟨f1, f2⟩ := HFIN.out (.int .u64 (n : Int)) (.slice a3 fs.length c3)
      exact bodyPost_ret (v := .agg #[.int .u64 (n : Int), .slice a3 fs.length c3]) (by simp [results, Tryz.results78, go_sem, q0, q1]) rfl ⟨_, _, rfl, f1, f2⟩

end Go.Proofs.YtphbledmopchnaaGreatDoor

/-
  The law's encoded.
-/
namespace Go.Proofs.YtphbledmopchnaaGreatDoor
open Go.RowKit Go.Lib Go.Shelf Mm

theorem nil_str (w : World) : (convert 60 9 (.slice none 0 0)).run Tryz.prog w = .ok (.string ⟨#[]⟩) w := by kernel_rfl
theorem nil_eq (w : World) : (binOp .eql 60 (.slice none 0 0) (.slice none 0 0)).run Tryz.prog w = .ok (.bool true) w := by kernel_rfl

/-- Bytes as a text. -/
theorem Buf.str {w : World} {v : Value} {l : List UInt8} (h : Buf w v l) : (convert 60 9 v).run Tryz.prog w = .ok (.string ⟨l.toArray⟩) w := by
  rcases h with ⟨rfl, rfl⟩ | ⟨g, cap, cs, rfl, hB, h2, h3, h4, h5, h6⟩
  · exact nil_str w
  · exact Own0.str ⟨cs, hB, by omega, h5⟩ cap
theorem Buf.later {w w' : World} {v : Value} {l : List UInt8} (h : Buf w v l) (hb : Below w.heap.size w w') : Buf w' v l := h.of_heap (fun k hk => hb.block k (h.lt k hk))

/-- What both encoders hand out. -/
def BothOut (W : World) (a b : Value) (e f : Int) : Prop :=
  (a = .slice none 0 0 ∧ b = .slice none 0 0 ∧ e = 8 ∧ f = 8) ∨ (∃ l : List UInt8, 0 < l.length ∧ l.length ≤ 1000000000 ∧ Buf W a l ∧ Buf W b l ∧ e = 0 ∧ f = 0)

set_option maxHeartbeats 2000000 in
set_option maxRecDepth 100000 in
theorem encoded_any (n : Nat) (fa : Option Addr) (fs : List Fr) (fc : Nat) (ra : Nat → Option Addr) (rc : Nat → Nat) (w : World) (hl : fs.length ≤ 1000000000) (hn : n < 18446744073709551616) (hF : FrsW w fa fs ra rc) (hT : TabAt w) (hE : ErrAt w) (h2 : 2 ≤ w.heap.size) (hlen : (bodyBytes n fs).length ≤ 500000000) :
    Calls Tryz.prog 47 #[.agg #[.int .u64 (n : Int), .slice fa fs.length fc]] w fun e w' => e = .returned (.bool true) ∧ Below w.heap.size w w' := by
  obtain ⟨W0, hW0⟩ : ∃ W0, W0 = w.alloc (.cells #[.int .u64 (n : Int), .slice fa fs.length fc] 56) := ⟨_, rfl⟩
  have hb0 : Below w.heap.size w W0 := by rw [hW0]; exact (Below.refl _ w).alloc (Nat.le_refl _) _
  have hs0 : W0.heap.size = w.heap.size + 1 := by rw [hW0]; simp
  have hP0 : Blk W0 w.heap.size 56 [.int .u64 (n : Int), .slice fa fs.length fc] := by rw [hW0]; exact Blk.new w 56 _
  have HC := hid (lcopied_any n fa fs fc ra rc W0 hl (hF.below hb0))
  have HOK := hid (frs_ok hF)
  have HW := hid (And.intro hb0 (And.intro hs0 (And.intro hP0 (And.intro hT (And.intro hE (hF.below hb0))))))
  have HLEN := hid hlen
  clear hb0 hs0 hP0 hF hT hE hlen
  go_enter Tryz.func47, Tryz.ntmps47
  go_wp2_with fail
  rw [← hW0]
  clear hW0
  refine HC.out.mono ?_
  rintro e w1 ⟨s1, v1, rfl, hcp1, hb1⟩
  obtain ⟨fa1, fc1, hs1, hF1⟩ := hcp1.frs HOK.out
  subst hs1
  obtain ⟨hb0, hs0, hP0, hT, hE, hF0⟩ := HW.out
  obtain ⟨W1, hW1⟩ : ∃ W1, W1 = w1.alloc (.cells #[.int .u64 (n : Int), .slice fa1 fs.length fc1] 56) := ⟨_, rfl⟩
  have hbW1 : Below w1.heap.size w1 W1 := by rw [hW1]; exact (Below.refl _ _).alloc (Nat.le_refl _) _
  have hsW1 : W1.heap.size = w1.heap.size + 1 := by rw [hW1]; simp
  have hP1 : Blk W1 w1.heap.size 56 [.int .u64 (n : Int), .slice fa1 fs.length fc1] := by rw [hW1]; exact Blk.new w1 56 _
  have hb01 : Below W0.heap.size W0 W1 := hb1.trans (hbW1.mono hb1.size)
  have hbw1 : Below w.heap.size w W1 := hb0.trans (hb01.mono (by omega))
  have hP0' := hP0.of_heap (hb01.block _ hP0.lt)
  have hF1' := hF1.weak.below hbW1
  have hF0' := hF0.below hb01
  have HC2 := hid (plainEncode_any n fa1 fs fc1 _ _ W1 hl hn hF1' (hT.below hbw1 h2) (cell_of hE (hbw1.block 0 (by omega))) (by have := hbw1.size; omega) (fun _ => by have := HLEN.out; omega))
  have HX := hid (And.intro hbw1 (And.intro hP0' (And.intro hP1 (And.intro hF1' hF0'))))
  clear HC HW hcp1 hb1 hF1 hb0 hs0 hP0 hT hE hF0 hbW1 hsW1 hP1 hb01 hbw1 hP0' hF1' hF0'
  go_wp2_with fail
  rw [← hW1]
  clear hW1
  refine HC2.out.mono ?_
  rintro e w2 ⟨av, rfl, hb2, hA⟩
  obtain ⟨hbw1, hP0', hP1, hF1', hF0'⟩ := HX.out
  have HC3 := hid (rencode_any n fa fs fc ra rc w2 hl (hF0'.below hb2) (by have := HLEN.out; omega))
  have hP0w := hP0'.of_heap (hb2.block _ hP0'.lt)
  have hP1w := hP1.of_heap (hb2.block _ hP1.lt)
  have x0 : w2.cell? ⟨w.heap.size, 0, none⟩ = some (.int .u64 (n : Int)) := hP0w.cell 0
  have x1 : w2.cell? ⟨w.heap.size, 1, none⟩ = some (.slice fa fs.length fc) := hP0w.cell 1
  have HX2 := hid (And.intro (hbw1.trans (hb2.mono hbw1.size)) (And.intro hP0w (And.intro hP1w (And.intro (hF1'.below hb2) (And.intro (hF0'.below hb2) hA)))))
  clear HC2 HX hb2 hbw1 hP0' hP1 hF1' hF0' hP0w hP1w hA
  unfold EcOut at HC3
  go_wp2_with fail
  refine HC3.out.mono ?_
  rintro e w3 ⟨hb3, hR⟩
  obtain ⟨hbw2, hP0w, hP1w, hF1', hF0', hA⟩ := HX2.out
  obtain ⟨bv, f, he, hBoth⟩ : ∃ bv f, e = .returned (.tuple #[bv, .int .i64 f]) ∧ BothOut w3 av bv (encErr n fs) f := by
    have hlp := pktBytes_len n fs
    have hl2 := HLEN.out
    rcases hR with ⟨h1, rfl⟩ | ⟨h1, v, rfl, h3, _⟩
    · rcases hA with ⟨_, h4⟩ | ⟨h4, _⟩
      · exact ⟨_, _, rfl, .inl ⟨h4, rfl, by unfold encErr; rw [h1]; rfl, rfl⟩⟩
      · rw [h1] at h4; cases h4
    · rcases hA with ⟨h4, _⟩ | ⟨_, h5, _⟩
      · rw [h1] at h4; cases h4
      · exact ⟨_, _, rfl, .inr ⟨pktBytes n fs, by omega, by omega, h5.later hb3, h3, by unfold encErr; rw [h1]; rfl, rfl⟩⟩
  subst he
  have hP0x := hP0w.of_heap (hb3.block _ hP0w.lt)
  have hP1x := hP1w.of_heap (hb3.block _ hP1w.lt)
  have y0 : w3.cell? ⟨w.heap.size, 0, none⟩ = some (.int .u64 (n : Int)) := hP0x.cell 0
  have y1 : w3.cell? ⟨w.heap.size, 1, none⟩ = some (.slice fa fs.length fc) := hP0x.cell 1
  have z0 : w3.cell? ⟨w1.heap.size, 0, none⟩ = some (.int .u64 (n : Int)) := hP1x.cell 0
  have z1 : w3.cell? ⟨w1.heap.size, 1, none⟩ = some (.slice fa1 fs.length fc1) := hP1x.cell 1
  have HS := hid (samePackets_true (n : Int) fs fa1 fa fc1 fc _ _ _ _ w3 hl (hF1'.below hb3) (hF0'.below hb3))
  have HB := hid (hbw2.trans (hb3.mono hbw2.size))
  have HBO := hid hBoth
  clear HC3 HX2 hb3 hR hbw2 hP0w hP1w hF1' hF0' hA hP0x hP1x x0 x1 HLEN hBoth
  generalize encErr n fs = ev at *
  go_wp2_with fail
  refine HS.out.mono ?_
  rintro e w4 ⟨rfl, hb4⟩
  have HB4 := hid (HB.out.trans (hb4.mono HB.out.size))
  rcases HBO.out with ⟨rfl, rfl, rfl, rfl⟩ | ⟨l, hpos, hle, hA, hB, rfl, rfl⟩
  · have cs := nil_str w4
    have ne := nil_eq w4
    clear HS HBO hb4 y0 y1 z0 z1 HB
    go_wp2_with fail
    go_ret
    exact ⟨rfl, HB4.out⟩
  · have hA4 := hA.later hb4
    have hB4 := hB.later hb4
    obtain ⟨S, hS⟩ : ∃ S : ByteArray, S = ⟨l.toArray⟩ := ⟨_, rfl⟩
    obtain ⟨a1, c1, hv1, _⟩ := hA4.bytes
    obtain ⟨a2, c2, hv2, _⟩ := hB4.bytes
    have cv1 := hA4.str
    have cv2 := hB4.str
    rw [← hS] at cv1 cv2
    subst hv1
    subst hv2
    have heq : (S.toList == S.toList) = true := by simp
    have hposI : (0 : Int) < (l.length : Int) := by omega
    clear HS HBO hb4 y0 y1 z0 z1 HB hA hB hA4 hB4 hS
    generalize l.length = LL at *
    go_wp2_with fail
    go_ret
    exact ⟨rfl, HB4.out⟩

end Go.Proofs.YtphbledmopchnaaGreatDoor
