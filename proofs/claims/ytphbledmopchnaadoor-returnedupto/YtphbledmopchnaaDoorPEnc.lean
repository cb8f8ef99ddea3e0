/-
  mediawire.Encode, plain.Encode.
-/
import Derived.Test.YtphbledmopchnaaDoorTurn
namespace Go.Proofs.YtphbledmopchnaaDoor
open Go.RowKit Go.Lib Go.Shelf Mm

/-- What Encode hands back. -/
def EncR (n : Nat) (fs : List Fr) (w : World) (B : Nat) (v err : Value) : Prop :=
  (sndP n fs = false ∧ v = .slice none 0 0 ∧ err = .iface 30 (.int .i64 8)) ∨ (sndP n fs = true ∧ err = .nilIface ∧ Buf w v (pktBytes n fs) ∧ Own B v)

theorem EncR.shape {n : Nat} {fs : List Fr} {w : World} {B : Nat} {v err : Value} (h : EncR n fs w B v err) : ∃ a m c, v = .slice a m c := by
  rcases h with ⟨_, rfl, _⟩ | ⟨_, _, h, _⟩
  · exact ⟨_, _, _, rfl⟩
  · obtain ⟨a, c, rfl, _⟩ := h.bytes
    exact ⟨_, _, _, rfl⟩
theorem EncR.of {n : Nat} {fs : List Fr} {w w' : World} {A B C : Nat} {v err : Value} (h : EncR n fs w B v err) (hA : A ≤ B) (hk : Keeps A C w w') (hC : C ≤ B) : EncR n fs w' A v err := by
  rcases h with h | ⟨h1, h2, h3, h4⟩
  · exact .inl h
  · exact .inr ⟨h1, h2, h3.of_heap (fun k hk' => hk.block k (h3.lt k hk') (.inr (by have := h4 k hk'; omega))), h4.mono hA⟩

theorem mwEncode_any (n : Nat) (fa : Option Addr) (fs : List Fr) (fc : Nat) (ra : Nat → Option Addr) (rc : Nat → Nat) (w : World) (hl : fs.length ≤ 1000000000) (hn : n < 18446744073709551616) (hF : FrsAt w fa fs ra rc) (hT : TabAt w) (h2 : 2 ≤ w.heap.size) (hlen : sndP n fs = true → (bodyBytes n fs).length ≤ 1000000000) :
    Calls Tryd.prog 8 #[.agg #[.int .u64 (n : Int), .slice fa fs.length fc]] w fun e w' => ∃ v err, e = .returned (.tuple #[v, err]) ∧ EncR n fs w' w.heap.size v err ∧ Below w.heap.size w w' := by
  have hb : Below w.heap.size w (w.alloc (.cells #[.int .u64 (n : Int), .slice fa fs.length fc] 25)) := (Below.refl _ w).alloc (Nat.le_refl _) _
  have hX : Calls Tryd.prog 13 #[.agg #[.int .u64 (n : Int), .slice fa fs.length fc]] (w.alloc (.cells #[.int .u64 (n : Int), .slice fa fs.length fc] 25)) fun e w' => ∃ v err, e = .returned (.tuple #[v, err]) ∧ EncR n fs w' w.heap.size v err ∧ Below w.heap.size w w' := by
    cases hS : sndP n fs
    · refine (wireEncode_bad n fa fs fc ra rc _ hl hn (hF.below hb) hS).mono ?_
      rintro e w' ⟨rfl, hb'⟩
      exact ⟨_, _, rfl, .inl ⟨hS, rfl, rfl⟩, hb.trans (hb'.mono (by simp))⟩
    · refine (wireEncode_any n fa fs fc ra rc _ hl (hF.below hb) hS (hT.below hb h2) (by simp; omega) (hlen hS)).mono ?_
      rintro e w' ⟨v, rfl, h1, h3, hb'⟩
      exact ⟨_, _, rfl, .inr ⟨hS, rfl, h1, h3.mono (by simp)⟩, hb.trans (hb'.mono (by simp))⟩
  have HX := hid hX
  clear hX hb hF hT hlen
  go_enter Tryd.func8, Tryd.ntmps8
  go_wp2_with fail
  refine HX.out.mono ?_
  rintro e w' ⟨v, err, rfl, hR, hb⟩
  have HR := hid hR
  have HB := hid hb
  clear hR hb
  go_wp2
  go_ret2
  exact ⟨_, _, rfl, HR.out, HB.out⟩

/-- plain.Encode's error. -/
def encErr (n : Nat) (fs : List Fr) : Int := if sndP n fs then 0 else 8

set_option maxHeartbeats 1000000 in
set_option maxRecDepth 100000 in
theorem plainEncode_any (n : Nat) (fa : Option Addr) (fs : List Fr) (fc : Nat) (ra : Nat → Option Addr) (rc : Nat → Nat) (w : World) (hl : fs.length ≤ 1000000000) (hn : n < 18446744073709551616) (hF : FrsW w fa fs ra rc) (hT : TabAt w) (hE : ErrAt w) (h2 : 2 ≤ w.heap.size) (hlen : sndP n fs = true → (bodyBytes n fs).length ≤ 1000000000) :
    Calls Tryd.prog 4 #[.agg #[.int .u64 (n : Int), .slice fa fs.length fc]] w fun e w' => ∃ v, e = .returned (.tuple #[v, .int .i64 (encErr n fs)]) ∧ Below w.heap.size w w' ∧ ((sndP n fs = false ∧ v = .slice none 0 0) ∨ (sndP n fs = true ∧ Buf w' v (pktBytes n fs) ∧ Own w.heap.size v)) := by
  obtain ⟨W0, hW0⟩ : ∃ W0, W0 = w.alloc (.cells #[.int .u64 (n : Int), .slice fa fs.length fc] 25) := ⟨_, rfl⟩
  have hb : Below w.heap.size w W0 := by rw [hW0]; exact (Below.refl _ w).alloc (Nat.le_refl _) _
  have hs0 : W0.heap.size = w.heap.size + 1 := by rw [hW0]; simp
  have hok : ∀ j, j < fs.length → FrOk (fs.getD j fr0) := fun j hj => by obtain ⟨_, _, _, h⟩ := hF j hj; exact h.ok
  have HCP := hid (copied_any n fa fs fc ra rc W0 hl (hF.below hb))
  have HOK := hid hok
  have HB0 := hid hb
  have HTE := hid (And.intro hT hE)
  have HLEN := hid hlen
  have HS0 := hid hs0
  clear hok hb hF hT hE hlen hs0
  go_enter Tryd.func4, Tryd.ntmps4
  go_wp2_with fail
  rw [← hW0]
  clear hW0
  refine HCP.out.mono ?_
  rintro e w1 ⟨s, v9, rfl, hC1, hb1⟩
  obtain ⟨fa1, fc1, hs, hF1⟩ := hC1.frs HOK.out
  subst hs
  obtain ⟨W1, hW1⟩ : ∃ W1, W1 = w1.alloc (.cells #[.int .u64 (n : Int), .slice fa1 fs.length fc1] 25) := ⟨_, rfl⟩
  have hb1' : Below w.heap.size w w1 := HB0.out.trans (hb1.mono (by have := HS0.out; omega))
  have hbW : Below w1.heap.size w1 W1 := by rw [hW1]; exact (Below.refl _ w1).alloc (Nat.le_refl _) _
  have hsz1 : W0.heap.size ≤ w1.heap.size := hb1.size
  have hs0 := HS0.out
  have hbwW : Below w.heap.size w W1 := hb1'.trans (hbW.mono (by omega))
  have hsW : W1.heap.size = w1.heap.size + 1 := by rw [hW1]; simp
  have HENC := hid (mwEncode_any n fa1 fs fc1 _ _ W1 hl hn (hF1.below hbW) (HTE.out.1.below hbwW h2) (by omega) HLEN.out)
  have hlt1 := hC1.buf.lt
  have hltr := fun j (hj : j < fs.length) => (hC1.rng j hj).1.lt
  have hcp : ∀ w', Below W1.heap.size W1 w' → CpTo (w.heap.size + 3) w' (.slice fa1 fs.length fc1) fs v9 fs.length := fun w' hb' => by
    have hst : ∀ b, b < w1.heap.size → w'.heap[b]? = w1.heap[b]? := fun b hb => by rw [hb'.block b (by omega), hbW.block b hb]
    rw [hs0] at hC1
    exact ⟨hC1.buf.of_heap (fun b hb => hst b (hlt1 b hb)), hC1.own, fun j hj => by
      obtain ⟨r1, r2, r3⟩ := hC1.rng j hj
      exact ⟨r1.of_heap (fun b hb => hst b (r1.lt b hb)), r2, r3⟩⟩
  have HCPW := hid hcp
  have HLT := hid (And.intro hlt1 (And.intro hltr (And.intro hsW hsz1)))
  have HBW := hid hbwW
  have hbox : Blk W1 w1.heap.size 25 [.int .u64 (n : Int), .slice fa1 fs.length fc1] := by rw [hW1]; exact Blk.new w1 25 _
  have HBOX := hid hbox
  clear hC1 hb1 hF1 hb1' hbW hsz1 hs0 hbwW hsW hlt1 hltr hcp hbox
  go_wp2_with fail
  rw [← hW1]
  clear hW1
  refine HENC.out.mono ?_
  rintro e w2 ⟨v, err, rfl, hR, hb2⟩
  obtain ⟨av, mv, cv, hv⟩ := hR.shape
  subst hv
  have hbox2 := HBOX.out.of_heap (hb2.block _ (by have := HLT.out.2.2.1; omega))
  have x0 : w2.cell? ⟨w1.heap.size, 0, none⟩ = some (.int .u64 (n : Int)) := hbox2.cell 0
  have x1 : w2.cell? ⟨w1.heap.size, 1, none⟩ = some (.slice fa1 fs.length fc1) := hbox2.cell 1
  have HTURN := hid (turn_any n _ fs v9 (w.heap.size + 3) w1.heap.size w2 hl (fun j hj => (HOK.out j hj).rlen) (HCPW.out w2 hb2) HLT.out.1 (fun j hj => HLT.out.2.1 j hj) (by have := HLT.out.2.2.1; have := hb2.size; omega))
  have HR := hid hR
  have HB2 := hid hb2
  clear hR hb2 hbox2
  go_wp2_with fail
  refine HTURN.out.mono ?_
  rintro e w3 ⟨rfl, hK3⟩
  have hR3 : EncR n fs w3 (w.heap.size) (.slice av mv cv) err := by
    rcases HR.out with h | ⟨h1, h2, h3, h4⟩
    · exact .inl h
    · refine .inr ⟨h1, h2, h3.of_heap (fun k hk' => hK3.block k (h3.lt k hk') (.inr (by have := h4 k hk'; have := HLT.out.2.2.1; omega))), h4.mono ?_⟩
      have := HLT.out.2.2
      have := HS0.out
      omega
  have hb3 : Below w.heap.size w w3 := by
    have h1 := HLT.out.2.2
    have h2 := HS0.out
    have h3 := HB2.out.size
    exact (HBW.out.trans (HB2.out.mono (by omega))).trans ⟨hK3.os, hK3.tape, hK3.output, hK3.size, fun k hk => hK3.block k (by omega) (.inl (by omega))⟩
  have herr : Calls Tryd.prog 10 #[err] w3 fun e w' => e = .returned (.int .i64 (encErr n fs)) ∧ Below w3.heap.size w3 w' := by
    have hE3 : ErrAt w3 := cell_of HTE.out.2 (hb3.block 0 (by omega))
    unfold encErr
    rcases hR3 with ⟨h1, _, rfl⟩ | ⟨h1, rfl, _⟩
    · rw [h1]
      exact number_of _ 8 (-1) w3 _ (told_errno 8 Tryd.eql8 w3 hE3)
    · rw [h1]
      exact number_of _ 0 (-1) w3 _ (told_nil w3)
  have HERR := hid herr
  have HR3 := hid hR3
  have HB3 := hid hb3
  clear herr hR3 hb3 hK3
  go_wp2_with fail
  refine HERR.out.mono ?_
  rintro e w4 ⟨rfl, hb4⟩
  have HF : Hid (Below w.heap.size w w4 ∧ ((sndP n fs = false ∧ Value.slice av mv cv = .slice none 0 0) ∨ (sndP n fs = true ∧ Buf w4 (.slice av mv cv) (pktBytes n fs) ∧ Own w.heap.size (.slice av mv cv)))) := by
    refine ⟨HB3.out.trans (hb4.mono HB3.out.size), ?_⟩
    rcases HR3.out with ⟨h1, h2, _⟩ | ⟨h1, _, h3, h4⟩
    · exact .inl ⟨h1, h2⟩
    · exact .inr ⟨h1, h3.of_heap (fun k hk => hb4.block k (h3.lt k hk)), h4⟩
  clear hb4
  go_wp2
  go_ret2
  exact ⟨_, rfl, HF.out⟩

end Go.Proofs.YtphbledmopchnaaDoor
