/-
  inOrder: the writer of several parts.
-/
import Derived.Test.YtphbledmopchnaaDoorWrRng
import Derived.Laws.EntriesVeiled
namespace Go.Proofs.YtphbledmopchnaaDoor
open Go.RowKit Go.Lib Go.Shelf Mm

/-- What the first k parts write. -/
def partsTo (ps : List (List UInt8)) : Nat → List UInt8
  | 0 => []
  | k + 1 => partsTo ps k ++ ps.getD k []
theorem partsTo_mono (ps : List (List UInt8)) : ∀ (m k : Nat), k ≤ m → (partsTo ps k).length ≤ (partsTo ps m).length
  | 0, k, h => by obtain rfl : k = 0 := by omega
                  exact Nat.le_refl _
  | m + 1, k, h => by
    by_cases e : k = m + 1
    · rw [e]; exact Nat.le_refl _
    · have := partsTo_mono ps m k (by omega)
      rw [partsTo, List.length_append]
      omega

set_option maxHeartbeats 1000000 in
set_option maxRecDepth 100000 in
theorem inOrder_wr {B0 B1 : Nat} {w1 : World} (pb qb np : Nat) (fw fr : Nat → Value) (ps : List (List UInt8)) (b off : Nat) (f : Fr) (ra : Option Addr) (rc : Nat) (hnp : np ≤ 100) (hp0 : B0 ≤ pb) (hp1 : pb < B1) (hq0 : B0 ≤ qb) (hq1 : qb < B1)
    (hpb : w1.cell? ⟨pb, 0, none⟩ = some (.slice (some ⟨qb, 0, none⟩) np np)) (hcell : ∀ j, j < np → w1.cell? ⟨qb, j * 2, none⟩ = some (fw j) ∧ w1.cell? ⟨qb, j * 2 + 1, none⟩ = some (fr j)) (hfr : ∀ j, j < np → ∃ g cb, fr j = .func (.func g) #[] cb)
    (hwr : ∀ j, j < np → Wr B0 B1 w1 (fw j) (ps.getD j []) b off f ra rc) :
    Wr B0 B1 w1 (.func (.func 58) #[] #[.pointer (some ⟨pb, 0, none⟩)]) (partsTo ps np) b off f ra rc := by
  refine ⟨58, _, rfl, enters_of Tryd.func58 (by kernel_rfl) rfl, fun w v l hp hl => ?_⟩
  have cp := hp.keep.cell hp0 hp1 hpb
  have HP := hid hp
  have HMONO := hid (partsTo_mono ps np)
  have HL := hid hl
  have HC := hid hcell
  have HFR := hid hfr
  have HWR := hid hwr
  have HQ := hid (And.intro hq0 hq1)
  clear hp hl hcell hfr hwr hpb hp0 hp1 hq0 hq1
  go_enter Tryd.func58, Tryd.ntmps58
  go_wp2_with fail
  go_loopw [0, 10] (fun s0 s10 wr => ∃ k : Nat, k ≤ np ∧ s10 = .int .i64 k ∧ Hid (WPre B0 B1 w1 wr s0 (l ++ partsTo ps k) b off f ra rc) ∧ Hid (Gr w wr v s0)) (fun _ s10 _ => np - (intOf s10).toNat)
  case atStart => exact ⟨0, Nat.zero_le _, rfl, by rw [partsTo, List.append_nil]; exact HP.out, Gr.refl w v⟩
  case round =>
    obtain ⟨k, hk, rfl, HPk, HGk⟩ := hrel
    by_cases hlt : k < np
    · have hlt' : (k : Int) < (np : Int) := by omega
      obtain ⟨q1, q2⟩ := HC.out k hlt
      have t1 := HPk.out.keep.cell HQ.out.1 HQ.out.2 q1
      have t2 := HPk.out.keep.cell HQ.out.1 HQ.out.2 q2
      obtain ⟨g, cb, hfw, eg, hW⟩ := HWR.out k hlt
      obtain ⟨g2, cb2, hfr2⟩ := HFR.out k hlt
      rw [hfw] at t1
      rw [hfr2] at t2
      have hw := HPk.out.alloc (.cells #[.func (.func g) #[] cb, .func (.func g2) #[] cb2] 64)
      have hlen := HMONO.out (k + 1) (by omega)
      have hl2 := HL.out
      have hst : Hid (partsTo ps (k + 1) = partsTo ps k ++ ps.getD k []) := rfl
      rw [hst.out, List.length_append] at hlen
      have hc := hW _ _ _ hw (by rw [List.length_append]; omega)
      have HC2 := hid hc
      have HW := hid hw
      have hbl : qb < wr.heap.size := World.block_lt_of_cell? _ _ t1
      clear hfw hfr2 hw hlen hl2 hc hW q1 q2
      go_wp2_with fail
      refine HC2.out.mono ?_
      rintro e y ⟨s1, rfl, hB, hG⟩
      have hp2 := HW.out.next hB hG
      rw [List.append_assoc, ← hst.out] at hp2
      have HP2 := hid hp2
      have HG2 := hid (HGk.out.trans (hG.alloc _))
      clear hB hG hp2 HC2 HW
      go_wp2_with fail
      go_roundw
      case rel => exact ⟨k + 1, by omega, by go_num, HP2, HG2⟩
      case measure => simp [intOf]; omega
    · obtain rfl : k = np := by omega
      have HF := hid HPk.out.buf
      clear HPk
      go_wp2
      go_ret
      exact ⟨_, rfl, HF.out, HGk.out⟩

end Go.Proofs.YtphbledmopchnaaDoor
