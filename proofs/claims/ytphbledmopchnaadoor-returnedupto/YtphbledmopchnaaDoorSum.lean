/-
  lengthCode, sum.
-/
import Derived.Test.YtphbledmopchnaaDoorProg
import Derived.Test.YtphbledmopchnaaDoorCrc
import Derived.Test.YtphbledmopchnaaDoorNum
import Derived.WalkKit
import Derived.WalkLawsBesides
import Derived.Deep.LoopGhost
import Derived.Deep.Draws
import Derived.Deep.QuietTactic
import Derived.BigQuiet
import Derived.Outline
namespace Go.Proofs.YtphbledmopchnaaDoor
open Go.RowKit Go.Lib

theorem hid {p : Prop} (h : p) : Hid p := h
theorem ret_int {k : IntKind} {a b : Int} (h : a = b) : Ending.returned (.int k a) = .returned (.int k b) := by rw [h]
theorem ret_bool {a b : Bool} (h : a = b) : Ending.returned (.bool a) = .returned (.bool b) := by rw [h]

set_option maxRecDepth 1000000 in
theorem lengthCode_any (n : Nat) (w : World) : Calls Tryd.prog 30 #[.int .u64 (n : Int)] w fun e w' => e = .returned (.int .i64 (Num.code n : Nat)) ∧ w' = w := by
  generalize hcode : Num.code n = C
  unfold Num.code at hcode
  by_cases h1 : n < 64
  · have hC : Hid (C = 0) := by rw [if_pos h1] at hcode; exact hcode.symm
    have g1 : (n : Int) < 64 := by omega
    clear hcode h1
    go_enter Tryd.func30, Tryd.ntmps30
    go_wp2
    go_ret
    exact ⟨ret_int (by rw [hC.out]; rfl), rfl⟩
  · have g1 : ¬ ((n : Int) < 64) := by omega
    by_cases h2 : n < 16384
    · have hC : Hid (C = 1) := by rw [if_neg h1, if_pos h2] at hcode; exact hcode.symm
      have g2 : (n : Int) < 16384 := by omega
      clear hcode h1 h2
      go_enter Tryd.func30, Tryd.ntmps30
      go_wp2
      go_ret
      exact ⟨ret_int (by rw [hC.out]; rfl), rfl⟩
    · have g2 : ¬ ((n : Int) < 16384) := by omega
      by_cases h3 : n < 1073741824
      · have hC : Hid (C = 2) := by rw [if_neg h1, if_neg h2, if_pos h3] at hcode; exact hcode.symm
        have g3 : (n : Int) < 1073741824 := by omega
        clear hcode h1 h2 h3
        go_enter Tryd.func30, Tryd.ntmps30
        go_wp2
        go_ret
        exact ⟨ret_int (by rw [hC.out]; rfl), rfl⟩
      · have hC : Hid (C = 3) := by rw [if_neg h1, if_neg h2, if_neg h3] at hcode; exact hcode.symm
        have g3 : ¬ ((n : Int) < 1073741824) := by omega
        clear hcode h1 h2 h3
        go_enter Tryd.func30, Tryd.ntmps30
        go_wp2
        go_ret
        exact ⟨ret_int (by rw [hC.out]; rfl), rfl⟩

/-- A slice of bytes that is read. -/
def BytesAt (w : World) (a : Option Addr) (l : List UInt8) : Prop :=
  ∀ j (hj : j < l.length), ∃ b off, a = some ⟨b, off, none⟩ ∧ w.cell? ⟨b, off + j, none⟩ = some (.int .u8 ((l[j].toNat : Nat) : Int))

/-- The table. -/
def TabAt (w : World) : Prop := ∀ k, k < 16 → w.cell? ⟨1, k, none⟩ = some (.int .u32 ((Crc.tab.getD k 0 : Nat) : Int))

theorem not_u32 (R : Nat) (h : R < 4294967296) : bits .xor .u32 IntKind.u32.max (R : Int) = ((4294967295 ^^^ R : Nat) : Int) := by
  have e : IntKind.u32.max = ((4294967295 : Nat) : Int) := by decide
  rw [e]
  exact u32_xor_nat 4294967295 R (by omega) h

theorem reg_take (l : List UInt8) (k : Nat) (h : k < l.length) : Crc.reg 4294967295 (l.take (k + 1)) = Crc.byt (Crc.reg 4294967295 (l.take k)) l[k] := by
  rw [List.take_succ_eq_append_getElem h]
  unfold Crc.reg
  rw [List.foldl_append]
  rfl

theorem nib_rules (S i D T : Nat) (hS : S < 4294967296) (hi : i = S &&& 15) (hD : D = S >>> 4) (hT : T = Crc.tab.getD i 0) :
    bits .and .u32 (S : Int) 15 = (i : Int) ∧ (S : Int) / 16 = (D : Int) ∧ bits .xor .u32 (D : Int) (T : Int) = (Crc.nib S : Int) ∧ (i : Int) < 16 ∧ i < 16 := by
  have h16 := Crc.and15_lt S
  have hD' : D = S / 16 := by rw [hD, Nat.shiftRight_eq_div_pow]
  refine ⟨?_, by omega, ?_, by omega, by omega⟩
  · rw [hi]; exact u32_and_nat S 15 hS (by omega)
  · have h1 : D < 4294967296 := by omega
    have h2 : T < 4294967296 := by rw [hT]; exact Crc.tab_lt i (by omega)
    rw [u32_xor_nat D T h1 h2, hT, hD, hi]; rfl

set_option maxHeartbeats 1000000 in
theorem sum_any (a : Option Addr) (l : List UInt8) (c : Nat) (w : World) (hl : l.length ≤ 1000000000) (hb : BytesAt w a l) (ht : TabAt w) :
    Calls Tryd.prog 43 #[.slice a l.length c] w fun e w' => e = .returned (.int .u32 (Crc.sum l : Nat)) ∧ w' = w := by
  have HB := hid hb
  have HT := hid ht
  clear hb ht
  go_enter Tryd.func43, Tryd.ntmps43
  go_wp2
  go_loop [3, 8] (fun s3 s8 => ∃ k : Nat, k ≤ l.length ∧ s8 = .int .i64 k ∧ s3 = .int .u32 (Crc.reg 4294967295 (l.take k) : Nat)) (fun _ s8 => l.length - (intOf s8).toNat)
  case atStart => exact ⟨0, Nat.zero_le _, rfl, rfl⟩
  case round =>
    obtain ⟨k, hk, rfl, rfl⟩ := hrel
    by_cases hlt : k < l.length
    · have hlt' : (k : Int) < (l.length : Int) := by omega
      obtain ⟨b, off, ha, hc⟩ := HB.out k hlt
      subst ha
      have hr := Crc.reg_lt 4294967295 (l.take k) (by omega)
      have hst := reg_take l k hlt
      have hX := Crc.u8_lt l[k]
      have hby : Crc.byt (Crc.reg 4294967295 (l.take k)) l[k] = Crc.nib (Crc.nib (Crc.reg 4294967295 (l.take k) ^^^ l[k].toNat)) := rfl
      rw [hby] at hst
      generalize Crc.reg 4294967295 (l.take k) = R at hr hst
      generalize l[k].toNat = X at hc hX hst
      obtain ⟨S1, i1, D1, T1, hS, b1⟩ : ∃ S1 i1 D1 T1 : Nat, S1 = R ^^^ X ∧ i1 = S1 &&& 15 ∧ D1 = S1 >>> 4 ∧ T1 = Crc.tab.getD i1 0 := ⟨_, _, _, _, rfl, rfl, rfl, rfl⟩
      have hS1 : S1 < 4294967296 := by rw [hS]; exact Crc.xor_lt32 hr (by omega)
      obtain ⟨i2, D2, T2, b2⟩ : ∃ i2 D2 T2 : Nat, i2 = Crc.nib S1 &&& 15 ∧ D2 = Crc.nib S1 >>> 4 ∧ T2 = Crc.tab.getD i2 0 := ⟨_, _, _, rfl, rfl, rfl⟩
      have r1 : bits .xor .u32 (R : Int) ((X : Int) % 4294967296) = (S1 : Int) := by
        rw [show (X : Int) % 4294967296 = (X : Int) by omega, hS]; exact u32_xor_nat R X hr (by omega)
      have r2 : bits .xor .u32 (R : Int) (X : Int) = (S1 : Int) := by
        rw [hS]; exact u32_xor_nat R X hr (by omega)
      obtain ⟨q1, q2, q3, q4, q5⟩ := nib_rules S1 i1 D1 T1 hS1 b1.1 b1.2.1 b1.2.2
      obtain ⟨p1, p2, p3, p4, p5⟩ := nib_rules (Crc.nib S1) i2 D2 T2 (Crc.nib_lt S1 hS1) b2.1 b2.2.1 b2.2.2
      have t1 := HT.out i1 q5
      have t2 := HT.out i2 p5
      rw [← b1.2.2] at t1
      rw [← b2.2.2] at t2
      have HST := hid hst
      have HSS := hid hS
      clear hst hS b1 b2 hby
      generalize hN1 : Crc.nib S1 = N1 at *
      generalize hN2 : Crc.nib N1 = N2 at *
      have HN := hid (And.intro hN1 hN2)
      clear hN1 hN2
      go_wp2
      go_round
      case rel => exact ⟨k + 1, by omega, by go_num, by rw [HST.out, ← HSS.out, HN.out.1, HN.out.2]⟩
      case measure => simp [intOf]; omega
    · obtain rfl : k = l.length := by omega
      have hr := Crc.reg_lt 4294967295 (l.take l.length) (by omega)
      rw [List.take_length] at hr ⊢
      have HS : Hid (Crc.sum l = 4294967295 ^^^ Crc.reg 4294967295 l) := rfl
      generalize Crc.reg 4294967295 l = R at hr HS ⊢
      go_wp2
      go_ret
      exact ⟨ret_int (by rw [not_u32 R hr, HS.out]), rfl⟩

end Go.Proofs.YtphbledmopchnaaDoor
