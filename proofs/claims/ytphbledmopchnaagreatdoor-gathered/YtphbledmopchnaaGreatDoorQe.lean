import Derived.Test.YtphbledmopchnaaGreatDoorUb
import Derived.Test.YtphbledmopchnaaGreatDoorUc
import Derived.Test.YtphbledmopchnaaGreatDoorUd
import Derived.Test.YtphbledmopchnaaGreatDoorUe
import Derived.Test.YtphbledmopchnaaGreatDoorQa
import Derived.Test.YtphbledmopchnaaGreatDoorQb
import Derived.Test.YtphbledmopchnaaGreatDoorQc
/-
  The document's reader: frame, all of it.
-/
namespace Go.Proofs.YtphbledmopchnaaGreatDoor
open Go.RowKit Go.Lib Mm

/-- The text that is read. -/
def txt (l : List UInt8) (p : Nat) (bad : Bool) : ByteArray := ⟨(tV l p bad).toArray⟩
theorem txt_le (l : List UInt8) (p : Nat) (bad : Bool) (hl : l.length ≤ 1000000000) : (txt l p bad).size ≤ 1000000000 := by
  have e : (txt l p bad).size = (tV l p bad).length := by
    show (tV l p bad).toArray.size = _
    rw [List.size_toArray]
  rw [e]
  unfold tV
  split
  · simp
  · rw [List.length_take, List.length_drop]; omega

/-- The frame at p, and where it ends. -/
def frD (l : List UInt8) (p : Nat) : Option (Fr × Nat) :=
  if (l.getD p 0).toNat = 1 then frFin ⟨1, 0, 0, 0, 0, false, 0, 0, ⟨#[]⟩, []⟩ (p + 1) false
  else if (l.getD p 0).toNat = 2 then (match rgAll l (p + 1) with | none => none | some (rs, q) => frFin ⟨2, 0, 0, 0, 0, false, 0, 0, ⟨#[]⟩, rs⟩ q false)
  else if (l.getD p 0).toNat = 36 then frFin ⟨3, (sV l (p + 1) : Int), rV l (rP l (p + 1)), rV l (rP l (rP l (p + 1))), 0, false, 0, 0, ⟨#[]⟩, []⟩ (rP l (rP l (rP l (p + 1)))) (false || sB l (p + 1) || rB l (rP l (p + 1)) || rB l (rP l (rP l (p + 1))))
  else if (l.getD p 0).toNat = 8 then frFin ⟨4, (sV l (p + 1) : Int), rV l (rP l (p + 1)), 0, 0, false, 0, 0, txt l (rP l (rP l (p + 1))) (false || sB l (p + 1) || rB l (rP l (p + 1))), []⟩ (tP l (rP l (rP l (p + 1))) (false || sB l (p + 1) || rB l (rP l (p + 1)))) (tB l (rP l (rP l (p + 1))) (false || sB l (p + 1) || rB l (rP l (p + 1))))
  else if (l.getD p 0).toNat = 9 then frFin ⟨4, (sV l (p + 1) : Int), rV l (rP l (p + 1)), 0, 0, true, 0, 0, txt l (rP l (rP l (p + 1))) (false || sB l (p + 1) || rB l (rP l (p + 1))), []⟩ (tP l (rP l (rP l (p + 1))) (false || sB l (p + 1) || rB l (rP l (p + 1)))) (tB l (rP l (rP l (p + 1))) (false || sB l (p + 1) || rB l (rP l (p + 1))))
  else if (l.getD p 0).toNat = 16 then frFin ⟨5, 0, 0, 0, rV l (p + 1), false, 0, 0, ⟨#[]⟩, []⟩ (rP l (p + 1)) (false || rB l (p + 1))
  else if (l.getD p 0).toNat = 17 then frFin ⟨6, (sV l (p + 1) : Int), 0, 0, rV l (rP l (p + 1)), false, 0, 0, ⟨#[]⟩, []⟩ (rP l (rP l (p + 1))) (false || sB l (p + 1) || rB l (rP l (p + 1)))
  else if (l.getD p 0).toNat = 48 then frFin ⟨7, 0, 0, 0, 0, false, rV l (p + 1), rV l (rP l (p + 1)), txt l (rP l (rP l (p + 1))) (false || rB l (p + 1) || rB l (rP l (p + 1))), []⟩ (tP l (rP l (rP l (p + 1))) (false || rB l (p + 1) || rB l (rP l (p + 1)))) (tB l (rP l (rP l (p + 1))) (false || rB l (p + 1) || rB l (rP l (p + 1))))
  else if (l.getD p 0).toNat = 28 then frFin ⟨8, 0, 0, 0, rV l (p + 1), false, 0, 0, ⟨#[]⟩, []⟩ (rP l (p + 1)) (false || rB l (p + 1))
  else none

theorem sV_lt (l : List UInt8) (p : Nat) : sV l p < 8 := by
  unfold sV
  split <;> omega

theorem rframe_any (rb b off : Nat) (l : List UInt8) (c p : Nat) (w : World) (h : RRd w rb (some ⟨b, off, none⟩) l c p false) (hl : l.length ≤ 1000000000) (hp : p < l.length) :
    Calls Tryz.prog 45 #[.pointer (some ⟨rb, 0, none⟩)] w (FrPost rb (some ⟨b, off, none⟩) l c (frD l p) w) := by
  obtain ⟨b', off', ha, hX⟩ := h.by_ p hp
  simp at ha
  obtain ⟨rfl, rfl⟩ := ha
  have hg : l.getD p 0 = l[p] := by rw [List.getD_eq_getElem?_getD, List.getElem?_eq_getElem hp]; rfl
  unfold frD
  rw [hg]
  generalize l[p].toNat = X at hX
  by_cases n1 : X = 1
  · subst n1; rw [if_pos rfl]; exact rframe_1 rb b off l c p w h hp hX hl
  rw [if_neg n1]
  by_cases n2 : X = 2
  · subst n2; rw [if_pos rfl]; exact rframe_2 rb b off l c p w h hp hX hl
  rw [if_neg n2]
  by_cases n36 : X = 36
  · subst n36; rw [if_pos rfl]
    exact rframe_36 rb b off l c p w h hl hp hX _ _ _ (sV_lt l _) (fun Y hY => rstream_any rb _ l c _ _ Y hY hl) _ _ _ (rV_lt l _) (fun Y hY => rnumber_any rb _ l c _ _ Y hY hl) _ _ _ (rV_lt l _) (fun Y hY => rnumber_any rb _ l c _ _ Y hY hl)
  rw [if_neg n36]
  by_cases n8 : X = 8
  · subst n8; rw [if_pos rfl]
    exact rframe_8 rb b off l c p w h hl hp hX _ _ _ (sV_lt l _) (fun Y hY => rstream_any rb _ l c _ _ Y hY hl) _ _ _ (rV_lt l _) (fun Y hY => rnumber_any rb _ l c _ _ Y hY hl) _ _ _ (txt_le l _ _ hl) (fun Y hY => rtext_any rb _ l c _ _ Y hY hl)
  rw [if_neg n8]
  by_cases n9 : X = 9
  · subst n9; rw [if_pos rfl]
    exact rframe_9 rb b off l c p w h hl hp hX _ _ _ (sV_lt l _) (fun Y hY => rstream_any rb _ l c _ _ Y hY hl) _ _ _ (rV_lt l _) (fun Y hY => rnumber_any rb _ l c _ _ Y hY hl) _ _ _ (txt_le l _ _ hl) (fun Y hY => rtext_any rb _ l c _ _ Y hY hl)
  rw [if_neg n9]
  by_cases n16 : X = 16
  · subst n16; rw [if_pos rfl]
    exact rframe_16 rb b off l c p w h hl hp hX _ _ _ (rV_lt l _) (fun Y hY => rnumber_any rb _ l c _ _ Y hY hl)
  rw [if_neg n16]
  by_cases n17 : X = 17
  · subst n17; rw [if_pos rfl]
    exact rframe_17 rb b off l c p w h hl hp hX _ _ _ (sV_lt l _) (fun Y hY => rstream_any rb _ l c _ _ Y hY hl) _ _ _ (rV_lt l _) (fun Y hY => rnumber_any rb _ l c _ _ Y hY hl)
  rw [if_neg n17]
  by_cases n48 : X = 48
  · subst n48; rw [if_pos rfl]
    exact rframe_48 rb b off l c p w h hl hp hX _ _ _ (rV_lt l _) (fun Y hY => rnumber_any rb _ l c _ _ Y hY hl) _ _ _ (rV_lt l _) (fun Y hY => rnumber_any rb _ l c _ _ Y hY hl) _ _ _ (txt_le l _ _ hl) (fun Y hY => rtext_any rb _ l c _ _ Y hY hl)
  rw [if_neg n48]
  by_cases n28 : X = 28
  · subst n28; rw [if_pos rfl]
    exact rframe_28 rb b off l c p w h hl hp hX _ _ _ (rV_lt l _) (fun Y hY => rnumber_any rb _ l c _ _ Y hY hl)
  rw [if_neg n28]
  exact rframe_none rb b off l c p X w h hp hX hl n1 n2 n36 n8 n9 n16 n17 n48 n28
end Go.Proofs.YtphbledmopchnaaGreatDoor

/-
  The sum, bit by bit, is the sum by nibbles.
-/
namespace Go.Proofs.YtphbledmopchnaaGreatDoor
namespace Crc

def bit (c : Nat) : Nat := if c % 2 = 1 then (c / 2) ^^^ 3988292384 else c / 2
def bits (c : Nat) : Nat → Nat
  | 0 => c
  | k + 1 => bit (bits c k)

theorem bit_xor (a b : Nat) : bit (a ^^^ b) = bit a ^^^ bit b := by
  have h1 : (a ^^^ b) / 2 = a / 2 ^^^ b / 2 := Nat.xor_div_two
  have h2 : (a ^^^ b) % 2 = (a + b) % 2 := by
    have h := Nat.testBit_xor a b 0
    simp only [Nat.testBit_zero] at h
    have ha : a % 2 = 0 ∨ a % 2 = 1 := by omega
    have hb : b % 2 = 0 ∨ b % 2 = 1 := by omega
    have hc : (a ^^^ b) % 2 = 0 ∨ (a ^^^ b) % 2 = 1 := by omega
    rcases ha with ha | ha <;> rcases hb with hb | hb <;> rcases hc with hc | hc <;> simp [ha, hb, hc] at h <;> omega
  unfold bit
  rw [h1, h2]
  have ha : a % 2 = 0 ∨ a % 2 = 1 := by omega
  have hb : b % 2 = 0 ∨ b % 2 = 1 := by omega
  rcases ha with ha | ha <;> rcases hb with hb | hb
  · rw [if_neg (by omega), if_neg (by omega), if_neg (by omega)]
  · rw [if_pos (by omega), if_neg (by omega), if_pos hb, Nat.xor_assoc]
  · rw [if_pos (by omega), if_pos ha, if_neg (by omega), Nat.xor_assoc, Nat.xor_assoc, Nat.xor_comm (b / 2)]
  · rw [if_neg (by omega), if_pos ha, if_pos hb, Nat.xor_assoc, Nat.xor_comm 3988292384, Nat.xor_assoc, Nat.xor_self, Nat.xor_zero]
theorem bits_xor (a b : Nat) : ∀ k, bits (a ^^^ b) k = bits a k ^^^ bits b k
  | 0 => rfl
  | k + 1 => by rw [bits, bits, bits, bits_xor a b k, bit_xor]
theorem bit_even (y : Nat) : bit (2 * y) = y := by
  unfold bit
  rw [if_neg (by omega)]
  omega
theorem bits_up (y : Nat) : bits (16 * y) 4 = y := by
  show bit (bit (bit (bit (16 * y)))) = y
  rw [show 16 * y = 2 * (2 * (2 * (2 * y))) by omega, bit_even, bit_even, bit_even, bit_even]
theorem bits_low : ∀ k, k < 16 → bits k 4 = tab.getD k 0 := by decide
theorem split16 (c : Nat) : c = (16 * (c / 16)) ^^^ (c % 16) := by
  apply Nat.eq_of_testBit_eq
  intro i
  rw [Nat.testBit_xor, show 16 * (c / 16) = (c >>> 4) <<< 4 by rw [Nat.shiftLeft_eq, Nat.shiftRight_eq_div_pow]; omega, Nat.testBit_shiftLeft, show c % 16 = c % 2 ^ 4 from rfl, Nat.testBit_mod_two_pow, Nat.testBit_shiftRight]
  by_cases h : i < 4
  · have : ¬ (4 ≤ i) := by omega
    simp [h, this]
  · have : 4 + (i - 4) = i := by omega
    simp [h, this]
    omega
theorem bits_nib (c : Nat) : bits c 4 = nib c := by
  unfold nib
  conv => lhs; rw [split16 c]
  rw [bits_xor, bits_up, bits_low _ (by omega), and15, Nat.shiftRight_eq_div_pow]
theorem bits_add (c : Nat) (m : Nat) : ∀ k, bits c (m + k) = bits (bits c m) k
  | 0 => rfl
  | k + 1 => by
    show bit (bits c (m + k)) = bit (bits (bits c m) k)
    rw [bits_add c m k]
theorem bits_byt (c : Nat) (x : UInt8) : bits (c ^^^ x.toNat) 8 = byt c x := by
  unfold byt
  rw [show 8 = 4 + 4 from rfl, bits_add, bits_nib, bits_nib]
theorem bit_lt (c : Nat) (h : c < 4294967296) : bit c < 4294967296 := by
  unfold bit
  split
  · exact xor_lt32 (by omega) (by omega)
  · omega
theorem bits_lt (c : Nat) (h : c < 4294967296) : ∀ k, bits c k < 4294967296
  | 0 => h
  | k + 1 => bit_lt _ (bits_lt c h k)
end Crc
end Go.Proofs.YtphbledmopchnaaGreatDoor

/-
  The document's Sum.
-/
namespace Go.Proofs.YtphbledmopchnaaGreatDoor
open Go.RowKit Go.Lib

theorem odd_rules (C : Nat) (hC : C < 4294967296) : bits .and .u32 (C : Int) 1 = ((C % 2 : Nat) : Int) ∧ bits .xor .u32 ((C / 2 : Nat) : Int) 3988292384 = ((C / 2 ^^^ 3988292384 : Nat) : Int) := by
  refine ⟨?_, u32_xor_nat (C / 2) 3988292384 (by omega) (by omega)⟩
  have := u32_and_nat C 1 hC (by omega)
  rw [Nat.and_one_is_mod] at this
  exact this

set_option maxHeartbeats 1000000 in
theorem rsum_any (a : Option Addr) (l : List UInt8) (c : Nat) (w : World) (hl : l.length ≤ 1000000000) (hb : BytesAt w a l) :
    Calls Tryz.prog 72 #[.slice a l.length c] w fun e w' => e = .returned (.int .u32 (Crc.sum l : Nat)) ∧ w' = w := by
  have HB := hid hb
  clear hb
  go_enter Tryz.func72, Tryz.ntmps72
  go_wp2
  go_loop [3, 4, 5, 6] (fun s3 s4 _ _ => ∃ k : Nat, k ≤ l.length ∧ s4 = .int .i64 k ∧ s3 = .int .u32 (Crc.reg 4294967295 (l.take k) : Nat)) (fun _ s4 _ _ => l.length - (intOf s4).toNat)
  case atStart => exact ⟨0, Nat.zero_le _, rfl, rfl⟩
  case round =>
    obtain ⟨k, hk, rfl, rfl⟩ := hrel
    by_cases hlt : k < l.length
    · have hlt' : (k : Int) < (l.length : Int) := by omega
      obtain ⟨b, off, ha, hc⟩ := HB.out k hlt
      subst ha
      have hr := Crc.reg_lt 4294967295 (l.take k) (by omega)
      have hst := reg_take l k hlt
      have hX := Crc.u8_lt l[k]
      rw [← Crc.bits_byt] at hst
      generalize Crc.reg 4294967295 (l.take k) = R at hr hst
      generalize l[k].toNat = X at hc hX hst
      obtain ⟨S, hS⟩ : ∃ S, S = R ^^^ X := ⟨_, rfl⟩
      have hS1 : S < 4294967296 := by rw [hS]; exact Crc.xor_lt32 hr (by omega)
      have r1 : bits .xor .u32 (R : Int) ((X : Int) % 4294967296) = (S : Int) := by
        rw [show (X : Int) % 4294967296 = (X : Int) by omega, hS]; exact u32_xor_nat R X hr (by omega)
      have r2 : bits .xor .u32 (R : Int) (X : Int) = (S : Int) := by
        rw [hS]; exact u32_xor_nat R X hr (by omega)
      rw [← hS] at hst
      have HST := hid hst
      clear hst hS
      go_wp2
      go_loop [3, 5, 6] (fun s3 s5 _ => ∃ m : Nat, m ≤ 8 ∧ s5 = .int .i64 m ∧ s3 = .int .u32 (Crc.bits S m : Nat)) (fun _ s5 _ => 8 - (intOf s5).toNat)
      case atStart => exact ⟨0, Nat.zero_le _, rfl, rfl⟩
      case round =>
        obtain ⟨m, hm, rfl, rfl⟩ := hrel
        by_cases hm8 : m < 8
        · have hm8' : (m : Int) < 8 := by omega
          have hC := Crc.bits_lt S hS1 m
          have HE : Hid (Crc.bits S (m + 1) = Crc.bit (Crc.bits S m)) := rfl
          generalize Crc.bits S m = C at hC HE
          obtain ⟨q1, q2⟩ := odd_rules C hC
          have q3 : (C : Int) / 2 = ((C / 2 : Nat) : Int) := by omega
          by_cases ho : C % 2 = 1
          · have HE2 : Hid (Crc.bits S (m + 1) = C / 2 ^^^ 3988292384) := by unfold Hid; rw [HE.out, Crc.bit, if_pos ho]
            rw [ho] at q1
            generalize C / 2 ^^^ 3988292384 = N at *
            generalize C / 2 = D at *
            clear HE ho
            go_wp2
            go_round
            case rel => exact ⟨m + 1, by omega, by go_num, by rw [HE2.out]⟩
            case measure => simp [intOf]; omega
          · have ho0 : C % 2 = 0 := by omega
            have HE2 : Hid (Crc.bits S (m + 1) = C / 2) := by unfold Hid; rw [HE.out, Crc.bit, if_neg ho]
            rw [ho0] at q1
            generalize C / 2 = D at *
            clear HE ho ho0 q2
            go_wp2
            go_round
            case rel => exact ⟨m + 1, by omega, by go_num, by rw [HE2.out]⟩
            case measure => simp [intOf]; omega
        · obtain rfl : m = 8 := by omega
          rw [← HST.out]
          go_wp2
          go_round
          case rel => exact ⟨k + 1, by omega, by go_num, rfl⟩
          case measure => simp [intOf]; omega
    · obtain rfl : k = l.length := by omega
      have hr := Crc.reg_lt 4294967295 (l.take l.length) (by omega)
      rw [List.take_length] at hr ⊢
      have HS : Hid (Crc.sum l = 4294967295 ^^^ Crc.reg 4294967295 l) := rfl
      generalize Crc.reg 4294967295 l = R at hr HS ⊢
      go_wp2
      go_ret
      exact ⟨ret_int (by rw [HS.out]; exact not_u32 R hr), rfl⟩
end Go.Proofs.YtphbledmopchnaaGreatDoor

/-
  The document's Sealed.
-/
namespace Go.Proofs.YtphbledmopchnaaGreatDoor
open Go.RowKit Go.Lib Mm

theorem eltB : Elt 60 5 (.int .u8 0) 1 1 := ⟨by kernel_rfl, by kernel_rfl, fun n => by rw [zero1_len]; omega, zero1_one, by omega⟩

/-- append([]byte(nil), b...). -/
theorem run_fresh {w : World} {a : Option Addr} {l : List UInt8} (c : Nat) (hb : BytesAt w a l) (hl : l.length ≤ 1000000000) :
    ∃ v w', (∀ ty, (Builtin.append_ #[60, 60] ty #[.slice none 0 0, .slice a l.length c]).run Tryz.prog w = .ok v w') ∧ Buf w' v l ∧ Own w.heap.size v ∧ Below w.heap.size w w' := by
  by_cases h0 : 0 < l.length
  · obtain ⟨b, off, rfl, _⟩ := hb 0 h0
    obtain ⟨v1, W1, run1, hB1, hG1⟩ := run_append_buf (Buf.nil w) ⟨b, off, none⟩ l.length c l rfl h0 (fun j u hu => by
      have hj : j < l.length := by
        have := (List.getElem?_eq_some_iff.1 hu).1
        rwa [bcells_length] at this
      obtain ⟨b', off', ha, hc⟩ := hb j hj
      simp at ha
      obtain ⟨rfl, rfl⟩ := ha
      rw [Addr.add_lit, hc, ← hu]
      simp [bcells, hj]) (by simp; omega)
    rw [List.nil_append] at hB1
    exact ⟨v1, W1, run1, hB1, hG1.own (Own.nil _) (Nat.le_refl _), hG1.below (Own.nil _) (Nat.le_refl _)⟩
  · have e : l = [] := List.eq_nil_of_length_eq_zero (by omega)
    subst e
    exact ⟨.slice none 0 0, w, fun ty => run_append_none eltB w a c ty, Buf.nil w, Own.nil _, Below.refl _ _⟩

set_option maxHeartbeats 1000000 in
set_option maxRecDepth 100000 in
theorem rsealed_any (a : Option Addr) (l : List UInt8) (c : Nat) (w : World) (hl : l.length ≤ 900000000) (hb : BytesAt w a l) :
    Calls Tryz.prog 43 #[.slice a l.length c] w fun e w' => ∃ v, e = .returned v ∧ Buf w' v (l ++ sumBytes l) ∧ Own w.heap.size v ∧ Below w.heap.size w w' := by
  have hs := rsum_any a l c w (by omega) hb
  have hlt := Crc.sum_lt l
  obtain ⟨v1, W1, run1, hB1, hO1, hb1⟩ := run_fresh c hb (by omega)
  obtain ⟨q1, h1⟩ : ∃ q, q = Crc.sum l / 16777216 % 256 := ⟨_, rfl⟩
  obtain ⟨q2, h2⟩ : ∃ q, q = Crc.sum l / 65536 % 256 := ⟨_, rfl⟩
  obtain ⟨q3, h3⟩ : ∃ q, q = Crc.sum l / 256 % 256 := ⟨_, rfl⟩
  obtain ⟨q4, h4⟩ : ∃ q, q = Crc.sum l % 256 := ⟨_, rfl⟩
  have hsc := sumBytes_cells l q1 q2 q3 q4 h1 h2 h3 h4
  obtain ⟨v', w', hrun, hB', hG'⟩ := run_append_buf (hB1.alloc (.cells #[.int .u8 (q1 : Int), .int .u8 (q2 : Int), .int .u8 (q3 : Int), .int .u8 (q4 : Int)] 5)) ⟨W1.heap.size, 0, none⟩ 4 4 (sumBytes l) (Num.be_length 4 _) (by omega) (fun i u hu => by
    rw [hsc] at hu
    rw [Addr.add_lit, Nat.zero_add, (Blk.new W1 5 [.int .u8 (q1 : Int), .int .u8 (q2 : Int), .int .u8 (q3 : Int), .int .u8 (q4 : Int)]).cell]
    exact hu) (by omega)
  have hG2 := hG'.alloc _
  have HF : Hid (Buf w' v' (l ++ sumBytes l) ∧ Own w.heap.size v' ∧ Below w.heap.size w w') := ⟨hB', hG2.own hO1 hb1.size, hb1.trans (hG2.below hO1 hb1.size)⟩
  generalize Crc.sum l = S at hs hlt h1 h2 h3 h4
  have e1 : (S : Int) / 16777216 = (q1 : Int) := by omega
  have e2 : (S : Int) / 65536 % 256 = (q2 : Int) := by omega
  have e3 : (S : Int) / 256 % 256 = (q3 : Int) := by omega
  have e4 : (S : Int) % 256 = (q4 : Int) := by omega
  have HS := hid hs
  clear h1 h2 h3 h4 hs hsc hB' hG' hG2 hb hB1 hO1 hb1
  go_enter Tryz.func43, Tryz.ntmps43
  go_wp2_with fail
  refine HS.out.mono ?_
  rintro e w1 ⟨rfl, hw1⟩
  subst hw1
  go_wp2_with (at_builtin; first | refine Lib.wpList_append_run _ rfl _ _ _ _ rfl _ _ rfl rfl _ _ (run1 _) ?_ | refine Lib.wpList_append_run _ rfl _ _ _ _ rfl _ _ rfl rfl _ _ (hrun _) ?_)
  go_ret
  exact ⟨v', rfl, HF.out⟩
end Go.Proofs.YtphbledmopchnaaGreatDoor

/-
  One frame more behind a list of frames.
-/
namespace Go.Proofs.YtphbledmopchnaaGreatDoor
open Go.RowKit Go.Lib Mm

theorem getD_snoc (fs : List Fr) (f : Fr) (j : Nat) (h : j < fs.length) : (fs ++ [f]).getD j fr0 = fs.getD j fr0 := by
  rw [List.getD_eq_getElem?_getD, List.getD_eq_getElem?_getD, List.getElem?_append_left h]
theorem getD_snoc_last (fs : List Fr) (f : Fr) : (fs ++ [f]).getD fs.length fr0 = f := by
  rw [List.getD_eq_getElem?_getD, List.getElem?_append_right (Nat.le_refl _), Nat.sub_self]
  rfl
theorem fcsTo_snoc (fs : List Fr) (f : Fr) (v9 v9' : Nat → Value) : ∀ k, k ≤ fs.length → (∀ j, j < k → v9' j = v9 j) → fcsTo (fs ++ [f]) v9' k = fcsTo fs v9 k
  | 0, _, _ => rfl
  | k + 1, h, e => by
    rw [fcsTo, fcsTo, fcsTo_snoc fs f v9 v9' k (by omega) (fun j hj => e j (by omega)), getD_snoc fs f k (by omega), e k (by omega)]

/-- 'append(l, f)'. -/
theorem push {B : Nat} {wr : World} {s : Value} {fs : List Fr} {v9 : Nat → Value} (hc : CpTo B wr s fs v9 fs.length) (hB : B ≤ wr.heap.size) (hl : fs.length ≤ 1000000000) (f : Fr) (ra : Option Addr) (rc : Nat)
    (hG : GBuf 170 2 wr (.slice ra f.ranges.length rc) f.ranges.length (rcells f.ranges)) (hO : Own B (.slice ra f.ranges.length rc)) (hne : ∀ b, (Value.slice ra f.ranges.length rc).ownBlock = some b → s.ownBlock ≠ some b) :
    ∃ v'' W5, (∀ ty, (Builtin.append_ #[54, 54] ty #[s, .slice (some ⟨wr.heap.size, 0, none⟩) 1 1]).run Tryz.prog (wr.alloc (.cells #[.int .i64 f.kind, .int .i64 f.stream, .int .u64 (f.offset : Int), .int .u64 (f.reliable : Int), .int .u64 (f.limit : Int), .bool f.fin, .int .u64 (f.id : Int), .int .u64 (f.deadline : Int), .string f.data, .slice ra f.ranges.length rc] 65)) = .ok v'' W5) ∧
      CpTo B W5 v'' (fs ++ [f]) (fun j => if j = fs.length then .slice ra f.ranges.length rc else v9 j) (fs.length + 1) ∧ Below B wr W5 := by
  obtain ⟨W4, hW4⟩ : ∃ W4, W4 = wr.alloc (.cells #[.int .i64 f.kind, .int .i64 f.stream, .int .u64 (f.offset : Int), .int .u64 (f.reliable : Int), .int .u64 (f.limit : Int), .bool f.fin, .int .u64 (f.id : Int), .int .u64 (f.deadline : Int), .string f.data, .slice ra f.ranges.length rc] 65) := ⟨_, rfl⟩
  rw [← hW4]
  have hs4 : W4.heap.size = wr.heap.size + 1 := by rw [hW4]; simp
  have hold : ∀ b, b < wr.heap.size → W4.heap[b]? = wr.heap[b]? := fun b hb => by rw [hW4]; exact Below.heap_alloc _ _ _ hb
  have hF4 : Blk W4 wr.heap.size 65 (fcells f (.slice ra f.ranges.length rc)) := by rw [hW4]; exact Blk.new wr 65 _
  have hu3 := hc.buf.lt
  have hbuf4 : GBuf 65 10 W4 s fs.length (fcsTo fs v9 fs.length) := hc.buf.of_heap (fun b hb => hold b (hu3 b hb))
  obtain ⟨v'', W5, hrun2, hG5, hGr5⟩ := run_append_gbuf eltF hbuf4 ⟨wr.heap.size, 0, none⟩ 1 1 (fcells f (.slice ra f.ranges.length rc)) (by simp [fcells]) (by omega) (fcells_one f _ _ _) (fun j u hu => by rw [Addr.add_lit, Nat.zero_add, hF4.cell]; exact hu) (by omega)
  have hb5 : Below B W4 W5 := hGr5.below hc.own (by omega)
  refine ⟨v'', W5, hrun2, ⟨?_, hGr5.own hc.own (by omega), fun j hj => ?_⟩, ?_⟩
  · have e : fcsTo (fs ++ [f]) (fun j => if j = fs.length then .slice ra f.ranges.length rc else v9 j) (fs.length + 1) = fcsTo fs v9 fs.length ++ fcells f (.slice ra f.ranges.length rc) := by
      rw [fcsTo, getD_snoc_last, fcsTo_snoc fs f v9 _ fs.length (Nat.le_refl _) (fun j hj => by rw [if_neg (by omega)]), if_pos rfl]
    rw [e]
    exact hG5
  · by_cases e : j = fs.length
    · subst e
      simp only [if_true]
      rw [getD_snoc_last]
      have hlt := hG.lt
      refine ⟨hG.of_heap (fun b hb => ?_), hO, fun b hb e => ?_⟩
      · have := hlt b hb
        rw [hGr5.1.block b (by omega) (fun e => hne b hb e.symm), hold b this]
      · have := hlt b hb
        rcases hGr5.2 b e with e' | e'
        · exact hne b hb e'
        · omega
    · simp only [if_neg e]
      rw [getD_snoc fs f j (by omega)]
      obtain ⟨r1, r2, r3⟩ := hc.rng j (by omega)
      have hlt := r1.lt
      refine ⟨r1.of_heap (fun b hb => ?_), r2, fun b hb e' => ?_⟩
      · have := hlt b hb
        rw [hGr5.1.block b (by omega) (fun e => r3 b hb e.symm), hold b this]
      · have := hlt b hb
        rcases hGr5.2 b e' with e' | e'
        · exact r3 b hb e'
        · omega
  · have h14 : Below B wr W4 := by
      rw [hW4]
      exact (Below.refl B wr).alloc hB _
    exact h14.trans hb5

theorem rgGo_pos (l : List UInt8) : ∀ (n p lo : Nat) (acc rs : List (Nat × Nat)) (q : Nat), p ≤ l.length → rgGo l n p lo acc = some (rs, q) → p ≤ q ∧ q ≤ l.length
  | 0, p, lo, acc, rs, q, hp, e => by
    rw [rgGo] at e
    simp only [Option.some.injEq, Prod.mk.injEq] at e
    rw [← e.2]
    exact ⟨Nat.le_refl _, hp⟩
  | n + 1, p, lo, acc, rs, q, hp, e => by
    rw [rgGo] at e
    split at e
    · cases e
    · have h1 := rP_le l p hp
      have h2 := rP_le l (rP l p) h1.1
      have := rgGo_pos l n _ _ _ rs q h2.1 e
      omega
end Go.Proofs.YtphbledmopchnaaGreatDoor

/-
  Each frame ends behind where it begins.
-/
namespace Go.Proofs.YtphbledmopchnaaGreatDoor
open Go.RowKit Go.Lib Mm

theorem frFin_some {f g : Fr} {q r : Nat} {bad : Bool} (h : frFin f q bad = some (g, r)) : r = q ∧ bad = false := by
  unfold frFin at h
  cases bad with
  | true => simp at h
  | false =>
    split at h
    · cases h
    · simp only [Option.some.injEq, Prod.mk.injEq] at h
      exact ⟨h.2.symm, rfl⟩
theorem tP_le (l : List UInt8) (p : Nat) (bad : Bool) (hp : p ≤ l.length) (h : tB l p bad = false) : p ≤ tP l p bad ∧ tP l p bad ≤ l.length := by
  have h1 := rP_le l p hp
  unfold tP
  rw [if_neg (by rw [h]; decide)]
  unfold tB at h
  rw [Bool.or_eq_false_iff] at h
  have := of_decide_eq_false h.2
  omega

theorem frD_pos {l : List UInt8} {p q : Nat} {f : Fr} (hp : p < l.length) (h : frD l p = some (f, q)) : p < q ∧ q ≤ l.length := by
  have a1 := rP_le l (p + 1) (by omega)
  have a2 := rP_le l (rP l (p + 1)) a1.1
  have a3 := rP_le l (rP l (rP l (p + 1))) a2.1
  unfold frD at h
  split at h
  · have := frFin_some h; omega
  split at h
  · split at h
    · cases h
    · rename_i rs q' hr
      have h2 := frFin_some h
      unfold rgAll at hr
      split at hr
      · cases hr
      · have := rgGo_pos l _ _ _ _ rs q' a3.1 hr
        omega
  split at h
  · have := frFin_some h; omega
  split at h
  · have h2 := frFin_some h
    have := tP_le l _ _ a2.1 h2.2
    omega
  split at h
  · have h2 := frFin_some h
    have := tP_le l _ _ a2.1 h2.2
    omega
  split at h
  · have := frFin_some h; omega
  split at h
  · have := frFin_some h; omega
  split at h
  · have h2 := frFin_some h
    have := tP_le l _ _ a2.1 h2.2
    omega
  split at h
  · have := frFin_some h; omega
  · cases h

/-- The frames from p on, or where the first lies that is none. -/
def dcGo (l : List UInt8) : Nat → Nat → List Fr → Except Nat (List Fr)
  | 0, _, acc => .ok acc
  | k + 1, p, acc => if p < l.length then (match frD l p with | none => .error p | some (f, q) => dcGo l k q (acc ++ [f])) else .ok acc

theorem dcGo_end {l : List UInt8} {k p : Nat} {acc : List Fr} (h : ¬ p < l.length) : dcGo l k p acc = .ok acc := by
  cases k with
  | zero => rfl
  | succ k => rw [dcGo, if_neg h]
theorem dcGo_none {l : List UInt8} {k p : Nat} {acc : List Fr} (h : p < l.length) (e : frD l p = none) : dcGo l (k + 1) p acc = .error p := by rw [dcGo, if_pos h, e]
theorem dcGo_some {l : List UInt8} {k p q : Nat} {f : Fr} {acc : List Fr} (h : p < l.length) (e : frD l p = some (f, q)) : dcGo l (k + 1) p acc = dcGo l k q (acc ++ [f]) := by rw [dcGo, if_pos h, e]

/-- Where a reader stands, in memory. -/
def posAt (rb : Nat) (w : World) : Nat := match w.cell? ⟨rb, 1, none⟩ with | some (.int _ z) => z.toNat | _ => 0
theorem RRd.posAt {w : World} {rb : Nat} {a : Option Addr} {l : List UInt8} {c p : Nat} {bad : Bool} (h : RRd w rb a l c p bad) : posAt rb w = p := by
  have c1 : w.cell? ⟨rb, 1, none⟩ = some (.int .i64 (p : Int)) := h.blk.cell 1
  unfold Go.Proofs.YtphbledmopchnaaGreatDoor.posAt
  rw [c1]
  simp

set_option maxHeartbeats 4000000 in
set_option maxRecDepth 100000 in
theorem rdecode_short (a : Option Addr) (l : List UInt8) (c : Nat) (w : World) (hl : l.length < 4) :
    Calls Tryz.prog 27 #[.slice a l.length c] w fun e w' => e = .returned (.tuple #[.agg #[.int .u64 0, .slice none 0 0], .int .i64 7, .int .i64 (-1)]) ∧ Below w.heap.size w w' := by
  have hl' : (l.length : Int) < 4 := by omega
  go_enter Tryz.func27, Tryz.ntmps27
  go_wp2_with fail
  exact bodyPost_ret (v := .tuple #[.agg #[.int .u64 0, .slice none 0 0], .int .i64 7, .int .i64 (-1)]) (by simp [results, Tryz.results27, go_sem]) rfl ⟨rfl, (Below.refl _ w).alloc (Nat.le_refl _) _⟩
end Go.Proofs.YtphbledmopchnaaGreatDoor
