import Derived.Test.YtphbledmopchnaaGreatDoorQa
import Derived.Test.YtphbledmopchnaaGreatDoorQb
/-
  The document's numbers, written.
-/
namespace Go.Proofs.YtphbledmopchnaaGreatDoor
open Go.RowKit Go.Lib Mm

theorem digit_low (n c e m : Nat) (h : m < e) : (n + c * 64 * 256 ^ e) / 256 ^ m % 256 = n / 256 ^ m % 256 := by
  obtain ⟨d, rfl⟩ : ∃ d, e = m + 1 + d := ⟨e - m - 1, by omega⟩
  have h1 : c * 64 * 256 ^ (m + 1 + d) = (c * 64 * 256 ^ d * 256) * 256 ^ m := by
    rw [Nat.pow_add, Nat.pow_add, Nat.pow_one, Nat.mul_comm (256 ^ m * 256) (256 ^ d), Nat.mul_comm (256 ^ m) 256, Nat.mul_assoc, Nat.mul_assoc, Nat.mul_assoc, Nat.mul_assoc]
  rw [h1, Nat.add_mul_div_right _ _ (Nat.pow_pos (by decide)), Nat.add_mul_mod_self_right]
theorem digit_high (n c e : Nat) (h : n < 64 * 256 ^ e) (hc : c ≤ 3) : (n + c * 64 * 256 ^ e) / 256 ^ e % 256 = n / 256 ^ e % 256 + c * 64 ∧ n / 256 ^ e < 64 := by
  have hp : 0 < 256 ^ e := Nat.pow_pos (by decide)
  have h1 : n / 256 ^ e < 64 := (Nat.div_lt_iff_lt_mul hp).2 h
  rw [Nat.add_mul_div_right _ _ hp]
  generalize n / 256 ^ e = q at *
  have h2 : q + c * 64 < 256 := by omega
  rw [Nat.mod_eq_of_lt h2, Nat.mod_eq_of_lt (by omega)]
  exact ⟨rfl, h1⟩
theorem div_pow_succ (n t : Nat) : n / 256 ^ (t + 1) = n / 256 ^ t / 256 := by rw [Nat.pow_succ, Nat.div_div_eq_div_mul]

set_option maxHeartbeats 4000000 in
set_option maxRecDepth 100000 in
theorem varint_0 (v : Value) (l : List UInt8) (n : Nat) (w : World) (hb : Buf w v l) (h1 : n < 64) (hl : l.length ≤ 35184372088832) :
    Calls Tryz.prog 92 #[v, .int .u64 (n : Int)] w fun e w' => ∃ v', e = .returned v' ∧ Buf w' v' (l ++ Num.be 1 (n + 0)) ∧ Gr w w' v v' := by
  have HB := hid hb
  clear hb
  have hn64 : n < 64 * 256 ^ 0 := by simpa using h1
  have HHI : Hid ((n + 0) / 256 ^ 0 % 256 = n / 256 ^ 0 % 256 + 0 ∧ n / 256 ^ 0 < 64) := by
    have h := digit_high n 0 0 hn64 (by omega)
    rw [show 0 * 64 * 256 ^ 0 = 0 by decide +kernel] at h
    exact h
  have HLO : Hid (∀ m, m < 0 → (n + 0) / 256 ^ m % 256 = n / 256 ^ m % 256) := fun m hm => by
    have h := digit_low n 0 0 m hm
    rw [show 0 * 64 * 256 ^ 0 = 0 by decide +kernel] at h
    exact h
  have HNB : Hid (n < 18446744073709551616) := by unfold Hid; omega
  have g0 : ¬ (1073741824 ≤ (n : Int)) := by omega
  have g1 : ¬ (16384 ≤ (n : Int)) := by omega
  have g2 : ¬ (64 ≤ (n : Int)) := by omega
  clear hn64 h1
  go_enter Tryz.func92, Tryz.ntmps92
  go_wp2_with fail
  go_loopw [0, 7] (fun s0 s7 wr => ∃ j m : Nat, 1 = j + m ∧ s7 = .int .i64 ((m : Int) - 1) ∧ Hid (Buf wr s0 (l ++ (Num.be 1 (n + 0)).take j)) ∧ Hid (Gr w wr v s0)) (fun _ s7 _ => (intOf s7 + 1).toNat)
  case atStart => exact ⟨0, 1, rfl, by go_num, by unfold Hid; rw [List.take_zero, List.append_nil]; exact HB.out, Gr.refl w v⟩
  case round =>
    obtain ⟨j, m, hjm, rfl, HBr, HGr⟩ := hrel
    cases m with
    | zero =>
      have e0 : ((0 : Nat) : Int) - 1 = -1 := by omega
      rw [e0]
      have HF : Hid (Buf wr u0 (l ++ Num.be 1 (n + 0))) := by
        have := HBr.out
        rw [List.take_of_length_le (by rw [Num.be_length]; omega)] at this
        exact this
      clear HBr hjm
      go_wp2
      go_ret
      exact ⟨_, rfl, HF.out, HGr.out⟩
    | succ m =>
      have e0 : ((m + 1 : Nat) : Int) - 1 = (m : Int) := by omega
      rw [e0]
      have hm : m ≤ 0 := by omega
      have HJ := hid hjm
      clear hjm
      go_wp2_with fail
      go_loop [8, 9] (fun s8 s9 => ∃ t X : Nat, t ≤ m ∧ X < 18446744073709551616 ∧ s8 = .int .u64 (X : Int) ∧ s9 = .int .i64 t ∧ Hid (X = n / 256 ^ t)) (fun _ s9 => m - (intOf s9).toNat)
      case atStart => exact ⟨0, n, Nat.zero_le _, HNB.out, rfl, rfl, by unfold Hid; simp⟩
      case round =>
        obtain ⟨t, X, ht, hX, rfl, rfl, HX⟩ := hrel
        by_cases htm : t < m
        · have htm' : (t : Int) < (m : Int) := by omega
          have HX2 : Hid (X / 256 = n / 256 ^ (t + 1)) := by unfold Hid; rw [div_pow_succ, HX.out]
          have e1 : (X : Int) / 256 = ((X / 256 : Nat) : Int) := by omega
          have hX2 : X / 256 < 18446744073709551616 := by omega
          generalize X / 256 = Y at *
          go_wp2_with fail
          go_round
          case rel => exact ⟨t + 1, Y, by omega, hX2, by go_num, by go_num, HX2⟩
          case measure => simp [intOf]; omega
        · obtain rfl : t = m := by omega
          have hXm := HX.out
          obtain ⟨r, hr⟩ : ∃ r, r = X % 256 := ⟨_, rfl⟩
          have e2 : (X : Int) % 256 = (r : Int) := by omega
          have hr2 : r < 256 := by omega
          have hte : t = 0 := by omega
          have hte' : ((t : Int) == 0) = true := by simp [hte]
          have hcc : r = (n + 0) / 256 ^ t % 256 := by rw [Nat.add_zero, hr, hXm]
          clear hte
          obtain ⟨v', w', hrun, hB', hG'⟩ := round_buf (w := w) (v := v) (l := l) (N := n + 0) (m := t) HJ.out HBr.out HGr.out hl (by omega) ((r : Nat) : Int) (by rw [hcc])
          have HB' := hid hB'
          have HG' := hid hG'
          clear hB' hG' HBr HGr HX hXm hr HHI HLO hcc
          go_wp2_with (at_builtin; refine Lib.wpList_append_run _ rfl _ _ _ _ rfl _ _ rfl rfl _ _ (hrun _) ?_)
          go_roundw
          case rel => first | exact ⟨j + 1, t, by have := HJ.out; omega, by go_num, HB', HG'⟩ | ((repeat apply Exists.intro); exact ⟨⟨j + 1, t, by have := HJ.out; omega, by go_num, HB', HG'⟩, rfl⟩)
          case measure => simp [intOf]

set_option maxHeartbeats 4000000 in
set_option maxRecDepth 100000 in
theorem varint_1 (v : Value) (l : List UInt8) (n : Nat) (w : World) (hb : Buf w v l) (h1 : 64 ≤ n) (h2 : n < 16384) (hl : l.length ≤ 35184372088832) :
    Calls Tryz.prog 92 #[v, .int .u64 (n : Int)] w fun e w' => ∃ v', e = .returned v' ∧ Buf w' v' (l ++ Num.be 2 (n + 16384)) ∧ Gr w w' v v' := by
  have HB := hid hb
  clear hb
  have hn64 : n < 64 * 256 ^ 1 := by omega
  have HHI : Hid ((n + 16384) / 256 ^ 1 % 256 = n / 256 ^ 1 % 256 + 64 ∧ n / 256 ^ 1 < 64) := by
    have h := digit_high n 1 1 hn64 (by omega)
    rw [show 1 * 64 * 256 ^ 1 = 16384 by decide +kernel] at h
    exact h
  have HLO : Hid (∀ m, m < 1 → (n + 16384) / 256 ^ m % 256 = n / 256 ^ m % 256) := fun m hm => by
    have h := digit_low n 1 1 m hm
    rw [show 1 * 64 * 256 ^ 1 = 16384 by decide +kernel] at h
    exact h
  have HNB : Hid (n < 18446744073709551616) := by unfold Hid; omega
  have g0 : ¬ (1073741824 ≤ (n : Int)) := by omega
  have g1 : ¬ (16384 ≤ (n : Int)) := by omega
  have g2 : 64 ≤ (n : Int) := by omega
  clear hn64 h1 h2
  go_enter Tryz.func92, Tryz.ntmps92
  go_wp2_with fail
  go_loopw [0, 7] (fun s0 s7 wr => ∃ j m : Nat, 2 = j + m ∧ s7 = .int .i64 ((m : Int) - 1) ∧ Hid (Buf wr s0 (l ++ (Num.be 2 (n + 16384)).take j)) ∧ Hid (Gr w wr v s0)) (fun _ s7 _ => (intOf s7 + 1).toNat)
  case atStart => exact ⟨0, 2, rfl, by go_num, by unfold Hid; rw [List.take_zero, List.append_nil]; exact HB.out, Gr.refl w v⟩
  case round =>
    obtain ⟨j, m, hjm, rfl, HBr, HGr⟩ := hrel
    cases m with
    | zero =>
      have e0 : ((0 : Nat) : Int) - 1 = -1 := by omega
      rw [e0]
      have HF : Hid (Buf wr u0 (l ++ Num.be 2 (n + 16384))) := by
        have := HBr.out
        rw [List.take_of_length_le (by rw [Num.be_length]; omega)] at this
        exact this
      clear HBr hjm
      go_wp2
      go_ret
      exact ⟨_, rfl, HF.out, HGr.out⟩
    | succ m =>
      have e0 : ((m + 1 : Nat) : Int) - 1 = (m : Int) := by omega
      rw [e0]
      have hm : m ≤ 1 := by omega
      have HJ := hid hjm
      clear hjm
      go_wp2_with fail
      go_loop [8, 9] (fun s8 s9 => ∃ t X : Nat, t ≤ m ∧ X < 18446744073709551616 ∧ s8 = .int .u64 (X : Int) ∧ s9 = .int .i64 t ∧ Hid (X = n / 256 ^ t)) (fun _ s9 => m - (intOf s9).toNat)
      case atStart => exact ⟨0, n, Nat.zero_le _, HNB.out, rfl, rfl, by unfold Hid; simp⟩
      case round =>
        obtain ⟨t, X, ht, hX, rfl, rfl, HX⟩ := hrel
        by_cases htm : t < m
        · have htm' : (t : Int) < (m : Int) := by omega
          have HX2 : Hid (X / 256 = n / 256 ^ (t + 1)) := by unfold Hid; rw [div_pow_succ, HX.out]
          have e1 : (X : Int) / 256 = ((X / 256 : Nat) : Int) := by omega
          have hX2 : X / 256 < 18446744073709551616 := by omega
          generalize X / 256 = Y at *
          go_wp2_with fail
          go_round
          case rel => exact ⟨t + 1, Y, by omega, hX2, by go_num, by go_num, HX2⟩
          case measure => simp [intOf]; omega
        · obtain rfl : t = m := by omega
          have hXm := HX.out
          obtain ⟨r, hr⟩ : ∃ r, r = X % 256 := ⟨_, rfl⟩
          have e2 : (X : Int) % 256 = (r : Int) := by omega
          have hr2 : r < 256 := by omega
          by_cases hte : t = 1
          · have hte' : ((t : Int) == 1) = true := by simp [hte]
            have hcc : r + 64 = (n + 16384) / 256 ^ t % 256 := by
              have := HHI.out
              rw [hte] at hXm
              rw [hte, hr, hXm]
              omega
            have hc2 : r + 64 < 256 := by rw [hcc]; exact Nat.mod_lt _ (by decide)
            have e3 : (r : Int) + 64 = ((r + 64 : Nat) : Int) := by omega
            generalize r + 64 = cc at *
            clear hte
            obtain ⟨v', w', hrun, hB', hG'⟩ := round_buf (w := w) (v := v) (l := l) (N := n + 16384) (m := t) HJ.out HBr.out HGr.out hl (by omega) ((cc : Nat) : Int) (by rw [hcc])
            have HB' := hid hB'
            have HG' := hid hG'
            clear hB' hG' HBr HGr HX hXm hr HHI HLO hcc
            go_wp2_with (at_builtin; refine Lib.wpList_append_run _ rfl _ _ _ _ rfl _ _ rfl rfl _ _ (hrun _) ?_)
            go_roundw
            case rel => first | exact ⟨j + 1, t, by have := HJ.out; omega, by go_num, HB', HG'⟩ | ((repeat apply Exists.intro); exact ⟨⟨j + 1, t, by have := HJ.out; omega, by go_num, HB', HG'⟩, rfl⟩)
            case measure => simp [intOf]
          · have hte' : ((t : Int) == 1) = false := by simp; omega
            have hcc : r = (n + 16384) / 256 ^ t % 256 := by rw [HLO.out t (by omega), hr, hXm]
            clear hte
            obtain ⟨v', w', hrun, hB', hG'⟩ := round_buf (w := w) (v := v) (l := l) (N := n + 16384) (m := t) HJ.out HBr.out HGr.out hl (by omega) ((r : Nat) : Int) (by rw [hcc])
            have HB' := hid hB'
            have HG' := hid hG'
            clear hB' hG' HBr HGr HX hXm hr HHI HLO hcc
            go_wp2_with (at_builtin; refine Lib.wpList_append_run _ rfl _ _ _ _ rfl _ _ rfl rfl _ _ (hrun _) ?_)
            go_roundw
            case rel => first | exact ⟨j + 1, t, by have := HJ.out; omega, by go_num, HB', HG'⟩ | ((repeat apply Exists.intro); exact ⟨⟨j + 1, t, by have := HJ.out; omega, by go_num, HB', HG'⟩, rfl⟩)
            case measure => simp [intOf]

set_option maxHeartbeats 4000000 in
set_option maxRecDepth 100000 in
theorem varint_2 (v : Value) (l : List UInt8) (n : Nat) (w : World) (hb : Buf w v l) (h1 : 16384 ≤ n) (h2 : n < 1073741824) (hl : l.length ≤ 35184372088832) :
    Calls Tryz.prog 92 #[v, .int .u64 (n : Int)] w fun e w' => ∃ v', e = .returned v' ∧ Buf w' v' (l ++ Num.be 4 (n + 2147483648)) ∧ Gr w w' v v' := by
  have HB := hid hb
  clear hb
  have hn64 : n < 64 * 256 ^ 3 := by omega
  have HHI : Hid ((n + 2147483648) / 256 ^ 3 % 256 = n / 256 ^ 3 % 256 + 128 ∧ n / 256 ^ 3 < 64) := by
    have h := digit_high n 2 3 hn64 (by omega)
    rw [show 2 * 64 * 256 ^ 3 = 2147483648 by decide +kernel] at h
    exact h
  have HLO : Hid (∀ m, m < 3 → (n + 2147483648) / 256 ^ m % 256 = n / 256 ^ m % 256) := fun m hm => by
    have h := digit_low n 2 3 m hm
    rw [show 2 * 64 * 256 ^ 3 = 2147483648 by decide +kernel] at h
    exact h
  have HNB : Hid (n < 18446744073709551616) := by unfold Hid; omega
  have g0 : ¬ (1073741824 ≤ (n : Int)) := by omega
  have g1 : 16384 ≤ (n : Int) := by omega
  clear hn64 h1 h2
  go_enter Tryz.func92, Tryz.ntmps92
  go_wp2_with fail
  go_loopw [0, 7] (fun s0 s7 wr => ∃ j m : Nat, 4 = j + m ∧ s7 = .int .i64 ((m : Int) - 1) ∧ Hid (Buf wr s0 (l ++ (Num.be 4 (n + 2147483648)).take j)) ∧ Hid (Gr w wr v s0)) (fun _ s7 _ => (intOf s7 + 1).toNat)
  case atStart => exact ⟨0, 4, rfl, by go_num, by unfold Hid; rw [List.take_zero, List.append_nil]; exact HB.out, Gr.refl w v⟩
  case round =>
    obtain ⟨j, m, hjm, rfl, HBr, HGr⟩ := hrel
    cases m with
    | zero =>
      have e0 : ((0 : Nat) : Int) - 1 = -1 := by omega
      rw [e0]
      have HF : Hid (Buf wr u0 (l ++ Num.be 4 (n + 2147483648))) := by
        have := HBr.out
        rw [List.take_of_length_le (by rw [Num.be_length]; omega)] at this
        exact this
      clear HBr hjm
      go_wp2
      go_ret
      exact ⟨_, rfl, HF.out, HGr.out⟩
    | succ m =>
      have e0 : ((m + 1 : Nat) : Int) - 1 = (m : Int) := by omega
      rw [e0]
      have hm : m ≤ 3 := by omega
      have HJ := hid hjm
      clear hjm
      go_wp2_with fail
      go_loop [8, 9] (fun s8 s9 => ∃ t X : Nat, t ≤ m ∧ X < 18446744073709551616 ∧ s8 = .int .u64 (X : Int) ∧ s9 = .int .i64 t ∧ Hid (X = n / 256 ^ t)) (fun _ s9 => m - (intOf s9).toNat)
      case atStart => exact ⟨0, n, Nat.zero_le _, HNB.out, rfl, rfl, by unfold Hid; simp⟩
      case round =>
        obtain ⟨t, X, ht, hX, rfl, rfl, HX⟩ := hrel
        by_cases htm : t < m
        · have htm' : (t : Int) < (m : Int) := by omega
          have HX2 : Hid (X / 256 = n / 256 ^ (t + 1)) := by unfold Hid; rw [div_pow_succ, HX.out]
          have e1 : (X : Int) / 256 = ((X / 256 : Nat) : Int) := by omega
          have hX2 : X / 256 < 18446744073709551616 := by omega
          generalize X / 256 = Y at *
          go_wp2_with fail
          go_round
          case rel => exact ⟨t + 1, Y, by omega, hX2, by go_num, by go_num, HX2⟩
          case measure => simp [intOf]; omega
        · obtain rfl : t = m := by omega
          have hXm := HX.out
          obtain ⟨r, hr⟩ : ∃ r, r = X % 256 := ⟨_, rfl⟩
          have e2 : (X : Int) % 256 = (r : Int) := by omega
          have hr2 : r < 256 := by omega
          by_cases hte : t = 3
          · have hte' : ((t : Int) == 3) = true := by simp [hte]
            have hcc : r + 128 = (n + 2147483648) / 256 ^ t % 256 := by
              have := HHI.out
              rw [hte] at hXm
              rw [hte, hr, hXm]
              omega
            have hc2 : r + 128 < 256 := by rw [hcc]; exact Nat.mod_lt _ (by decide)
            have e3 : (r : Int) + 128 = ((r + 128 : Nat) : Int) := by omega
            generalize r + 128 = cc at *
            clear hte
            obtain ⟨v', w', hrun, hB', hG'⟩ := round_buf (w := w) (v := v) (l := l) (N := n + 2147483648) (m := t) HJ.out HBr.out HGr.out hl (by omega) ((cc : Nat) : Int) (by rw [hcc])
            have HB' := hid hB'
            have HG' := hid hG'
            clear hB' hG' HBr HGr HX hXm hr HHI HLO hcc
            go_wp2_with (at_builtin; refine Lib.wpList_append_run _ rfl _ _ _ _ rfl _ _ rfl rfl _ _ (hrun _) ?_)
            go_roundw
            case rel => first | exact ⟨j + 1, t, by have := HJ.out; omega, by go_num, HB', HG'⟩ | ((repeat apply Exists.intro); exact ⟨⟨j + 1, t, by have := HJ.out; omega, by go_num, HB', HG'⟩, rfl⟩)
            case measure => simp [intOf]
          · have hte' : ((t : Int) == 3) = false := by simp; omega
            have hcc : r = (n + 2147483648) / 256 ^ t % 256 := by rw [HLO.out t (by omega), hr, hXm]
            clear hte
            obtain ⟨v', w', hrun, hB', hG'⟩ := round_buf (w := w) (v := v) (l := l) (N := n + 2147483648) (m := t) HJ.out HBr.out HGr.out hl (by omega) ((r : Nat) : Int) (by rw [hcc])
            have HB' := hid hB'
            have HG' := hid hG'
            clear hB' hG' HBr HGr HX hXm hr HHI HLO hcc
            go_wp2_with (at_builtin; refine Lib.wpList_append_run _ rfl _ _ _ _ rfl _ _ rfl rfl _ _ (hrun _) ?_)
            go_roundw
            case rel => first | exact ⟨j + 1, t, by have := HJ.out; omega, by go_num, HB', HG'⟩ | ((repeat apply Exists.intro); exact ⟨⟨j + 1, t, by have := HJ.out; omega, by go_num, HB', HG'⟩, rfl⟩)
            case measure => simp [intOf]

set_option maxHeartbeats 4000000 in
set_option maxRecDepth 100000 in
theorem varint_3 (v : Value) (l : List UInt8) (n : Nat) (w : World) (hb : Buf w v l) (h1 : 1073741824 ≤ n) (h2 : n < 4611686018427387904) (hl : l.length ≤ 35184372088832) :
    Calls Tryz.prog 92 #[v, .int .u64 (n : Int)] w fun e w' => ∃ v', e = .returned v' ∧ Buf w' v' (l ++ Num.be 8 (n + 13835058055282163712)) ∧ Gr w w' v v' := by
  have HB := hid hb
  clear hb
  have hn64 : n < 64 * 256 ^ 7 := by omega
  have HHI : Hid ((n + 13835058055282163712) / 256 ^ 7 % 256 = n / 256 ^ 7 % 256 + 192 ∧ n / 256 ^ 7 < 64) := by
    have h := digit_high n 3 7 hn64 (by omega)
    rw [show 3 * 64 * 256 ^ 7 = 13835058055282163712 by decide +kernel] at h
    exact h
  have HLO : Hid (∀ m, m < 7 → (n + 13835058055282163712) / 256 ^ m % 256 = n / 256 ^ m % 256) := fun m hm => by
    have h := digit_low n 3 7 m hm
    rw [show 3 * 64 * 256 ^ 7 = 13835058055282163712 by decide +kernel] at h
    exact h
  have HNB : Hid (n < 18446744073709551616) := by unfold Hid; omega
  have g0 : 1073741824 ≤ (n : Int) := by omega
  clear hn64 h1 h2
  go_enter Tryz.func92, Tryz.ntmps92
  go_wp2_with fail
  go_loopw [0, 7] (fun s0 s7 wr => ∃ j m : Nat, 8 = j + m ∧ s7 = .int .i64 ((m : Int) - 1) ∧ Hid (Buf wr s0 (l ++ (Num.be 8 (n + 13835058055282163712)).take j)) ∧ Hid (Gr w wr v s0)) (fun _ s7 _ => (intOf s7 + 1).toNat)
  case atStart => exact ⟨0, 8, rfl, by go_num, by unfold Hid; rw [List.take_zero, List.append_nil]; exact HB.out, Gr.refl w v⟩
  case round =>
    obtain ⟨j, m, hjm, rfl, HBr, HGr⟩ := hrel
    cases m with
    | zero =>
      have e0 : ((0 : Nat) : Int) - 1 = -1 := by omega
      rw [e0]
      have HF : Hid (Buf wr u0 (l ++ Num.be 8 (n + 13835058055282163712))) := by
        have := HBr.out
        rw [List.take_of_length_le (by rw [Num.be_length]; omega)] at this
        exact this
      clear HBr hjm
      go_wp2
      go_ret
      exact ⟨_, rfl, HF.out, HGr.out⟩
    | succ m =>
      have e0 : ((m + 1 : Nat) : Int) - 1 = (m : Int) := by omega
      rw [e0]
      have hm : m ≤ 7 := by omega
      have HJ := hid hjm
      clear hjm
      go_wp2_with fail
      go_loop [8, 9] (fun s8 s9 => ∃ t X : Nat, t ≤ m ∧ X < 18446744073709551616 ∧ s8 = .int .u64 (X : Int) ∧ s9 = .int .i64 t ∧ Hid (X = n / 256 ^ t)) (fun _ s9 => m - (intOf s9).toNat)
      case atStart => exact ⟨0, n, Nat.zero_le _, HNB.out, rfl, rfl, by unfold Hid; simp⟩
      case round =>
        obtain ⟨t, X, ht, hX, rfl, rfl, HX⟩ := hrel
        by_cases htm : t < m
        · have htm' : (t : Int) < (m : Int) := by omega
          have HX2 : Hid (X / 256 = n / 256 ^ (t + 1)) := by unfold Hid; rw [div_pow_succ, HX.out]
          have e1 : (X : Int) / 256 = ((X / 256 : Nat) : Int) := by omega
          have hX2 : X / 256 < 18446744073709551616 := by omega
          generalize X / 256 = Y at *
          go_wp2_with fail
          go_round
          case rel => exact ⟨t + 1, Y, by omega, hX2, by go_num, by go_num, HX2⟩
          case measure => simp [intOf]; omega
        · obtain rfl : t = m := by omega
          have hXm := HX.out
          obtain ⟨r, hr⟩ : ∃ r, r = X % 256 := ⟨_, rfl⟩
          have e2 : (X : Int) % 256 = (r : Int) := by omega
          have hr2 : r < 256 := by omega
          by_cases hte : t = 7
          · have hte' : ((t : Int) == 7) = true := by simp [hte]
            have hcc : r + 192 = (n + 13835058055282163712) / 256 ^ t % 256 := by
              have := HHI.out
              rw [hte] at hXm
              rw [hte, hr, hXm]
              omega
            have hc2 : r + 192 < 256 := by rw [hcc]; exact Nat.mod_lt _ (by decide)
            have e3 : (r : Int) + 192 = ((r + 192 : Nat) : Int) := by omega
            generalize r + 192 = cc at *
            clear hte
            obtain ⟨v', w', hrun, hB', hG'⟩ := round_buf (w := w) (v := v) (l := l) (N := n + 13835058055282163712) (m := t) HJ.out HBr.out HGr.out hl (by omega) ((cc : Nat) : Int) (by rw [hcc])
            have HB' := hid hB'
            have HG' := hid hG'
            clear hB' hG' HBr HGr HX hXm hr HHI HLO hcc
            go_wp2_with (at_builtin; refine Lib.wpList_append_run _ rfl _ _ _ _ rfl _ _ rfl rfl _ _ (hrun _) ?_)
            go_roundw
            case rel => first | exact ⟨j + 1, t, by have := HJ.out; omega, by go_num, HB', HG'⟩ | ((repeat apply Exists.intro); exact ⟨⟨j + 1, t, by have := HJ.out; omega, by go_num, HB', HG'⟩, rfl⟩)
            case measure => simp [intOf]
          · have hte' : ((t : Int) == 7) = false := by simp; omega
            have hcc : r = (n + 13835058055282163712) / 256 ^ t % 256 := by rw [HLO.out t (by omega), hr, hXm]
            clear hte
            obtain ⟨v', w', hrun, hB', hG'⟩ := round_buf (w := w) (v := v) (l := l) (N := n + 13835058055282163712) (m := t) HJ.out HBr.out HGr.out hl (by omega) ((r : Nat) : Int) (by rw [hcc])
            have HB' := hid hB'
            have HG' := hid hG'
            clear hB' hG' HBr HGr HX hXm hr HHI HLO hcc
            go_wp2_with (at_builtin; refine Lib.wpList_append_run _ rfl _ _ _ _ rfl _ _ rfl rfl _ _ (hrun _) ?_)
            go_roundw
            case rel => first | exact ⟨j + 1, t, by have := HJ.out; omega, by go_num, HB', HG'⟩ | ((repeat apply Exists.intro); exact ⟨⟨j + 1, t, by have := HJ.out; omega, by go_num, HB', HG'⟩, rfl⟩)
            case measure => simp [intOf]

theorem varint_any (v : Value) (l : List UInt8) (n : Nat) (w : World) (hb : Buf w v l) (hn : n < 4611686018427387904) (hl : l.length ≤ 35184372088832) :
    Calls Tryz.prog 92 #[v, .int .u64 (n : Int)] w fun e w' => ∃ v', e = .returned v' ∧ Buf w' v' (l ++ Num.bytes n) ∧ Gr w w' v v' := by
  unfold Num.bytes Num.code
  by_cases h1 : n < 64
  · rw [if_pos h1]; exact varint_0 v l n w hb h1 hl
  · rw [if_neg h1]
    by_cases h2 : n < 16384
    · rw [if_pos h2]; exact varint_1 v l n w hb (by omega) h2 hl
    · rw [if_neg h2]
      by_cases h3 : n < 1073741824
      · rw [if_pos h3]; exact varint_2 v l n w hb (by omega) h3 hl
      · rw [if_neg h3]; exact varint_3 v l n w hb (by omega) hn hl

end Go.Proofs.YtphbledmopchnaaGreatDoor

/-
  The document's frames, written (but for Acks).
-/
namespace Go.Proofs.YtphbledmopchnaaGreatDoor
open Go.RowKit Go.Lib Mm

/-- How far a frame has been written: its cells lie in block fb. -/
structure WrSt (w : World) (v : Value) (fb : Nat) (cs : List Value) (W : World) (v' : Value) (l' : List UInt8) : Prop where
  buf : Buf W v' l'
  gr : Gr w W v v'
  fr : Blk W fb 65 cs
  ne : v'.ownBlock ≠ some fb

theorem WrSt.grow {w : World} {v : Value} {fb : Nat} {cs : List Value} {W W' : World} {v' v'' : Value} {l' l'' : List UInt8} (h : WrSt w v fb cs W v' l') (hb : Buf W' v'' l'') (hg : Gr W W' v' v'') : WrSt w v fb cs W' v'' l'' := by
  refine ⟨hb, h.gr.trans hg, h.fr.of_heap (hg.1.block fb h.fr.lt (fun e => h.ne e.symm)), fun e => ?_⟩
  rcases hg.2 fb e with e' | e'
  · exact h.ne e'
  · have := h.fr.lt; omega

theorem WrSt.num {w : World} {v : Value} {fb : Nat} {cs : List Value} {W : World} {v' : Value} {l' : List UInt8} (h : WrSt w v fb cs W v' l') (n : Nat) (hn : n < 4611686018427387904) (hl : l'.length ≤ 35184372088832) :
    Calls Tryz.prog 92 #[v', .int .u64 (n : Int)] W fun e W' => ∃ v'', e = .returned v'' ∧ WrSt w v fb cs W' v'' (l' ++ Num.bytes n) := by
  refine (varint_any v' l' n W h.buf hn hl).mono ?_
  rintro e W' ⟨v'', rfl, hb, hg⟩
  exact ⟨v'', rfl, h.grow hb hg⟩

theorem WrSt.byte {w : World} {v : Value} {fb : Nat} {cs : List Value} {W : World} {v' : Value} {l' : List UInt8} (h : WrSt w v fb cs W v' l') (b : Nat) (bi : Int) (hbi : bi = (b : Int)) (hb : b < 256) (hl : l'.length ≤ 35184372088832) :
    ∃ v'' W', (∀ ty, (Builtin.append_ #[60, 60] ty #[v', .slice (some ⟨W.heap.size, 0, none⟩) 1 1]).run Tryz.prog (W.alloc (.cells #[.int .u8 bi] 5)) = .ok v'' W') ∧ WrSt w v fb cs W' v'' (l' ++ [UInt8.ofNat b]) := by
  subst hbi
  obtain ⟨v'', W', h1, h2, h3⟩ := run_append_buf (h.buf.alloc (.cells #[.int .u8 (b : Int)] 5)) ⟨W.heap.size, 0, none⟩ 1 1 [UInt8.ofNat b] rfl (by omega) (fun i u hu => by
    rw [Addr.add_lit, Nat.zero_add, (Blk.new W 5 [.int .u8 (b : Int)]).cell]
    rw [← hu]
    simp [bcells, UInt8.toNat_ofNat_of_lt' hb]) (by omega)
  exact ⟨v'', W', h1, h.grow h2 (Gr.alloc _ h3)⟩

theorem WrSt.text {w : World} {v : Value} {fb : Nat} {cs : List Value} {W : World} {v' : Value} {l' : List UInt8} (h : WrSt w v fb cs W v' l') (s : ByteArray) (h0 : 0 < l'.length) (hl : l'.length ≤ 35184372088832) (hs : s.size ≤ 1000000000) :
    ∃ v'' W', (∀ ty, (Builtin.append_ #[60, 9] ty #[v', .string s]).run Tryz.prog W = .ok v'' W') ∧ WrSt w v fb cs W' v'' (l' ++ s.data.toList) := by
  obtain ⟨v'', W', h1, h2, h3⟩ := run_append_str h.buf h0 s (by omega)
  exact ⟨v'', W', h1, h.grow h2 h3⟩

theorem num_len (n : Nat) : (Num.bytes n).length ≤ 8 := bytes_le n

set_option maxHeartbeats 1000000 in
set_option maxRecDepth 100000 in
theorem written_1 (v : Value) (l : List UInt8) (stream offset reliable limit : Nat) (fin : Bool) (id deadline : Nat) (data : ByteArray) (ra : Option Addr) (rl rc : Nat) (w : World) (hb : Buf w v l) (hl : l.length ≤ 30000000000000) (hs8 : stream < 8)
    (h1 : offset < 4611686018427387904) (h2 : reliable < 4611686018427387904) (h3 : limit < 4611686018427387904) (h4 : id < 4611686018427387904) (h5 : deadline < 4611686018427387904) (h6 : data.size ≤ 1000000000) :
    Calls Tryz.prog 93 #[v, .agg #[.int .i64 1, .int .i64 (stream : Int), .int .u64 (offset : Int), .int .u64 (reliable : Int), .int .u64 (limit : Int), .bool fin, .int .u64 (id : Int), .int .u64 (deadline : Int), .string data, .slice ra rl rc]] w fun e w' => ∃ v', e = .returned v' ∧ Buf w' v' (l ++ [UInt8.ofNat 1]) ∧ Gr w w' v v' := by
  obtain ⟨W0, hW0⟩ : ∃ W0, W0 = w.alloc (.cells #[.int .i64 1, .int .i64 (stream : Int), .int .u64 (offset : Int), .int .u64 (reliable : Int), .int .u64 (limit : Int), .bool fin, .int .u64 (id : Int), .int .u64 (deadline : Int), .string data, .slice ra rl rc] 65) := ⟨_, rfl⟩
  have hg0 : Gr w W0 v v := by rw [hW0]; exact Gr.alloc _ (Gr.refl _ v)
  have hlt := hb.lt
  have st0 : WrSt w v w.heap.size [.int .i64 1, .int .i64 (stream : Int), .int .u64 (offset : Int), .int .u64 (reliable : Int), .int .u64 (limit : Int), .bool fin, .int .u64 (id : Int), .int .u64 (deadline : Int), .string data, .slice ra rl rc] W0 v l := ⟨by rw [hW0]; exact hb.alloc _, hg0, by rw [hW0]; exact Blk.new w 65 _, fun e => by have := hlt _ e; omega⟩
  obtain ⟨v1, W1, run1, st1⟩ := st0.byte 1 1 rfl (by omega) (by omega)
  rw [hW0, World.size_alloc] at run1
  have HS := hid st1
  have HX := hid (And.intro hs8 (And.intro h1 (And.intro h2 (And.intro h3 (And.intro h4 (And.intro h5 (And.intro h6 hl)))))))
  have hst : IntKind.u64.wrap (stream : Int) = (stream : Int) := by rw [IntKind.wrap_u64]; omega
  have hsz : IntKind.u64.wrap (data.size : Int) = (data.size : Int) := by rw [IntKind.wrap_u64]; omega
  have hl1 : (l ++ [UInt8.ofNat 1]).length = l.length + 1 := by simp
  clear st0 st1 hg0 hb hlt hs8 h1 h2 h3 h4 h5 h6 hl
  subst hW0
  go_enter Tryz.func93, Tryz.ntmps93
  go_wp2_with (at_builtin; refine Lib.wpList_append_run _ rfl _ _ _ _ rfl _ _ rfl rfl _ _ (run1 _) ?_)
  go_ret
  exact ⟨v1, rfl, HS.out.buf, HS.out.gr⟩

set_option maxHeartbeats 1000000 in
set_option maxRecDepth 100000 in
theorem written_3 (v : Value) (l : List UInt8) (stream offset reliable limit : Nat) (fin : Bool) (id deadline : Nat) (data : ByteArray) (ra : Option Addr) (rl rc : Nat) (w : World) (hb : Buf w v l) (hl : l.length ≤ 30000000000000) (hs8 : stream < 8)
    (h1 : offset < 4611686018427387904) (h2 : reliable < 4611686018427387904) (h3 : limit < 4611686018427387904) (h4 : id < 4611686018427387904) (h5 : deadline < 4611686018427387904) (h6 : data.size ≤ 1000000000) :
    Calls Tryz.prog 93 #[v, .agg #[.int .i64 3, .int .i64 (stream : Int), .int .u64 (offset : Int), .int .u64 (reliable : Int), .int .u64 (limit : Int), .bool fin, .int .u64 (id : Int), .int .u64 (deadline : Int), .string data, .slice ra rl rc]] w fun e w' => ∃ v', e = .returned v' ∧ Buf w' v' (l ++ [UInt8.ofNat 36] ++ Num.bytes stream ++ Num.bytes offset ++ Num.bytes reliable) ∧ Gr w w' v v' := by
  obtain ⟨W0, hW0⟩ : ∃ W0, W0 = w.alloc (.cells #[.int .i64 3, .int .i64 (stream : Int), .int .u64 (offset : Int), .int .u64 (reliable : Int), .int .u64 (limit : Int), .bool fin, .int .u64 (id : Int), .int .u64 (deadline : Int), .string data, .slice ra rl rc] 65) := ⟨_, rfl⟩
  have hg0 : Gr w W0 v v := by rw [hW0]; exact Gr.alloc _ (Gr.refl _ v)
  have hlt := hb.lt
  have st0 : WrSt w v w.heap.size [.int .i64 3, .int .i64 (stream : Int), .int .u64 (offset : Int), .int .u64 (reliable : Int), .int .u64 (limit : Int), .bool fin, .int .u64 (id : Int), .int .u64 (deadline : Int), .string data, .slice ra rl rc] W0 v l := ⟨by rw [hW0]; exact hb.alloc _, hg0, by rw [hW0]; exact Blk.new w 65 _, fun e => by have := hlt _ e; omega⟩
  obtain ⟨v1, W1, run1, st1⟩ := st0.byte 36 36 rfl (by omega) (by omega)
  rw [hW0, World.size_alloc] at run1
  have HS := hid st1
  have HX := hid (And.intro hs8 (And.intro h1 (And.intro h2 (And.intro h3 (And.intro h4 (And.intro h5 (And.intro h6 hl)))))))
  have hst : IntKind.u64.wrap (stream : Int) = (stream : Int) := by rw [IntKind.wrap_u64]; omega
  have hsz : IntKind.u64.wrap (data.size : Int) = (data.size : Int) := by rw [IntKind.wrap_u64]; omega
  have hl1 : (l ++ [UInt8.ofNat 36]).length = l.length + 1 := by simp
  have sx : W1.cell? ⟨w.heap.size, 1, none⟩ = some (.int .i64 (stream : Int)) := st1.fr.cell 1
  have ox : W1.cell? ⟨w.heap.size, 2, none⟩ = some (.int .u64 (offset : Int)) := st1.fr.cell 2
  have rx : W1.cell? ⟨w.heap.size, 3, none⟩ = some (.int .u64 (reliable : Int)) := st1.fr.cell 3
  clear st0 st1 hg0 hb hlt hs8 h1 h2 h3 h4 h5 h6 hl
  subst hW0
  go_enter Tryz.func93, Tryz.ntmps93
  go_wp2_with (at_builtin; refine Lib.wpList_append_run _ rfl _ _ _ _ rfl _ _ rfl rfl _ _ (run1 _) ?_)
  refine (HS.out.num stream (by have := HX.out.1; omega) (by obtain ⟨_, _, _, _, _, _, _, q9⟩ := HX.out; have := num_len stream; have := num_len offset; have := num_len id; have := num_len deadline; have := num_len reliable; simp only [List.length_append, List.length_cons, List.length_nil]; omega)).mono ?_
  rintro e W2 ⟨v2, rfl, st2⟩
  clear sx
  clear ox
  clear rx
  have sx : W2.cell? ⟨w.heap.size, 1, none⟩ = some (.int .i64 (stream : Int)) := st2.fr.cell 1
  have ox : W2.cell? ⟨w.heap.size, 2, none⟩ = some (.int .u64 (offset : Int)) := st2.fr.cell 2
  have rx : W2.cell? ⟨w.heap.size, 3, none⟩ = some (.int .u64 (reliable : Int)) := st2.fr.cell 3
  replace HS := hid st2
  clear st2
  go_wp2_with fail
  refine (HS.out.num offset (HX.out.2.1) (by obtain ⟨_, _, _, _, _, _, _, q9⟩ := HX.out; have := num_len stream; have := num_len offset; have := num_len id; have := num_len deadline; have := num_len reliable; simp only [List.length_append, List.length_cons, List.length_nil]; omega)).mono ?_
  rintro e W3 ⟨v3, rfl, st3⟩
  clear sx
  clear ox
  clear rx
  have sx : W3.cell? ⟨w.heap.size, 1, none⟩ = some (.int .i64 (stream : Int)) := st3.fr.cell 1
  have ox : W3.cell? ⟨w.heap.size, 2, none⟩ = some (.int .u64 (offset : Int)) := st3.fr.cell 2
  have rx : W3.cell? ⟨w.heap.size, 3, none⟩ = some (.int .u64 (reliable : Int)) := st3.fr.cell 3
  replace HS := hid st3
  clear st3
  go_wp2_with fail
  refine (HS.out.num reliable (HX.out.2.2.1) (by obtain ⟨_, _, _, _, _, _, _, q9⟩ := HX.out; have := num_len stream; have := num_len offset; have := num_len id; have := num_len deadline; have := num_len reliable; simp only [List.length_append, List.length_cons, List.length_nil]; omega)).mono ?_
  rintro e W4 ⟨v4, rfl, st4⟩
  clear sx
  clear ox
  clear rx
  replace HS := hid st4
  clear st4
  go_wp2_with fail
  go_ret
  exact ⟨v4, rfl, HS.out.buf, HS.out.gr⟩

set_option maxHeartbeats 1000000 in
set_option maxRecDepth 100000 in
theorem written_4f (v : Value) (l : List UInt8) (stream offset reliable limit : Nat) (id deadline : Nat) (data : ByteArray) (ra : Option Addr) (rl rc : Nat) (w : World) (hb : Buf w v l) (hl : l.length ≤ 30000000000000) (hs8 : stream < 8)
    (h1 : offset < 4611686018427387904) (h2 : reliable < 4611686018427387904) (h3 : limit < 4611686018427387904) (h4 : id < 4611686018427387904) (h5 : deadline < 4611686018427387904) (h6 : data.size ≤ 1000000000) :
    Calls Tryz.prog 93 #[v, .agg #[.int .i64 4, .int .i64 (stream : Int), .int .u64 (offset : Int), .int .u64 (reliable : Int), .int .u64 (limit : Int), .bool false, .int .u64 (id : Int), .int .u64 (deadline : Int), .string data, .slice ra rl rc]] w fun e w' => ∃ v', e = .returned v' ∧ Buf w' v' (l ++ [UInt8.ofNat 8] ++ Num.bytes stream ++ Num.bytes offset ++ Num.bytes data.size ++ data.data.toList) ∧ Gr w w' v v' := by
  obtain ⟨W0, hW0⟩ : ∃ W0, W0 = w.alloc (.cells #[.int .i64 4, .int .i64 (stream : Int), .int .u64 (offset : Int), .int .u64 (reliable : Int), .int .u64 (limit : Int), .bool false, .int .u64 (id : Int), .int .u64 (deadline : Int), .string data, .slice ra rl rc] 65) := ⟨_, rfl⟩
  have hg0 : Gr w W0 v v := by rw [hW0]; exact Gr.alloc _ (Gr.refl _ v)
  have hlt := hb.lt
  have st0 : WrSt w v w.heap.size [.int .i64 4, .int .i64 (stream : Int), .int .u64 (offset : Int), .int .u64 (reliable : Int), .int .u64 (limit : Int), .bool false, .int .u64 (id : Int), .int .u64 (deadline : Int), .string data, .slice ra rl rc] W0 v l := ⟨by rw [hW0]; exact hb.alloc _, hg0, by rw [hW0]; exact Blk.new w 65 _, fun e => by have := hlt _ e; omega⟩
  obtain ⟨v1, W1, run1, st1⟩ := st0.byte 8 8 rfl (by omega) (by omega)
  rw [hW0, World.size_alloc] at run1
  have HS := hid st1
  have HX := hid (And.intro hs8 (And.intro h1 (And.intro h2 (And.intro h3 (And.intro h4 (And.intro h5 (And.intro h6 hl)))))))
  have hst : IntKind.u64.wrap (stream : Int) = (stream : Int) := by rw [IntKind.wrap_u64]; omega
  have hsz : IntKind.u64.wrap (data.size : Int) = (data.size : Int) := by rw [IntKind.wrap_u64]; omega
  have hl1 : (l ++ [UInt8.ofNat 8]).length = l.length + 1 := by simp
  have sx : W1.cell? ⟨w.heap.size, 1, none⟩ = some (.int .i64 (stream : Int)) := st1.fr.cell 1
  have ox : W1.cell? ⟨w.heap.size, 2, none⟩ = some (.int .u64 (offset : Int)) := st1.fr.cell 2
  have dx : W1.cell? ⟨w.heap.size, 8, none⟩ = some (.string data) := st1.fr.cell 8
  clear st0 st1 hg0 hb hlt hs8 h1 h2 h3 h4 h5 h6 hl
  subst hW0
  go_enter Tryz.func93, Tryz.ntmps93
  go_wp2_with (at_builtin; refine Lib.wpList_append_run _ rfl _ _ _ _ rfl _ _ rfl rfl _ _ (run1 _) ?_)
  refine (HS.out.num stream (by have := HX.out.1; omega) (by obtain ⟨_, _, _, _, _, _, _, q9⟩ := HX.out; have := num_len stream; have := num_len offset; have := num_len id; have := num_len deadline; have := num_len reliable; simp only [List.length_append, List.length_cons, List.length_nil]; omega)).mono ?_
  rintro e W2 ⟨v2, rfl, st2⟩
  clear sx
  clear ox
  clear dx
  have sx : W2.cell? ⟨w.heap.size, 1, none⟩ = some (.int .i64 (stream : Int)) := st2.fr.cell 1
  have ox : W2.cell? ⟨w.heap.size, 2, none⟩ = some (.int .u64 (offset : Int)) := st2.fr.cell 2
  have dx : W2.cell? ⟨w.heap.size, 8, none⟩ = some (.string data) := st2.fr.cell 8
  replace HS := hid st2
  clear st2
  go_wp2_with fail
  refine (HS.out.num offset (HX.out.2.1) (by obtain ⟨_, _, _, _, _, _, _, q9⟩ := HX.out; have := num_len stream; have := num_len offset; have := num_len id; have := num_len deadline; have := num_len reliable; simp only [List.length_append, List.length_cons, List.length_nil]; omega)).mono ?_
  rintro e W3 ⟨v3, rfl, st3⟩
  clear sx
  clear ox
  clear dx
  have sx : W3.cell? ⟨w.heap.size, 1, none⟩ = some (.int .i64 (stream : Int)) := st3.fr.cell 1
  have ox : W3.cell? ⟨w.heap.size, 2, none⟩ = some (.int .u64 (offset : Int)) := st3.fr.cell 2
  have dx : W3.cell? ⟨w.heap.size, 8, none⟩ = some (.string data) := st3.fr.cell 8
  replace HS := hid st3
  clear st3
  go_wp2_with fail
  refine (HS.out.num data.size (by have := HX.out.2.2.2.2.2.2.1; omega) (by obtain ⟨_, _, _, _, _, _, _, q9⟩ := HX.out; have := num_len stream; have := num_len offset; have := num_len id; have := num_len deadline; have := num_len reliable; simp only [List.length_append, List.length_cons, List.length_nil]; omega)).mono ?_
  rintro e W4 ⟨v4, rfl, st4⟩
  clear sx
  clear ox
  clear dx
  have sx : W4.cell? ⟨w.heap.size, 1, none⟩ = some (.int .i64 (stream : Int)) := st4.fr.cell 1
  have ox : W4.cell? ⟨w.heap.size, 2, none⟩ = some (.int .u64 (offset : Int)) := st4.fr.cell 2
  have dx : W4.cell? ⟨w.heap.size, 8, none⟩ = some (.string data) := st4.fr.cell 8
  replace HS := hid st4
  clear st4
  obtain ⟨v5, W5, run5, st5⟩ := HS.out.text data (by simp only [List.length_append, List.length_cons, List.length_nil]; omega) (by obtain ⟨_, _, _, _, _, _, _, q9⟩ := HX.out; have := num_len stream; have := num_len offset; have := num_len id; have := num_len deadline; have := num_len data.size; simp only [List.length_append, List.length_cons, List.length_nil]; omega) HX.out.2.2.2.2.2.2.1
  have HF := hid st5
  clear st5
  go_wp2_with (at_builtin; refine Lib.wpList_append_run _ rfl _ _ _ _ rfl _ _ rfl rfl _ _ (run5 _) ?_)
  go_ret
  exact ⟨v5, rfl, HF.out.buf, HF.out.gr⟩

set_option maxHeartbeats 1000000 in
set_option maxRecDepth 100000 in
theorem written_4t (v : Value) (l : List UInt8) (stream offset reliable limit : Nat) (id deadline : Nat) (data : ByteArray) (ra : Option Addr) (rl rc : Nat) (w : World) (hb : Buf w v l) (hl : l.length ≤ 30000000000000) (hs8 : stream < 8)
    (h1 : offset < 4611686018427387904) (h2 : reliable < 4611686018427387904) (h3 : limit < 4611686018427387904) (h4 : id < 4611686018427387904) (h5 : deadline < 4611686018427387904) (h6 : data.size ≤ 1000000000) :
    Calls Tryz.prog 93 #[v, .agg #[.int .i64 4, .int .i64 (stream : Int), .int .u64 (offset : Int), .int .u64 (reliable : Int), .int .u64 (limit : Int), .bool true, .int .u64 (id : Int), .int .u64 (deadline : Int), .string data, .slice ra rl rc]] w fun e w' => ∃ v', e = .returned v' ∧ Buf w' v' (l ++ [UInt8.ofNat 9] ++ Num.bytes stream ++ Num.bytes offset ++ Num.bytes data.size ++ data.data.toList) ∧ Gr w w' v v' := by
  obtain ⟨W0, hW0⟩ : ∃ W0, W0 = w.alloc (.cells #[.int .i64 4, .int .i64 (stream : Int), .int .u64 (offset : Int), .int .u64 (reliable : Int), .int .u64 (limit : Int), .bool true, .int .u64 (id : Int), .int .u64 (deadline : Int), .string data, .slice ra rl rc] 65) := ⟨_, rfl⟩
  have hg0 : Gr w W0 v v := by rw [hW0]; exact Gr.alloc _ (Gr.refl _ v)
  have hlt := hb.lt
  have st0 : WrSt w v w.heap.size [.int .i64 4, .int .i64 (stream : Int), .int .u64 (offset : Int), .int .u64 (reliable : Int), .int .u64 (limit : Int), .bool true, .int .u64 (id : Int), .int .u64 (deadline : Int), .string data, .slice ra rl rc] W0 v l := ⟨by rw [hW0]; exact hb.alloc _, hg0, by rw [hW0]; exact Blk.new w 65 _, fun e => by have := hlt _ e; omega⟩
  obtain ⟨v1, W1, run1, st1⟩ := st0.byte 9 9 rfl (by omega) (by omega)
  rw [hW0, World.size_alloc] at run1
  have HS := hid st1
  have HX := hid (And.intro hs8 (And.intro h1 (And.intro h2 (And.intro h3 (And.intro h4 (And.intro h5 (And.intro h6 hl)))))))
  have hst : IntKind.u64.wrap (stream : Int) = (stream : Int) := by rw [IntKind.wrap_u64]; omega
  have hsz : IntKind.u64.wrap (data.size : Int) = (data.size : Int) := by rw [IntKind.wrap_u64]; omega
  have hl1 : (l ++ [UInt8.ofNat 9]).length = l.length + 1 := by simp
  have sx : W1.cell? ⟨w.heap.size, 1, none⟩ = some (.int .i64 (stream : Int)) := st1.fr.cell 1
  have ox : W1.cell? ⟨w.heap.size, 2, none⟩ = some (.int .u64 (offset : Int)) := st1.fr.cell 2
  have dx : W1.cell? ⟨w.heap.size, 8, none⟩ = some (.string data) := st1.fr.cell 8
  clear st0 st1 hg0 hb hlt hs8 h1 h2 h3 h4 h5 h6 hl
  subst hW0
  go_enter Tryz.func93, Tryz.ntmps93
  go_wp2_with (at_builtin; refine Lib.wpList_append_run _ rfl _ _ _ _ rfl _ _ rfl rfl _ _ (run1 _) ?_)
  refine (HS.out.num stream (by have := HX.out.1; omega) (by obtain ⟨_, _, _, _, _, _, _, q9⟩ := HX.out; have := num_len stream; have := num_len offset; have := num_len id; have := num_len deadline; have := num_len reliable; simp only [List.length_append, List.length_cons, List.length_nil]; omega)).mono ?_
  rintro e W2 ⟨v2, rfl, st2⟩
  clear sx
  clear ox
  clear dx
  have sx : W2.cell? ⟨w.heap.size, 1, none⟩ = some (.int .i64 (stream : Int)) := st2.fr.cell 1
  have ox : W2.cell? ⟨w.heap.size, 2, none⟩ = some (.int .u64 (offset : Int)) := st2.fr.cell 2
  have dx : W2.cell? ⟨w.heap.size, 8, none⟩ = some (.string data) := st2.fr.cell 8
  replace HS := hid st2
  clear st2
  go_wp2_with fail
  refine (HS.out.num offset (HX.out.2.1) (by obtain ⟨_, _, _, _, _, _, _, q9⟩ := HX.out; have := num_len stream; have := num_len offset; have := num_len id; have := num_len deadline; have := num_len reliable; simp only [List.length_append, List.length_cons, List.length_nil]; omega)).mono ?_
  rintro e W3 ⟨v3, rfl, st3⟩
  clear sx
  clear ox
  clear dx
  have sx : W3.cell? ⟨w.heap.size, 1, none⟩ = some (.int .i64 (stream : Int)) := st3.fr.cell 1
  have ox : W3.cell? ⟨w.heap.size, 2, none⟩ = some (.int .u64 (offset : Int)) := st3.fr.cell 2
  have dx : W3.cell? ⟨w.heap.size, 8, none⟩ = some (.string data) := st3.fr.cell 8
  replace HS := hid st3
  clear st3
  go_wp2_with fail
  refine (HS.out.num data.size (by have := HX.out.2.2.2.2.2.2.1; omega) (by obtain ⟨_, _, _, _, _, _, _, q9⟩ := HX.out; have := num_len stream; have := num_len offset; have := num_len id; have := num_len deadline; have := num_len reliable; simp only [List.length_append, List.length_cons, List.length_nil]; omega)).mono ?_
  rintro e W4 ⟨v4, rfl, st4⟩
  clear sx
  clear ox
  clear dx
  have sx : W4.cell? ⟨w.heap.size, 1, none⟩ = some (.int .i64 (stream : Int)) := st4.fr.cell 1
  have ox : W4.cell? ⟨w.heap.size, 2, none⟩ = some (.int .u64 (offset : Int)) := st4.fr.cell 2
  have dx : W4.cell? ⟨w.heap.size, 8, none⟩ = some (.string data) := st4.fr.cell 8
  replace HS := hid st4
  clear st4
  obtain ⟨v5, W5, run5, st5⟩ := HS.out.text data (by simp only [List.length_append, List.length_cons, List.length_nil]; omega) (by obtain ⟨_, _, _, _, _, _, _, q9⟩ := HX.out; have := num_len stream; have := num_len offset; have := num_len id; have := num_len deadline; have := num_len data.size; simp only [List.length_append, List.length_cons, List.length_nil]; omega) HX.out.2.2.2.2.2.2.1
  have HF := hid st5
  clear st5
  go_wp2_with (at_builtin; refine Lib.wpList_append_run _ rfl _ _ _ _ rfl _ _ rfl rfl _ _ (run5 _) ?_)
  go_ret
  exact ⟨v5, rfl, HF.out.buf, HF.out.gr⟩

set_option maxHeartbeats 1000000 in
set_option maxRecDepth 100000 in
theorem written_5 (v : Value) (l : List UInt8) (stream offset reliable limit : Nat) (fin : Bool) (id deadline : Nat) (data : ByteArray) (ra : Option Addr) (rl rc : Nat) (w : World) (hb : Buf w v l) (hl : l.length ≤ 30000000000000) (hs8 : stream < 8)
    (h1 : offset < 4611686018427387904) (h2 : reliable < 4611686018427387904) (h3 : limit < 4611686018427387904) (h4 : id < 4611686018427387904) (h5 : deadline < 4611686018427387904) (h6 : data.size ≤ 1000000000) :
    Calls Tryz.prog 93 #[v, .agg #[.int .i64 5, .int .i64 (stream : Int), .int .u64 (offset : Int), .int .u64 (reliable : Int), .int .u64 (limit : Int), .bool fin, .int .u64 (id : Int), .int .u64 (deadline : Int), .string data, .slice ra rl rc]] w fun e w' => ∃ v', e = .returned v' ∧ Buf w' v' (l ++ [UInt8.ofNat 16] ++ Num.bytes limit) ∧ Gr w w' v v' := by
  obtain ⟨W0, hW0⟩ : ∃ W0, W0 = w.alloc (.cells #[.int .i64 5, .int .i64 (stream : Int), .int .u64 (offset : Int), .int .u64 (reliable : Int), .int .u64 (limit : Int), .bool fin, .int .u64 (id : Int), .int .u64 (deadline : Int), .string data, .slice ra rl rc] 65) := ⟨_, rfl⟩
  have hg0 : Gr w W0 v v := by rw [hW0]; exact Gr.alloc _ (Gr.refl _ v)
  have hlt := hb.lt
  have st0 : WrSt w v w.heap.size [.int .i64 5, .int .i64 (stream : Int), .int .u64 (offset : Int), .int .u64 (reliable : Int), .int .u64 (limit : Int), .bool fin, .int .u64 (id : Int), .int .u64 (deadline : Int), .string data, .slice ra rl rc] W0 v l := ⟨by rw [hW0]; exact hb.alloc _, hg0, by rw [hW0]; exact Blk.new w 65 _, fun e => by have := hlt _ e; omega⟩
  obtain ⟨v1, W1, run1, st1⟩ := st0.byte 16 16 rfl (by omega) (by omega)
  rw [hW0, World.size_alloc] at run1
  have HS := hid st1
  have HX := hid (And.intro hs8 (And.intro h1 (And.intro h2 (And.intro h3 (And.intro h4 (And.intro h5 (And.intro h6 hl)))))))
  have hst : IntKind.u64.wrap (stream : Int) = (stream : Int) := by rw [IntKind.wrap_u64]; omega
  have hsz : IntKind.u64.wrap (data.size : Int) = (data.size : Int) := by rw [IntKind.wrap_u64]; omega
  have hl1 : (l ++ [UInt8.ofNat 16]).length = l.length + 1 := by simp
  have lx : W1.cell? ⟨w.heap.size, 4, none⟩ = some (.int .u64 (limit : Int)) := st1.fr.cell 4
  clear st0 st1 hg0 hb hlt hs8 h1 h2 h3 h4 h5 h6 hl
  subst hW0
  go_enter Tryz.func93, Tryz.ntmps93
  go_wp2_with (at_builtin; refine Lib.wpList_append_run _ rfl _ _ _ _ rfl _ _ rfl rfl _ _ (run1 _) ?_)
  refine (HS.out.num limit (HX.out.2.2.2.1) (by obtain ⟨_, _, _, _, _, _, _, q9⟩ := HX.out; have := num_len stream; have := num_len offset; have := num_len id; have := num_len deadline; have := num_len reliable; simp only [List.length_append, List.length_cons, List.length_nil]; omega)).mono ?_
  rintro e W2 ⟨v2, rfl, st2⟩
  clear lx
  replace HS := hid st2
  clear st2
  go_wp2_with fail
  go_ret
  exact ⟨v2, rfl, HS.out.buf, HS.out.gr⟩

set_option maxHeartbeats 1000000 in
set_option maxRecDepth 100000 in
theorem written_6 (v : Value) (l : List UInt8) (stream offset reliable limit : Nat) (fin : Bool) (id deadline : Nat) (data : ByteArray) (ra : Option Addr) (rl rc : Nat) (w : World) (hb : Buf w v l) (hl : l.length ≤ 30000000000000) (hs8 : stream < 8)
    (h1 : offset < 4611686018427387904) (h2 : reliable < 4611686018427387904) (h3 : limit < 4611686018427387904) (h4 : id < 4611686018427387904) (h5 : deadline < 4611686018427387904) (h6 : data.size ≤ 1000000000) :
    Calls Tryz.prog 93 #[v, .agg #[.int .i64 6, .int .i64 (stream : Int), .int .u64 (offset : Int), .int .u64 (reliable : Int), .int .u64 (limit : Int), .bool fin, .int .u64 (id : Int), .int .u64 (deadline : Int), .string data, .slice ra rl rc]] w fun e w' => ∃ v', e = .returned v' ∧ Buf w' v' (l ++ [UInt8.ofNat 17] ++ Num.bytes stream ++ Num.bytes limit) ∧ Gr w w' v v' := by
  obtain ⟨W0, hW0⟩ : ∃ W0, W0 = w.alloc (.cells #[.int .i64 6, .int .i64 (stream : Int), .int .u64 (offset : Int), .int .u64 (reliable : Int), .int .u64 (limit : Int), .bool fin, .int .u64 (id : Int), .int .u64 (deadline : Int), .string data, .slice ra rl rc] 65) := ⟨_, rfl⟩
  have hg0 : Gr w W0 v v := by rw [hW0]; exact Gr.alloc _ (Gr.refl _ v)
  have hlt := hb.lt
  have st0 : WrSt w v w.heap.size [.int .i64 6, .int .i64 (stream : Int), .int .u64 (offset : Int), .int .u64 (reliable : Int), .int .u64 (limit : Int), .bool fin, .int .u64 (id : Int), .int .u64 (deadline : Int), .string data, .slice ra rl rc] W0 v l := ⟨by rw [hW0]; exact hb.alloc _, hg0, by rw [hW0]; exact Blk.new w 65 _, fun e => by have := hlt _ e; omega⟩
  obtain ⟨v1, W1, run1, st1⟩ := st0.byte 17 17 rfl (by omega) (by omega)
  rw [hW0, World.size_alloc] at run1
  have HS := hid st1
  have HX := hid (And.intro hs8 (And.intro h1 (And.intro h2 (And.intro h3 (And.intro h4 (And.intro h5 (And.intro h6 hl)))))))
  have hst : IntKind.u64.wrap (stream : Int) = (stream : Int) := by rw [IntKind.wrap_u64]; omega
  have hsz : IntKind.u64.wrap (data.size : Int) = (data.size : Int) := by rw [IntKind.wrap_u64]; omega
  have hl1 : (l ++ [UInt8.ofNat 17]).length = l.length + 1 := by simp
  have sx : W1.cell? ⟨w.heap.size, 1, none⟩ = some (.int .i64 (stream : Int)) := st1.fr.cell 1
  have lx : W1.cell? ⟨w.heap.size, 4, none⟩ = some (.int .u64 (limit : Int)) := st1.fr.cell 4
  clear st0 st1 hg0 hb hlt hs8 h1 h2 h3 h4 h5 h6 hl
  subst hW0
  go_enter Tryz.func93, Tryz.ntmps93
  go_wp2_with (at_builtin; refine Lib.wpList_append_run _ rfl _ _ _ _ rfl _ _ rfl rfl _ _ (run1 _) ?_)
  refine (HS.out.num stream (by have := HX.out.1; omega) (by obtain ⟨_, _, _, _, _, _, _, q9⟩ := HX.out; have := num_len stream; have := num_len offset; have := num_len id; have := num_len deadline; have := num_len reliable; simp only [List.length_append, List.length_cons, List.length_nil]; omega)).mono ?_
  rintro e W2 ⟨v2, rfl, st2⟩
  clear sx
  clear lx
  have sx : W2.cell? ⟨w.heap.size, 1, none⟩ = some (.int .i64 (stream : Int)) := st2.fr.cell 1
  have lx : W2.cell? ⟨w.heap.size, 4, none⟩ = some (.int .u64 (limit : Int)) := st2.fr.cell 4
  replace HS := hid st2
  clear st2
  go_wp2_with fail
  refine (HS.out.num limit (HX.out.2.2.2.1) (by obtain ⟨_, _, _, _, _, _, _, q9⟩ := HX.out; have := num_len stream; have := num_len offset; have := num_len id; have := num_len deadline; have := num_len reliable; simp only [List.length_append, List.length_cons, List.length_nil]; omega)).mono ?_
  rintro e W3 ⟨v3, rfl, st3⟩
  clear sx
  clear lx
  replace HS := hid st3
  clear st3
  go_wp2_with fail
  go_ret
  exact ⟨v3, rfl, HS.out.buf, HS.out.gr⟩

set_option maxHeartbeats 1000000 in
set_option maxRecDepth 100000 in
theorem written_7 (v : Value) (l : List UInt8) (stream offset reliable limit : Nat) (fin : Bool) (id deadline : Nat) (data : ByteArray) (ra : Option Addr) (rl rc : Nat) (w : World) (hb : Buf w v l) (hl : l.length ≤ 30000000000000) (hs8 : stream < 8)
    (h1 : offset < 4611686018427387904) (h2 : reliable < 4611686018427387904) (h3 : limit < 4611686018427387904) (h4 : id < 4611686018427387904) (h5 : deadline < 4611686018427387904) (h6 : data.size ≤ 1000000000) :
    Calls Tryz.prog 93 #[v, .agg #[.int .i64 7, .int .i64 (stream : Int), .int .u64 (offset : Int), .int .u64 (reliable : Int), .int .u64 (limit : Int), .bool fin, .int .u64 (id : Int), .int .u64 (deadline : Int), .string data, .slice ra rl rc]] w fun e w' => ∃ v', e = .returned v' ∧ Buf w' v' (l ++ [UInt8.ofNat 48] ++ Num.bytes id ++ Num.bytes deadline ++ Num.bytes data.size ++ data.data.toList) ∧ Gr w w' v v' := by
  obtain ⟨W0, hW0⟩ : ∃ W0, W0 = w.alloc (.cells #[.int .i64 7, .int .i64 (stream : Int), .int .u64 (offset : Int), .int .u64 (reliable : Int), .int .u64 (limit : Int), .bool fin, .int .u64 (id : Int), .int .u64 (deadline : Int), .string data, .slice ra rl rc] 65) := ⟨_, rfl⟩
  have hg0 : Gr w W0 v v := by rw [hW0]; exact Gr.alloc _ (Gr.refl _ v)
  have hlt := hb.lt
  have st0 : WrSt w v w.heap.size [.int .i64 7, .int .i64 (stream : Int), .int .u64 (offset : Int), .int .u64 (reliable : Int), .int .u64 (limit : Int), .bool fin, .int .u64 (id : Int), .int .u64 (deadline : Int), .string data, .slice ra rl rc] W0 v l := ⟨by rw [hW0]; exact hb.alloc _, hg0, by rw [hW0]; exact Blk.new w 65 _, fun e => by have := hlt _ e; omega⟩
  obtain ⟨v1, W1, run1, st1⟩ := st0.byte 48 48 rfl (by omega) (by omega)
  rw [hW0, World.size_alloc] at run1
  have HS := hid st1
  have HX := hid (And.intro hs8 (And.intro h1 (And.intro h2 (And.intro h3 (And.intro h4 (And.intro h5 (And.intro h6 hl)))))))
  have hst : IntKind.u64.wrap (stream : Int) = (stream : Int) := by rw [IntKind.wrap_u64]; omega
  have hsz : IntKind.u64.wrap (data.size : Int) = (data.size : Int) := by rw [IntKind.wrap_u64]; omega
  have hl1 : (l ++ [UInt8.ofNat 48]).length = l.length + 1 := by simp
  have ix : W1.cell? ⟨w.heap.size, 6, none⟩ = some (.int .u64 (id : Int)) := st1.fr.cell 6
  have dx : W1.cell? ⟨w.heap.size, 7, none⟩ = some (.int .u64 (deadline : Int)) := st1.fr.cell 7
  have dx : W1.cell? ⟨w.heap.size, 8, none⟩ = some (.string data) := st1.fr.cell 8
  clear st0 st1 hg0 hb hlt hs8 h1 h2 h3 h4 h5 h6 hl
  subst hW0
  go_enter Tryz.func93, Tryz.ntmps93
  go_wp2_with (at_builtin; refine Lib.wpList_append_run _ rfl _ _ _ _ rfl _ _ rfl rfl _ _ (run1 _) ?_)
  refine (HS.out.num id (HX.out.2.2.2.2.1) (by obtain ⟨_, _, _, _, _, _, _, q9⟩ := HX.out; have := num_len stream; have := num_len offset; have := num_len id; have := num_len deadline; have := num_len reliable; simp only [List.length_append, List.length_cons, List.length_nil]; omega)).mono ?_
  rintro e W2 ⟨v2, rfl, st2⟩
  clear ix
  clear dx
  clear dx
  have ix : W2.cell? ⟨w.heap.size, 6, none⟩ = some (.int .u64 (id : Int)) := st2.fr.cell 6
  have dx : W2.cell? ⟨w.heap.size, 7, none⟩ = some (.int .u64 (deadline : Int)) := st2.fr.cell 7
  have dx : W2.cell? ⟨w.heap.size, 8, none⟩ = some (.string data) := st2.fr.cell 8
  replace HS := hid st2
  clear st2
  go_wp2_with fail
  refine (HS.out.num deadline (HX.out.2.2.2.2.2.1) (by obtain ⟨_, _, _, _, _, _, _, q9⟩ := HX.out; have := num_len stream; have := num_len offset; have := num_len id; have := num_len deadline; have := num_len reliable; simp only [List.length_append, List.length_cons, List.length_nil]; omega)).mono ?_
  rintro e W3 ⟨v3, rfl, st3⟩
  clear ix
  clear dx
  clear dx
  have ix : W3.cell? ⟨w.heap.size, 6, none⟩ = some (.int .u64 (id : Int)) := st3.fr.cell 6
  have dx : W3.cell? ⟨w.heap.size, 7, none⟩ = some (.int .u64 (deadline : Int)) := st3.fr.cell 7
  have dx : W3.cell? ⟨w.heap.size, 8, none⟩ = some (.string data) := st3.fr.cell 8
  replace HS := hid st3
  clear st3
  go_wp2_with fail
  refine (HS.out.num data.size (by have := HX.out.2.2.2.2.2.2.1; omega) (by obtain ⟨_, _, _, _, _, _, _, q9⟩ := HX.out; have := num_len stream; have := num_len offset; have := num_len id; have := num_len deadline; have := num_len reliable; simp only [List.length_append, List.length_cons, List.length_nil]; omega)).mono ?_
  rintro e W4 ⟨v4, rfl, st4⟩
  clear ix
  clear dx
  clear dx
  have ix : W4.cell? ⟨w.heap.size, 6, none⟩ = some (.int .u64 (id : Int)) := st4.fr.cell 6
  have dx : W4.cell? ⟨w.heap.size, 7, none⟩ = some (.int .u64 (deadline : Int)) := st4.fr.cell 7
  have dx : W4.cell? ⟨w.heap.size, 8, none⟩ = some (.string data) := st4.fr.cell 8
  replace HS := hid st4
  clear st4
  obtain ⟨v5, W5, run5, st5⟩ := HS.out.text data (by simp only [List.length_append, List.length_cons, List.length_nil]; omega) (by obtain ⟨_, _, _, _, _, _, _, q9⟩ := HX.out; have := num_len stream; have := num_len offset; have := num_len id; have := num_len deadline; have := num_len data.size; simp only [List.length_append, List.length_cons, List.length_nil]; omega) HX.out.2.2.2.2.2.2.1
  have HF := hid st5
  clear st5
  go_wp2_with (at_builtin; refine Lib.wpList_append_run _ rfl _ _ _ _ rfl _ _ rfl rfl _ _ (run5 _) ?_)
  go_ret
  exact ⟨v5, rfl, HF.out.buf, HF.out.gr⟩

set_option maxHeartbeats 1000000 in
set_option maxRecDepth 100000 in
theorem written_8 (v : Value) (l : List UInt8) (stream offset reliable limit : Nat) (fin : Bool) (id deadline : Nat) (data : ByteArray) (ra : Option Addr) (rl rc : Nat) (w : World) (hb : Buf w v l) (hl : l.length ≤ 30000000000000) (hs8 : stream < 8)
    (h1 : offset < 4611686018427387904) (h2 : reliable < 4611686018427387904) (h3 : limit < 4611686018427387904) (h4 : id < 4611686018427387904) (h5 : deadline < 4611686018427387904) (h6 : data.size ≤ 1000000000) :
    Calls Tryz.prog 93 #[v, .agg #[.int .i64 8, .int .i64 (stream : Int), .int .u64 (offset : Int), .int .u64 (reliable : Int), .int .u64 (limit : Int), .bool fin, .int .u64 (id : Int), .int .u64 (deadline : Int), .string data, .slice ra rl rc]] w fun e w' => ∃ v', e = .returned v' ∧ Buf w' v' (l ++ [UInt8.ofNat 28] ++ Num.bytes limit) ∧ Gr w w' v v' := by
  obtain ⟨W0, hW0⟩ : ∃ W0, W0 = w.alloc (.cells #[.int .i64 8, .int .i64 (stream : Int), .int .u64 (offset : Int), .int .u64 (reliable : Int), .int .u64 (limit : Int), .bool fin, .int .u64 (id : Int), .int .u64 (deadline : Int), .string data, .slice ra rl rc] 65) := ⟨_, rfl⟩
  have hg0 : Gr w W0 v v := by rw [hW0]; exact Gr.alloc _ (Gr.refl _ v)
  have hlt := hb.lt
  have st0 : WrSt w v w.heap.size [.int .i64 8, .int .i64 (stream : Int), .int .u64 (offset : Int), .int .u64 (reliable : Int), .int .u64 (limit : Int), .bool fin, .int .u64 (id : Int), .int .u64 (deadline : Int), .string data, .slice ra rl rc] W0 v l := ⟨by rw [hW0]; exact hb.alloc _, hg0, by rw [hW0]; exact Blk.new w 65 _, fun e => by have := hlt _ e; omega⟩
  obtain ⟨v1, W1, run1, st1⟩ := st0.byte 28 28 rfl (by omega) (by omega)
  rw [hW0, World.size_alloc] at run1
  have HS := hid st1
  have HX := hid (And.intro hs8 (And.intro h1 (And.intro h2 (And.intro h3 (And.intro h4 (And.intro h5 (And.intro h6 hl)))))))
  have hst : IntKind.u64.wrap (stream : Int) = (stream : Int) := by rw [IntKind.wrap_u64]; omega
  have hsz : IntKind.u64.wrap (data.size : Int) = (data.size : Int) := by rw [IntKind.wrap_u64]; omega
  have hl1 : (l ++ [UInt8.ofNat 28]).length = l.length + 1 := by simp
  have lx : W1.cell? ⟨w.heap.size, 4, none⟩ = some (.int .u64 (limit : Int)) := st1.fr.cell 4
  clear st0 st1 hg0 hb hlt hs8 h1 h2 h3 h4 h5 h6 hl
  subst hW0
  go_enter Tryz.func93, Tryz.ntmps93
  go_wp2_with (at_builtin; refine Lib.wpList_append_run _ rfl _ _ _ _ rfl _ _ rfl rfl _ _ (run1 _) ?_)
  refine (HS.out.num limit (HX.out.2.2.2.1) (by obtain ⟨_, _, _, _, _, _, _, q9⟩ := HX.out; have := num_len stream; have := num_len offset; have := num_len id; have := num_len deadline; have := num_len reliable; simp only [List.length_append, List.length_cons, List.length_nil]; omega)).mono ?_
  rintro e W2 ⟨v2, rfl, st2⟩
  clear lx
  replace HS := hid st2
  clear st2
  go_wp2_with fail
  go_ret
  exact ⟨v2, rfl, HS.out.buf, HS.out.gr⟩

end Go.Proofs.YtphbledmopchnaaGreatDoor
