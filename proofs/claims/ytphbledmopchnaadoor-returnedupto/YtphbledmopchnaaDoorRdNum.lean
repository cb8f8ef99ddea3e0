/-
  The reader: number.
-/
import Derived.Test.YtphbledmopchnaaDoorRead
namespace Go.Proofs.YtphbledmopchnaaDoor
open Go.RowKit Go.Lib Go.Shelf Mm

theorem or_u64 (T X : Nat) (hT : T < 72057594037927936) (hX : X < 256) : bits .or .u64 ((T : Int) * 256) (X : Int) = ((T * 256 + X : Nat) : Int) := by
  have h := u64_or_nat (T * 256) X (by omega) (by omega)
  rw [Nat.or_comm, or_add X T 8 hX, Nat.add_comm] at h
  rw [← h]
  simp

theorem val_take (l : List UInt8) (a k : Nat) (h : k < l.length) : Num.val a (l.take (k + 1)) = Num.val a (l.take k) * 256 + (l[k]).toNat := by
  rw [List.take_succ_eq_append_getElem h, val_snoc]



set_option maxHeartbeats 1000000 in
set_option maxRecDepth 100000 in
theorem number_0 (rb yb yo cap : Nat) (body : List UInt8) (p bg : Nat) (w : World) (h : RdAt w rb yb yo cap body p bg) (hp : p + 1 ≤ body.length) (hc : (body[p]'(by omega)).toNat / 64 = 0) :
    Calls Tryd.prog 45 #[.pointer (some ⟨rb, 0, none⟩)] w fun e w' => e = .returned (.int .u64 ((Num.val ((body[p]'(by omega)).toNat % 64) ((body.drop (p + 1)).take 0) : Nat) : Int)) ∧ RdAt w' rb yb yo cap body (p + 1) bg ∧ St1 rb w w' := by
  have HBY := hid (byte_any rb yb yo cap body p bg w h (by omega))
  have HTK := hid (fun w' (h' : RdAt w' rb yb yo cap body (p + 1) bg) => take_any rb yb yo cap body (p + 1) bg 0 w' h' (by omega))
  have HCL := hid (fun w' (h' : RdAt w' rb yb yo cap body (p + 1 + 0) bg) j (hj : j < 0) => h'.byte (p + 1 + j) (by omega))
  have hX := Crc.u8_lt (body[p]'(by omega))
  generalize (body[p]'(by omega)).toNat = X at *
  have e1 : bits .and .u8 (X : Int) 63 = ((X % 64 : Nat) : Int) := by
    have h63 : X &&& 63 = X % 64 := Nat.and_two_pow_sub_one_eq_mod X 6
    rw [← h63]; exact u8_and_nat X 63 (by omega) (by omega)
  have e2 : (X : Int) / 64 = 0 := by omega
  have e3 : ((X % 64 : Nat) : Int) < 64 := by omega
  obtain ⟨tl, htl⟩ : ∃ tl, tl = (body.drop (p + 1)).take 0 := ⟨_, rfl⟩
  have hlen : tl.length = 0 := by rw [htl, List.length_take, List.length_drop]; omega
  have HST : Hid (∀ j (hj : j < 0), ∃ x T : Nat, x < 256 ∧ body[p + 1 + j]?.map UInt8.toNat = some x ∧ T = Num.val (X % 64) (tl.take j) ∧ T < 72057594037927936 ∧ Num.val (X % 64) (tl.take (j + 1)) = T * 256 + x) := fun j hj => by
    refine ⟨(tl[j]'(by omega)).toNat, _, Crc.u8_lt _, ?_, rfl, ?_, val_take tl _ j (by omega)⟩
    · have : tl[j]? = body[p + 1 + j]? := by rw [htl, List.getElem?_take, if_pos hj, List.getElem?_drop]
      rw [← this, List.getElem?_eq_getElem (by omega)]
      rfl
    · have := val_lt (tl.take j) (X % 64) 1 (by omega)
      have hl : (tl.take j).length = j := by simp; omega
      rw [hl] at this
      have h7 : (256 : Nat) ^ (1 + j) ≤ 256 ^ 7 := Nat.pow_le_pow_right (by decide) (by omega)
      omega
  have HV : Hid (Num.val (X % 64) (tl.take 0) = Num.val (X % 64) tl) := by unfold Hid; rw [List.take_of_length_le (by omega)]
  have HV0 : Hid (Num.val (X % 64) (tl.take 0) = X % 64) := rfl
  rw [← htl]
  clear hc h htl hlen
  generalize X % 64 = X64 at *
  go_enter Tryd.func45, Tryd.ntmps45
  go_wp2_with fail
  refine HBY.out.mono ?_
  rintro e w1 ⟨rfl, hR1, hS1⟩
  have HT1 := hid (HTK.out w1 hR1)
  have HS1 := hid hS1
  clear hR1 hS1
  go_wp2_with fail
  refine HT1.out.mono ?_
  rintro e w2 ⟨rfl, hR2, hS2⟩
  have HR2 := hid hR2
  have HS2 := hid (HS1.out.trans hS2)
  have HCL2 := hid (HCL.out w2 hR2)
  clear hR2 hS2
  go_wp2_with fail
  go_loopw [4, 19] (fun s4 s19 wr => ∃ k : Nat, k ≤ 0 ∧ s19 = .int .i64 k ∧ s4 = .int .u64 (Num.val X64 (tl.take k) : Nat) ∧ wr = w2) (fun _ s19 _ => 0 - (intOf s19).toNat)
  case atStart => exact ⟨0, Nat.zero_le _, rfl, by rw [HV0.out], rfl⟩
  case round =>
    obtain ⟨k, hk, rfl, rfl, rfl⟩ := hrel
    by_cases hlt : k < 0
    · have hlt' : (k : Int) < 0 := by omega
      obtain ⟨x, T, hx, hbx, hT, hT2, hst⟩ := HST.out k hlt
      have hcl := HCL2.out k hlt
      have hb2 : ((body[p + 1 + k]'(by omega)).toNat : Nat) = x := by
        rw [List.getElem?_eq_getElem (by omega)] at hbx
        simpa using hbx
      rw [hb2, show yo + (p + 1 + k) = yo + (p + 1) + k by omega] at hcl
      have e5 := or_u64 T x hT2 hx
      obtain ⟨T', hT'⟩ : ∃ T', T' = T * 256 + x := ⟨_, rfl⟩
      rw [← hT'] at e5 hst
      rw [← hT]
      have HS := hid hst
      clear hst hT' hb2 hbx hT
      go_wp2_with fail
      go_roundw
      case rel => exact ⟨k + 1, by omega, by go_num, by rw [HS.out], trivial⟩
      case measure => simp [intOf]; omega
    · obtain rfl : k = 0 := by omega
      rw [HV.out]
      go_wp2
      go_ret
      exact ⟨rfl, HR2.out, HS2.out⟩

set_option maxHeartbeats 1000000 in
set_option maxRecDepth 100000 in
theorem number_1 (rb yb yo cap : Nat) (body : List UInt8) (p bg : Nat) (w : World) (h : RdAt w rb yb yo cap body p bg) (hp : p + 2 ≤ body.length) (hc : (body[p]'(by omega)).toNat / 64 = 1) :
    Calls Tryd.prog 45 #[.pointer (some ⟨rb, 0, none⟩)] w fun e w' => e = .returned (.int .u64 ((Num.val ((body[p]'(by omega)).toNat % 64) ((body.drop (p + 1)).take 1) : Nat) : Int)) ∧ RdAt w' rb yb yo cap body (p + 2) bg ∧ St1 rb w w' := by
  have HBY := hid (byte_any rb yb yo cap body p bg w h (by omega))
  have HTK := hid (fun w' (h' : RdAt w' rb yb yo cap body (p + 1) bg) => take_any rb yb yo cap body (p + 1) bg 1 w' h' (by omega))
  have HCL := hid (fun w' (h' : RdAt w' rb yb yo cap body (p + 1 + 1) bg) j (hj : j < 1) => h'.byte (p + 1 + j) (by omega))
  have hX := Crc.u8_lt (body[p]'(by omega))
  generalize (body[p]'(by omega)).toNat = X at *
  have e1 : bits .and .u8 (X : Int) 63 = ((X % 64 : Nat) : Int) := by
    have h63 : X &&& 63 = X % 64 := Nat.and_two_pow_sub_one_eq_mod X 6
    rw [← h63]; exact u8_and_nat X 63 (by omega) (by omega)
  have e2 : (X : Int) / 64 = 1 := by omega
  have e3 : ((X % 64 : Nat) : Int) < 64 := by omega
  obtain ⟨tl, htl⟩ : ∃ tl, tl = (body.drop (p + 1)).take 1 := ⟨_, rfl⟩
  have hlen : tl.length = 1 := by rw [htl, List.length_take, List.length_drop]; omega
  have HST : Hid (∀ j (hj : j < 1), ∃ x T : Nat, x < 256 ∧ body[p + 1 + j]?.map UInt8.toNat = some x ∧ T = Num.val (X % 64) (tl.take j) ∧ T < 72057594037927936 ∧ Num.val (X % 64) (tl.take (j + 1)) = T * 256 + x) := fun j hj => by
    refine ⟨(tl[j]'(by omega)).toNat, _, Crc.u8_lt _, ?_, rfl, ?_, val_take tl _ j (by omega)⟩
    · have : tl[j]? = body[p + 1 + j]? := by rw [htl, List.getElem?_take, if_pos hj, List.getElem?_drop]
      rw [← this, List.getElem?_eq_getElem (by omega)]
      rfl
    · have := val_lt (tl.take j) (X % 64) 1 (by omega)
      have hl : (tl.take j).length = j := by simp; omega
      rw [hl] at this
      have h7 : (256 : Nat) ^ (1 + j) ≤ 256 ^ 7 := Nat.pow_le_pow_right (by decide) (by omega)
      omega
  have HV : Hid (Num.val (X % 64) (tl.take 1) = Num.val (X % 64) tl) := by unfold Hid; rw [List.take_of_length_le (by omega)]
  have HV0 : Hid (Num.val (X % 64) (tl.take 0) = X % 64) := rfl
  rw [← htl]
  clear hc h htl hlen
  generalize X % 64 = X64 at *
  go_enter Tryd.func45, Tryd.ntmps45
  go_wp2_with fail
  refine HBY.out.mono ?_
  rintro e w1 ⟨rfl, hR1, hS1⟩
  have HT1 := hid (HTK.out w1 hR1)
  have HS1 := hid hS1
  clear hR1 hS1
  go_wp2_with fail
  refine HT1.out.mono ?_
  rintro e w2 ⟨rfl, hR2, hS2⟩
  have HR2 := hid hR2
  have HS2 := hid (HS1.out.trans hS2)
  have HCL2 := hid (HCL.out w2 hR2)
  clear hR2 hS2
  go_wp2_with fail
  go_loopw [4, 19] (fun s4 s19 wr => ∃ k : Nat, k ≤ 1 ∧ s19 = .int .i64 k ∧ s4 = .int .u64 (Num.val X64 (tl.take k) : Nat) ∧ wr = w2) (fun _ s19 _ => 1 - (intOf s19).toNat)
  case atStart => exact ⟨0, Nat.zero_le _, rfl, by rw [HV0.out], rfl⟩
  case round =>
    obtain ⟨k, hk, rfl, rfl, rfl⟩ := hrel
    by_cases hlt : k < 1
    · have hlt' : (k : Int) < 1 := by omega
      obtain ⟨x, T, hx, hbx, hT, hT2, hst⟩ := HST.out k hlt
      have hcl := HCL2.out k hlt
      have hb2 : ((body[p + 1 + k]'(by omega)).toNat : Nat) = x := by
        rw [List.getElem?_eq_getElem (by omega)] at hbx
        simpa using hbx
      rw [hb2, show yo + (p + 1 + k) = yo + (p + 1) + k by omega] at hcl
      have e5 := or_u64 T x hT2 hx
      obtain ⟨T', hT'⟩ : ∃ T', T' = T * 256 + x := ⟨_, rfl⟩
      rw [← hT'] at e5 hst
      rw [← hT]
      have HS := hid hst
      clear hst hT' hb2 hbx hT
      go_wp2_with fail
      go_roundw
      case rel => exact ⟨k + 1, by omega, by go_num, by rw [HS.out], trivial⟩
      case measure => simp [intOf]; omega
    · obtain rfl : k = 1 := by omega
      rw [HV.out]
      go_wp2
      go_ret
      exact ⟨rfl, HR2.out, HS2.out⟩

set_option maxHeartbeats 1000000 in
set_option maxRecDepth 100000 in
theorem number_2 (rb yb yo cap : Nat) (body : List UInt8) (p bg : Nat) (w : World) (h : RdAt w rb yb yo cap body p bg) (hp : p + 4 ≤ body.length) (hc : (body[p]'(by omega)).toNat / 64 = 2) :
    Calls Tryd.prog 45 #[.pointer (some ⟨rb, 0, none⟩)] w fun e w' => e = .returned (.int .u64 ((Num.val ((body[p]'(by omega)).toNat % 64) ((body.drop (p + 1)).take 3) : Nat) : Int)) ∧ RdAt w' rb yb yo cap body (p + 4) bg ∧ St1 rb w w' := by
  have HBY := hid (byte_any rb yb yo cap body p bg w h (by omega))
  have HTK := hid (fun w' (h' : RdAt w' rb yb yo cap body (p + 1) bg) => take_any rb yb yo cap body (p + 1) bg 3 w' h' (by omega))
  have HCL := hid (fun w' (h' : RdAt w' rb yb yo cap body (p + 1 + 3) bg) j (hj : j < 3) => h'.byte (p + 1 + j) (by omega))
  have hX := Crc.u8_lt (body[p]'(by omega))
  generalize (body[p]'(by omega)).toNat = X at *
  have e1 : bits .and .u8 (X : Int) 63 = ((X % 64 : Nat) : Int) := by
    have h63 : X &&& 63 = X % 64 := Nat.and_two_pow_sub_one_eq_mod X 6
    rw [← h63]; exact u8_and_nat X 63 (by omega) (by omega)
  have e2 : (X : Int) / 64 = 2 := by omega
  have e3 : ((X % 64 : Nat) : Int) < 64 := by omega
  obtain ⟨tl, htl⟩ : ∃ tl, tl = (body.drop (p + 1)).take 3 := ⟨_, rfl⟩
  have hlen : tl.length = 3 := by rw [htl, List.length_take, List.length_drop]; omega
  have HST : Hid (∀ j (hj : j < 3), ∃ x T : Nat, x < 256 ∧ body[p + 1 + j]?.map UInt8.toNat = some x ∧ T = Num.val (X % 64) (tl.take j) ∧ T < 72057594037927936 ∧ Num.val (X % 64) (tl.take (j + 1)) = T * 256 + x) := fun j hj => by
    refine ⟨(tl[j]'(by omega)).toNat, _, Crc.u8_lt _, ?_, rfl, ?_, val_take tl _ j (by omega)⟩
    · have : tl[j]? = body[p + 1 + j]? := by rw [htl, List.getElem?_take, if_pos hj, List.getElem?_drop]
      rw [← this, List.getElem?_eq_getElem (by omega)]
      rfl
    · have := val_lt (tl.take j) (X % 64) 1 (by omega)
      have hl : (tl.take j).length = j := by simp; omega
      rw [hl] at this
      have h7 : (256 : Nat) ^ (1 + j) ≤ 256 ^ 7 := Nat.pow_le_pow_right (by decide) (by omega)
      omega
  have HV : Hid (Num.val (X % 64) (tl.take 3) = Num.val (X % 64) tl) := by unfold Hid; rw [List.take_of_length_le (by omega)]
  have HV0 : Hid (Num.val (X % 64) (tl.take 0) = X % 64) := rfl
  rw [← htl]
  clear hc h htl hlen
  generalize X % 64 = X64 at *
  go_enter Tryd.func45, Tryd.ntmps45
  go_wp2_with fail
  refine HBY.out.mono ?_
  rintro e w1 ⟨rfl, hR1, hS1⟩
  have HT1 := hid (HTK.out w1 hR1)
  have HS1 := hid hS1
  clear hR1 hS1
  go_wp2_with fail
  refine HT1.out.mono ?_
  rintro e w2 ⟨rfl, hR2, hS2⟩
  have HR2 := hid hR2
  have HS2 := hid (HS1.out.trans hS2)
  have HCL2 := hid (HCL.out w2 hR2)
  clear hR2 hS2
  go_wp2_with fail
  go_loopw [4, 19] (fun s4 s19 wr => ∃ k : Nat, k ≤ 3 ∧ s19 = .int .i64 k ∧ s4 = .int .u64 (Num.val X64 (tl.take k) : Nat) ∧ wr = w2) (fun _ s19 _ => 3 - (intOf s19).toNat)
  case atStart => exact ⟨0, Nat.zero_le _, rfl, by rw [HV0.out], rfl⟩
  case round =>
    obtain ⟨k, hk, rfl, rfl, rfl⟩ := hrel
    by_cases hlt : k < 3
    · have hlt' : (k : Int) < 3 := by omega
      obtain ⟨x, T, hx, hbx, hT, hT2, hst⟩ := HST.out k hlt
      have hcl := HCL2.out k hlt
      have hb2 : ((body[p + 1 + k]'(by omega)).toNat : Nat) = x := by
        rw [List.getElem?_eq_getElem (by omega)] at hbx
        simpa using hbx
      rw [hb2, show yo + (p + 1 + k) = yo + (p + 1) + k by omega] at hcl
      have e5 := or_u64 T x hT2 hx
      obtain ⟨T', hT'⟩ : ∃ T', T' = T * 256 + x := ⟨_, rfl⟩
      rw [← hT'] at e5 hst
      rw [← hT]
      have HS := hid hst
      clear hst hT' hb2 hbx hT
      go_wp2_with fail
      go_roundw
      case rel => exact ⟨k + 1, by omega, by go_num, by rw [HS.out], trivial⟩
      case measure => simp [intOf]; omega
    · obtain rfl : k = 3 := by omega
      rw [HV.out]
      go_wp2
      go_ret
      exact ⟨rfl, HR2.out, HS2.out⟩

set_option maxHeartbeats 1000000 in
set_option maxRecDepth 100000 in
theorem number_3 (rb yb yo cap : Nat) (body : List UInt8) (p bg : Nat) (w : World) (h : RdAt w rb yb yo cap body p bg) (hp : p + 8 ≤ body.length) (hc : (body[p]'(by omega)).toNat / 64 = 3) :
    Calls Tryd.prog 45 #[.pointer (some ⟨rb, 0, none⟩)] w fun e w' => e = .returned (.int .u64 ((Num.val ((body[p]'(by omega)).toNat % 64) ((body.drop (p + 1)).take 7) : Nat) : Int)) ∧ RdAt w' rb yb yo cap body (p + 8) bg ∧ St1 rb w w' := by
  have HBY := hid (byte_any rb yb yo cap body p bg w h (by omega))
  have HTK := hid (fun w' (h' : RdAt w' rb yb yo cap body (p + 1) bg) => take_any rb yb yo cap body (p + 1) bg 7 w' h' (by omega))
  have HCL := hid (fun w' (h' : RdAt w' rb yb yo cap body (p + 1 + 7) bg) j (hj : j < 7) => h'.byte (p + 1 + j) (by omega))
  have hX := Crc.u8_lt (body[p]'(by omega))
  generalize (body[p]'(by omega)).toNat = X at *
  have e1 : bits .and .u8 (X : Int) 63 = ((X % 64 : Nat) : Int) := by
    have h63 : X &&& 63 = X % 64 := Nat.and_two_pow_sub_one_eq_mod X 6
    rw [← h63]; exact u8_and_nat X 63 (by omega) (by omega)
  have e2 : (X : Int) / 64 = 3 := by omega
  have e3 : ((X % 64 : Nat) : Int) < 64 := by omega
  obtain ⟨tl, htl⟩ : ∃ tl, tl = (body.drop (p + 1)).take 7 := ⟨_, rfl⟩
  have hlen : tl.length = 7 := by rw [htl, List.length_take, List.length_drop]; omega
  have HST : Hid (∀ j (hj : j < 7), ∃ x T : Nat, x < 256 ∧ body[p + 1 + j]?.map UInt8.toNat = some x ∧ T = Num.val (X % 64) (tl.take j) ∧ T < 72057594037927936 ∧ Num.val (X % 64) (tl.take (j + 1)) = T * 256 + x) := fun j hj => by
    refine ⟨(tl[j]'(by omega)).toNat, _, Crc.u8_lt _, ?_, rfl, ?_, val_take tl _ j (by omega)⟩
    · have : tl[j]? = body[p + 1 + j]? := by rw [htl, List.getElem?_take, if_pos hj, List.getElem?_drop]
      rw [← this, List.getElem?_eq_getElem (by omega)]
      rfl
    · have := val_lt (tl.take j) (X % 64) 1 (by omega)
      have hl : (tl.take j).length = j := by simp; omega
      rw [hl] at this
      have h7 : (256 : Nat) ^ (1 + j) ≤ 256 ^ 7 := Nat.pow_le_pow_right (by decide) (by omega)
      omega
  have HV : Hid (Num.val (X % 64) (tl.take 7) = Num.val (X % 64) tl) := by unfold Hid; rw [List.take_of_length_le (by omega)]
  have HV0 : Hid (Num.val (X % 64) (tl.take 0) = X % 64) := rfl
  rw [← htl]
  clear hc h htl hlen
  generalize X % 64 = X64 at *
  go_enter Tryd.func45, Tryd.ntmps45
  go_wp2_with fail
  refine HBY.out.mono ?_
  rintro e w1 ⟨rfl, hR1, hS1⟩
  have HT1 := hid (HTK.out w1 hR1)
  have HS1 := hid hS1
  clear hR1 hS1
  go_wp2_with fail
  refine HT1.out.mono ?_
  rintro e w2 ⟨rfl, hR2, hS2⟩
  have HR2 := hid hR2
  have HS2 := hid (HS1.out.trans hS2)
  have HCL2 := hid (HCL.out w2 hR2)
  clear hR2 hS2
  go_wp2_with fail
  go_loopw [4, 19] (fun s4 s19 wr => ∃ k : Nat, k ≤ 7 ∧ s19 = .int .i64 k ∧ s4 = .int .u64 (Num.val X64 (tl.take k) : Nat) ∧ wr = w2) (fun _ s19 _ => 7 - (intOf s19).toNat)
  case atStart => exact ⟨0, Nat.zero_le _, rfl, by rw [HV0.out], rfl⟩
  case round =>
    obtain ⟨k, hk, rfl, rfl, rfl⟩ := hrel
    by_cases hlt : k < 7
    · have hlt' : (k : Int) < 7 := by omega
      obtain ⟨x, T, hx, hbx, hT, hT2, hst⟩ := HST.out k hlt
      have hcl := HCL2.out k hlt
      have hb2 : ((body[p + 1 + k]'(by omega)).toNat : Nat) = x := by
        rw [List.getElem?_eq_getElem (by omega)] at hbx
        simpa using hbx
      rw [hb2, show yo + (p + 1 + k) = yo + (p + 1) + k by omega] at hcl
      have e5 := or_u64 T x hT2 hx
      obtain ⟨T', hT'⟩ : ∃ T', T' = T * 256 + x := ⟨_, rfl⟩
      rw [← hT'] at e5 hst
      rw [← hT]
      have HS := hid hst
      clear hst hT' hb2 hbx hT
      go_wp2_with fail
      go_roundw
      case rel => exact ⟨k + 1, by omega, by go_num, by rw [HS.out], trivial⟩
      case measure => simp [intOf]; omega
    · obtain rfl : k = 7 := by omega
      rw [HV.out]
      go_wp2
      go_ret
      exact ⟨rfl, HR2.out, HS2.out⟩

/-- A number that was written is read. -/
theorem number_read (rb yb yo cap : Nat) (body : List UInt8) (p bg n : Nat) (rest : List UInt8) (w : World) (h : RdAt w rb yb yo cap body p bg) (hn : n < 4611686018427387904) (hb : body.drop p = Num.bytes n ++ rest) :
    Calls Tryd.prog 45 #[.pointer (some ⟨rb, 0, none⟩)] w fun e w' => e = .returned (.int .u64 (n : Int)) ∧ RdAt w' rb yb yo cap body (p + (Num.bytes n).length) bg ∧ St1 rb w w' := by
  have hr := Num.read_bytes n hn rest
  rw [← hb] at hr
  have hpos : 0 < (Num.bytes n).length := by rw [Num.bytes_length]; exact Nat.pow_pos (by decide)
  have hl1 : (body.drop p).length = (Num.bytes n).length + rest.length := by rw [hb, List.length_append]
  have hl2 : (body.drop p).length = body.length - p := List.length_drop
  have hp : p < body.length := by omega
  have hd : body.drop p = body[p] :: body.drop (p + 1) := List.drop_eq_getElem_cons hp
  rw [hd, Num.read_cons] at hr
  have hdl : (body.drop (p + 1)).length = body.length - (p + 1) := List.length_drop
  generalize hX : (body[p]).toNat = X at hr
  have hX2 := Crc.u8_lt body[p]
  rw [hX] at hX2
  by_cases hs : (body.drop (p + 1)).length < 2 ^ (X / 64) - 1
  · rw [if_pos hs] at hr; cases hr
  · rw [if_neg hs] at hr
    simp only [Option.some.injEq, Prod.mk.injEq] at hr
    obtain ⟨hv, hrest⟩ := hr
    have hrl : ((body.drop (p + 1)).drop (2 ^ (X / 64) - 1)).length = rest.length := by rw [hrest]
    rw [List.length_drop] at hrl
    have hc4 : X / 64 = 0 ∨ X / 64 = 1 ∨ X / 64 = 2 ∨ X / 64 = 3 := by omega
    have hK : (Num.bytes n).length = 2 ^ (X / 64) := by
      rcases hc4 with e | e | e | e <;> rw [e] at hs hrl ⊢ <;> simp at hs hrl ⊢ <;> omega
    rw [hK]
    rcases hc4 with e | e | e | e
    · rw [e] at hv hK ⊢
      have := number_0 rb yb yo cap body p bg w h (by omega) (by rw [hX]; exact e)
      rw [hX, hv] at this
      exact this
    · rw [e] at hv hK ⊢
      have := number_1 rb yb yo cap body p bg w h (by omega) (by rw [hX]; exact e)
      rw [hX, hv] at this
      exact this
    · rw [e] at hv hK ⊢
      have := number_2 rb yb yo cap body p bg w h (by omega) (by rw [hX]; exact e)
      rw [hX, hv] at this
      exact this
    · rw [e] at hv hK ⊢
      have := number_3 rb yb yo cap body p bg w h (by omega) (by rw [hX]; exact e)
      rw [hX, hv] at this
      exact this

end Go.Proofs.YtphbledmopchnaaDoor
