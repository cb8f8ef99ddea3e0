/-
  appendNumber.
-/
import Derived.Test.YtphbledmopchnaaDoorBuf
import Derived.Deep.Light
namespace Go.Proofs.YtphbledmopchnaaDoor
open Go.RowKit Go.Lib Mm

theorem or_add (n c k : Nat) (h : n < 2 ^ k) : n ||| (c * 2 ^ k) = n + c * 2 ^ k := by
  rw [Nat.or_comm, Nat.mul_comm, ← Nat.two_pow_add_eq_or_of_lt h, Nat.add_comm]

theorem be_get : ∀ (K N j m : Nat), K = j + m + 1 → (Num.be K N).take (j + 1) = (Num.be K N).take j ++ [UInt8.ofNat (N / 256 ^ m % 256)]
  | 0, _, _, _, h => by omega
  | K + 1, N, 0, m, h => by
    obtain rfl : K = m := by omega
    simp [Num.be]
  | K + 1, N, j + 1, m, h => by
    have := be_get K N j m (by omega)
    simp [Num.be, this]

/-- A round of the loop: what is appended. -/
theorem round_buf {w wr : World} {v s0 : Value} {l : List UInt8} {K N j m : Nat} (hK : K = j + m + 1) (hB : Buf wr s0 (l ++ (Num.be K N).take j)) (hG : Gr w wr v s0) (hl : l.length ≤ 35184372088832) (hk8 : K ≤ 8) (c : Int) (hc : c = ((N / 256 ^ m % 256 : Nat) : Int)) :
    ∃ v' w', (∀ ty, (Builtin.append_ #[29, 29] ty #[s0, .slice (some ⟨wr.heap.size, 0, none⟩) 1 1]).run Tryd.prog (wr.alloc (.cells #[.int .u8 c] 5)) = .ok v' w') ∧ Buf w' v' (l ++ (Num.be K N).take (j + 1)) ∧ Gr w w' v v' := by
  have hlen : (l ++ (Num.be K N).take j).length ≤ l.length + 8 := by simp [Num.be_length]; omega
  obtain ⟨v', w', h1, h2, h3⟩ := run_append_buf (hB.alloc (.cells #[.int .u8 c] 5)) ⟨wr.heap.size, 0, none⟩ 1 1 [UInt8.ofNat (N / 256 ^ m % 256)] rfl (by omega) (fun i u hu => by
    match i, hu with
    | 0, hu =>
      simp [bcells] at hu
      rw [Addr.add_lit, Nat.zero_add, (Blk.new wr 5 [.int .u8 c]).cell, ← hu, hc]
      simp
    | i + 1, hu => simp [bcells] at hu) (by omega)
  refine ⟨v', w', h1, ?_, hG.trans (h3.alloc _)⟩
  rw [be_get K N j m hK, ← List.append_assoc]
  exact h2

set_option maxHeartbeats 1000000 in
set_option maxRecDepth 1000000 in
theorem appendNumber_any (v : Value) (l : List UInt8) (n : Nat) (w : World) (hb : Buf w v l) (hn : n < 4611686018427387904) (hl : l.length ≤ 35184372088832) :
    Calls Tryd.prog 18 #[v, .int .u64 (n : Int)] w fun e w' => ∃ v', e = .returned v' ∧ Buf w' v' (l ++ Num.bytes n) ∧ Gr w w' v v' := by
  have hcd := lengthCode_any n w
  have HC := hid hcd
  clear hcd
  have hby : Hid (Num.bytes n = Num.be (2 ^ Num.code n) (n + Num.code n * 2 ^ (8 * 2 ^ Num.code n - 2))) := rfl
  have h4 : Num.code n = 0 ∧ n < 64 ∨ Num.code n = 1 ∧ n < 16384 ∨ Num.code n = 2 ∧ n < 1073741824 ∨ Num.code n = 3 := by
    unfold Num.code
    split <;> (try split) <;> (try split) <;> omega
  have HB := hid hb
  clear hb
  go_enter Tryd.func18, Tryd.ntmps18
  go_wp2_with fail
  refine HC.out.mono ?_
  rintro e w1 ⟨rfl, hw1⟩
  subst hw1
  rcases h4 with ⟨hc, hlt⟩ | ⟨hc, hlt⟩ | ⟨hc, hlt⟩ | hc
  · have hor : bits .or .u64 (n : Int) 0 = ((n + 0 : Nat) : Int) := by
      have := u64_or_nat n 0 (by omega) (by omega)
      rw [show (0 : Nat) = 0 * 2 ^ 6 from rfl, or_add n 0 6 hlt] at this
      exact this
    have hbt : Num.bytes n = Num.be 1 (n + 0) := by rw [hby.out, hc]
    rw [hc]
    obtain ⟨N, hN⟩ : ∃ N, N = n + 0 := ⟨_, rfl⟩
    rw [← hN] at hor hbt
    have HBT := hid hbt
    clear hN hby hlt hc hbt
    go_wp2_with fail
    go_loopw [0, 6] (fun s0 s6 wr => ∃ j m t : Nat, 1 = j + m ∧ s6 = .int .i64 t ∧ Hid (t = 8 * m) ∧ Hid (Buf wr s0 (l ++ (Num.be 1 N).take j)) ∧ Hid (Gr w1 wr v s0)) (fun _ s6 _ => (intOf s6).toNat)
    case atStart => exact ⟨0, 1, 8, rfl, rfl, rfl, by rw [List.take_zero, List.append_nil]; exact HB.out, Gr.refl w1 v⟩
    case round =>
      obtain ⟨j, m, t, hjm, rfl, Ht, HBr, HGr⟩ := hrel
      cases m with
      | zero =>
        have ht0 : t = 0 := Ht.out
        subst ht0
        have HF : Hid (Buf wr u0 (l ++ Num.bytes n)) := by
          have := HBr.out
          rw [List.take_of_length_le (by rw [Num.be_length]; omega), ← HBT.out] at this
          exact this
        clear HBr hjm
        go_wp2
        go_ret
        exact ⟨_, rfl, HF.out, HGr.out⟩
      | succ m =>
        have ht : t = 8 * m + 8 := by have := Ht.out; omega
        obtain ⟨t', ht'⟩ : ∃ t', t' = 8 * m := ⟨_, rfl⟩
        have e1 : (t : Int) - 8 = (t' : Int) := by omega
        have g1 : (0 : Int) < (t : Int) := by omega
        have g2 : (t' : Int) < 64 := by omega
        have g4 : (t : Int) ≤ 64 := by omega
        have e2 : min t' 64 = t' := by omega
        obtain ⟨Q, hQ⟩ : ∃ Q, Q = N / 256 ^ m := ⟨_, rfl⟩
        obtain ⟨cc, hcc⟩ : ∃ cc, cc = Q % 256 := ⟨_, rfl⟩
        have hpw : 2 ^ t' = 256 ^ m := by rw [ht', Nat.pow_mul]
        have e3 : (N : Int) / 2 ^ t' = (Q : Int) := by
          rw [hQ, ← hpw]; simp
        have e4 : (Q : Int) % 256 = (cc : Int) := by omega
        obtain ⟨v', w', hrun, hB', hG'⟩ := round_buf (w := w1) (v := v) (l := l) (N := N) (m := m) hjm HBr.out HGr.out hl (by omega) (cc : Int) (by rw [hcc, hQ])
        have HB' := hid hB'
        have HG' := hid hG'
        have HT' := hid ht'
        have HTT := hid (show t' < t by omega)
        have HJ := hid hjm
        clear hjm ht ht' hQ hcc hpw hB' hG' HBr HGr Ht
        go_wp2_with (at_builtin; refine Lib.wpList_append_run _ rfl _ _ _ _ rfl _ _ rfl rfl _ _ (hrun _) ?_)
        go_roundw
        case rel => first | exact ⟨j + 1, m, t', by have := HJ.out; omega, rfl, HT', HB', HG'⟩ | ((repeat apply Exists.intro); exact ⟨⟨j + 1, m, t', by have := HJ.out; omega, rfl, HT', HB', HG'⟩, rfl⟩)
        case measure => simp [intOf]; exact HTT.out
  · have hor : bits .or .u64 (n : Int) 16384 = ((n + 16384 : Nat) : Int) := by
      have := u64_or_nat n 16384 (by omega) (by omega)
      rw [show (16384 : Nat) = 1 * 2 ^ 14 from rfl, or_add n 1 14 hlt] at this
      exact this
    have hbt : Num.bytes n = Num.be 2 (n + 16384) := by rw [hby.out, hc]
    rw [hc]
    obtain ⟨N, hN⟩ : ∃ N, N = n + 16384 := ⟨_, rfl⟩
    rw [← hN] at hor hbt
    have HBT := hid hbt
    clear hN hby hlt hc hbt
    go_wp2_with fail
    go_loopw [0, 6] (fun s0 s6 wr => ∃ j m t : Nat, 2 = j + m ∧ s6 = .int .i64 t ∧ Hid (t = 8 * m) ∧ Hid (Buf wr s0 (l ++ (Num.be 2 N).take j)) ∧ Hid (Gr w1 wr v s0)) (fun _ s6 _ => (intOf s6).toNat)
    case atStart => exact ⟨0, 2, 16, rfl, rfl, rfl, by rw [List.take_zero, List.append_nil]; exact HB.out, Gr.refl w1 v⟩
    case round =>
      obtain ⟨j, m, t, hjm, rfl, Ht, HBr, HGr⟩ := hrel
      cases m with
      | zero =>
        have ht0 : t = 0 := Ht.out
        subst ht0
        have HF : Hid (Buf wr u0 (l ++ Num.bytes n)) := by
          have := HBr.out
          rw [List.take_of_length_le (by rw [Num.be_length]; omega), ← HBT.out] at this
          exact this
        clear HBr hjm
        go_wp2
        go_ret
        exact ⟨_, rfl, HF.out, HGr.out⟩
      | succ m =>
        have ht : t = 8 * m + 8 := by have := Ht.out; omega
        obtain ⟨t', ht'⟩ : ∃ t', t' = 8 * m := ⟨_, rfl⟩
        have e1 : (t : Int) - 8 = (t' : Int) := by omega
        have g1 : (0 : Int) < (t : Int) := by omega
        have g2 : (t' : Int) < 64 := by omega
        have g4 : (t : Int) ≤ 64 := by omega
        have e2 : min t' 64 = t' := by omega
        obtain ⟨Q, hQ⟩ : ∃ Q, Q = N / 256 ^ m := ⟨_, rfl⟩
        obtain ⟨cc, hcc⟩ : ∃ cc, cc = Q % 256 := ⟨_, rfl⟩
        have hpw : 2 ^ t' = 256 ^ m := by rw [ht', Nat.pow_mul]
        have e3 : (N : Int) / 2 ^ t' = (Q : Int) := by
          rw [hQ, ← hpw]; simp
        have e4 : (Q : Int) % 256 = (cc : Int) := by omega
        obtain ⟨v', w', hrun, hB', hG'⟩ := round_buf (w := w1) (v := v) (l := l) (N := N) (m := m) hjm HBr.out HGr.out hl (by omega) (cc : Int) (by rw [hcc, hQ])
        have HB' := hid hB'
        have HG' := hid hG'
        have HT' := hid ht'
        have HTT := hid (show t' < t by omega)
        have HJ := hid hjm
        clear hjm ht ht' hQ hcc hpw hB' hG' HBr HGr Ht
        go_wp2_with (at_builtin; refine Lib.wpList_append_run _ rfl _ _ _ _ rfl _ _ rfl rfl _ _ (hrun _) ?_)
        go_roundw
        case rel => first | exact ⟨j + 1, m, t', by have := HJ.out; omega, rfl, HT', HB', HG'⟩ | ((repeat apply Exists.intro); exact ⟨⟨j + 1, m, t', by have := HJ.out; omega, rfl, HT', HB', HG'⟩, rfl⟩)
        case measure => simp [intOf]; exact HTT.out
  · have hor : bits .or .u64 (n : Int) 2147483648 = ((n + 2147483648 : Nat) : Int) := by
      have := u64_or_nat n 2147483648 (by omega) (by omega)
      rw [show (2147483648 : Nat) = 2 * 2 ^ 30 from rfl, or_add n 2 30 hlt] at this
      exact this
    have hbt : Num.bytes n = Num.be 4 (n + 2147483648) := by rw [hby.out, hc]
    rw [hc]
    obtain ⟨N, hN⟩ : ∃ N, N = n + 2147483648 := ⟨_, rfl⟩
    rw [← hN] at hor hbt
    have HBT := hid hbt
    clear hN hby hlt hc hbt
    go_wp2_with fail
    go_loopw [0, 6] (fun s0 s6 wr => ∃ j m t : Nat, 4 = j + m ∧ s6 = .int .i64 t ∧ Hid (t = 8 * m) ∧ Hid (Buf wr s0 (l ++ (Num.be 4 N).take j)) ∧ Hid (Gr w1 wr v s0)) (fun _ s6 _ => (intOf s6).toNat)
    case atStart => exact ⟨0, 4, 32, rfl, rfl, rfl, by rw [List.take_zero, List.append_nil]; exact HB.out, Gr.refl w1 v⟩
    case round =>
      obtain ⟨j, m, t, hjm, rfl, Ht, HBr, HGr⟩ := hrel
      cases m with
      | zero =>
        have ht0 : t = 0 := Ht.out
        subst ht0
        have HF : Hid (Buf wr u0 (l ++ Num.bytes n)) := by
          have := HBr.out
          rw [List.take_of_length_le (by rw [Num.be_length]; omega), ← HBT.out] at this
          exact this
        clear HBr hjm
        go_wp2
        go_ret
        exact ⟨_, rfl, HF.out, HGr.out⟩
      | succ m =>
        have ht : t = 8 * m + 8 := by have := Ht.out; omega
        obtain ⟨t', ht'⟩ : ∃ t', t' = 8 * m := ⟨_, rfl⟩
        have e1 : (t : Int) - 8 = (t' : Int) := by omega
        have g1 : (0 : Int) < (t : Int) := by omega
        have g2 : (t' : Int) < 64 := by omega
        have g4 : (t : Int) ≤ 64 := by omega
        have e2 : min t' 64 = t' := by omega
        obtain ⟨Q, hQ⟩ : ∃ Q, Q = N / 256 ^ m := ⟨_, rfl⟩
        obtain ⟨cc, hcc⟩ : ∃ cc, cc = Q % 256 := ⟨_, rfl⟩
        have hpw : 2 ^ t' = 256 ^ m := by rw [ht', Nat.pow_mul]
        have e3 : (N : Int) / 2 ^ t' = (Q : Int) := by
          rw [hQ, ← hpw]; simp
        have e4 : (Q : Int) % 256 = (cc : Int) := by omega
        obtain ⟨v', w', hrun, hB', hG'⟩ := round_buf (w := w1) (v := v) (l := l) (N := N) (m := m) hjm HBr.out HGr.out hl (by omega) (cc : Int) (by rw [hcc, hQ])
        have HB' := hid hB'
        have HG' := hid hG'
        have HT' := hid ht'
        have HTT := hid (show t' < t by omega)
        have HJ := hid hjm
        clear hjm ht ht' hQ hcc hpw hB' hG' HBr HGr Ht
        go_wp2_with (at_builtin; refine Lib.wpList_append_run _ rfl _ _ _ _ rfl _ _ rfl rfl _ _ (hrun _) ?_)
        go_roundw
        case rel => first | exact ⟨j + 1, m, t', by have := HJ.out; omega, rfl, HT', HB', HG'⟩ | ((repeat apply Exists.intro); exact ⟨⟨j + 1, m, t', by have := HJ.out; omega, rfl, HT', HB', HG'⟩, rfl⟩)
        case measure => simp [intOf]; exact HTT.out
  · have hor : bits .or .u64 (n : Int) 13835058055282163712 = ((n + 13835058055282163712 : Nat) : Int) := by
      have := u64_or_nat n 13835058055282163712 (by omega) (by omega)
      rw [show (13835058055282163712 : Nat) = 3 * 2 ^ 62 from rfl, or_add n 3 62 hn] at this
      exact this
    have hbt : Num.bytes n = Num.be 8 (n + 13835058055282163712) := by rw [hby.out, hc]
    rw [hc]
    obtain ⟨N, hN⟩ : ∃ N, N = n + 13835058055282163712 := ⟨_, rfl⟩
    rw [← hN] at hor hbt
    have HBT := hid hbt
    clear hN hby hc hbt
    go_wp2_with fail
    go_loopw [0, 6] (fun s0 s6 wr => ∃ j m t : Nat, 8 = j + m ∧ s6 = .int .i64 t ∧ Hid (t = 8 * m) ∧ Hid (Buf wr s0 (l ++ (Num.be 8 N).take j)) ∧ Hid (Gr w1 wr v s0)) (fun _ s6 _ => (intOf s6).toNat)
    case atStart => exact ⟨0, 8, 64, rfl, rfl, rfl, by rw [List.take_zero, List.append_nil]; exact HB.out, Gr.refl w1 v⟩
    case round =>
      obtain ⟨j, m, t, hjm, rfl, Ht, HBr, HGr⟩ := hrel
      cases m with
      | zero =>
        have ht0 : t = 0 := Ht.out
        subst ht0
        have HF : Hid (Buf wr u0 (l ++ Num.bytes n)) := by
          have := HBr.out
          rw [List.take_of_length_le (by rw [Num.be_length]; omega), ← HBT.out] at this
          exact this
        clear HBr hjm
        go_wp2
        go_ret
        exact ⟨_, rfl, HF.out, HGr.out⟩
      | succ m =>
        have ht : t = 8 * m + 8 := by have := Ht.out; omega
        obtain ⟨t', ht'⟩ : ∃ t', t' = 8 * m := ⟨_, rfl⟩
        have e1 : (t : Int) - 8 = (t' : Int) := by omega
        have g1 : (0 : Int) < (t : Int) := by omega
        have g2 : (t' : Int) < 64 := by omega
        have g4 : (t : Int) ≤ 64 := by omega
        have e2 : min t' 64 = t' := by omega
        obtain ⟨Q, hQ⟩ : ∃ Q, Q = N / 256 ^ m := ⟨_, rfl⟩
        obtain ⟨cc, hcc⟩ : ∃ cc, cc = Q % 256 := ⟨_, rfl⟩
        have hpw : 2 ^ t' = 256 ^ m := by rw [ht', Nat.pow_mul]
        have e3 : (N : Int) / 2 ^ t' = (Q : Int) := by
          rw [hQ, ← hpw]; simp
        have e4 : (Q : Int) % 256 = (cc : Int) := by omega
        obtain ⟨v', w', hrun, hB', hG'⟩ := round_buf (w := w1) (v := v) (l := l) (N := N) (m := m) hjm HBr.out HGr.out hl (by omega) (cc : Int) (by rw [hcc, hQ])
        have HB' := hid hB'
        have HG' := hid hG'
        have HT' := hid ht'
        have HTT := hid (show t' < t by omega)
        have HJ := hid hjm
        clear hjm ht ht' hQ hcc hpw hB' hG' HBr HGr Ht
        go_wp2_with (at_builtin; refine Lib.wpList_append_run _ rfl _ _ _ _ rfl _ _ rfl rfl _ _ (hrun _) ?_)
        go_roundw
        case rel => first | exact ⟨j + 1, m, t', by have := HJ.out; omega, rfl, HT', HB', HG'⟩ | ((repeat apply Exists.intro); exact ⟨⟨j + 1, m, t', by have := HJ.out; omega, rfl, HT', HB', HG'⟩, rfl⟩)
        case measure => simp [intOf]; exact HTT.out

end Go.Proofs.YtphbledmopchnaaDoor
