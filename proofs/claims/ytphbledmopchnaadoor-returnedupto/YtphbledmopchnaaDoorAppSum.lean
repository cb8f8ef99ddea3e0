/-
  appendSum, cutSum.
-/
import Derived.Test.YtphbledmopchnaaDoorAppNum
namespace Go.Proofs.YtphbledmopchnaaDoor
open Go.RowKit Go.Lib Mm

theorem Buf.bytes {w : World} {v : Value} {l : List UInt8} (h : Buf w v l) : ∃ a c, v = .slice a l.length c ∧ BytesAt w a l := by
  rcases h with ⟨rfl, rfl⟩ | ⟨g, cap, cs, rfl, hB, h2, h3, h4, h5, h6⟩
  · exact ⟨none, 0, rfl, fun j hj => by simp at hj⟩
  · refine ⟨_, cap, rfl, fun j hj => ⟨g, 0, rfl, ?_⟩⟩
    rw [hB.cell, Nat.zero_add]
    have : (cs.take l.length)[j]? = (bcells l)[j]? := by rw [h5]
    rw [List.getElem?_take, if_pos hj] at this
    rw [this]
    simp [bcells, hj]

/-- The sum of a packet, as four bytes. -/
def sumBytes (l : List UInt8) : List UInt8 := Num.be 4 (Crc.sum l)

theorem sumBytes_cells (l : List UInt8) (q1 q2 q3 q4 : Nat) (h1 : q1 = Crc.sum l / 16777216 % 256) (h2 : q2 = Crc.sum l / 65536 % 256) (h3 : q3 = Crc.sum l / 256 % 256) (h4 : q4 = Crc.sum l % 256) :
    bcells (sumBytes l) = [.int .u8 (q1 : Int), .int .u8 (q2 : Int), .int .u8 (q3 : Int), .int .u8 (q4 : Int)] := by
  subst h1; subst h2; subst h3; subst h4
  simp [sumBytes, Num.be, bcells]

set_option maxHeartbeats 1000000 in
set_option maxRecDepth 100000 in
theorem appendSum_any (v : Value) (l : List UInt8) (w : World) (hb : Buf w v l) (ht : TabAt w) (hl : l.length ≤ 1000000000) :
    Calls Tryd.prog 20 #[v] w fun e w' => ∃ v', e = .returned v' ∧ Buf w' v' (l ++ sumBytes l) ∧ Gr w w' v v' := by
  obtain ⟨a, c, hv, hby⟩ := hb.bytes
  have hs := sum_any a l c w hl hby ht
  rw [← hv] at hs
  have hlt := Crc.sum_lt l
  obtain ⟨q1, h1⟩ : ∃ q, q = Crc.sum l / 16777216 % 256 := ⟨_, rfl⟩
  obtain ⟨q2, h2⟩ : ∃ q, q = Crc.sum l / 65536 % 256 := ⟨_, rfl⟩
  obtain ⟨q3, h3⟩ : ∃ q, q = Crc.sum l / 256 % 256 := ⟨_, rfl⟩
  obtain ⟨q4, h4⟩ : ∃ q, q = Crc.sum l % 256 := ⟨_, rfl⟩
  have hsc := sumBytes_cells l q1 q2 q3 q4 h1 h2 h3 h4
  obtain ⟨v', w', hrun, hB', hG'⟩ := run_append_buf (hb.alloc (.cells #[.int .u8 (q1 : Int), .int .u8 (q2 : Int), .int .u8 (q3 : Int), .int .u8 (q4 : Int)] 5)) ⟨w.heap.size, 0, none⟩ 4 4 (sumBytes l) (Num.be_length 4 _) (by omega) (fun i u hu => by
    rw [hsc] at hu
    rw [Addr.add_lit, Nat.zero_add, (Blk.new w 5 [.int .u8 (q1 : Int), .int .u8 (q2 : Int), .int .u8 (q3 : Int), .int .u8 (q4 : Int)]).cell]
    exact hu) (by omega)
  generalize Crc.sum l = S at hs hlt h1 h2 h3 h4
  have e1 : (S : Int) / 16777216 = (q1 : Int) := by omega
  have e2 : (S : Int) / 65536 % 256 = (q2 : Int) := by omega
  have e3 : (S : Int) / 256 % 256 = (q3 : Int) := by omega
  have e4 : (S : Int) % 256 = (q4 : Int) := by omega
  have HS := hid hs
  have HB' := hid hB'
  have HG' := hid (hG'.alloc _)
  clear h1 h2 h3 h4 hs hsc hB' hG' hb ht hby hv
  go_enter Tryd.func20, Tryd.ntmps20
  go_wp2_with fail
  refine HS.out.mono ?_
  rintro e w1 ⟨rfl, hw1⟩
  subst hw1
  go_wp2_with (at_builtin; refine Lib.wpList_append_run _ rfl _ _ _ _ rfl _ _ rfl rfl _ _ (hrun _) ?_)
  go_ret
  exact ⟨v', rfl, HB'.out, HG'.out⟩

theorem BytesAt.cut {w : World} {a : Option Addr} {l : List UInt8} (h : BytesAt w a l) (n : Nat) : BytesAt w a (l.take n) := fun j hj => by
  obtain ⟨b, off, ha, hc⟩ := h j (by simp at hj; omega)
  exact ⟨b, off, ha, by rw [hc]; simp⟩

set_option maxHeartbeats 1000000 in
set_option maxRecDepth 100000 in
theorem cutSum_short (a : Option Addr) (l : List UInt8) (c : Nat) (w : World) (hl : l.length < 4) :
    Calls Tryd.prog 21 #[.slice a l.length c] w fun e w' => e = .returned (.tuple #[.slice none 0 0, .bool false]) ∧ w' = w := by
  have h1 : (l.length : Int) - 4 < 0 := by omega
  go_enter Tryd.func21, Tryd.ntmps21
  go_wp2
  go_ret2
  exact ⟨rfl, rfl⟩

theorem ret_sb {x : Value} {a b : Bool} (h : a = b) : Ending.returned (.tuple #[x, .bool a]) = .returned (.tuple #[x, .bool b]) := by rw [h]

theorem val_snoc (a : Nat) (l : List UInt8) (x : UInt8) : Num.val a (l ++ [x]) = Num.val a l * 256 + x.toNat := by
  unfold Num.val; rw [List.foldl_append]; rfl
theorem val_lt : ∀ (l : List UInt8) (a k : Nat), a < 256 ^ k → Num.val a l < 256 ^ (k + l.length)
  | [], a, k, h => by simpa [Num.val] using h
  | x :: t, a, k, h => by
    have hx := Crc.u8_lt x
    have := val_lt t (a * 256 + x.toNat) (k + 1) (by rw [Nat.pow_succ]; omega)
    rw [List.length_cons, show k + (t.length + 1) = k + 1 + t.length by omega]
    exact this

theorem or_u32 (T X : Nat) (hT : T < 16777216) (hX : X < 256) : bits .or .u32 ((T : Int) * 256) (X : Int) = ((T * 256 + X : Nat) : Int) := by
  have h := u32_or_nat (T * 256) X (by omega) (by omega)
  rw [Nat.or_comm, or_add X T 8 hX, Nat.add_comm] at h
  rw [← h]
  simp

set_option maxHeartbeats 1000000 in
set_option maxRecDepth 100000 in
theorem cutSum_any (b off : Nat) (body tl : List UInt8) (c : Nat) (w : World) (hl : body.length ≤ 1000000000) (h4 : tl.length = 4) (hc : body.length + 4 ≤ c) (hb : BytesAt w (some ⟨b, off, none⟩) (body ++ tl)) (ht : TabAt w) :
    Calls Tryd.prog 21 #[.slice (some ⟨b, off, none⟩) (body.length + 4) c] w fun e w' => e = .returned (.tuple #[.slice (some ⟨b, off, none⟩) body.length c, .bool (decide (Num.val 0 tl = Crc.sum body))]) ∧ ∃ q, w' = w.drewN q := by
  have hbb : BytesAt w (some ⟨b, off, none⟩) body := by
    have := hb.cut body.length
    rwa [List.take_left'] at this
    rfl
  have hs := fun q => sum_any (some ⟨b, off, none⟩) body c (w.drewN q) hl hbb ht
  have htl : ∀ k, k < 4 → w.cell? ⟨b, off + body.length + k, none⟩ = some (.int .u8 (((tl.getD k 0).toNat : Nat) : Int)) := fun k hk => by
    obtain ⟨b', off', ha, hcc⟩ := hb (body.length + k) (by simp; omega)
    simp at ha
    obtain ⟨rfl, rfl⟩ := ha
    rw [Nat.add_assoc, hcc]
    simp [hk, h4]
  have hsn : ∀ k, k < 4 → Num.val 0 (tl.take (k + 1)) = Num.val 0 (tl.take k) * 256 + (tl.getD k 0).toNat ∧ Num.val 0 (tl.take k) < 16777216 := fun k hk => by
    refine ⟨?_, ?_⟩
    · rw [List.take_succ_eq_append_getElem (by omega), val_snoc]
      simp [hk, h4]
    · have := val_lt (tl.take k) 0 0 (by decide)
      have hk' : (tl.take k).length = k := by simp; omega
      rw [hk', Nat.zero_add] at this
      exact Nat.lt_of_lt_of_le this (by
        have : (256 : Nat) ^ k ≤ 256 ^ 3 := Nat.pow_le_pow_right (by decide) (by omega)
        omega)
  have HSN := hid hsn
  have HV4 : Hid (Num.val 0 (tl.take 4) = Num.val 0 tl) := by rw [List.take_of_length_le (by omega)]; rfl
  clear hsn
  have HS := hid hs
  have HT := hid htl
  have H4 := hid h4
  have i1 : (0 : Int) ≤ (body.length : Int) := by omega
  generalize body.length = n at *
  have i2 : (n : Int) ≤ (n : Int) + 4 := by omega
  have i3 : ¬ (c = n) := by omega
  clear hs htl hb hbb ht h4 H4
  go_enter Tryd.func21, Tryd.ntmps21
  go_wp2_with fail
  go_loop [5, 17] (fun s5 s17 => ∃ k : Nat, k ≤ 4 ∧ s17 = .int .i64 k ∧ s5 = .int .u32 (Num.val 0 (tl.take k) : Nat)) (fun _ s17 => 4 - (intOf s17).toNat)
  case atStart => exact ⟨0, Nat.zero_le _, rfl, rfl⟩
  case round =>
    obtain ⟨k, hk, rfl, rfl⟩ := hrel
    by_cases hlt : k < 4
    · have hlt' : (k : Int) < 4 := by omega
      have hcl := HT.out k hlt
      obtain ⟨hs1, hs2⟩ := HSN.out k hlt
      have hX := Crc.u8_lt (tl.getD k 0)
      generalize (tl.getD k 0).toNat = X at hcl hs1 hX
      generalize Num.val 0 (tl.take k) = T at hs1 hs2
      have e1 := or_u32 T X hs2 hX
      obtain ⟨T', hT'⟩ : ∃ T', T' = T * 256 + X := ⟨_, rfl⟩
      rw [← hT'] at e1 hs1
      have HS1 := hid hs1
      clear hs1 hT'
      go_wp2
      go_round
      case rel => exact ⟨k + 1, by omega, by go_num, by rw [HS1.out]⟩
      case measure => simp [intOf]; omega
    · obtain rfl : k = 4 := by omega
      rw [HV4.out]
      have hcv : (((Num.val 0 tl : Nat) : Int) == ((Crc.sum body : Nat) : Int)) = decide (Num.val 0 tl = Crc.sum body) := by
        rw [Bool.eq_iff_iff, beq_iff_eq, decide_eq_true_iff]; omega
      have HCV := hid hcv
      clear hcv
      have i4 : (n : Int) ≤ (c : Int) := by omega
      go_wp2_with fail
      go_quiet ((go_at_call 43; exact Calls.quiet_of_same (HS.out _)))
      go_wp2
      go_ret2
      exact ⟨ret_sb HCV.out, nq, rfl⟩

end Go.Proofs.YtphbledmopchnaaDoor
