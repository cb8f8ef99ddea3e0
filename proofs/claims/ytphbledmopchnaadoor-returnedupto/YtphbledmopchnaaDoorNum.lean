/-
  PLAIN: numbers as 1, 2, 4, 8 bytes.
-/
namespace Go.Proofs.YtphbledmopchnaaDoor.Num

def code (n : Nat) : Nat := if n < 64 then 0 else if n < 16384 then 1 else if n < 1073741824 then 2 else 3

/-- k bytes, the highest first. -/
def be : Nat → Nat → List UInt8
  | 0, _ => []
  | k + 1, n => UInt8.ofNat (n / 256 ^ k % 256) :: be k n

/-- A number, its length told by the first two bits. -/
def bytes (n : Nat) : List UInt8 := be (2 ^ code n) (n + code n * 2 ^ (8 * 2 ^ code n - 2))

theorem code_le (n : Nat) : code n ≤ 3 := by unfold code; split <;> (try split) <;> (try split) <;> omega

theorem be_length : ∀ k n, (be k n).length = k
  | 0, _ => rfl
  | k + 1, n => by simp [be, be_length k n]

theorem bytes_length (n : Nat) : (bytes n).length = 2 ^ code n := be_length _ _

/-- Bytes as a number, the highest first. -/
def val (a : Nat) (l : List UInt8) : Nat := l.foldl (fun n x => n * 256 + x.toNat) a

theorem val_be : ∀ k n a, val a (be k n) = a * 256 ^ k + n % 256 ^ k
  | 0, n, a => by simp [be, val, Nat.mod_one]
  | k + 1, n, a => by
    have ih := val_be k n (a * 256 + n / 256 ^ k % 256)
    have h : val a (be (k + 1) n) = val (a * 256 + n / 256 ^ k % 256) (be k n) := by
      show val a (UInt8.ofNat (n / 256 ^ k % 256) :: be k n) = _
      unfold val
      rw [List.foldl_cons, UInt8.toNat_ofNat_of_lt' (Nat.mod_lt _ (by decide))]
    rw [h, ih, Nat.pow_succ, Nat.mod_mul, Nat.add_mul, Nat.mul_assoc a 256, Nat.mul_comm 256 (256 ^ k), Nat.mul_comm (n / 256 ^ k % 256)]
    omega

/-- A number is read: what it is, and what is left. -/
def read : List UInt8 → Option (Nat × List UInt8)
  | [] => none
  | x :: t => if t.length < 2 ^ (x.toNat / 64) - 1 then none else some (val (x.toNat % 64) (t.take (2 ^ (x.toNat / 64) - 1)), t.drop (2 ^ (x.toNat / 64) - 1))

theorem read_cons (x : UInt8) (t : List UInt8) : read (x :: t) = if t.length < 2 ^ (x.toNat / 64) - 1 then none else some (val (x.toNat % 64) (t.take (2 ^ (x.toNat / 64) - 1)), t.drop (2 ^ (x.toNat / 64) - 1)) := rfl

theorem read_bytes (n : Nat) (h : n < 4611686018427387904) (t : List UInt8) : read (bytes n ++ t) = some (n, t) := by
  -- one case a length
  have key : ∀ (c k : Nat), 2 ^ c = k + 1 → c < 4 → n < 64 * 256 ^ k → read (be (k + 1) (n + c * (64 * 256 ^ k)) ++ t) = some (n, t) := by
    intro c k hk hc hn
    have hpos : 0 < 256 ^ k := Nat.pow_pos (by decide)
    have hq : (n + c * (64 * 256 ^ k)) / 256 ^ k = n / 256 ^ k + c * 64 := by
      rw [← Nat.mul_assoc, Nat.add_mul_div_right _ _ hpos]
    have h64 : ∀ q, q < 64 → (q + c * 64) / 64 = c ∧ (q + c * 64) % 64 = q ∧ q + c * 64 < 256 := fun q hq => by omega
    have hn2 : n / 256 ^ k < 64 := (Nat.div_lt_iff_lt_mul hpos).2 hn
    have hx : (UInt8.ofNat ((n + c * (64 * 256 ^ k)) / 256 ^ k % 256)).toNat = n / 256 ^ k + c * 64 := by
      rw [UInt8.toNat_ofNat_of_lt' (Nat.mod_lt _ (by decide)), hq]
      exact Nat.mod_eq_of_lt (h64 _ hn2).2.2
    show read (UInt8.ofNat ((n + c * (64 * 256 ^ k)) / 256 ^ k % 256) :: (be k (n + c * (64 * 256 ^ k)) ++ t)) = _
    rw [read_cons, hx, (h64 _ hn2).1, (h64 _ hn2).2.1, hk, Nat.add_sub_cancel]
    have hl := be_length k (n + c * (64 * 256 ^ k))
    rw [if_neg (by simp [hl]), List.take_append_of_le_length (by omega), List.take_of_length_le (by omega), List.drop_append_of_le_length (by omega), List.drop_of_length_le (by omega), List.nil_append, val_be]
    rw [← Nat.mul_assoc, Nat.add_mul_mod_self_right]
    congr 2
    exact Nat.div_add_mod' n (256 ^ k)
  unfold bytes code
  by_cases h1 : n < 64
  · simp only [h1, if_true]
    exact key 0 0 rfl (by omega) (by omega)
  · by_cases h2 : n < 16384
    · simp only [h1, h2, if_true, if_false]
      exact key 1 1 rfl (by omega) (by omega)
    · by_cases h3 : n < 1073741824
      · simp only [h1, h2, h3, if_true, if_false]
        exact key 2 3 rfl (by omega) (by omega)
      · simp only [h1, h2, h3, if_false]
        exact key 3 7 rfl (by omega) (by omega)

end Go.Proofs.YtphbledmopchnaaDoor.Num
