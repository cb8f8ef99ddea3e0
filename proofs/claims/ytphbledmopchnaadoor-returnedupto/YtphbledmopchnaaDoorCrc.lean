/-
  PLAIN: the sum, four bits at a time; a byte that is turned is seen.
-/
namespace Go.Proofs.YtphbledmopchnaaDoor.Crc

def tab : List Nat := [0, 498536548, 997073096, 651767980, 1994146192, 1802195444, 1303535960, 1342533948, 3988292384, 4027552580, 3604390888, 3412177804, 2607071920, 2262029012, 2685067896, 3183342108]

/-- Four bits leave. -/
def nib (c : Nat) : Nat := (c >>> 4) ^^^ tab.getD (c &&& 15) 0
/-- A byte comes. -/
def byt (c : Nat) (x : UInt8) : Nat := nib (nib (c ^^^ x.toNat))
def reg (c : Nat) (l : List UInt8) : Nat := l.foldl byt c
/-- The sum. -/
def sum (l : List UInt8) : Nat := 4294967295 ^^^ reg 4294967295 l

theorem xor_right {a b c : Nat} (h : a ^^^ c = b ^^^ c) : a = b := by
  have := congrArg (fun z => z ^^^ c) h
  simpa [Nat.xor_assoc] using this
theorem xor_left {a b c : Nat} (h : c ^^^ a = c ^^^ b) : a = b := by
  rw [Nat.xor_comm c a, Nat.xor_comm c b] at h
  exact xor_right h

theorem tab_lt : ∀ k, k < 16 → tab.getD k 0 < 4294967296 := by decide
theorem tab_top : ∀ a, a < 16 → ∀ b, b < 16 → tab.getD a 0 >>> 28 = tab.getD b 0 >>> 28 → a = b := by decide

theorem and15 (c : Nat) : c &&& 15 = c % 16 := by
  have := Nat.and_two_pow_sub_one_eq_mod c 4
  simpa using this
theorem and15_lt (c : Nat) : c &&& 15 < 16 := by rw [and15]; omega

theorem nib_lt (c : Nat) (h : c < 4294967296) : nib c < 4294967296 := by
  unfold nib
  have h1 : c >>> 4 < 2 ^ 32 := by rw [Nat.shiftRight_eq_div_pow]; omega
  have h2 : tab.getD (c &&& 15) 0 < 2 ^ 32 := tab_lt _ (and15_lt c)
  exact Nat.xor_lt_two_pow h1 h2

theorem nib_top (c : Nat) (h : c < 4294967296) : nib c >>> 28 = tab.getD (c &&& 15) 0 >>> 28 := by
  unfold nib
  rw [Nat.shiftRight_xor_distrib]
  have : c >>> 4 >>> 28 = 0 := by
    rw [← Nat.shiftRight_add, Nat.shiftRight_eq_div_pow]
    omega
  rw [this, Nat.zero_xor]

theorem nib_inj (a b : Nat) (ha : a < 4294967296) (hb : b < 4294967296) (h : nib a = nib b) : a = b := by
  have h1 : a &&& 15 = b &&& 15 := tab_top _ (and15_lt a) _ (and15_lt b) (by rw [← nib_top a ha, ← nib_top b hb, h])
  have h2 : a >>> 4 = b >>> 4 := by
    have e := h
    unfold nib at e
    rw [h1] at e
    exact xor_right e
  rw [and15, and15] at h1
  rw [Nat.shiftRight_eq_div_pow, Nat.shiftRight_eq_div_pow] at h2
  omega

theorem u8_lt (x : UInt8) : x.toNat < 256 := x.toNat_lt

theorem byt_lt (c : Nat) (x : UInt8) (h : c < 4294967296) : byt c x < 4294967296 := by
  unfold byt
  have h1 : c ^^^ x.toNat < 2 ^ 32 := Nat.xor_lt_two_pow (by omega) (by have := u8_lt x; omega)
  exact nib_lt _ (nib_lt _ h1)
theorem reg_lt (c : Nat) (l : List UInt8) (h : c < 4294967296) : reg c l < 4294967296 := by
  induction l generalizing c with
  | nil => exact h
  | cons x t ih => exact ih _ (byt_lt c x h)
theorem sum_lt (l : List UInt8) : sum l < 4294967296 :=
  Nat.xor_lt_two_pow (n := 32) (by omega) (reg_lt _ l (by omega))

theorem xor_lt32 {a b : Nat} (ha : a < 4294967296) (hb : b < 4294967296) : a ^^^ b < 4294967296 := Nat.xor_lt_two_pow (n := 32) ha hb

theorem byt_inj_left (a b : Nat) (x : UInt8) (ha : a < 4294967296) (hb : b < 4294967296) (h : byt a x = byt b x) : a = b := by
  have hx := u8_lt x
  have h1 := nib_inj _ _ (nib_lt _ (xor_lt32 ha (by omega))) (nib_lt _ (xor_lt32 hb (by omega))) h
  exact xor_right (nib_inj _ _ (xor_lt32 ha (by omega)) (xor_lt32 hb (by omega)) h1)
theorem byt_inj_right (a : Nat) (x y : UInt8) (ha : a < 4294967296) (h : byt a x = byt a y) : x = y := by
  have hx := u8_lt x
  have hy := u8_lt y
  have h1 := nib_inj _ _ (nib_lt _ (xor_lt32 ha (by omega))) (nib_lt _ (xor_lt32 ha (by omega))) h
  have h2 := xor_left (nib_inj _ _ (xor_lt32 ha (by omega)) (xor_lt32 ha (by omega)) h1)
  exact UInt8.toNat_inj.1 h2
theorem reg_inj (a b : Nat) (l : List UInt8) (ha : a < 4294967296) (hb : b < 4294967296) (h : reg a l = reg b l) : a = b := by
  induction l generalizing a b with
  | nil => exact h
  | cons x t ih => exact byt_inj_left a b x ha hb (ih _ _ (byt_lt a x ha) (byt_lt b x hb) h)

/-- One byte that is another: another sum. -/
theorem sum_turned (p t : List UInt8) (x y : UInt8) (h : x ≠ y) : sum (p ++ x :: t) ≠ sum (p ++ y :: t) := by
  intro e
  have e1 := xor_left e
  unfold reg at e1
  rw [List.foldl_append, List.foldl_append] at e1
  have hp : List.foldl byt 4294967295 p < 4294967296 := reg_lt _ p (by omega)
  exact h (byt_inj_right _ x y hp (reg_inj _ _ t (byt_lt _ x hp) (byt_lt _ y hp) e1))

end Go.Proofs.YtphbledmopchnaaDoor.Crc
