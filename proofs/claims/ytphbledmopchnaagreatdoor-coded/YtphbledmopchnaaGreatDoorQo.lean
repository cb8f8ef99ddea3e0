import Derived.Test.YtphbledmopchnaaGreatDoorQe
import Derived.Test.YtphbledmopchnaaGreatDoorQf
import Derived.WalkLawsBesides
/-
  What the program's reader makes of bytes, part by part; it is what the document's makes of them.
-/
namespace Go.Proofs.YtphbledmopchnaaGreatDoor
open Go.RowKit Go.Lib Mm

def setNum (pf n : Nat) (cur : Fr) : Fr :=
  if pf = 279 then { cur with offset := n } else if pf = 280 then { cur with reliable := n } else if pf = 283 then { cur with limit := n } else if pf = 284 then { cur with id := n } else { cur with deadline := n }

/-- A part that is read at p: the frame then, and where it ends. -/
def rdPart (l : List UInt8) (tag : Nat × Nat) (p : Nat) (cur : Fr) : Option (Fr × Nat) :=
  if tag.1 = 0 then (if p < l.length then some (cur, p + 1) else none)
  else if tag.1 = 1 then (if p < l.length then some ({ cur with fin := decide ((l.getD p 0).toNat = 9) }, p + 1) else none)
  else if tag.1 = 2 then (if sB l p then none else some ({ cur with stream := (sV l p : Int) }, rP l p))
  else if tag.1 = 3 then (if rB l p then none else some (setNum tag.2 (rV l p) cur, rP l p))
  else if tag.1 = 4 then (if tB l p false then none else some ({ cur with data := txt l p false }, tP l p false))
  else match rgAll l p with | none => none | some (rs, q) => some ({ cur with ranges := rs }, q)

def rdParts (l : List UInt8) : List (Nat × Nat) → Nat → Fr → Option (Fr × Nat)
  | [], p, cur => some (cur, p)
  | t :: ts, p, cur => match rdPart l t p cur with
    | none => none
    | some (c, q) => rdParts l ts q c

/-- A frame's kind, of its first byte. -/
def kindB (x : Nat) : Int :=
  if x = 1 then 1 else if x = 2 then 2 else if x = 36 then 3 else if x = 8 then 4 else if x = 9 then 4 else if x = 16 then 5 else if x = 17 then 6 else if x = 48 then 7 else if x = 28 then 8 else 0

def sndO : Option (Fr × Nat) → Option (Fr × Nat)
  | none => none
  | some (f, q) => if snd f then some (f, q) else none

/-- The frame at p, as the program reads it. -/
def rdFrame (l : List UInt8) (p : Nat) : Option (Fr × Nat) :=
  if kindB (l.getD p 0).toNat = 0 then none
  else sndO (rdParts l (tagsOf (kindB (l.getD p 0).toNat)) p (frKind (kindB (l.getD p 0).toNat)))

theorem rdp_first (l : List UInt8) (x p : Nat) (cur : Fr) (hp : p < l.length) : rdPart l (0, x) p cur = some (cur, p + 1) := by
  unfold rdPart; rw [if_pos rfl, if_pos hp]
theorem rdp_data (l : List UInt8) (x p : Nat) (cur : Fr) (hp : p < l.length) : rdPart l (1, x) p cur = some ({ cur with fin := decide ((l.getD p 0).toNat = 9) }, p + 1) := by
  unfold rdPart; rw [if_neg (show ¬ ((1 : Nat) = 0) by decide), if_pos rfl, if_pos hp]
theorem rdp_stream (l : List UInt8) (x p : Nat) (cur : Fr) : rdPart l (2, x) p cur = if sB l p then none else some ({ cur with stream := (sV l p : Int) }, rP l p) := rfl
theorem rdp_num (l : List UInt8) (x p : Nat) (cur : Fr) : rdPart l (3, x) p cur = if rB l p then none else some (setNum x (rV l p) cur, rP l p) := rfl
theorem rdp_text (l : List UInt8) (x p : Nat) (cur : Fr) : rdPart l (4, x) p cur = if tB l p false then none else some ({ cur with data := txt l p false }, tP l p false) := rfl
theorem rdp_rng (l : List UInt8) (x p : Nat) (cur : Fr) : rdPart l (5, x) p cur = match rgAll l p with | none => none | some (rs, q) => some ({ cur with ranges := rs }, q) := rfl

theorem sndO_some (f : Fr) (q : Nat) : sndO (some (f, q)) = frFin f q false := by
  show (if snd f = true then some (f, q) else none) = if (false || !(snd f)) = true then none else some (f, q)
  cases snd f <;> rfl
theorem tB_true (l : List UInt8) (p : Nat) : tB l p true = true := rfl
theorem frFin_bad (f : Fr) (q : Nat) : frFin f q true = none := rfl

theorem rdFrame_eq (l : List UInt8) (p : Nat) (hp : p < l.length) : rdFrame l p = frD l p := by
  unfold rdFrame frD
  have hd : ∀ cur x, rdPart l (1, x) p cur = some ({ cur with fin := decide ((l.getD p 0).toNat = 9) }, p + 1) := fun cur x => rdp_data l x p cur hp
  generalize (l.getD p 0).toNat = X at hd ⊢
  by_cases n1 : X = 1
  · subst n1
    rw [if_pos rfl, if_neg (by decide)]
    show sndO (rdParts l [(0, 1)] p (frKind 1)) = _
    rw [rdParts, rdp_first l _ p _ hp]
    simp only [rdParts, sndO_some]
    rfl
  rw [if_neg n1]
  by_cases n2 : X = 2
  · subst n2
    rw [if_pos rfl, if_neg (by decide)]
    show sndO (rdParts l [(0, 2), (5, 0)] p (frKind 2)) = _
    rw [rdParts, rdp_first l _ p _ hp]
    simp only [rdParts, rdp_rng]
    cases rgAll l (p + 1) with
    | none => rfl
    | some x => obtain ⟨rs, q⟩ := x; simp only [sndO_some]; rfl
  rw [if_neg n2]
  by_cases n36 : X = 36
  · subst n36
    rw [if_pos rfl, if_neg (by decide)]
    show sndO (rdParts l [(0, 36), (2, 0), (3, 279), (3, 280)] p (frKind 3)) = _
    rw [rdParts, rdp_first l _ p _ hp]
    cases h1 : sB l (p + 1) <;> cases h2 : rB l (rP l (p + 1)) <;> cases h3 : rB l (rP l (rP l (p + 1))) <;> simp only [rdParts, rdp_stream, rdp_num, h1, h2, h3, if_true, if_false, Bool.false_eq_true, sndO_some] <;> rfl
  rw [if_neg n36]
  by_cases n8 : X = 8
  · subst n8
    rw [if_pos rfl, if_neg (by decide)]
    show sndO (rdParts l [(1, 0), (2, 0), (3, 279), (4, 0)] p (frKind 4)) = _
    rw [rdParts, hd]
    cases h1 : sB l (p + 1)
    · cases h2 : rB l (rP l (p + 1))
      · cases h3 : tB l (rP l (rP l (p + 1))) false <;> simp only [rdParts, rdp_stream, rdp_num, rdp_text, h1, h2, h3, if_true, if_false, Bool.false_eq_true, sndO_some, Bool.or_false] <;> rfl
      · simp only [rdParts, rdp_stream, rdp_num, h1, h2, if_true, if_false, Bool.false_eq_true, Bool.or_true, tB_true]; rfl
    · simp only [rdParts, rdp_stream, h1, if_true, Bool.or_true, Bool.true_or, tB_true]; rfl
  rw [if_neg n8]
  by_cases n9 : X = 9
  · subst n9
    rw [if_pos rfl, if_neg (by decide)]
    show sndO (rdParts l [(1, 0), (2, 0), (3, 279), (4, 0)] p (frKind 4)) = _
    rw [rdParts, hd]
    cases h1 : sB l (p + 1)
    · cases h2 : rB l (rP l (p + 1))
      · cases h3 : tB l (rP l (rP l (p + 1))) false <;> simp only [rdParts, rdp_stream, rdp_num, rdp_text, h1, h2, h3, if_true, if_false, Bool.false_eq_true, sndO_some, Bool.or_false] <;> rfl
      · simp only [rdParts, rdp_stream, rdp_num, h1, h2, if_true, if_false, Bool.false_eq_true, Bool.or_true, tB_true]; rfl
    · simp only [rdParts, rdp_stream, h1, if_true, Bool.or_true, Bool.true_or, tB_true]; rfl
  rw [if_neg n9]
  by_cases n16 : X = 16
  · subst n16
    rw [if_pos rfl, if_neg (by decide)]
    show sndO (rdParts l [(0, 16), (3, 283)] p (frKind 5)) = _
    rw [rdParts, rdp_first l _ p _ hp]
    cases h1 : rB l (p + 1) <;> simp only [rdParts, rdp_num, h1, if_true, if_false, Bool.false_eq_true, sndO_some] <;> rfl
  rw [if_neg n16]
  by_cases n17 : X = 17
  · subst n17
    rw [if_pos rfl, if_neg (by decide)]
    show sndO (rdParts l [(0, 17), (2, 0), (3, 283)] p (frKind 6)) = _
    rw [rdParts, rdp_first l _ p _ hp]
    cases h1 : sB l (p + 1) <;> cases h2 : rB l (rP l (p + 1)) <;> simp only [rdParts, rdp_stream, rdp_num, h1, h2, if_true, if_false, Bool.false_eq_true, sndO_some] <;> rfl
  rw [if_neg n17]
  by_cases n48 : X = 48
  · subst n48
    rw [if_pos rfl, if_neg (by decide)]
    show sndO (rdParts l [(0, 48), (3, 284), (3, 285), (4, 0)] p (frKind 7)) = _
    rw [rdParts, rdp_first l _ p _ hp]
    cases h1 : rB l (p + 1)
    · cases h2 : rB l (rP l (p + 1))
      · cases h3 : tB l (rP l (rP l (p + 1))) false <;> simp only [rdParts, rdp_num, rdp_text, h1, h2, h3, if_true, if_false, Bool.false_eq_true, sndO_some, Bool.or_false] <;> rfl
      · simp only [rdParts, rdp_num, h1, h2, if_true, if_false, Bool.false_eq_true, Bool.or_true, tB_true]; rfl
    · simp only [rdParts, rdp_num, h1, if_true, Bool.or_true, Bool.true_or, tB_true]; rfl
  rw [if_neg n48]
  by_cases n28 : X = 28
  · subst n28
    rw [if_pos rfl, if_neg (by decide)]
    show sndO (rdParts l [(0, 28), (3, 283)] p (frKind 8)) = _
    rw [rdParts, rdp_first l _ p _ hp]
    cases h1 : rB l (p + 1) <;> simp only [rdParts, rdp_num, h1, if_true, if_false, Bool.false_eq_true, sndO_some] <;> rfl
  rw [if_neg n28, if_pos]
  unfold kindB
  rw [if_neg n1, if_neg n2, if_neg n36, if_neg n8, if_neg n9, if_neg n16, if_neg n17, if_neg n48, if_neg n28]

end Go.Proofs.YtphbledmopchnaaGreatDoor

/-
  The reader throws a fault: fail, take, byte, number, less.
-/
namespace Go.Proofs.YtphbledmopchnaaGreatDoor
open Go.RowKit Go.Lib Go.Shelf Mm

/-- A fault was thrown, at bg; ahead of B1 nothing has turned but rb and fb. -/
def Threw (B1 rb fb bg : Nat) (w : World) (e : Ending) (w' : World) : Prop :=
  ∃ b, e = .panicked [{ v := .iface 133 (.pointer (some ⟨b, 0, none⟩)), recovered := false }] ∧ Blk w' b 138 [.int .i64 8, .int .i64 (bg : Int)] ∧ B1 ≤ b ∧ St2 B1 rb fb w w'

theorem St2.mono {A B rb fb rb' fb' : Nat} {w w' : World} (h : St2 B rb fb w w') (hA : A ≤ B) (h1 : rb = rb' ∨ rb = fb') (h2 : fb = rb' ∨ fb = fb') : St2 A rb' fb' w w' :=
  ⟨h.os, h.tape, h.output, h.size, fun k hk n1 n2 => h.block k (by omega) (by rcases h1 with rfl | rfl <;> assumption) (by rcases h2 with rfl | rfl <;> assumption)⟩
theorem Threw.behind {B1 rb fb bg : Nat} {w w1 : World} {e : Ending} {w' : World} (h : Threw B1 rb fb bg w1 e w') (hs : St2 B1 rb fb w w1) : Threw B1 rb fb bg w e w' := by
  obtain ⟨b, h1, h2, h3, h4⟩ := h
  exact ⟨b, h1, h2, h3, hs.trans h4⟩
theorem Threw.low {B rb bg : Nat} {w : World} {e : Ending} {w' : World} (h : Threw B rb rb bg w e w') {B1 : Nat} (hB : B1 ≤ B) (fb : Nat) : Threw B1 rb fb bg w e w' := by
  obtain ⟨b, h1, h2, h3, h4⟩ := h
  exact ⟨b, h1, h2, by omega, h4.mono hB (.inl rfl) (.inl rfl)⟩
/-- As another throws it, behind something. -/
theorem Threw.after {rb bg : Nat} {w w1 : World} {e : Ending} {w' : World} (h : Threw w1.heap.size rb rb bg w1 e w') (hs : St1 rb w w1) : Threw w.heap.size rb rb bg w e w' := by
  have h1 : Threw w.heap.size rb rb bg w1 e w' := h.low (by rw [hs.size]; exact Nat.le_refl _) rb
  exact h1.behind (hs.two _ _)

set_option maxHeartbeats 1000000 in
theorem fail_any (rb yb yo cap : Nat) (body : List UInt8) (p bg : Nat) (w : World) (h : RdAt w rb yb yo cap body p bg) :
    Calls Tryz.prog 163 #[.pointer (some ⟨rb, 0, none⟩)] w (Threw w.heap.size rb rb bg w) := by
  have x2 : w.cell? ⟨rb, 2, none⟩ = some (.int .i64 (bg : Int)) := h.blk.cell 2
  have HB := hid (Blk.new w 138 [.int .i64 8, .int .i64 (bg : Int)])
  clear h
  go_enter Tryz.func163, Tryz.ntmps163
  go_wp2
  exact ⟨rfl, w.heap.size, rfl, HB.out, Nat.le_refl _, St2.alloc _ _ _ _ _ (Nat.le_refl _)⟩

set_option maxHeartbeats 1000000 in
set_option maxRecDepth 100000 in
theorem take_fail (rb yb yo cap : Nat) (body : List UInt8) (p bg n : Nat) (w : World) (h : RdAt w rb yb yo cap body p bg) (hn : body.length < p + n) (hn2 : n < 18446744073709551616) :
    Calls Tryz.prog 214 #[.pointer (some ⟨rb, 0, none⟩), .int .u64 (n : Int)] w (Threw w.heap.size rb rb bg w) := by
  have x0 : w.cell? ⟨rb, 0, none⟩ = some (.slice (some ⟨yb, yo, none⟩) body.length cap) := h.blk.cell 0
  have x1 : w.cell? ⟨rb, 1, none⟩ = some (.int .i64 (p : Int)) := h.blk.cell 1
  have hroom := h.room
  have hcap := h.cap
  have hle := h.le
  have e1 : (body.length : Int) - (p : Int) = ((body.length - p : Nat) : Int) := by omega
  have e2 : body.length - p < n := by omega
  have g1 : ((body.length - p : Nat) : Int) < 9223372036854775808 := by omega
  have HF := hid (fun q => fail_any rb yb yo cap body p bg (w.drewN q) (h.drewN q))
  clear h hn hle
  generalize hN : body.length = N at *
  generalize hd : N - p = d at *
  clear hN hd
  have e3 : (d : Int) < (n : Int) := by omega
  go_enter Tryz.func214, Tryz.ntmps214
  go_wp2_with fail
  go_quiet (fail)
  go_wp2_with fail
  refine (HF.out _).mono ?_
  rintro e w1 ⟨b, rfl, h2, h3, h4⟩
  exact ⟨rfl, b, rfl, h2, h3, (St1.drewN rb _ w).two _ _ |>.trans h4⟩

set_option maxHeartbeats 1000000 in
theorem byte_fail (rb yb yo cap : Nat) (body : List UInt8) (p bg : Nat) (w : World) (h : RdAt w rb yb yo cap body p bg) (hp : ¬ p < body.length) :
    Calls Tryz.prog 213 #[.pointer (some ⟨rb, 0, none⟩)] w (Threw w.heap.size rb rb bg w) := by
  have HT := hid (take_fail rb yb yo cap body p bg 1 w h (by omega) (by decide))
  clear h
  go_enter Tryz.func213, Tryz.ntmps213
  go_wp2_with fail
  refine HT.out.mono ?_
  rintro e w1 ⟨b, rfl, h2⟩
  exact ⟨rfl, b, rfl, h2⟩

set_option maxHeartbeats 1000000 in
theorem less_fail (rb yb yo cap : Nat) (body : List UInt8) (p bg n by_ : Nat) (w : World) (h : RdAt w rb yb yo cap body p bg) (hl : n < by_) (_hn : by_ < 18446744073709551616) :
    Calls Tryz.prog 346 #[.pointer (some ⟨rb, 0, none⟩), .int .u64 (n : Int), .int .u64 (by_ : Int)] w (Threw w.heap.size rb rb bg w) := by
  have HT := hid (fail_any rb yb yo cap body p bg w h)
  have e1 : (n : Int) < (by_ : Int) := by omega
  clear h
  go_enter Tryz.func346, Tryz.ntmps346
  go_wp2_with fail
  refine HT.out.mono ?_
  rintro e w1 ⟨b, rfl, h2⟩
  exact ⟨rfl, b, rfl, h2⟩

set_option maxHeartbeats 1000000 in
theorem number_end (rb yb yo cap : Nat) (body : List UInt8) (p bg : Nat) (w : World) (h : RdAt w rb yb yo cap body p bg) (hp : ¬ p < body.length) :
    Calls Tryz.prog 161 #[.pointer (some ⟨rb, 0, none⟩)] w (Threw w.heap.size rb rb bg w) := by
  have HT := hid (byte_fail rb yb yo cap body p bg w h hp)
  clear h
  go_enter Tryz.func161, Tryz.ntmps161
  go_wp2_with fail
  refine HT.out.mono ?_
  rintro e w1 ⟨b, rfl, h2⟩
  exact ⟨rfl, b, rfl, h2⟩

set_option maxHeartbeats 1000000 in
set_option maxRecDepth 100000 in
theorem number_short (rb yb yo cap : Nat) (body : List UInt8) (p bg K m : Nat) (w : World) (h : RdAt w rb yb yo cap body p bg) (hp : p < body.length) (hc : (body[p]).toNat / 64 = K) (hK : K = 1 ∧ m = 1 ∨ K = 2 ∧ m = 3 ∨ K = 3 ∧ m = 7) (hs : body.length < p + 1 + m) :
    Calls Tryz.prog 161 #[.pointer (some ⟨rb, 0, none⟩)] w (Threw w.heap.size rb rb bg w) := by
  have HBY := hid (byte_any rb yb yo cap body p bg w h hp)
  have HTK := hid (fun w' (h' : RdAt w' rb yb yo cap body (p + 1) bg) => take_fail rb yb yo cap body (p + 1) bg m w' h' (by omega) (by omega))
  have hX := Crc.u8_lt (body[p])
  generalize (body[p]).toNat = X at *
  have e1 : bits .and .u8 (X : Int) 63 = ((X % 64 : Nat) : Int) := by
    have h63 : X &&& 63 = X % 64 := Nat.and_two_pow_sub_one_eq_mod X 6
    rw [← h63]; exact u8_and_nat X 63 (by omega) (by omega)
  have e3 : ((X % 64 : Nat) : Int) < 64 := by omega
  clear h hs
  rcases hK with ⟨rfl, rfl⟩ | ⟨rfl, rfl⟩ | ⟨rfl, rfl⟩
  · have e2 : (X : Int) / 64 = 1 := by omega
    clear hc
    generalize X % 64 = X64 at *
    go_enter Tryz.func161, Tryz.ntmps161
    go_wp2_with fail
    refine HBY.out.mono ?_
    rintro e w1 ⟨rfl, hR1, hS1⟩
    have HT1 := hid (HTK.out w1 hR1)
    have HS1 := hid hS1
    clear hR1 hS1
    go_wp2_with fail
    refine HT1.out.mono ?_
    rintro e w2 hT
    obtain ⟨b, rfl, h2⟩ := hT.after HS1.out
    exact ⟨rfl, b, rfl, h2⟩
  · have e2 : (X : Int) / 64 = 2 := by omega
    clear hc
    generalize X % 64 = X64 at *
    go_enter Tryz.func161, Tryz.ntmps161
    go_wp2_with fail
    refine HBY.out.mono ?_
    rintro e w1 ⟨rfl, hR1, hS1⟩
    have HT1 := hid (HTK.out w1 hR1)
    have HS1 := hid hS1
    clear hR1 hS1
    go_wp2_with fail
    refine HT1.out.mono ?_
    rintro e w2 hT
    obtain ⟨b, rfl, h2⟩ := hT.after HS1.out
    exact ⟨rfl, b, rfl, h2⟩
  · have e2 : (X : Int) / 64 = 3 := by omega
    clear hc
    generalize X % 64 = X64 at *
    go_enter Tryz.func161, Tryz.ntmps161
    go_wp2_with fail
    refine HBY.out.mono ?_
    rintro e w1 ⟨rfl, hR1, hS1⟩
    have HT1 := hid (HTK.out w1 hR1)
    have HS1 := hid hS1
    clear hR1 hS1
    go_wp2_with fail
    refine HT1.out.mono ?_
    rintro e w2 hT
    obtain ⟨b, rfl, h2⟩ := hT.after HS1.out
    exact ⟨rfl, b, rfl, h2⟩

/-- A number is read, or a fault is thrown. -/
def NumPost (rb yb yo cap : Nat) (body : List UInt8) (p bg : Nat) (w : World) (e : Ending) (w' : World) : Prop :=
  (rB body p = false ∧ e = .returned (.int .u64 ((rV body p : Nat) : Int)) ∧ RdAt w' rb yb yo cap body (rP body p) bg ∧ St1 rb w w') ∨ (rB body p = true ∧ Threw w.heap.size rb rb bg w e w')

theorem number_x (rb yb yo cap : Nat) (body : List UInt8) (p bg : Nat) (w : World) (h : RdAt w rb yb yo cap body p bg) :
    Calls Tryz.prog 161 #[.pointer (some ⟨rb, 0, none⟩)] w (NumPost rb yb yo cap body p bg w) := by
  by_cases hp : p < body.length
  · have hg : body.getD p 0 = body[p] := by rw [List.getD_eq_getElem?_getD, List.getElem?_eq_getElem hp]; rfl
    have hX := Crc.u8_lt (body[p])
    have hc4 : (body[p]).toNat / 64 = 0 ∨ (body[p]).toNat / 64 = 1 ∨ (body[p]).toNat / 64 = 2 ∨ (body[p]).toNat / 64 = 3 := by omega
    by_cases hs : body.length < p + 2 ^ ((body[p]).toNat / 64)
    · have hb : rB body p = true := by unfold rB rNum; rw [if_pos hp, hg, if_pos hs]; rfl
      rcases hc4 with e | e | e | e
      · rw [e] at hs; omega
      · rw [e] at hs
        exact (number_short rb yb yo cap body p bg 1 1 w h hp e (.inl ⟨rfl, rfl⟩) (by simp at hs; omega)).mono (fun _ _ t => .inr ⟨hb, t⟩)
      · rw [e] at hs
        exact (number_short rb yb yo cap body p bg 2 3 w h hp e (.inr (.inl ⟨rfl, rfl⟩)) (by simp at hs; omega)).mono (fun _ _ t => .inr ⟨hb, t⟩)
      · rw [e] at hs
        exact (number_short rb yb yo cap body p bg 3 7 w h hp e (.inr (.inr ⟨rfl, rfl⟩)) (by simp at hs; omega)).mono (fun _ _ t => .inr ⟨hb, t⟩)
    · have hn : rNum body p = some (Num.val ((body[p]).toNat % 64) ((body.drop (p + 1)).take (2 ^ ((body[p]).toNat / 64) - 1)), p + 2 ^ ((body[p]).toNat / 64)) := by
        unfold rNum; rw [if_pos hp, hg, if_neg hs]
      have hb : rB body p = false := by unfold rB; rw [hn]; rfl
      have hv : rV body p = Num.val ((body[p]).toNat % 64) ((body.drop (p + 1)).take (2 ^ ((body[p]).toNat / 64) - 1)) := by unfold rV; rw [hn]
      have hq : rP body p = p + 2 ^ ((body[p]).toNat / 64) := by unfold rP; rw [hn]
      unfold NumPost
      rw [hv, hq]
      rcases hc4 with e | e | e | e <;> rw [e] at hs ⊢
      · exact (number_0 rb yb yo cap body p bg w h (by simp at hs; omega) e).mono (fun _ _ t => .inl ⟨hb, t⟩)
      · exact (number_1 rb yb yo cap body p bg w h (by simp at hs; omega) e).mono (fun _ _ t => .inl ⟨hb, t⟩)
      · exact (number_2 rb yb yo cap body p bg w h (by simp at hs; omega) e).mono (fun _ _ t => .inl ⟨hb, t⟩)
      · exact (number_3 rb yb yo cap body p bg w h (by simp at hs; omega) e).mono (fun _ _ t => .inl ⟨hb, t⟩)
  · have hb : rB body p = true := by unfold rB rNum; rw [if_neg hp]; rfl
    exact (number_end rb yb yo cap body p bg w h hp).mono (fun _ _ t => .inr ⟨hb, t⟩)

end Go.Proofs.YtphbledmopchnaaGreatDoor

/-
  The closures that read parts of frames, of any bytes.
-/
namespace Go.Proofs.YtphbledmopchnaaGreatDoor
open Go.RowKit Go.Lib Go.Shelf Mm

/-- A part is read: the frame then; or a fault. -/
def RdOut (B0 B1 rb fb yb yo cap : Nat) (body : List UInt8) (bg : Nat) (w : World) (R : Option (Fr × Nat)) (e : Ending) (w' : World) : Prop :=
  (∃ cur q v9, R = some (cur, q) ∧ e = .returned (.tuple #[]) ∧ RP B0 B1 rb fb yb yo cap body w' q bg cur v9 ∧ St2 B1 rb fb w w') ∨ (R = none ∧ Threw B1 rb fb bg w e w')

/-- A function value that reads a part. -/
def RdX (B0 B1 : Nat) (w1 : World) (fv : Value) (rd : Nat → Fr → Option (Fr × Nat)) (rb fb yb yo cap : Nat) (body : List UInt8) (bg : Nat) : Prop :=
  ∃ g cb, fv = .func (.func g) #[] cb ∧ (∀ args w, (callFunc g args).run Tryz.prog w = .ok (.enter g args) w) ∧
    ∀ w p cur v9, Keep B0 B1 w1 w → RP B0 B1 rb fb yb yo cap body w p bg cur v9 → cur.ranges = [] →
      Calls Tryz.prog g (#[.pointer (some ⟨rb, 0, none⟩), .pointer (some ⟨fb, 0, none⟩)] ++ cb) w (RdOut B0 B1 rb fb yb yo cap body bg w (rd p cur))

set_option maxHeartbeats 1000000 in
theorem first_x {B0 B1 : Nat} {w1 : World} (x : Nat) (rb fb yb yo cap : Nat) (body : List UInt8) (bg : Nat) :
    RdX B0 B1 w1 (.func (.func 322) #[] #[]) (rdPart body (0, x)) rb fb yb yo cap body bg := by
  refine ⟨322, _, rfl, enters_of Tryz.func322 (by kernel_rfl) rfl, fun w p cur v9 _ hP _ => ?_⟩
  by_cases hp : p < body.length
  · have HB := hid (byte_any rb yb yo cap body p bg w hP.rd hp)
    have HP := hid hP
    have HR := hid (rdp_first body x p cur hp)
    clear hP
    go_enter Tryz.func322, Tryz.ntmps322
    go_wp2_with fail
    refine HB.out.mono ?_
    rintro e w2 ⟨rfl, hR, hS⟩
    have HF := hid (And.intro (HP.out.step hR hS) (hS.two B1 fb))
    clear hR hS
    go_wp2
    go_end0
    exact .inl ⟨cur, _, v9, HR.out, rfl, HF.out⟩
  · have HB := hid (byte_fail rb yb yo cap body p bg w hP.rd hp)
    have HP := hid hP
    have HR : Hid (rdPart body (0, x) p cur = none) := by unfold Hid rdPart; rw [if_pos rfl, if_neg hp]
    clear hP
    go_enter Tryz.func322, Tryz.ntmps322
    go_wp2_with fail
    refine HB.out.mono ?_
    rintro e w2 hT
    obtain ⟨b, rfl, h2⟩ := hT.low HP.out.hB fb
    exact ⟨rfl, .inr ⟨HR.out, b, rfl, h2⟩⟩

set_option maxHeartbeats 1000000 in
theorem firstData_x {B0 B1 : Nat} {w1 : World} (x : Nat) (rb fb yb yo cap : Nat) (body : List UInt8) (bg : Nat) :
    RdX B0 B1 w1 (.func (.func 332) #[] #[]) (rdPart body (1, x)) rb fb yb yo cap body bg := by
  refine ⟨332, _, rfl, enters_of Tryz.func332 (by kernel_rfl) rfl, fun w p cur v9 _ hP _ => ?_⟩
  by_cases hp : p < body.length
  · have HB := hid (byte_any rb yb yo cap body p bg w hP.rd hp)
    have HP := hid hP
    have HR := hid (rdp_data body x p cur hp)
    have hg : body.getD p 0 = body[p] := by rw [List.getD_eq_getElem?_getD, List.getElem?_eq_getElem hp]; rfl
    rw [hg] at HR
    clear hP
    generalize (body[p]).toNat = X at HB HR
    have HX : Hid ((((X : Nat) : Int) == 9) = decide (X = 9)) := by
      unfold Hid; rw [Bool.eq_iff_iff, beq_iff_eq, decide_eq_true_iff]; omega
    have hx := HX.out
    generalize decide (X = 9) = fin at *
    go_enter Tryz.func332, Tryz.ntmps332
    go_wp2_with fail
    refine HB.out.mono ?_
    rintro e w2 ⟨rfl, hR, hS⟩
    have hp2 := HP.out.step hR hS
    have x5 : w2.cell? ⟨fb, 5, none⟩ = some (.bool cur.fin) := hp2.frm.cell 5
    have z5 := hp2.frm.frozen 5
    have HF := hid (And.intro (hp2.setF 5 (.bool fin) (cur' := { cur with fin := fin }) rfl rfl) ((hS.two B1 fb).trans (St2.setF B1 rb fb 5 (.bool fin) w2)))
    clear hR hS hp2
    go_wp2
    go_end0
    exact .inl ⟨_, _, v9, HR.out, rfl, HF.out⟩
  · have HB := hid (byte_fail rb yb yo cap body p bg w hP.rd hp)
    have HP := hid hP
    have HR : Hid (rdPart body (1, x) p cur = none) := by unfold Hid rdPart; rw [if_neg (show ¬ ((1 : Nat) = 0) by decide), if_pos rfl, if_neg hp]
    clear hP
    go_enter Tryz.func332, Tryz.ntmps332
    go_wp2_with fail
    refine HB.out.mono ?_
    rintro e w2 hT
    obtain ⟨b, rfl, h2⟩ := hT.low HP.out.hB fb
    exact ⟨rfl, .inr ⟨HR.out, b, rfl, h2⟩⟩

set_option maxHeartbeats 1000000 in
theorem stream_x {B0 B1 : Nat} {w1 : World} (x : Nat) (rb fb yb yo cap : Nat) (body : List UInt8) (bg : Nat) :
    RdX B0 B1 w1 (.func (.func 328) #[] #[]) (rdPart body (2, x)) rb fb yb yo cap body bg := by
  refine ⟨328, _, rfl, enters_of Tryz.func328 (by kernel_rfl) rfl, fun w p cur v9 _ hP _ => ?_⟩
  have HB := hid (number_x rb yb yo cap body p bg w hP.rd)
  have HP := hid hP
  have HR := hid (rdp_stream body x p cur)
  have HFL := hid (fun w' (h' : RdAt w' rb yb yo cap body (rP body p) bg) => fail_any rb yb yo cap body (rP body p) bg w' h')
  have HS0 : Hid (sB body p = (rB body p || decide (8 ≤ rV body p))) := rfl
  have HV0 : Hid (rV body p < 8 → sV body p = rV body p) := fun h => by unfold sV; rw [if_neg (by omega)]
  have hv := rV_lt body p
  clear hP
  unfold NumPost at HB
  generalize rV body p = n at *
  go_enter Tryz.func328, Tryz.ntmps328
  go_wp2_with fail
  refine HB.out.mono ?_
  rintro e w2 (⟨hb, rfl, hR, hS⟩ | ⟨hb, hT⟩)
  · by_cases h8 : n < 8
    · have hp2 := HP.out.step hR hS
      have x1 : w2.cell? ⟨fb, 1, none⟩ = some (.int .i64 cur.stream) := hp2.frm.cell 1
      have z1 := hp2.frm.frozen 1
      have HF := hid (And.intro (hp2.setF 1 (.int .i64 (n : Int)) (cur' := { cur with stream := (n : Int) }) rfl rfl) ((hS.two B1 fb).trans (St2.setF B1 rb fb 1 (.int .i64 (n : Int)) w2)))
      have g1 : ¬ ((8 : Int) ≤ (n : Int)) := by omega
      have g2 : (n : Int) < 8 := by omega
      have HE : Hid (rdPart body (2, x) p cur = some ({ cur with stream := (n : Int) }, rP body p)) := by
        unfold Hid; rw [HR.out, HS0.out, hb, decide_eq_false (by omega : ¬ 8 ≤ n), HV0.out h8]; rfl
      clear hR hS hp2 hb HB HFL HR HS0 HV0
      go_wp2
      go_end0
      exact .inl ⟨_, _, v9, HE.out, rfl, HF.out⟩
    · have HT := hid (HFL.out w2 hR)
      have HS := hid hS
      have HE : Hid (rdPart body (2, x) p cur = none) := by
        unfold Hid; rw [HR.out, HS0.out, decide_eq_true (by omega : 8 ≤ n), Bool.or_true, if_pos rfl]
      have g1 : (8 : Int) ≤ (n : Int) := by omega
      clear hR hS hb HB HFL HR HS0 HV0
      go_wp2_with fail
      refine HT.out.mono ?_
      rintro e w3 hT
      obtain ⟨b, rfl, h2⟩ := (hT.after HS.out).low HP.out.hB fb
      exact ⟨rfl, .inr ⟨HE.out, b, rfl, h2⟩⟩
  · obtain ⟨b, rfl, h2⟩ := hT.low HP.out.hB fb
    exact ⟨rfl, .inr ⟨by rw [HR.out, HS0.out, hb]; rfl, b, rfl, h2⟩⟩

set_option maxHeartbeats 1000000 in
theorem number_px {B0 B1 : Nat} {w1 : World} (pb pf i : Nat) (rb fb yb yo cap : Nat) (body : List UInt8) (bg : Nat) (h0 : B0 ≤ pb) (h1 : pb < B1) (hx : w1.cell? ⟨pb, 0, none⟩ = some (.func (.func pf) #[] #[]))
    (he : ∀ args w, (callFunc pf args).run Tryz.prog w = .ok (.enter pf args) w) (hpf : ∀ b w, Calls Tryz.prog pf #[.pointer (some ⟨b, 0, none⟩)] w fun e w' => e = .returned (.pointer (some ⟨b, i, none⟩)) ∧ w' = w)
    (hc : ∀ cur v9, ∃ old : Int, (fcells cur v9)[i]? = some (.int .u64 old)) (hu : ∀ (n : Nat) cur v9, (fcells cur v9).set i (.int .u64 (n : Int)) = fcells (setNum pf n cur) v9 ∧ (setNum pf n cur).ranges = cur.ranges) :
    RdX B0 B1 w1 (.func (.func 330) #[] #[.pointer (some ⟨pb, 0, none⟩)]) (rdPart body (3, pf)) rb fb yb yo cap body bg := by
  refine ⟨330, _, rfl, enters_of Tryz.func330 (by kernel_rfl) rfl, fun w p cur v9 hK hP _ => ?_⟩
  have cc := hK.cell h0 h1 hx
  have HB := hid (number_x rb yb yo cap body p bg w hP.rd)
  have HP := hid hP
  have HPF := hid (hpf fb w)
  have HU := hid (hu (rV body p) cur v9)
  obtain ⟨old, hold⟩ := hc cur v9
  have HOLD := hid hold
  have HR := hid (rdp_num body pf p cur)
  have hv := rV_lt body p
  clear hP hK hpf hc hu hx hold
  unfold NumPost at HB
  generalize rV body p = n at *
  go_enter Tryz.func330, Tryz.ntmps330
  go_wp2_with fail
  refine HPF.out.mono ?_
  rintro e w' ⟨rfl, hw'⟩
  subst hw'
  go_wp2_with fail
  refine HB.out.mono ?_
  rintro e w2 (⟨hb, rfl, hR, hS⟩ | ⟨hb, hT⟩)
  · have hp2 := HP.out.step hR hS
    have x1 := hp2.frm.cell i
    rw [HOLD.out] at x1
    have z1 := hp2.frm.frozen i
    have HF := hid (And.intro (hp2.setF i (.int .u64 (n : Int)) HU.out.1 HU.out.2) ((hS.two B1 fb).trans (St2.setF B1 rb fb i (.int .u64 (n : Int)) w2)))
    have HE : Hid (rdPart body (3, pf) p cur = some (setNum pf n cur, rP body p)) := by unfold Hid; rw [HR.out, hb]; rfl
    clear hR hS hp2 HB HR hb
    go_wp2
    go_end0
    exact .inl ⟨_, _, v9, HE.out, rfl, HF.out⟩
  · obtain ⟨b, rfl, h2⟩ := hT.low HP.out.hB fb
    exact ⟨rfl, .inr ⟨by rw [HR.out, hb]; rfl, b, rfl, h2⟩⟩

set_option maxHeartbeats 1000000 in
theorem text_x {B0 B1 : Nat} {w1 : World} (x : Nat) (rb fb yb yo cap : Nat) (body : List UInt8) (bg : Nat) (hbl : body.length ≤ 1000000000) :
    RdX B0 B1 w1 (.func (.func 334) #[] #[]) (rdPart body (4, x)) rb fb yb yo cap body bg := by
  refine ⟨334, _, rfl, enters_of Tryz.func334 (by kernel_rfl) rfl, fun w p cur v9 _ hP _ => ?_⟩
  have HB := hid (number_x rb yb yo cap body p bg w hP.rd)
  have HP := hid hP
  have HR := hid (rdp_text body x p cur)
  have HTB : Hid (tB body p false = (rB body p || decide (body.length < rP body p + rV body p))) := rfl
  have HTX : Hid (tB body p false = false → txt body p false = ⟨((body.drop (rP body p)).take (rV body p)).toArray⟩ ∧ tP body p false = rP body p + rV body p) := fun h => by
    unfold txt tV tP; rw [h]; exact ⟨rfl, rfl⟩
  have hv := rV_lt body p
  have HLE := hid (rP_le body p hP.rd.le).1
  clear hP
  unfold NumPost at HB
  generalize rV body p = n at *
  generalize rP body p = q at *
  go_enter Tryz.func334, Tryz.ntmps334
  go_wp2_with fail
  refine HB.out.mono ?_
  rintro e w2 (⟨hb, rfl, hR, hS⟩ | ⟨hb, hT⟩)
  · by_cases hlen : q + n ≤ body.length
    · obtain ⟨d, hd⟩ : ∃ d : ByteArray, d = ⟨((body.drop q).take n).toArray⟩ := ⟨_, rfl⟩
      have hdl : ((body.drop q).take n).length = n := by rw [List.length_take, List.length_drop]; omega
      have hcv : ∀ w', RdAt w' rb yb yo cap body (q + n) bg → ∀ c, (convert 60 9 (.slice (some ⟨yb, yo + q, none⟩) n c)).run Tryz.prog w' = .ok (.string d) w' := fun w' h' c => by
        have := run_convert_bytes_back (P := Tryz.prog) w' 60 9 5 ⟨yb, yo + q, none⟩ c ((body.drop q).take n) u29 (by kernel_rfl) u9 (fun j hj => by
          rw [hdl] at hj
          rw [Addr.add_lit, Nat.add_assoc]
          have hjl : q + j < body.length := by omega
          rw [h'.byte _ hjl]
          simp [List.getElem_take, List.getElem_drop])
        rw [hdl, ← hd] at this
        exact this
      have HCV := hid hcv
      have hT0 : tB body p false = false := by rw [HTB.out, hb, decide_eq_false (by omega)]; rfl
      have HE : Hid (rdPart body (4, x) p cur = some ({ cur with data := d }, q + n)) := by
        obtain ⟨t1, t2⟩ := HTX.out hT0
        unfold Hid; rw [HR.out, hT0, t1, t2, hd]; rfl
      have HT := hid (take_any rb yb yo cap body q bg n w2 hR hlen)
      have HP2 := hid (HP.out.step hR hS)
      have HS2 := hid (hS.two B1 fb)
      have g1 : (n : Int) ≤ 1000000000 := by omega
      clear hR hS HB HTX HTB HR hb hT0 hcv hdl hd hlen HP HLE
      go_wp2_with fail
      refine HT.out.mono ?_
      rintro e w3 ⟨rfl, hR, hS⟩
      have hp3 := HP2.out.step hR hS
      have cv := HCV.out w3 hR
      have x8 : w3.cell? ⟨fb, 8, none⟩ = some (.string cur.data) := hp3.frm.cell 8
      have z8 := hp3.frm.frozen 8
      have HF : Hid (RP B0 B1 rb fb yb yo cap body (w3.setCell ⟨fb, 8, none⟩ (.string d)) (q + n) bg { cur with data := d } v9 ∧ St2 B1 rb fb w (w3.setCell ⟨fb, 8, none⟩ (.string d))) :=
        And.intro (hp3.setF 8 (.string d) rfl rfl) ((HS2.out.trans (hS.two B1 fb)).trans (St2.setF B1 rb fb 8 (.string d) w3))
      clear hR hS hp3
      go_wp2
      go_end0
      exact .inl ⟨_, _, v9, HE.out, rfl, HF.out⟩
    · have HT := hid (take_fail rb yb yo cap body q bg n w2 hR (by omega) (by omega))
      have HS := hid hS
      have HE : Hid (rdPart body (4, x) p cur = none) := by
        unfold Hid; rw [HR.out, HTB.out, decide_eq_true (by omega : body.length < q + n), Bool.or_true, if_pos rfl]
      clear hR hS HB HTX HTB HR hb HLE
      go_wp2_with fail
      refine HT.out.mono ?_
      rintro e w3 hT
      obtain ⟨b, rfl, h2⟩ := (hT.after HS.out).low HP.out.hB fb
      exact ⟨rfl, .inr ⟨HE.out, b, rfl, h2⟩⟩
  · obtain ⟨b, rfl, h2⟩ := hT.low HP.out.hB fb
    exact ⟨rfl, .inr ⟨by rw [HR.out, HTB.out, hb]; rfl, b, rfl, h2⟩⟩

end Go.Proofs.YtphbledmopchnaaGreatDoor

/-
  readRanges, of any bytes.
-/
namespace Go.Proofs.YtphbledmopchnaaGreatDoor
open Go.RowKit Go.Lib Go.Shelf Mm

/-- What is held from range to range. -/
structure RgSt (B0 B1 rb fb yb yo cap : Nat) (body : List UInt8) (bg : Nat) (w wr : World) (cur : Fr) (D : Option (List (Nat × Nat) × Nat)) (m pk lo M : Nat) (acc : List (Nat × Nat)) (v9 : Value) : Prop where
  rp : RP B0 B1 rb fb yb yo cap body wr pk bg { cur with ranges := acc } v9
  st : St2 B1 rb fb w wr
  go : rgGo body m pk lo acc = D
  len : acc.length = M
  le : M ≤ pk
  lt : lo < 4611686018427387904

theorem rgGo_end {l : List UInt8} {p lo : Nat} {acc : List (Nat × Nat)} : rgGo l 0 p lo acc = some (acc, p) := rfl
theorem rgBad_1 {l : List UInt8} {p lo : Nat} (h : rB l p = true) : rgBad l p lo = true := by unfold rgBad; rw [h]; rfl
theorem rgBad_2 {l : List UInt8} {p lo : Nat} (h : rB l (rP l p) = true) : rgBad l p lo = true := by unfold rgBad; rw [h, Bool.or_true]; rfl
theorem rgBad_3 {l : List UInt8} {p lo : Nat} (h : lo < rV l p + 2) : rgBad l p lo = true := by
  unfold rgBad
  by_cases h2 : lo < 2
  · rw [decide_eq_true h2, Bool.or_true]; rfl
  · rw [decide_eq_true (by omega : lo - 2 < rV l p), Bool.or_true]; rfl
theorem rgBad_4 {l : List UInt8} {p lo : Nat} (h : lo - (rV l p + 2) < rV l (rP l p)) : rgBad l p lo = true := by
  unfold rgBad
  rw [decide_eq_true (by omega : lo - 2 - rV l p < rV l (rP l p)), Bool.or_true]
theorem rgBad_0 {l : List UInt8} {p lo : Nat} (h1 : rB l p = false) (h2 : rB l (rP l p) = false) (h3 : ¬ lo < rV l p + 2) (h4 : ¬ lo - (rV l p + 2) < rV l (rP l p)) : rgBad l p lo = false := by
  unfold rgBad
  rw [h1, h2, decide_eq_false (by omega), decide_eq_false (by omega), decide_eq_false (by omega)]; rfl

set_option maxHeartbeats 4000000 in
set_option maxRecDepth 100000 in
theorem ranges_x {B0 B1 : Nat} {w1 : World} (x : Nat) (rb fb yb yo cap : Nat) (body : List UInt8) (bg : Nat) (hbl : body.length ≤ 1000000000) :
    RdX B0 B1 w1 (.func (.func 326) #[] #[]) (rdPart body (5, x)) rb fb yb yo cap body bg := by
  refine ⟨326, _, rfl, enters_of Tryz.func326 (by kernel_rfl) rfl, fun w p cur v9 _ hP hc0 => ?_⟩
  have HN1 := hid (number_x rb yb yo cap body p bg w hP.rd)
  have HN2 := hid (fun w' (h' : RdAt w' rb yb yo cap body (rP body p) bg) => number_x rb yb yo cap body (rP body p) bg w' h')
  have HN3 := hid (fun w' (h' : RdAt w' rb yb yo cap body (rP body (rP body p)) bg) => number_x rb yb yo cap body (rP body (rP body p)) bg w' h')
  have HLF := hid (fun q n b w' (h' : RdAt w' rb yb yo cap body q bg) => less_fail rb yb yo cap body q bg n b w' h')
  have hV1 := rV_lt body p
  have hV2 := rV_lt body (rP body p)
  have hV3 := rV_lt body (rP body (rP body p))
  have HALL : Hid (rgAll body p = if rB body p || rB body (rP body p) || rB body (rP body (rP body p)) || decide (rV body p < rV body (rP body (rP body p))) then none
    else rgGo body (rV body (rP body p)) (rP body (rP body (rP body p))) (rV body p - rV body (rP body (rP body p))) [(rV body p - rV body (rP body (rP body p)), rV body p)]) := rfl
  have HPP : Hid (rB body (rP body (rP body p)) = false → 1 ≤ rP body (rP body (rP body p))) := fun hb => by have := rP_lt body _ hb; omega
  have HP := hid hP
  have HC0 := hid hc0
  have HNO : Hid (rgAll body p = none → rdPart body (5, x) p cur = none) := fun h => by rw [rdp_rng, h]
  have HYES : Hid (∀ rs q, rgAll body p = some (rs, q) → rdPart body (5, x) p cur = some ({ cur with ranges := rs }, q)) := fun rs q h => by rw [rdp_rng, h]
  clear hP hc0
  unfold NumPost at HN1 HN2 HN3
  generalize hV1e : rV body p = V1 at *
  generalize rV body (rP body p) = V2 at *
  generalize rV body (rP body (rP body p)) = V3 at *
  generalize rP body (rP body (rP body p)) = p3 at *
  clear hV1e
  go_enter Tryz.func326, Tryz.ntmps326
  go_wp2_with fail
  refine HN1.out.mono ?_
  rintro e x1 (⟨hb1, rfl, hR1, hS1⟩ | ⟨hb1, hT⟩)
  rotate_left
  · obtain ⟨b, rfl, h2⟩ := hT.low HP.out.hB fb
    exact ⟨rfl, .inr ⟨HNO.out (by rw [HALL.out, hb1]; rfl), b, rfl, h2⟩⟩
  have HA2 := hid (HN2.out x1 hR1)
  have HP1 := hid (HP.out.step hR1 hS1)
  have HS1 := hid hS1
  have HB1 := hid hb1
  clear hR1 hS1 HN1 HN2 hb1
  go_wp2_with fail
  refine HA2.out.mono ?_
  rintro e x2 (⟨hb2, rfl, hR2, hS2⟩ | ⟨hb2, hT⟩)
  rotate_left
  · obtain ⟨b, rfl, h2⟩ := (hT.after HS1.out).low HP.out.hB fb
    exact ⟨rfl, .inr ⟨HNO.out (by rw [HALL.out, hb2, Bool.or_true]; rfl), b, rfl, h2⟩⟩
  have HA3 := hid (HN3.out x2 hR2)
  have HP2 := hid (HP1.out.step hR2 hS2)
  have HS2 := hid (HS1.out.trans hS2)
  have HB2 := hid hb2
  clear hR2 hS2 HA2 HP1 HN3 HS1 hb2
  go_wp2_with fail
  refine HA3.out.mono ?_
  rintro e x3 (⟨hb3, rfl, hR3, hS3⟩ | ⟨hb3, hT⟩)
  rotate_left
  · obtain ⟨b, rfl, h2⟩ := (hT.after HS2.out).low HP.out.hB fb
    exact ⟨rfl, .inr ⟨HNO.out (by rw [HALL.out, hb3, Bool.or_true]; rfl), b, rfl, h2⟩⟩
  by_cases hsz : V1 < V3
  · have HL := hid (HLF.out _ V1 V3 x3 hR3 hsz (by omega))
    have HS3 := hid (HS2.out.trans hS3)
    have HE : Hid (rdPart body (5, x) p cur = none) := HNO.out (by rw [HALL.out, decide_eq_true hsz, Bool.or_true, if_pos rfl])
    clear hR3 hS3 hb3 HA3 HP2 HS2 HALL HNO HYES HPP HB1 HB2 HLF HC0
    go_wp2_with fail
    refine HL.out.mono ?_
    rintro e x4 hT
    obtain ⟨b, rfl, h2⟩ := (hT.after HS3.out).low HP.out.hB fb
    exact ⟨rfl, .inr ⟨HE.out, b, rfl, h2⟩⟩
  have HP3 := hid (HP2.out.step hR3 hS3)
  have HS3 := hid ((HS2.out.trans hS3).two B1 fb)
  have HL := hid (fun (r : Value) (w : World) => less_any r V1 V3 w (by omega) (by omega))
  have HGO : Hid (rgAll body p = rgGo body V2 p3 (V1 - V3) [(V1 - V3, V1)]) := by unfold Hid; rw [HALL.out, HB1.out, HB2.out, hb3, decide_eq_false hsz]; rfl
  have hp31 := HPP.out hb3
  have hLO : V1 - V3 < 4611686018427387904 := by omega
  clear hR3 hS3 hb3 HA3 HP2 HS2 HALL HPP HB1 HB2
  generalize V1 - V3 = lo0 at *
  go_wp2_with fail
  refine (HL.out _ _).mono ?_
  rintro e x4 ⟨rfl, hx4⟩
  subst hx4
  obtain ⟨a', c', W2, run1, hF2, hP4, hS4⟩ := rng_app HP3.out lo0 V1 0 1 (by rw [HC0.out]; rfl) rfl (by omega)
  have hx9 : x4.cell? ⟨fb, 9, none⟩ = some v9 := HP3.out.frm.cell 9
  obtain ⟨a9, c9, hv9, _⟩ := HP3.out.rng.shape
  rw [show cur.ranges.length = 0 by rw [HC0.out]; rfl] at hv9
  subst hv9
  have k9 : W2.cell? ⟨fb, 9, none⟩ = some (.slice a9 0 c9) := hF2.cell 9
  have z9 := hF2.frozen 9
  rw [HC0.out, List.nil_append] at hP4
  have hfl : fb < x4.heap.size := HP3.out.frm.lt
  have HI0 : Hid (RgSt B0 B1 rb fb yb yo cap body bg w (W2.setCell ⟨fb, 9, none⟩ (.slice a' 1 c')) cur (rgAll body p) V2 p3 lo0 1 [(lo0, V1)] (.slice a' 1 c')) :=
    ⟨hP4, HS3.out.trans hS4, HGO.out.symm, rfl, hp31, hLO⟩
  clear hF2 hP4 hS4 HP3 HS3 HL HGO hLO hp31
  go_wp2_with (at_builtin; refine Lib.wpList_append_run _ rfl _ _ _ _ rfl _ _ rfl rfl _ _ (run1 _) ?_)
  clear run1 hx9 k9 z9 hfl
  go_loopw [4, 5, 6] (fun s4 s5 s6 wr => ∃ m lo xh : Nat, m < 4611686018427387904 ∧ lo < 4611686018427387904 ∧ s5 = .int .u64 (m : Int) ∧ s6 = .int .u64 (lo : Int) ∧ s4 = .int .u64 (xh : Int) ∧ Hid (∃ pk M acc v9, RgSt B0 B1 rb fb yb yo cap body bg w wr cur (rgAll body p) m pk lo M acc v9)) (fun _ s5 _ _ => (intOf s5).toNat)
  case atStart => exact ⟨V2, lo0, V1, hV2, HI0.out.lt, rfl, rfl, rfl, _, _, _, _, HI0.out⟩
  case round =>
    clear HI0
    obtain ⟨m, lo, xh, hm, hlo, rfl, rfl, rfl, HI⟩ := hrel
    cases m with
    | zero =>
      obtain ⟨pk, M, acc, v9, hI⟩ := HI.out
      have HF : Hid (RdOut B0 B1 rb fb yb yo cap body bg w (rdPart body (5, x) p cur) (.returned (.tuple #[])) wr) := by
        refine .inl ⟨_, pk, v9, HYES.out acc pk ?_, rfl, hI.rp, hI.st⟩
        rw [← hI.go]; rfl
      clear hI HI
      go_wp2
      go_end0
      exact HF.out
    | succ m =>
      obtain ⟨pk, M, acc, v9, hI⟩ := HI.out
      have hMb : M ≤ 1000000000 := by have := hI.le; have := hI.rp.rd.le; omega
      have HN1 := hid (number_x rb yb yo cap body pk bg wr hI.rp.rd)
      have HN2 := hid (fun w' (h' : RdAt w' rb yb yo cap body (rP body pk) bg) => number_x rb yb yo cap body (rP body pk) bg w' h')
      have hG := rV_lt body pk
      have hD := rV_lt body (rP body pk)
      have HBAD : Hid (rgBad body pk lo = true → rdPart body (5, x) p cur = none) := fun h => HNO.out (by rw [← hI.go]; exact rgGo_bad h)
      have HB1 : Hid (rB body pk = true → rgBad body pk lo = true) := rgBad_1
      have HB2 : Hid (rB body (rP body pk) = true → rgBad body pk lo = true) := rgBad_2
      have HB3 : Hid (lo < rV body pk + 2 → rgBad body pk lo = true) := rgBad_3
      have HB4 : Hid (lo - (rV body pk + 2) < rV body (rP body pk) → rgBad body pk lo = true) := rgBad_4
      have HOK : Hid (rB body pk = false → rB body (rP body pk) = false → ¬ lo < rV body pk + 2 → ¬ lo - (rV body pk + 2) < rV body (rP body pk) → rgGo body (m + 1) pk lo acc = rgGo body m (rP body (rP body pk)) (lo - 2 - rV body pk - rV body (rP body pk)) (acc ++ [(lo - 2 - rV body pk - rV body (rP body pk), lo - 2 - rV body pk)])) := fun h1 h2 h3 h4 => rgGo_ok (rgBad_0 h1 h2 h3 h4)
      have HPK : Hid (rB body pk = false → pk < rP body (rP body pk)) := fun h => by
        have h1 := rP_lt body pk h
        have h2 := rP_le body pk hI.rp.rd.le
        have h3 := rP_le body (rP body pk) h2.1
        omega
      have HII := hid hI
      clear hI HI
      unfold NumPost at HN1 HN2
      generalize rV body pk = G at *
      generalize rV body (rP body pk) = D at *
      generalize rP body (rP body pk) = pk2 at *
      obtain ⟨G2, hG2⟩ : ∃ G2, G2 = G + 2 := ⟨_, rfl⟩
      have g1 : (G : Int) + 2 = (G2 : Int) := by omega
      have g2 : (G2 : Int) < 18446744073709551616 := by omega
      have HG2 := hid hG2
      have hm' : m < 4611686018427387904 := by omega
      have HGM := hid (And.intro hG2 hm')
      have g0 : 0 < m + 1 := by omega
      have g3 : ((m + 1 : Nat) : Int) - 1 = (m : Int) := by omega
      have g4 : (m : Int) < 18446744073709551616 := by omega
      have HM : Hid (m < m + 1) := by unfold Hid; omega
      clear hm hG2
      generalize hm1 : m + 1 = m1 at *
      have HM1 := hid hm1
      clear hm1
      go_wp2_with fail
      refine HN1.out.mono ?_
      rintro e y1 (⟨hb1, rfl, hR1, hS1⟩ | ⟨hb1, hT⟩)
      rotate_left
      · obtain ⟨b, rfl, h2⟩ := (hT.low HII.out.rp.hB fb).behind HII.out.st
        exact ⟨rfl, .inr ⟨HBAD.out (HB1.out hb1), b, rfl, h2⟩⟩
      have HA2 := hid (HN2.out y1 hR1)
      have HP1 := hid (HII.out.rp.step hR1 hS1)
      have HS1 := hid hS1
      by_cases hl2 : lo < G2
      · have HL := hid (HLF.out _ lo G2 y1 hR1 hl2 (by omega))
        clear hR1 hS1 HN1 HN2 HA2
        go_wp2_with fail
        refine HL.out.mono ?_
        rintro e y2 hT
        obtain ⟨b, rfl, h2⟩ := ((hT.after HS1.out).low HII.out.rp.hB fb).behind HII.out.st
        exact ⟨rfl, .inr ⟨HBAD.out (HB3.out (by have := HG2.out; omega)), b, rfl, h2⟩⟩
      have HL1 := hid (fun (r : Value) (w : World) => less_any r lo G2 w (by omega) (by omega))
      obtain ⟨hi', hhi⟩ : ∃ hi', hi' = lo - G2 := ⟨_, rfl⟩
      rw [← hhi] at HL1
      have hhb : hi' < 4611686018427387904 := by omega
      have HHI := hid hhi
      clear hhi
      clear hR1 hS1 HN1 HN2
      go_wp2_with fail
      refine (HL1.out _ _).mono ?_
      rintro e y2 ⟨rfl, hy2⟩
      subst hy2
      go_wp2_with fail
      refine HA2.out.mono ?_
      rintro e y3 (⟨hb2, rfl, hR3, hS3⟩ | ⟨hb2, hT⟩)
      rotate_left
      · obtain ⟨b, rfl, h2⟩ := ((hT.after HS1.out).low HII.out.rp.hB fb).behind HII.out.st
        exact ⟨rfl, .inr ⟨HBAD.out (HB2.out hb2), b, rfl, h2⟩⟩
      by_cases hd2 : hi' < D
      · have HL := hid (HLF.out _ hi' D y3 hR3 hd2 (by omega))
        have HS3 := hid (HS1.out.trans hS3)
        clear hR3 hS3 HA2
        go_wp2_with fail
        refine HL.out.mono ?_
        rintro e y4 hT
        obtain ⟨b, rfl, h2⟩ := ((hT.after HS3.out).low HII.out.rp.hB fb).behind HII.out.st
        exact ⟨rfl, .inr ⟨HBAD.out (HB4.out (by have := HG2.out; rw [← this, ← HHI.out]; exact hd2)), b, rfl, h2⟩⟩
      have HL2 := hid (fun (r : Value) (w : World) => less_any r hi' D w (by omega) (by omega))
      obtain ⟨lo', hlo'⟩ : ∃ lo', lo' = hi' - D := ⟨_, rfl⟩
      rw [← hlo'] at HL2
      have hlob : lo' < 4611686018427387904 := by omega
      have HP3 := hid (HP1.out.step hR3 hS3)
      have HS3 := hid (HII.out.st.trans ((HS1.out.trans hS3).two B1 fb))
      have hG2 := HG2.out
      have hhi := HHI.out
      have hgo := HOK.out hb1 hb2 (by omega) (by omega)
      rw [show lo - 2 - G - D = lo' by omega, show lo - 2 - G = hi' by omega] at hgo
      have hpk := HPK.out hb1
      have HGO : Hid (rgGo body m pk2 lo' (acc ++ [(lo', hi')]) = rgAll body p) := by unfold Hid; rw [← hgo]; exact HII.out.go
      have HPK2 : Hid (M + 1 ≤ pk2) := by have := HII.out.le; unfold Hid; omega
      have HLN : Hid (acc.length = M) := HII.out.len
      clear hR3 hS3 HA2 HP1 HS1 hgo hb1 hb2 hpk hhi hlo' HII HOK HPK HB1 HB2 HB3 HB4 HBAD hl2 hd2 hG2
      go_wp2_with fail
      refine (HL2.out _ _).mono ?_
      rintro e y4 ⟨rfl, hy4⟩
      subst hy4
      obtain ⟨a', c', W2, run1, hF2, hP4, hS4⟩ := rng_app HP3.out lo' hi' M (M + 1) HLN.out rfl (by omega)
      have hx9 : y4.cell? ⟨fb, 9, none⟩ = some v9 := HP3.out.frm.cell 9
      obtain ⟨a9, c9, hv9, _⟩ := HP3.out.rng.shape
      rw [show ({ cur with ranges := acc } : Fr).ranges.length = M from HLN.out] at hv9
      subst hv9
      have k9 : W2.cell? ⟨fb, 9, none⟩ = some (.slice a9 M c9) := hF2.cell 9
      have z9 := hF2.frozen 9
      have HI' : Hid (∃ pk M' acc v9, RgSt B0 B1 rb fb yb yo cap body bg w (W2.setCell ⟨fb, 9, none⟩ (.slice a' (M + 1) c')) cur (rgAll body p) m pk lo' M' acc v9) :=
        ⟨pk2, M + 1, _, _, hP4, HS3.out.trans hS4, HGO.out, by rw [List.length_append, HLN.out]; rfl, HPK2.out, hlob⟩
      have hfl : fb < y4.heap.size := HP3.out.frm.lt
      clear hF2 hP4 hS4 HP3 HS3 HL1 HL2 HGO
      go_wp2_with (at_builtin; refine Lib.wpList_append_run _ rfl _ _ _ _ rfl _ _ rfl rfl _ _ (run1 _) ?_)
      go_roundw
      case rel => exact ⟨m, lo', hi', HGM.out.2, hlob, rfl, rfl, rfl, HI'⟩
      case measure => simp [intOf]; exact HM.out

end Go.Proofs.YtphbledmopchnaaGreatDoor

/-
  The reader of several parts, of any bytes; a layout reads a frame.
-/
namespace Go.Proofs.YtphbledmopchnaaGreatDoor
open Go.RowKit Go.Lib Go.Shelf Mm

theorem rdPart_rng {l : List UInt8} {tag : Nat × Nat} {p q : Nat} {cur c : Fr} (h : tag.1 ≤ 4) (hr : rdPart l tag p cur = some (c, q)) : c.ranges = cur.ranges := by
  unfold rdPart at hr
  repeat' split at hr
  all_goals first
    | (cases hr; done)
    | omega
    | (simp only [Option.some.injEq, Prod.mk.injEq] at hr
       obtain ⟨rfl, _⟩ := hr
       first
         | rfl
         | (unfold setNum; repeat' split
            all_goals rfl))

theorem rdParts_cons (l : List UInt8) (t : Nat × Nat) (ts : List (Nat × Nat)) (p : Nat) (cur : Fr) : rdParts l (t :: ts) p cur = match rdPart l t p cur with
    | none => none
    | some (c, q) => rdParts l ts q c := rfl
theorem drop_cons (tags : List (Nat × Nat)) (k : Nat) (h : k < tags.length) : tags.drop k = tags.getD k (0, 0) :: tags.drop (k + 1) := by
  rw [List.drop_eq_getElem_cons h, List.getD_eq_getElem?_getD, List.getElem?_eq_getElem h]
  rfl

/-- What is held from part to part. -/
structure LySt (B0 B1 rb fb yb yo cap : Nat) (body : List UInt8) (bg : Nat) (w1 w wr : World) (tags : List (Nat × Nat)) (D : Option (Fr × Nat)) (k pk : Nat) (cur : Fr) (v9 : Value) : Prop where
  kp : Keep B0 B1 w1 wr
  rp : RP B0 B1 rb fb yb yo cap body wr pk bg cur v9
  st : St2 B1 rb fb w wr
  go : rdParts body (tags.drop k) pk cur = D
  rg : k < tags.length → cur.ranges = []

set_option maxHeartbeats 1000000 in
set_option maxRecDepth 100000 in
theorem inOrder_x {B0 B1 : Nat} {w1 : World} (pb qb : Nat) (fw fr : Nat → Value) (tags : List (Nat × Nat)) (rb fb yb yo cap : Nat) (body : List UInt8) (bg : Nat) (hnp : tags.length ≤ 100) (hp0 : B0 ≤ pb) (hp1 : pb < B1) (hq0 : B0 ≤ qb) (hq1 : qb < B1)
    (hpb : w1.cell? ⟨pb, 0, none⟩ = some (.slice (some ⟨qb, 0, none⟩) tags.length tags.length)) (hcell : ∀ j, j < tags.length → w1.cell? ⟨qb, j * 2, none⟩ = some (fw j) ∧ w1.cell? ⟨qb, j * 2 + 1, none⟩ = some (fr j)) (hfw : ∀ j, j < tags.length → ∃ g cb, fw j = .func (.func g) #[] cb)
    (hlast : ∀ j, j + 1 < tags.length → (tags.getD j (0, 0)).1 ≤ 4)
    (hrd : ∀ j, j < tags.length → RdX B0 B1 w1 (fr j) (rdPart body (tags.getD j (0, 0))) rb fb yb yo cap body bg) :
    RdX B0 B1 w1 (.func (.func 324) #[] #[.pointer (some ⟨pb, 0, none⟩)]) (rdParts body tags) rb fb yb yo cap body bg := by
  refine ⟨324, _, rfl, enters_of Tryz.func324 (by kernel_rfl) rfl, fun w p cur v9 hK hP hc0 => ?_⟩
  have cp := hK.cell hp0 hp1 hpb
  have HI0 : Hid (LySt B0 B1 rb fb yb yo cap body bg w1 w w tags (rdParts body tags p cur) 0 p cur v9) := ⟨hK, hP, St2.refl _ _ _ _, by rw [List.drop_zero], fun _ => hc0⟩
  have HC := hid hcell
  have HFW := hid hfw
  have HRD := hid hrd
  have HQ := hid (And.intro hq0 hq1)
  have HLA := hid hlast
  have HDC := hid (fun k (hk : k < tags.length) => drop_cons tags k hk)
  have HEND : Hid (tags.drop tags.length = []) := List.drop_length
  have HRG : Hid (∀ k pk (c c' : Fr) q, k + 1 < tags.length → rdPart body (tags.getD k (0, 0)) pk c = some (c', q) → c'.ranges = c.ranges) := fun k pk c c' q hk h => rdPart_rng (hlast k hk) h
  have HLT : Hid (∀ k pk (c : Fr) (v9 : Value) wr D, LySt B0 B1 rb fb yb yo cap body bg w1 w wr tags D k pk c v9 → k < tags.length → c.ranges = []) := fun k pk c v9 wr D h hk => h.rg hk
  clear hP hcell hfw hrd hpb hp0 hp1 hq0 hq1 hlast hc0 hK
  generalize hnn : tags.length = np at *
  have HNN := hid hnn
  clear hnn
  go_enter Tryz.func324, Tryz.ntmps324
  go_wp2_with fail
  go_loopw [9] (fun s9 wr => ∃ k : Nat, k ≤ np ∧ s9 = .int .i64 k ∧ Hid (∃ pk c v9, LySt B0 B1 rb fb yb yo cap body bg w1 w wr tags (rdParts body tags p cur) k pk c v9)) (fun s9 _ => np - (intOf s9).toNat)
  case atStart => exact ⟨0, Nat.zero_le _, rfl, _, _, _, HI0.out⟩
  case round =>
    clear HI0
    obtain ⟨k, hk, rfl, HI⟩ := hrel
    by_cases hlt : k < np
    · have hlt' : (k : Int) < (np : Int) := by omega
      obtain ⟨pk, c, v9, hI⟩ := HI.out
      have hgo := hI.go
      rw [HDC.out k hlt, rdParts_cons] at hgo
      obtain ⟨q1, q2⟩ := HC.out k hlt
      have t1 := hI.kp.cell HQ.out.1 HQ.out.2 q1
      have t2 := hI.kp.cell HQ.out.1 HQ.out.2 q2
      obtain ⟨g, cb, hfr, eg, hW⟩ := HRD.out k hlt
      obtain ⟨g2, cb2, hfw2⟩ := HFW.out k hlt
      rw [hfr] at t2
      rw [hfw2] at t1
      have hBw := hI.rp.hB
      have hK2 : Keep B0 B1 w1 (wr.alloc (.cells #[.func (.func g2) #[] cb2, .func (.func g) #[] cb] 318)) := ⟨by simp; omega, fun j h0 h1 => by rw [Below.heap_alloc _ _ _ (by omega)]; exact hI.kp.2 j h0 h1⟩
      have hc := hW _ pk c v9 hK2 (hI.rp.alloc _) (HLT.out k pk c v9 wr _ hI hlt)
      have hst := hI.st.trans (St2.alloc B1 rb fb wr (.cells #[.func (.func g2) #[] cb2, .func (.func g) #[] cb] 318) hBw)
      have hn : ∀ w' c' q v9', rdPart body (tags.getD k (0, 0)) pk c = some (c', q) → RP B0 B1 rb fb yb yo cap body w' q bg c' v9' → St2 B1 rb fb (wr.alloc (.cells #[.func (.func g2) #[] cb2, .func (.func g) #[] cb] 318)) w' →
          LySt B0 B1 rb fb yb yo cap body bg w1 w w' tags (rdParts body tags p cur) (k + 1) q c' v9' := fun w' c' q v9' hr hP' hS' =>
        ⟨hS'.keep hK2 hP'.rbl hP'.fbl, hP', hst.trans hS', by rw [hr] at hgo; exact hgo, fun hk1 => by
          rw [HNN.out] at hk1
          rw [HRG.out k pk c c' q hk1 hr]; exact HLT.out k pk c v9 wr _ hI hlt⟩
      have hnone : rdPart body (tags.getD k (0, 0)) pk c = none → rdParts body tags p cur = none := fun hr => by rw [hr] at hgo; exact hgo.symm
      have HN := hid hn
      have HNO := hid hnone
      have HST := hid hst
      have HC2 := hid hc
      have hbl : qb < wr.heap.size := World.block_lt_of_cell? _ _ t1
      clear hfr hfw2 hc hW q1 q2 hn hnone hst hK2 HI hI hgo
      go_wp2_with fail
      refine HC2.out.mono ?_
      rintro e y (⟨c', q, v9', hr, rfl, hP', hS'⟩ | ⟨hr, hT⟩)
      · have HI' : Hid (∃ pk c v9, LySt B0 B1 rb fb yb yo cap body bg w1 w y tags (rdParts body tags p cur) (k + 1) pk c v9) := ⟨q, c', v9', HN.out y c' q v9' hr hP' hS'⟩
        clear hP' hS' HN HC2 HNO hr HST
        go_wp2_with fail
        go_roundw
        case rel => exact ⟨k + 1, by omega, by go_num, HI'⟩
        case measure => simp [intOf]; omega
      · obtain ⟨b, rfl, h2⟩ := hT.behind HST.out
        exact ⟨rfl, .inr ⟨HNO.out hr, b, rfl, h2⟩⟩
    · obtain rfl : k = np := by omega
      obtain ⟨pk, c, v9, hI⟩ := HI.out
      have hgo := hI.go
      rw [HEND.out] at hgo
      have HF : Hid (RdOut B0 B1 rb fb yb yo cap body bg w (rdParts body tags p cur) (.returned (.tuple #[])) wr) := .inl ⟨c, pk, v9, hgo.symm, rfl, hI.rp, hI.st⟩
      clear hI hgo HI
      go_wp2
      go_end0
      exact HF.out

theorem part_x {B0 : Nat} {w1 : World} {tag : Nat × Nat} {fw fr : Value} (hP : PartIs B0 w1 tag fw fr) (hok : tag.1 = 3 → tag.2 = 279 ∨ tag.2 = 280 ∨ tag.2 = 283 ∨ tag.2 = 284 ∨ tag.2 = 285) (rb fb yb yo cap : Nat) (body : List UInt8) (hbl : body.length ≤ 1000000000) (bg : Nat) :
    RdX B0 w1.heap.size w1 fr (rdPart body tag) rb fb yb yo cap body bg := by
  obtain ⟨t, x⟩ := tag
  rcases hP with ⟨h, xb, hx, _, h2⟩ | ⟨h, _, h2⟩ | ⟨h, _, h2⟩ | ⟨h, xb, hx, _, h2⟩ | ⟨h, _, h2⟩ | ⟨h, _, h2⟩
  · obtain rfl : t = 0 := h
    rw [h2]; exact first_x x rb fb yb yo cap body bg
  · obtain rfl : t = 1 := h
    rw [h2]; exact firstData_x x rb fb yb yo cap body bg
  · obtain rfl : t = 2 := h
    rw [h2]; exact stream_x x rb fb yb yo cap body bg
  · obtain rfl : t = 3 := h
    rw [h2]
    have hl := World.block_lt_of_cell? _ _ hx.2
    have hxc := hx.2
    have hpf : x = 279 ∨ x = 280 ∨ x = 283 ∨ x = 284 ∨ x = 285 := hok rfl
    rcases hpf with rfl | rfl | rfl | rfl | rfl
    · exact number_px xb 279 2 rb fb yb yo cap body bg hx.1 hl hxc (enters_of Tryz.func279 (by kernel_rfl) rfl) (fun b w => by have := offset_any b 0 w; simpa using this) (fun cur v9 => ⟨_, rfl⟩) (fun n cur v9 => ⟨rfl, rfl⟩)
    · exact number_px xb 280 3 rb fb yb yo cap body bg hx.1 hl hxc (enters_of Tryz.func280 (by kernel_rfl) rfl) (fun b w => by have := reliable_any b 0 w; simpa using this) (fun cur v9 => ⟨_, rfl⟩) (fun n cur v9 => ⟨rfl, rfl⟩)
    · exact number_px xb 283 4 rb fb yb yo cap body bg hx.1 hl hxc (enters_of Tryz.func283 (by kernel_rfl) rfl) (fun b w => by have := limit_any b 0 w; simpa using this) (fun cur v9 => ⟨_, rfl⟩) (fun n cur v9 => ⟨rfl, rfl⟩)
    · exact number_px xb 284 6 rb fb yb yo cap body bg hx.1 hl hxc (enters_of Tryz.func284 (by kernel_rfl) rfl) (fun b w => by have := id_any b 0 w; simpa using this) (fun cur v9 => ⟨_, rfl⟩) (fun n cur v9 => ⟨rfl, rfl⟩)
    · exact number_px xb 285 7 rb fb yb yo cap body bg hx.1 hl hxc (enters_of Tryz.func285 (by kernel_rfl) rfl) (fun b w => by have := deadline_any b 0 w; simpa using this) (fun cur v9 => ⟨_, rfl⟩) (fun n cur v9 => ⟨rfl, rfl⟩)
  · obtain rfl : t = 4 := h
    rw [h2]; exact text_x x rb fb yb yo cap body bg hbl
  · obtain rfl : t = 5 := h
    rw [h2]; exact ranges_x x rb fb yb yo cap body bg hbl

theorem tags_num (k : Int) : ∀ j, j < (tagsOf k).length → ((tagsOf k).getD j (0, 0)).1 = 3 → ((tagsOf k).getD j (0, 0)).2 = 279 ∨ ((tagsOf k).getD j (0, 0)).2 = 280 ∨ ((tagsOf k).getD j (0, 0)).2 = 283 ∨ ((tagsOf k).getD j (0, 0)).2 = 284 ∨ ((tagsOf k).getD j (0, 0)).2 = 285 := by
  unfold tagsOf
  repeat' split
  all_goals
    intro j hj
    match j, hj with
    | 0, hj => first | decide | exact absurd hj (by decide)
    | 1, hj => first | decide | exact absurd hj (by decide)
    | 2, hj => first | decide | exact absurd hj (by decide)
    | 3, hj => first | decide | exact absurd hj (by decide)
    | m + 4, hj => exact absurd hj (by simp)

/-- The layout of a kind reads a frame. -/
theorem layK_x {B0 : Nat} {w1 : World} {fw fr : Value} (k : Int) (hL : LayK B0 w1 k fw fr) (rb fb yb yo cap : Nat) (body : List UInt8) (hbl : body.length ≤ 1000000000) (bg : Nat) :
    RdX B0 w1.heap.size w1 fr (rdParts body (tagsOf k)) rb fb yb yo cap body bg := by
  rcases hL with ⟨e, hP⟩ | ⟨_, hL⟩
  · have := part_x hP (fun h => by cases h) rb fb yb yo cap body hbl bg
    have he : rdParts body (tagsOf k) = rdPart body (0, 1) := by
      rw [e, show tagsOf 1 = [(0, 1)] from rfl]
      funext p cur
      rw [rdParts_cons]
      cases rdPart body (0, 1) p cur with
      | none => rfl
      | some x => rfl
    rw [he]
    exact this
  · obtain ⟨pb, qb, _, rfl, hB, hq, hcell⟩ := hL
    have hpos := (tags_len k).1
    have hfun : ∃ fws frs : Nat → Value, ∀ j, j < (tagsOf k).length → w1.cell? ⟨qb, j * 2, none⟩ = some (fws j) ∧ w1.cell? ⟨qb, j * 2 + 1, none⟩ = some (frs j) ∧ PartIs B0 w1 ((tagsOf k).getD j (0, 0)) (fws j) (frs j) := by
      refine ⟨fun j => (w1.cell? ⟨qb, j * 2, none⟩).getD undef, fun j => (w1.cell? ⟨qb, j * 2 + 1, none⟩).getD undef, fun j hj => ?_⟩
      obtain ⟨a, c, h1, h2, h3⟩ := hcell j hj
      refine ⟨by simp [h1], by simp [h2], ?_⟩
      simpa [h1, h2] using h3
    obtain ⟨fws, frs, hF⟩ := hfun
    refine inOrder_x pb qb fws frs (tagsOf k) rb fb yb yo cap body bg (tags_len _).2 hB.1 (World.block_lt_of_cell? _ _ hB.2) hq (World.block_lt_of_cell? _ _ (hF 0 hpos).1) hB.2 (fun j hj => ⟨(hF j hj).1, (hF j hj).2.1⟩) (fun j hj => ?_) (tags_last _) (fun j hj => ?_)
    · obtain ⟨_, _, _, _, h, _⟩ := (hF j hj).2.2.shape
      exact ⟨_, _, h⟩
    · exact part_x (hF j hj).2.2 (tags_num k j hj) rb fb yb yo cap body hbl bg

end Go.Proofs.YtphbledmopchnaaGreatDoor
