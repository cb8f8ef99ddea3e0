/-
  mediawirekeep.Gathers: the walk.
-/
import Derived.Test.YtphbledmopchnaaSAddG
import Derived.OpenShut
import Derived.Below
import Derived.Deep.Light
namespace Go.Proofs.Ytphbledmopchnaa.St
open Go.RowKit Go.Lib Mm

def pickN (c : Int) (n : Nat) : Nat := if c < 0 then (-(c + 1)).toNat % n else c.toNat % n

theorem pickN_neg (c : Int) (h : c < 0) : -(c + 1).tmod 600 = (pickN c 600 : Nat) := by
  unfold pickN
  rw [if_pos h, ← Int.neg_tmod, Int.tmod_eq_emod_of_nonneg (by omega)]
  omega
theorem pickN_pos (c : Int) (h : 0 ≤ c) : c % 600 = (pickN c 600 : Nat) := by
  unfold pickN
  rw [if_neg (by omega)]
  omega
theorem pickN_lt (c : Int) : pickN c 600 < 600 := by
  unfold pickN
  split <;> exact Nat.mod_lt _ (by omega)

set_option maxHeartbeats 400000 in
theorem pick_any (c : Int) (hc : -9223372036854775808 ≤ c) (hc2 : c ≤ 9223372036854775807) (w : World) :
    Calls Try.prog 5 #[.int .i64 c, .int .i64 600] w fun e w' => e = .returned (.int .i64 (pickN c 600 : Nat)) ∧ w' = w := by
  by_cases h : c < 0
  · have hf := hid (pickN_neg c h)
    go_enter Try.func5, Try.ntmps5
    go_wp2
    go_ret
    exact ⟨ret_int hf.out, rfl⟩
  · have hf := hid (pickN_pos c (by omega))
    go_enter Try.func5, Try.ntmps5
    go_wp2
    go_ret
    exact ⟨ret_int hf.out, rfl⟩


def IsRow (k : IntKind) (w : World) (a : Option Addr) (len cap : Nat) (zs : List Int) : Prop :=
  (a = none ∧ len = 0 ∧ cap = 0 ∧ zs = []) ∨
  ∃ x, a = some x ∧ len ≤ cap ∧ cap ≤ maxLen ∧ zs.length = cap ∧ (∀ i, i < zs.length → w.cell? (x.add i) = some (.int k (zs.getD i 0))) ∧ ∀ n ∈ zs, (Lit.int k n).wf = true

theorem IsRow.at {w : World} {a : Option Addr} {len cap : Nat} {zs : List Int} (h : IsRow .i64 w a len cap zs) (j : Nat) (hj : j < len) :
    ∃ b off, a = some ⟨b, off, none⟩ ∧ b < w.heap.size ∧ w.cell? ⟨b, off + j, none⟩ = some (.int .i64 (zs.getD j 0)) := by
  rcases h with ⟨_, rfl, _⟩ | ⟨x, h1, h2, h3, h4, h5, h6⟩
  · omega
  · obtain ⟨b, off, hx, hc⟩ := ints_at h5 (by omega)
    have hc2 := hc j (by omega)
    exact ⟨b, off, by rw [h1, hx], World.block_lt_of_cell? _ _ hc2, hc2⟩

theorem IsRow.bd {w : World} {a : Option Addr} {len cap : Nat} {zs : List Int} (h : IsRow .i64 w a len cap zs) (j : Nat) : -9223372036854775808 ≤ zs.getD j 0 ∧ zs.getD j 0 ≤ 9223372036854775807 := by
  rw [List.getD_eq_getElem?_getD]
  rcases h with ⟨_, _, _, rfl⟩ | ⟨x, h1, h2, h3, h4, h5, h6⟩
  · simp
  · exact range_i64 h6 j

/-- A set of the call's own, behind k numbers. -/
def Got (p : Nat) (w wr : World) (zs : List Int) (k : Nat) : Prop :=
  w.heap.size ≤ p ∧ ∃ rs row, SetAt wr p 1000 0 rs row ∧ Rg.Sorted rs ∧ (∀ r ∈ rs, r.2 < 600) ∧ rs.length ≤ k ∧ (∀ x, Rg.Mem rs x ↔ ∃ j, j < k ∧ pickN (zs.getD j 0) 600 = x) ∧ Below w.heap.size w wr ∧ (∀ b, row = some b → w.heap.size ≤ b)

theorem kept_below {p : Nat} {w wr w' : World} {row : Option Nat} (hp : w.heap.size ≤ p) (hb : Below w.heap.size w wr) (hk : Kept wr w' p row) (hr : ∀ b, row = some b → w.heap.size ≤ b) : Below w.heap.size w w' :=
  hb.trans ⟨hk.os, hk.tape, hk.output, hk.size, fun k h => by
    have := hb.size
    exact hk.block k (by omega) (by omega) (fun e => by have := hr k e.symm; omega)⟩

theorem add_plain (rs : List (Nat × Nat)) (lo hi : Nat) (h : lo ≤ hi) (hl : rs.length ≤ 999) : Rg.add (max (1000 : Int) 1).toNat 0 rs lo hi = (0, Rg.ins lo hi rs) := by
  have := Rg.ins_length rs lo hi
  unfold Rg.add
  rw [if_neg (by omega), show max lo 0 = lo by omega, if_neg (by show ¬ 1000 < _; omega)]

theorem Got.step {p : Nat} {w wr : World} {zs : List Int} {k : Nat} (hk : k < 600) (h : Got p w wr zs k) :
    Calls Try.prog 6 #[.pointer (some ⟨p, 0, none⟩), .int .u64 (pickN (zs.getD k 0) 600 : Nat), .int .u64 (pickN (zs.getD k 0) 600 : Nat)] wr fun e w' => e = .returned (.tuple #[]) ∧ Got p w w' zs (k + 1) := by
  obtain ⟨hpp, rs, row, h1, h2, h3, h4, h5, h6, h7⟩ := h
  have hp := pickN_lt (zs.getD k 0)
  generalize hv : pickN (zs.getD k 0) 600 = v at hp ⊢
  have hlen := Rg.ins_length rs v v
  refine (padd_any p v v 1000 0 rs row wr h1 ⟨h2, fun r hr => by have := h3 r hr; omega, by omega, by simp⟩ (by omega)).mono ?_
  rintro e w' ⟨rfl, hP⟩
  rw [add_plain rs v v (Nat.le_refl _) (by omega)] at hP
  obtain ⟨row1, a1, a2, a3⟩ := hP
  refine ⟨rfl, hpp, Rg.ins v v rs, row1, a1, Rg.sorted_ins rs v v (Nat.le_refl _) h2, ?_, by omega, ?_, kept_below hpp h6 a2 h7, ?_⟩
  · intro r hr
    have := Rg.ins_hi rs v v 599 (by omega) (fun x hx => by have := h3 x hx; omega) r hr
    omega
  · intro x
    rw [Rg.mem_ins rs v v x (Nat.le_refl _) h2, h5 x]
    constructor
    · rintro (h | ⟨j, hj, he⟩)
      · exact ⟨k, by omega, by omega⟩
      · exact ⟨j, by omega, he⟩
    · rintro ⟨j, hj, he⟩
      by_cases e : j = k
      · subst e; exact .inl (by omega)
      · exact .inr ⟨j, by omega, he⟩
  · intro b hb
    rcases a3 with a3 | ⟨b2, a3, a4⟩
    · exact h7 b (by rw [← a3, hb])
    · have := h6.size
      rw [a3] at hb
      simp at hb
      omega

/-- All numbers, and 1000 and 1001. -/
def All (p : Nat) (w wr : World) (zs : List Int) (n : Nat) : Prop :=
  ∃ rs row, SetAt wr p 1000 0 rs row ∧ Rg.Sorted rs ∧ rs.length ≤ 1000 ∧ (∀ x, Rg.Mem rs x ↔ (1000 ≤ x ∧ x ≤ 1001) ∨ ∃ j, j < n ∧ pickN (zs.getD j 0) 600 = x) ∧ Below w.heap.size w wr

theorem Got.last {p : Nat} {w wr : World} {zs : List Int} {k : Nat} (hk : k < 600) (h : Got p w wr zs k) :
    Calls Try.prog 6 #[.pointer (some ⟨p, 0, none⟩), .int .u64 1000, .int .u64 1001] wr fun e w' => e = .returned (.tuple #[]) ∧ All p w w' zs k := by
  obtain ⟨hpp, rs, row, h1, h2, h3, h4, h5, h6, h7⟩ := h
  have hlen := Rg.ins_length rs 1000 1001
  refine (padd_any p 1000 1001 1000 0 rs row wr h1 ⟨h2, fun r hr => by have := h3 r hr; omega, by omega, by simp⟩ (by omega)).mono ?_
  rintro e w' ⟨rfl, hP⟩
  rw [add_plain rs 1000 1001 (by omega) (by omega)] at hP
  obtain ⟨row1, a1, a2, a3⟩ := hP
  exact ⟨rfl, Rg.ins 1000 1001 rs, row1, a1, Rg.sorted_ins rs 1000 1001 (by omega) h2, by omega, fun x => by rw [Rg.mem_ins rs 1000 1001 x (by omega) h2, h5 x], kept_below hpp h6 a2 h7⟩

theorem All.below {p : Nat} {w wr w' : World} {zs : List Int} {n : Nat} (h : All p w wr zs n) (hb : Below wr.heap.size wr w') : All p w w' zs n := by
  obtain ⟨rs, row, ⟨base, c, s1, s2, s3, s4, s5⟩, h2, h3, h4, h5⟩ := h
  refine ⟨rs, row, ⟨base, c, s1.of_heap (hb.block _ s1.lt), s2, s3, s4, s5.of_heap (fun b hb' => hb.block b (row_ne s5 b (by rw [hb']; rfl)).2)⟩, h2, h3, h4, h5.trans (hb.mono h5.size)⟩

/-- Has of such a set. -/
theorem All.has {p : Nat} {w wr : World} {zs : List Int} {n : Nat} (h : All p w wr zs n) (v : Nat) (V : Int) (hV : V = (v : Int)) :
    Calls Try.prog 7 #[.pointer (some ⟨p, 0, none⟩), .int .u64 V] wr fun e w' => ∃ r : Bool, e = .returned (.bool r) ∧ (r = true ↔ (1000 ≤ v ∧ v ≤ 1001) ∨ ∃ j, j < n ∧ pickN (zs.getD j 0) 600 = v) ∧ All p w w' zs n := by
  subst hV
  have h0 := h
  obtain ⟨rs, row, ⟨base, c, s1, s2, s3, s4, s5⟩, h2, h3, h4, h5⟩ := h
  refine (phas_any p v 1000 0 rs row wr ⟨base, c, s1, s2, s3, s4, s5⟩ h2 (by omega)).mono ?_
  rintro e w' ⟨rfl, hb⟩
  refine ⟨_, rfl, ?_, h0.below hb⟩
  rw [← h4 v, ← Rg.has_iff rs v h2]
  simp

theorem All.floor {p : Nat} {w wr : World} {zs : List Int} {n : Nat} (h : All p w wr zs n) :
    Calls Try.prog 8 #[.pointer (some ⟨p, 0, none⟩)] wr fun e w' => e = .returned (.int .u64 0) ∧ w' = wr := by
  obtain ⟨rs, row, ⟨base, c, s1, s2, s3, s4, s5⟩, h2, h3, h4, h5⟩ := h
  exact pfloor_any p 0 wr (s1.cell 1)

theorem Got.start {p : Nat} {w w' : World} (zs : List Int) (h1 : SetAt w' p 1000 0 [] none) (h2 : w.heap.size ≤ p) (h3 : Below w.heap.size w w') : Got p w w' zs 0 :=
  ⟨h2, [], none, h1, trivial, by simp, Nat.le_refl _, fun x => by simp [Rg.Mem], h3, fun b hb => by cases hb⟩

theorem cast_beq (y v : Nat) : (((y : Nat) : Int) == ((v : Nat) : Int)) = (y == v) := by
  rw [Bool.eq_iff_iff, beq_iff_eq, beq_iff_eq]; omega

/-- Is v among the first k? -/
def anyB (zs : List Int) (v k : Nat) : Bool := (List.range k).any fun j => pickN (zs.getD j 0) 600 == v
theorem anyB_succ (zs : List Int) (v k : Nat) : anyB zs v (k + 1) = (anyB zs v k || pickN (zs.getD k 0) 600 == v) := by
  unfold anyB
  rw [List.range_succ, List.any_append]
  simp
theorem anyB_iff (zs : List Int) (v k : Nat) : anyB zs v k = true ↔ ∃ j, j < k ∧ pickN (zs.getD j 0) 600 = v := by
  unfold anyB
  rw [List.any_eq_true]
  constructor
  · rintro ⟨j, hj, h⟩
    exact ⟨j, by simpa using hj, by simpa using h⟩
  · rintro ⟨j, hj, h⟩
    exact ⟨j, by simpa using hj, by simpa using h⟩

set_option maxHeartbeats 4000000 in
set_option maxRecDepth 100000 in
theorem gathers_walk (a0 : Option Addr) (len0 cap0 : Nat) (z0 : List Int) (a1 : Int) (w : World) (w0 : IsRow .i64 w a0 len0 cap0 z0) (w1 : (Lit.int .i64 a1).wf = true) :
    Calls Try.prog 3 #[.slice a0 len0 cap0, .int .i64 a1] w fun e w' => e = .returned (.bool true) ∧ Below w.heap.size w w' := by
  have hn := bounds_i64 w1
  by_cases hbig : 500 < len0
  · have hb' : (500 : Int) < (len0 : Int) := by omega
    go_enter Try.func3, Try.ntmps3
    go_wp2_with (go_at_call 4; refine (pnew_any _ _).mono ?_; rintro e w' ⟨p, rfl, _, _, hbb⟩)
    go_ret
    exact ⟨rfl, hbb⟩
  · have hb' : (len0 : Int) ≤ 500 := by omega
    have hd : decide ((500 : Int) < (len0 : Int)) = false := by simp; omega
    have HI := hid w0
    clear w0
    go_enter Try.func3, Try.ntmps3
    go_wp2_with (go_at_call 4; refine (pnew_any _ _).mono ?_; rintro e w' ⟨p, rfl, hn1, hn2, hn3⟩; have HG := hid (Got.start z0 hn1 hn2 hn3); clear hn1 hn2 hn3)
    go_loopw [6] (fun s6 wr => ∃ k : Nat, k ≤ len0 ∧ s6 = .int .i64 k ∧ Hid (Got p w wr z0 k)) (fun s6 _ => len0 - (intOf s6).toNat)
    case atStart => exact ⟨0, Nat.zero_le _, rfl, HG.out⟩
    case round =>
      obtain ⟨k, hk, rfl, HGk⟩ := hrel
      by_cases hlt : k < len0
      · have hlt' : (k : Int) < (len0 : Int) := by omega
        obtain ⟨b, off, ha, hbw, hc⟩ := HI.out.at k hlt
        subst ha
        obtain ⟨_, _, _, _, _, _, _, _, hbel, _⟩ := HGk.out
        have hc' := (hbel.cell (p := ⟨b, off + k, none⟩) hbw).trans hc
        have hz := HI.out.bd k
        have HS := hid (Got.step (by omega) HGk.out)
        have hp := pickN_lt (z0.getD k 0)
        have hP := pick_any (z0.getD k 0) hz.1 hz.2 wr
        clear hbel hc hz
        generalize pickN (z0.getD k 0) 600 = v at hp HS hP
        generalize z0.getD k 0 = zk at hc' hP
        have HP := hid hP
        clear hP
        go_wp2_with fail
        refine HP.out.mono ?_
        rintro e w' ⟨rfl, rfl⟩
        go_wp2_with fail
        refine HS.out.mono ?_
        rintro e w' ⟨rfl, hG2⟩
        go_wp2_with fail
        go_roundw
        case rel => exact ⟨k + 1, by omega, by go_num, hG2⟩
        case measure => simp [intOf]; omega
      · obtain rfl : k = len0 := by omega
        clear HG hlt hk
        have HL := hid (Got.last (by omega) HGk.out)
        have hp := pickN_lt a1
        have hPn := fun wx => pick_any a1 hn.1 hn.2 wx
        generalize hv : pickN a1 600 = v at hp hPn
        have HPn := hid hPn
        clear hPn hv HGk
        go_wp2_with fail
        refine HL.out.mono ?_
        rintro e w2 ⟨rfl, hA⟩
        have HA := hid hA
        obtain ⟨_, _, _, _, _, _, hbel⟩ := hA
        have HB := hid hbel
        clear hbel HL
        go_wp2_with fail
        refine (HPn.out _).mono ?_
        rintro e w' ⟨rfl, hw2⟩
        subst hw2
        clear HPn
        go_wp2_with fail
        go_loopw [9, 10] (fun s9 s10 wr => ∃ i : Nat, i ≤ k ∧ s10 = .int .i64 i ∧ s9 = .bool (anyB z0 v i) ∧ wr = w') (fun _ s10 _ => k - (intOf s10).toNat)
        case atStart => exact ⟨0, Nat.zero_le _, rfl, rfl, rfl⟩
        case round =>
          obtain ⟨i, hik, rfl, rfl, rfl⟩ := hrel
          by_cases hlt : i < k
          · have hlt' : (i : Int) < (k : Int) := by omega
            obtain ⟨b, off, ha, hbw, hc⟩ := HI.out.at i hlt
            subst ha
            have hz := HI.out.bd i
            have hsu := hid (anyB_succ z0 v i)
            cases hb : anyB z0 v i
            · rw [hb] at hsu
              have hc' := (HB.out.cell (p := ⟨b, off + i, none⟩) hbw).trans hc
              have hP := fun wx => pick_any (z0.getD i 0) hz.1 hz.2 wx
              clear hc hz hb
              generalize pickN (z0.getD i 0) 600 = y at hsu hP
              generalize z0.getD i 0 = zk at hc' hP
              have HP := hid hP
              clear hP
              go_wp2_with fail
              refine (HP.out _).mono ?_
              rintro e w3 ⟨rfl, hw3⟩
              subst hw3
              go_wp2_with fail
              go_roundw
              case rel => refine ⟨i + 1, by omega, by go_num, ?_, by first | rfl | trivial⟩; rw [hsu.out, cast_beq, Bool.false_or]
              case measure => simp [intOf]; omega
            · rw [hb] at hsu
              clear hc hz hb
              go_wp2_with fail
              go_roundw
              case rel => refine ⟨i + 1, by omega, by go_num, ?_, by first | rfl | trivial⟩; rw [hsu.out, Bool.true_or]
              case measure => simp [intOf]; omega
          · obtain rfl : i = k := by omega
            have hiff := hid (anyB_iff z0 v i)
            generalize anyB z0 v i = B at hiff
            clear HI
            go_wp2_with fail
            refine (All.has HA.out v _ rfl).mono ?_
            rintro e w3 ⟨r1, rfl, hr1, hA1⟩
            obtain rfl : r1 = B := by
              rw [Bool.eq_iff_iff, hr1, hiff.out]
              constructor
              · rintro (h | h)
                · omega
                · exact h
              · exact fun h => .inr h
            have HA1 := hid hA1
            clear hr1 hA1 HA hiff HB
            go_wp2_with fail
            refine (All.has HA1.out 1000 _ rfl).mono ?_
            rintro e w4 ⟨r2, rfl, hr2, hA2⟩
            obtain rfl : r2 = true := hr2.2 (.inl ⟨by omega, by omega⟩)
            have HA2 := hid hA2
            clear hr2 hA2 HA1
            go_wp2_with fail
            refine (All.has HA2.out 999 _ rfl).mono ?_
            rintro e w5 ⟨r3, rfl, hr3, hA3⟩
            obtain rfl : r3 = false := by
              rw [← Bool.not_eq_true, hr3]
              rintro (h | ⟨j, _, h⟩)
              · omega
              · have := pickN_lt (z0.getD j 0)
                omega
            have HA3 := hid hA3
            clear hr3 hA3 HA2
            go_wp2_with fail
            refine (All.floor HA3.out).mono ?_
            rintro e w6 ⟨rfl, hw6⟩
            subst hw6
            obtain ⟨_, _, _, _, _, _, hbel⟩ := HA3.out
            have HB := hid hbel
            clear hbel HA3
            have hrr : (r1 == r1) = true := by simp
            go_wp2
            go_ret
            exact ⟨ret_bool (by simp), HB.out⟩

end Go.Proofs.Ytphbledmopchnaa.St
