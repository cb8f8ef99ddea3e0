/-
  The reader: take, byte, ended, less.
-/
import Derived.Test.YtphbledmopchnaaDoorPEnc
namespace Go.Proofs.YtphbledmopchnaaDoor
open Go.RowKit Go.Lib Go.Shelf Mm

/-- A reader at rb over the bytes at ⟨yb, yo⟩. -/
structure RdAt (w : World) (rb yb yo cap : Nat) (body : List UInt8) (p bg : Nat) : Prop where
  blk : Blk w rb 95 [.slice (some ⟨yb, yo, none⟩) body.length cap, .int .i64 (p : Int), .int .i64 (bg : Int)]
  bts : BytesAt w (some ⟨yb, yo, none⟩) body
  le : p ≤ body.length
  room : body.length < cap
  cap : cap ≤ 9223372036854775807
  ne : rb ≠ yb

/-- Nothing but the block rb turns. -/
structure St1 (rb : Nat) (w w' : World) : Prop where
  os : w'.os = w.os
  tape : w'.tape = w.tape
  output : w'.output = w.output
  size : w'.heap.size = w.heap.size
  block : ∀ k, k ≠ rb → w'.heap[k]? = w.heap[k]?
theorem St1.refl (rb : Nat) (w : World) : St1 rb w w := ⟨rfl, rfl, rfl, rfl, fun _ _ => rfl⟩
theorem St1.trans {rb : Nat} {a b c : World} (h : St1 rb a b) (k : St1 rb b c) : St1 rb a c :=
  ⟨k.os.trans h.os, k.tape.trans h.tape, k.output.trans h.output, k.size.trans h.size, fun i hi => (k.block i hi).trans (h.block i hi)⟩
theorem St1.set (rb o q : Nat) (v : Value) (w : World) : St1 rb w ((w.setCell ⟨rb, o, none⟩ v).drewN q) :=
  ⟨rfl, rfl, rfl, by simp, fun k hk => Below.heap_setCell _ _ _ _ hk⟩
theorem BytesAt.of {w w' : World} {a : Option Addr} {l : List UInt8} (h : BytesAt w a l) (e : ∀ x : Addr, a = some x → w'.heap[x.block]? = w.heap[x.block]?) : BytesAt w' a l := fun j hj => by
  obtain ⟨b, off, ha, hc⟩ := h j hj
  exact ⟨b, off, ha, cell_of hc (e ⟨b, off, none⟩ ha)⟩
theorem RdAt.set {w : World} {rb yb yo cap : Nat} {body : List UInt8} {p bg : Nat} (h : RdAt w rb yb yo cap body p bg) (p' q : Nat) (hp : p' ≤ body.length) : RdAt ((w.setCell ⟨rb, 1, none⟩ (.int .i64 (p' : Int))).drewN q) rb yb yo cap body p' bg :=
  ⟨(h.blk.setCell 1 _).of_heap rfl, h.bts.of (fun x hx => by simp at hx; subst hx; exact Below.heap_setCell _ _ _ _ (Ne.symm h.ne)), hp, h.room, h.cap, h.ne⟩
theorem RdAt.of {w w' : World} {rb yb yo cap : Nat} {body : List UInt8} {p bg : Nat} (h : RdAt w rb yb yo cap body p bg) (e1 : w'.heap[rb]? = w.heap[rb]?) (e2 : w'.heap[yb]? = w.heap[yb]?) : RdAt w' rb yb yo cap body p bg :=
  ⟨h.blk.of_heap e1, h.bts.of (fun x hx => by simp at hx; subst hx; exact e2), h.le, h.room, h.cap, h.ne⟩
theorem RdAt.drewN {w : World} {rb yb yo cap : Nat} {body : List UInt8} {p bg : Nat} (h : RdAt w rb yb yo cap body p bg) (q : Nat) : RdAt (w.drewN q) rb yb yo cap body p bg := h.of rfl rfl
theorem St1.drewN (rb q : Nat) (w : World) : St1 rb w (w.drewN q) := ⟨rfl, rfl, rfl, rfl, fun _ _ => rfl⟩
theorem RdAt.byte {w : World} {rb yb yo cap : Nat} {body : List UInt8} {p bg : Nat} (h : RdAt w rb yb yo cap body p bg) (j : Nat) (hj : j < body.length) : w.cell? ⟨yb, yo + j, none⟩ = some (.int .u8 ((body[j].toNat : Nat) : Int)) := by
  obtain ⟨b, off, ha, hc⟩ := h.bts j hj
  simp at ha
  obtain ⟨rfl, rfl⟩ := ha
  exact hc

set_option maxHeartbeats 1000000 in
set_option maxRecDepth 100000 in
theorem take_any (rb yb yo cap : Nat) (body : List UInt8) (p bg n : Nat) (w : World) (h : RdAt w rb yb yo cap body p bg) (hn : p + n ≤ body.length) :
    Calls Tryd.prog 70 #[.pointer (some ⟨rb, 0, none⟩), .int .u64 (n : Int)] w fun e w' => e = .returned (.slice (some ⟨yb, yo + p, none⟩) n (cap - p)) ∧ RdAt w' rb yb yo cap body (p + n) bg ∧ St1 rb w w' := by
  have x0 : w.cell? ⟨rb, 0, none⟩ = some (.slice (some ⟨yb, yo, none⟩) body.length cap) := h.blk.cell 0
  have x1 : w.cell? ⟨rb, 1, none⟩ = some (.int .i64 (p : Int)) := h.blk.cell 1
  have z1 := h.blk.frozen 1
  have hroom := h.room
  have hcap := h.cap
  have e1 : (body.length : Int) - (p : Int) = ((body.length - p : Nat) : Int) := by omega
  have e2 : ¬ (body.length - p < n) := by omega
  have e3 : (p : Int) + (n : Int) = ((p + n : Nat) : Int) := by omega
  have g1 : ((body.length - p : Nat) : Int) < 9223372036854775808 := by omega
  have g2 : (n : Int) < 9223372036854775808 := by omega
  have g3 : ((p + n : Nat) : Int) < 9223372036854775808 := by omega
  have g4 : (p : Int) ≤ ((p + n : Nat) : Int) := by omega
  have g5 : ((p + n : Nat) : Int) ≤ (cap : Int) := by omega
  have g6 : ¬ (cap = p) := by omega
  have g7 : (p + n) - p = n := by omega
  have HF := hid (fun q1 q2 => (h.drewN q1).set (p + n) q2 hn)
  clear h
  generalize hm : p + n = m at *
  generalize hN : body.length = N at *
  generalize hd : N - p = d at *
  have HM := hid (And.intro hm (And.intro hN hd))
  clear hm hN hd
  go_enter Tryd.func70, Tryd.ntmps70
  go_wp2_with fail
  go_quiet (fail)
  go_wp2_with fail
  go_quiet (fail)
  go_wp2
  go_ret
  exact ⟨rfl, HF.out _ _, (St1.drewN rb _ w).trans (St1.set rb 1 _ _ _)⟩

set_option maxHeartbeats 1000000 in
theorem byte_any (rb yb yo cap : Nat) (body : List UInt8) (p bg : Nat) (w : World) (h : RdAt w rb yb yo cap body p bg) (hp : p < body.length) :
    Calls Tryd.prog 57 #[.pointer (some ⟨rb, 0, none⟩)] w fun e w' => e = .returned (.int .u8 ((body[p].toNat : Nat) : Int)) ∧ RdAt w' rb yb yo cap body (p + 1) bg ∧ St1 rb w w' := by
  have HT := hid (take_any rb yb yo cap body p bg 1 w h (by omega))
  have HC := hid (fun w' (h' : RdAt w' rb yb yo cap body (p + 1) bg) => h'.byte p hp)
  clear h
  generalize body[p].toNat = X at HC
  go_enter Tryd.func57, Tryd.ntmps57
  go_wp2_with fail
  refine HT.out.mono ?_
  rintro e w1 ⟨rfl, hR, hS⟩
  have c0 := HC.out w1 hR
  have HR := hid hR
  have HS := hid hS
  clear hR hS
  go_wp2
  go_ret
  exact ⟨rfl, HR.out, HS.out⟩

theorem ended_any (rb yb yo cap : Nat) (body : List UInt8) (p bg : Nat) (w : World) (h : RdAt w rb yb yo cap body p bg) :
    Calls Tryd.prog 46 #[.pointer (some ⟨rb, 0, none⟩)] w fun e w' => e = .returned (.bool (decide (p = body.length))) ∧ ∃ q, w' = w.drewN q := by
  have x0 : w.cell? ⟨rb, 0, none⟩ = some (.slice (some ⟨yb, yo, none⟩) body.length cap) := h.blk.cell 0
  have x1 : w.cell? ⟨rb, 1, none⟩ = some (.int .i64 (p : Int)) := h.blk.cell 1
  have HE : Hid (((p : Int) == (body.length : Int)) = decide (p = body.length)) := by
    unfold Hid; rw [Bool.eq_iff_iff, beq_iff_eq, decide_eq_true_iff]; omega
  clear h
  go_enter Tryd.func46, Tryd.ntmps46
  go_wp2_with fail
  go_quiet (fail)
  go_wp2
  go_ret
  exact ⟨ret_bool HE.out, nq, rfl⟩

theorem less_any (r : Value) (n by_ : Nat) (w : World) (h : by_ ≤ n) (hn : n < 18446744073709551616) :
    Calls Tryd.prog 73 #[r, .int .u64 (n : Int), .int .u64 (by_ : Int)] w fun e w' => e = .returned (.int .u64 ((n - by_ : Nat) : Int)) ∧ w' = w := by
  have e1 : ¬ ((n : Int) < (by_ : Int)) := by omega
  have e2 : (n : Int) - (by_ : Int) = ((n - by_ : Nat) : Int) := by omega
  have e3 : ((n - by_ : Nat) : Int) < 18446744073709551616 := by omega
  generalize n - by_ = d at *
  go_enter Tryd.func73, Tryd.ntmps73
  go_wp2
  go_ret
  exact ⟨rfl, rfl⟩

end Go.Proofs.YtphbledmopchnaaDoor
