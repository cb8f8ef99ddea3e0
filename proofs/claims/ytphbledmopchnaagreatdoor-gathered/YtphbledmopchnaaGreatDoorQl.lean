import Derived.RangeFuncNested
import Derived.RangeFuncBound
import Derived.RangeFuncCalls
import Derived.RangeFuncLeaves
import Derived.Shelf.Abstract
import Derived.Shelf.RegionOpen
import Derived.WalkKit
import Derived.OwnWalkIn
import Derived.TacticsInMore
import Derived.LoopNIn
import Derived.LoopIn
import Derived.Test.YtphbledmopchnaaGreatDoorQk
/-
  slices.Clone, slices.Backward, Set.Down: the values.
-/
namespace Go.Proofs.YtphbledmopchnaaGreatDoor.St
open Go.RowKit Go.Lib Go.Shelf Mm

/-- The program's ranges as a list of the call's own. -/
theorem RowAt.gbuf {w : World} {sp : Nat} {base : Option Addr} {c : Nat} {rs : List (Nat × Nat)} (h : RowAt w sp base c rs) (hn : rs.length ≤ c) (hc : c ≤ 9223372036854775807) : GBuf 170 2 w (.slice base rs.length c) rs.length (rcells rs) := by
  rcases h with ⟨rfl, rfl, rfl⟩ | ⟨b, l, rfl, _, hB, hl, ht, h1⟩
  · exact GBuf.nil _ _ _
  · refine .inr ⟨b, c, l, rfl, hB, by omega, hn, hc, by rw [rcells_length]; omega, by rw [Nat.mul_comm, ht], h1⟩

theorem eql_nil (w : World) : (binOp BinOp.eql 63 (.slice none 0 0) (.slice none 0 0)).run Tryz.prog w = .ok (.bool true) w := by kernel_rfl
theorem eql_some (w : World) (a : Addr) (n c : Nat) : (binOp BinOp.eql 63 (.slice (some a) n c) (.slice none 0 0)).run Tryz.prog w = .ok (.bool false) w := by kernel_rfl

set_option maxHeartbeats 1000000 in
set_option maxRecDepth 100000 in
theorem clone_any (v : Value) (rs : List (Nat × Nat)) (w : World) (h : GBuf 170 2 w v rs.length (rcells rs)) (hn : rs.length ≤ 1000000) :
    Calls Tryz.prog 228 #[v] w fun e w' => ∃ v', e = .returned v' ∧ GBuf 170 2 w' v' rs.length (rcells rs) ∧ Own w.heap.size v' ∧ Below w.heap.size w w' := by
  rcases h with ⟨rfl, hn0, hl0⟩ | ⟨g, cap, cs, rfl, hB, h2, h3, h4, h5, h6, h7⟩
  · have HG : Hid (GBuf 170 2 w (.slice none 0 0) rs.length (rcells rs)) := .inl ⟨rfl, hn0, hl0⟩
    have q1 := eql_nil w
    go_enter Tryz.func228, Tryz.ntmps228
    go_wp2
    go_ret
    exact ⟨_, rfl, HG.out, fun k hk => by simp [Value.ownBlock] at hk, Below.refl _ _⟩
  · have q1 := eql_some w ⟨g, 0, none⟩ rs.length cap
    obtain ⟨W1, hW1⟩ : ∃ W1, W1 = w.alloc (.cells #[] 170) := ⟨_, rfl⟩
    have hb1 : Blk W1 w.heap.size 170 [] := by rw [hW1]; exact Blk.new w 170 []
    have hB1 : Below w.heap.size w W1 := by rw [hW1]; exact (Below.refl _ w).alloc (Nat.le_refl _) _
    have hs1 : W1.heap.size = w.heap.size + 1 := by rw [hW1]; simp
    have hg1 : Blk W1 g 170 cs := hB.of_heap (hB1.block g hB.lt)
    have hcell : ∀ j u, (rcells rs)[j]? = some u → W1.cell? ((⟨g, 0, none⟩ : Addr).add j) = some u := fun j u hj => by
      rw [Addr.add_lit, Nat.zero_add, hg1.cell]
      rw [← h6, List.getElem?_take] at hj
      split at hj
      · exact hj
      · cases hj
    obtain ⟨v', W5, run5, hG5, hO5, hb5⟩ : ∃ v' W5, (∀ ty, (Builtin.append_ #[63, 63] ty #[.slice (some ⟨w.heap.size, 0, none⟩) 0 0, .slice (some ⟨g, 0, none⟩) rs.length cap]).run Tryz.prog W1 = .ok v' W5) ∧ GBuf 170 2 W5 v' rs.length (rcells rs) ∧ Own w.heap.size v' ∧ Below w.heap.size w W5 := by
      by_cases h0 : rs.length = 0
      · have hnil : rs = [] := List.length_eq_zero_iff.1 h0
        subst hnil
        have hap := fun ty => run_append_room_blk (P := Tryz.prog) (w := W1) 63 63 ty 170 _ 2 16 eltR.ht eltR.ht eltR.hi (n := 0) (c := 0) (m := 0) (mc := cap) hb1 ⟨g, 0, none⟩ (vs := []) rfl (fun j v hj => by simp at hj) (fun v hv => by cases hv) (Nat.le_refl _) (Nat.le_refl _)
        refine ⟨_, _, hap, .inr ⟨w.heap.size, 0, _, rfl, hb1.put _, rfl, Nat.le_refl _, by omega, rfl, rfl, fun v hv => by cases hv⟩, fun k hk => by simp [Value.ownBlock] at hk; omega, ?_⟩
        exact hB1.trans ((⟨(put_grown W1 w.heap.size _).os, (put_grown W1 w.heap.size _).tape, (put_grown W1 w.heap.size _).output, (put_grown W1 w.heap.size _).size, fun k hk => put_other W1 _ k _ (by omega)⟩ : Below w.heap.size W1 _))
      · have hbuf : GBuf 170 2 W1 (.slice (some ⟨w.heap.size, 0, none⟩) 0 0) 0 [] := .inr ⟨w.heap.size, 0, [], rfl, hb1, rfl, Nat.le_refl _, by omega, rfl, rfl, fun v hv => by cases hv⟩
        obtain ⟨v', W5, run5, hB5, hG5⟩ := run_append_gbuf eltR hbuf ⟨g, 0, none⟩ rs.length cap (rcells rs) (by rw [rcells_length]; omega) (by omega) (rcells_one rs) hcell (by omega)
        have hO : Own w.heap.size (.slice (some ⟨w.heap.size, 0, none⟩) 0 0) := fun k hk => by simp [Value.ownBlock] at hk; omega
        exact ⟨v', W5, run5, by simpa using hB5, hG5.own hO (by omega), hB1.trans (hG5.below hO (by omega))⟩
    obtain ⟨a', c', rfl, _⟩ := hG5.shape
    have HF := hid (And.intro hG5 (And.intro hO5 hb5))
    clear hG5 hO5 hb5 hcell hg1 hs1 hB1 hb1 hB h2 h3 h4 h5 h6 h7
    subst hW1
    go_enter Tryz.func228, Tryz.ntmps228
    go_wp2_with (at_builtin; refine Lib.wpList_append_run _ rfl _ _ _ _ rfl _ _ rfl rfl _ _ (run5 _) ?_)
    go_ret
    exact ⟨_, rfl, HF.out⟩

/-- slices.Backward(s): the slice is boxed. -/
theorem backward_any (a : Option Addr) (n c : Nat) (w : World) :
    Calls Tryz.prog 227 #[.slice a n c] w fun e w' => e = .returned (.func (.func 293) #[] #[.pointer (some ⟨w.heap.size, 0, none⟩)]) ∧ w' = w.alloc (.cells #[.slice a n c] 63) := by
  have hmf : ∀ (fn : Fn) (first cap : Array Value) (w : World), (Instr.makeFunc fn first cap).run Tryz.prog w = .ok (.func fn first cap) w := fun _ _ _ _ => rfl
  go_enter Tryz.func227, Tryz.ntmps227
  go_wp2
  go_ret
  exact ⟨rfl, rfl⟩

/-- numbers.Set.Down, mediawire.Set.Down: the set's place is boxed. -/
theorem ndown_any (sp : Nat) (w : World) :
    Calls Tryz.prog 173 #[.pointer (some ⟨sp, 0, none⟩)] w fun e w' => e = .returned (.func (.func 226) #[] #[.pointer (some ⟨w.heap.size, 0, none⟩)]) ∧ w' = w.alloc (.cells #[.pointer (some ⟨sp, 0, none⟩)] 273) := by
  have hmf : ∀ (fn : Fn) (first cap : Array Value) (w : World), (Instr.makeFunc fn first cap).run Tryz.prog w = .ok (.func fn first cap) w := fun _ _ _ _ => rfl
  go_enter Tryz.func173, Tryz.ntmps173
  go_wp2
  go_ret
  exact ⟨rfl, rfl⟩
theorem mdown_any (sp : Nat) (w : World) :
    Calls Tryz.prog 130 #[.pointer (some ⟨sp, 0, none⟩)] w fun e w' => e = .returned (.func (.func 226) #[] #[.pointer (some ⟨w.heap.size, 0, none⟩)]) ∧ w' = w.alloc (.cells #[.pointer (some ⟨sp, 0, none⟩)] 273) := by
  have HA := hid (ndown_any sp w)
  go_enter Tryz.func130, Tryz.ntmps130
  go_wp2_with (go_at_call 173; refine HA.out.mono ?_; rintro e w' ⟨rfl, rfl⟩)
  go_ret
  exact ⟨rfl, rfl⟩

end Go.Proofs.YtphbledmopchnaaGreatDoor.St

/-
  slices.Backward's walk.
-/
namespace Go.Proofs.YtphbledmopchnaaGreatDoor.St
open Go.RowKit Go.Lib Go.Shelf Mm
attribute [local go_sem] Oper.semAt_some

/-- What has come when k rounds are over. -/
def bw (rs : List (Nat × Nat)) (k : Nat) : List (Nat × Nat × Nat) := (List.range k).map fun j => (rs.length - 1 - j, rs.getD (rs.length - 1 - j) (0, 0))
theorem bw_succ (rs : List (Nat × Nat)) (k : Nat) : bw rs (k + 1) = bw rs k ++ [(rs.length - 1 - k, rs.getD (rs.length - 1 - k) (0, 0))] := by simp [bw, List.range_succ]
theorem bw_length (rs : List (Nat × Nat)) (k : Nat) : (bw rs k).length = k := by simp [bw]

set_option maxHeartbeats 2000000 in
set_option maxRecDepth 100000 in
theorem back1_in (F : Fence) (n : Nat) (h210 : F.fn 293) (hro : F.round = none) (hn : 1 ≤ n) (l bb : Nat) (v : Value) (rs : List (Nat × Nat)) (hrl : rs.length ≤ 1000000) (Kp : World → World → Prop)
    (hkp : ∀ A B, Kp A B → B.heap[bb]? = A.heap[bb]? ∧ ∀ g, v.ownBlock = some g → B.heap[g]? = A.heap[g]?) (J Jx : List (Nat × Nat × Nat) → World → Prop)
    (hY : ∀ pre x W, J pre W → pre.length < rs.length → YieldAt F (n - 1) Tryz.prog l #[.int .i64 (x.1 : Int), .agg #[.int .u64 (x.2.1 : Int), .int .u64 (x.2.2 : Int)]] W fun e W' =>
      (e = .returned (.bool true) ∧ J (pre ++ [x]) W' ∧ Kp W W') ∨ (e = .returned (.bool false) ∧ Jx (pre ++ [x]) W'))
    (W : World) (hb : Blk W bb 63 [v]) (hG : GBuf 170 2 W v rs.length (rcells rs)) (h0 : J [] W) :
    CallsIn F n Tryz.prog 293 #[.func (.yield l) #[] #[], .pointer (some ⟨bb, 0, none⟩)] W fun e W' => (∃ v, e = .returned v) ∧
      ((∃ ys, ys = bw rs rs.length ∧ J ys W') ∨ (∃ pre, (∃ k, k ≤ rs.length ∧ pre = bw rs k) ∧ Jx pre W')) := by
  obtain ⟨a, c, rfl, hc⟩ := hG.shape
  have k0 : W.cell? ⟨bb, 0, none⟩ = some (.slice a rs.length c) := hb.cell 0
  have HB := hid hb
  have HG := hid hG
  have HY := hid hY
  have HKP := hid hkp
  clear hb hG hY hkp
  refine callsIn_of_wp Tryz.func293 rfl h210 ?_ hro
  simp only [Tryz.ntmps293, List.size_toArray, List.length_cons, List.length_nil, Nat.reduceAdd, Nat.reduceSub, Array.replicate_succ, Array.replicate_zero, List.push_toArray, List.append_toArray, List.nil_append, List.cons_append]
  gi_wp2
  gi_loopw [3] (fun i wr => ∃ k m : Nat, k + m = rs.length ∧ i = .int .i64 ((m : Int) - 1) ∧ Hid (J (bw rs k) wr ∧ Blk wr bb 63 [.slice a rs.length c] ∧ GBuf 170 2 wr (.slice a rs.length c) rs.length (rcells rs)))
    (fun i _ => (intOf i + 1).toNat)
  case atStart => exact ⟨0, rs.length, by omega, rfl, h0, HB.out, HG.out⟩
  case round =>
    obtain ⟨k, m, hkm, rfl, HJ⟩ := hrel
    obtain ⟨hJ, hb, hG⟩ := HJ.out
    have k0' : wr.cell? ⟨bb, 0, none⟩ = some (.slice a rs.length c) := hb.cell 0
    cases m with
    | zero =>
      have e0 : ((0 : Nat) : Int) - 1 = -1 := by omega
      rw [e0]
      obtain rfl : k = rs.length := by omega
      clear hJ hb hG
      gi_wp2
      go_end0
      exact ⟨⟨_, rfl⟩, .inl ⟨_, rfl, HJ.out.1⟩⟩
    | succ m =>
      have e0 : ((m + 1 : Nat) : Int) - 1 = (m : Int) := by omega
      rw [e0]
      have hm : m < rs.length := by omega
      have hm' : (m : Int) < (rs.length : Int) := by omega
      obtain ⟨g, hg, c0, _⟩ := hG.cell rfl (m * 2) _ (rcells_lo rs m hm)
      obtain ⟨g', hg', c1, _⟩ := hG.cell rfl (m * 2 + 1) _ (rcells_hi rs m hm)
      subst hg
      have hgg : g' = g := by simp at hg'; exact hg'.symm
      subst hgg
      have hmk : rs.length - 1 - k = m := by omega
      have HSC := hid (bw_succ rs k)
      rw [hmk] at HSC
      generalize rs.getD m (0, 0) = xy at *
      obtain ⟨x, y⟩ := xy
      dsimp only at c0 c1
      obtain ⟨fn, tmps, assign, body, hy, hR⟩ := HY.out _ (m, x, y) wr hJ (by rw [bw_length]; omega)
      dsimp only at hy
      clear hJ hb hG
      gi_wp2
      refine hR.mono ?_
      rintro e W3 (⟨rfl, hJ3, hk3⟩ | ⟨rfl, hJx3⟩)
      · obtain ⟨q1, q2⟩ := HKP.out _ _ hk3
        have HJ3 : Hid (J (bw rs (k + 1)) W3 ∧ Blk W3 bb 63 [.slice (some ⟨g', 0, none⟩) rs.length c] ∧ GBuf 170 2 W3 (.slice (some ⟨g', 0, none⟩) rs.length c) rs.length (rcells rs)) :=
          ⟨by rw [HSC.out]; exact hJ3, HJ.out.2.1.of_heap q1, HJ.out.2.2.of_heap q2⟩
        clear hJ3 hk3 q1 q2 HJ hR hy
        gi_wp2
        go_roundw
        case rel => exact ⟨k + 1, m, by omega, by go_num, HJ3⟩
        case measure => simp [intOf]
      · gi_wp2
        refine bodyPost_ret (results_none rfl _ _ _) rfl ?_
        exact ⟨⟨_, rfl⟩, .inr ⟨_, ⟨k + 1, by omega, HSC.out.symm⟩, hJx3⟩⟩

end Go.Proofs.YtphbledmopchnaaGreatDoor.St

/-
  The walk that Set.Down hands out.
-/
namespace Go.Proofs.YtphbledmopchnaaGreatDoor.St
open Go.RowKit Go.Lib Go.Shelf Mm
attribute [local go_sem] Oper.semAt_some

theorem OwnFrom.mono {β : Type} {B B' : Nat} {I : β → World → Prop} (h : OwnFrom B I) (hB : B ≤ B') : OwnFrom B' I := fun s W W' row hs hg hr => h s W W' row hs hg (fun r e => ⟨Nat.le_trans hB (hr r e).1, (hr r e).2⟩)

/-- A block of cells abides what turns no cells. -/
theorem blk_own {β : Type} (B b : Nat) (t : TypeId) (l : List Value) : OwnFrom B (fun (_ : β) W => Blk W b t l) := fun _ X Y row hs hg hr =>
  hs.of_heap (hg.block b hs.lt (fun e => by
    obtain ⟨_, o, ho, hc⟩ := hr b e.symm
    rw [show X.heap[b]? = _ from hs] at ho
    cases ho
    cases hc))

/-- What a round of the caller's keeps: cells from a to ahead of E; what is no cells, from a on. -/
def KpO (a E : Nat) (W W' : World) : Prop := W.heap.size ≤ W'.heap.size ∧ (∀ k, a ≤ k → k < E → W'.heap[k]? = W.heap[k]?) ∧ KeepsFrom a W W'

/-- A range as it is handed to yield. -/
def encR (x : Nat × Nat) : Array Value := #[.agg #[.int .u64 (x.1 : Int), .int .u64 (x.2 : Int)]]

theorem bw_map (rs : List (Nat × Nat)) (k : Nat) (hk : k ≤ rs.length) : (bw rs k).map (·.2) = rs.reverse.take k := by
  apply List.ext_getElem?
  intro j
  by_cases hj : j < k
  · rw [List.getElem?_take, if_pos hj, List.getElem?_reverse (by omega)]
    have h2 : rs.length - 1 - j < rs.length := by omega
    simp [bw, hj, h2]
  · rw [List.getElem?_eq_none (by simp [bw]; omega), List.getElem?_eq_none (by simp; omega)]

set_option maxHeartbeats 4000000 in
set_option maxRecDepth 100000 in
theorem down1_in (n : Nat) (hn : 4 ≤ n) (l sb sp : Nat) (most : Int) (fl : Nat) (rs : List (Nat × Nat)) (row : Option Nat) (A : World) (hS : SetAt A sp most fl rs row) (hsb : Blk A sb 273 [.pointer (some ⟨sp, 0, none⟩)]) (hrl : rs.length ≤ 1000000)
    (J Jx : Nat → List (Nat × Nat) → World → Prop) (hJ : ∀ E, OwnFrom A.heap.size (J E)) (hJx : ∀ E, OwnFrom A.heap.size (Jx E)) (h0 : ∀ E W, Below A.heap.size A W → J E [] W)
    (hY : ∀ m E pre x W, A.heap.size ≤ E → E ≤ W.heap.size → J E pre W → pre.length < rs.length → YieldAt Fence.wide m Tryz.prog l (encR x) W fun e W' =>
      (e = .returned (.bool true) ∧ J E (pre ++ [x]) W' ∧ KpO A.heap.size E W W') ∨ (e = .returned (.bool false) ∧ Jx E (pre ++ [x]) W' ∧ KpO A.heap.size E W W')) :
    CallsIn Fence.wide n Tryz.prog 226 #[.func (.yield l) #[] #[], .pointer (some ⟨sb, 0, none⟩)] A fun e W' => (∃ v, e = .returned v) ∧ ∃ E, A.heap.size ≤ E ∧ (J E rs.reverse W' ∨ (∃ k, k ≤ rs.length ∧ Jx E (rs.reverse.take k) W')) := by
  have h1 : 1 ≤ n := by omega
  obtain ⟨base, c, s1, s2, s3, s4, s5⟩ := hS
  obtain ⟨W0, hW0⟩ : ∃ W0, W0 = A.alloc (.cells #[.func (.yield l) #[] #[]] 325) := ⟨_, rfl⟩
  have hB0 : Below A.heap.size A W0 := by rw [hW0]; exact (Below.refl _ A).alloc (Nat.le_refl _) _
  have hyb : Blk W0 A.heap.size 325 [.func (.yield l) #[] #[]] := by rw [hW0]; exact Blk.new A 325 _
  have k0 : A.cell? ⟨sb, 0, none⟩ = some (.pointer (some ⟨sp, 0, none⟩)) := hsb.cell 0
  have hsblt := hsb.lt
  have k1 : W0.cell? ⟨sb, 0, none⟩ = some (.pointer (some ⟨sp, 0, none⟩)) := (hsb.of_heap (hB0.block sb hsblt)).cell 0
  have k2 : W0.cell? ⟨sp, 2, none⟩ = some (.slice base rs.length c) := (s1.of_heap (hB0.block sp s1.lt)).cell 2
  have hGA := s5.gbuf s2 s3
  have hG0 : GBuf 170 2 W0 (.slice base rs.length c) rs.length (rcells rs) := hGA.of_heap (fun b hb => hB0.block b (hGA.lt b hb))
  have HC := hid (clone_any _ rs W0 hG0 hrl)
  have HYB := hid hyb
  have HB0 := hid hB0
  have HJ := hid hJ
  have HJx := hid hJx
  have H0 := hid h0
  have HY := hid hY
  clear s1 s2 s3 s4 s5 hGA hG0 hB0 hyb hJ hJx h0 hY hsb
  refine callsIn_of_wp_marks Tryz.func226 rfl trivial ?_ rfl
  simp only [Tryz.ntmps226, List.size_toArray, List.length_cons, List.length_nil, Nat.reduceAdd, Nat.reduceSub, Array.replicate_succ, Array.replicate_zero, List.push_toArray, List.append_toArray, List.nil_append, List.cons_append]
  subst hW0
  gi_wp2_with (refine ⟨trivial, ?_⟩; gi_at_call 228; refine (callsIn_wide.2 HC.out).mono ?_; rintro e W1 ⟨v1, rfl, hG1, hO1, hB1⟩)
  obtain ⟨a1, c1, rfl, _⟩ := hG1.shape
  refine ⟨trivial, ?_⟩
  refine (callsIn_wide.2 (backward_any a1 rs.length c1 W1)).mono ?_
  rintro e W2 ⟨rfl, hW2⟩
  have HW2 : Hid (Below A.heap.size A W2 ∧ Blk W2 A.heap.size 325 [.func (.yield l) #[] #[]] ∧ Blk W2 W1.heap.size 63 [.slice a1 rs.length c1] ∧ GBuf 170 2 W2 (.slice a1 rs.length c1) rs.length (rcells rs) ∧ Own A.heap.size (.slice a1 rs.length c1) ∧ A.heap.size < W1.heap.size ∧ W2.heap.size = W1.heap.size + 1) := by
    have hb2 : Below W1.heap.size W1 W2 := by rw [hW2]; exact (Below.refl _ W1).alloc (Nat.le_refl _) _
    have hA1 : Below A.heap.size A W1 := HB0.out.trans (hB1.mono (by simp))
    have hlt : A.heap.size < W1.heap.size := by have := hB1.size; simp at this; omega
    refine ⟨hA1.trans (hb2.mono hA1.size), HYB.out.of_heap ?_, ?_, hG1.of_heap (fun b hb => hb2.block b (hG1.lt b hb)), fun k hk => ?_, hlt, ?_⟩
    · rw [hb2.block _ hlt, hB1.block _ (by simp)]
    · rw [hW2]; exact Blk.new W1 63 _
    · have := hO1 k hk; simp at this; omega
    · rw [hW2]; simp
  clear hG1 hO1 hB1 hW2 HYB HB0 HC k0 k1 k2
  gi_wp2
  have hseq : SeqStopsK Fence.wide (n - 1) Tryz.prog 293 #[.pointer (some ⟨W1.heap.size, 0, none⟩)] (fun x : Nat × Nat × Nat => #[.int .i64 (x.1 : Int), .agg #[.int .u64 (x.2.1 : Int), .int .u64 (x.2.2 : Int)]]) (fun X Y => ∀ k, A.heap.size ≤ k → k < W2.heap.size → Y.heap[k]? = X.heap[k]?) (fun ys => ys = bw rs rs.length) (fun pre => ∃ k, k ≤ rs.length ∧ pre = bw rs k) rs.length W2 := fun l' J' Jx' W hW _ _ hY' h0' => by
    obtain ⟨hA2, hyb, hbb, hG2, hO2, hAW, hs2⟩ := HW2.out
    exact back1_in Fence.wide (n - 1) trivial rfl (by omega) l' W1.heap.size _ rs hrl _ (fun X Y hk => ⟨hk _ (by omega) (by omega), fun g hg => hk g (hO2 g hg) (hG2.lt g hg)⟩) J' Jx' hY' W (hbb.of_heap (hW.block _ (by omega))) (hG2.of_heap (fun b hb => hW.block b (hG2.lt b hb))) h0'
  have hAW2 : A.heap.size < W2.heap.size := by obtain ⟨hA2, hyb, hbb, hG2, hO2, hAW, hs2⟩ := HW2.out; omega
  have own1 : ∀ (Q : Nat → List (Nat × Nat) → World → Prop) (E : Nat), OwnFrom A.heap.size (Q E) → OwnFrom W2.heap.size (fun (pre : List (Nat × Nat × Nat)) W => Q E (pre.map (·.2)) W) := fun Q E h s X Y row hs hg hr => h _ X Y row hs hg (fun r e => ⟨Nat.le_trans (Nat.le_of_lt hAW2) (hr r e).1, (hr r e).2⟩)
  have ownS : OwnFrom W2.heap.size (fun (_ : List (Nat × Nat × Nat)) (W : World) => W2.heap.size ≤ W.heap.size) := fun s X Y row hs hg hr => Nat.le_trans hs hg.size
  refine wpIn_rangeFunc_ownH (F := Fence.wide) (w := W2) rfl h1 (gf := 293) (lb := #[.pointer (some ⟨W1.heap.size, 0, none⟩)]) rfl trivial (enters_of Tryz.func293 (by kernel_rfl) rfl) hseq
    (fun h k i h1 h2 => (k i h1 h2).trans (h i h1 h2)) (fun W l' o o' hl' ho _ _ i h1 h2 => World.putObj_heap_other (by omega)) (Below.refl _ _) (fun _ => rfl)
    (fun pre W => J W2.heap.size (pre.map (·.2)) W ∧ Blk W A.heap.size 325 [.func (.yield l) #[] #[]] ∧ W2.heap.size ≤ W.heap.size)
    (fun c pre W => c = .ret ∧ Jx W2.heap.size (pre.map (·.2)) W)
    (OwnFrom.and (own1 J _ (HJ.out _)) (OwnFrom.and (blk_own _ _ _ _) ownS))
    (fun c => OwnFrom.and (ownFrom_pure _ _) (own1 Jx _ (HJx.out _)))
    ⟨H0.out _ _ HW2.out.1, HW2.out.2.1, Nat.le_refl _⟩
    (fun x a' W => ∃ bx, Blk W bx 170 [.int .u64 (x.2.1 : Int), .int .u64 (x.2.2 : Int)] ∧ a' = { tmps := #[.func (.yield l) #[] #[], .pointer (some ⟨sb, 0, none⟩), .pointer (some ⟨A.heap.size, 0, none⟩), undef, .pointer (some ⟨bx, 0, none⟩), .pointer (some ⟨sp, 0, none⟩), .pointer (some ⟨sp, 0, none⟩), .pointer (some ⟨sp, 2, none⟩), .slice base rs.length c, .slice a1 rs.length c1, .func (.func 293) #[] #[.pointer (some ⟨W1.heap.size, 0, none⟩)], .int .i64 (x.1 : Int), .agg #[.int .u64 (x.2.1 : Int), .int .u64 (x.2.2 : Int)], undef, undef, undef, undef], defers := [] })
    (fun x a' _ X Y row hs hg hr => by
      obtain ⟨bx, h1, h2⟩ := hs
      exact ⟨bx, blk_own _ _ _ _ () X Y row h1 hg hr, h2⟩)
    ?assign ?body ?done ?stop
  case assign =>
    rintro l' pre x W K ⟨i1, i2, i3⟩ hK
    gi_wp2
    refine hK _ _ ((KeepsOthers.alloc _ _).from _) (fun k h1 h2 => Below.heap_alloc _ _ _ (by omega)) ⟨OwnFrom.alloc (own1 J _ (HJ.out _)) _ i1, i2.alloc _, by simp; omega⟩ ⟨W.heap.size, Blk.new W 170 [.int .u64 (x.2.1 : Int), .int .u64 (x.2.2 : Int)], rfl⟩
  case body =>
    rintro l' pre x a' W hl ⟨r, hr⟩ ⟨i1, i2, i3⟩ ⟨bx, hbx, rfl⟩ hlt
    obtain ⟨fn, tmps, assign, body, hy, hR⟩ := HY.out (n - 1 - 1 - 1) W2.heap.size (pre.map (·.2)) x.2 W (Nat.le_of_lt hAW2) i3 i1 (by simpa using hlt)
    have hR' : RoundIn (Fence.wide.inRound l') (n - 1 - 1 - 1) Tryz.prog l fn tmps assign body W _ := hR
    unfold encR at hy
    have y0 : W.cell? ⟨A.heap.size, 0, none⟩ = some (.func (.yield l) #[] #[]) := i2.cell 0
    have y1 : W.cell? ⟨bx, 0, none⟩ = some (.int .u64 (x.2.1 : Int)) := hbx.cell 0
    have y2 : W.cell? ⟨bx, 1, none⟩ = some (.int .u64 (x.2.2 : Int)) := hbx.cell 1
    have HI2 := hid i2
    clear hR hseq own1 ownS i1 i2 hbx
    gi_wp2
    refine ⟨fun _ => by omega, hR'.mono ?_⟩
    rintro e W3 (⟨rfl, hJ3, hk3⟩ | ⟨rfl, hJ3, hk3⟩)
    · have HF : Hid (KeepsFrom W2.heap.size W W3 ∧ (∀ k, A.heap.size ≤ k → k < W2.heap.size → W3.heap[k]? = W.heap[k]?) ∧ J W2.heap.size ((pre ++ [x]).map (·.2)) W3 ∧ Blk W3 A.heap.size 325 [.func (.yield l) #[] #[]] ∧ W2.heap.size ≤ W3.heap.size) := by
        obtain ⟨q1, q2, q3⟩ := hk3
        refine ⟨⟨q3.size, fun k o hk ho hc => q3.same k o (by omega) ho hc⟩, q2, by rw [List.map_append]; exact hJ3, HI2.out.of_heap (q2 _ (Nat.le_refl _) hAW2), by omega⟩
      clear hJ3 hk3 hR' hy y0 y1 y2
      gi_wp2
      exact HF.out
    · have HF : Hid (KeepsFrom W2.heap.size W W3 ∧ Jx W2.heap.size ((pre ++ [x]).map (·.2)) W3) := by
        obtain ⟨q1, q2, q3⟩ := hk3
        exact ⟨⟨q3.size, fun k o hk ho hc => q3.same k o (by omega) ho hc⟩, by rw [List.map_append]; exact hJ3⟩
      clear hJ3 hk3 hR' hy y0 y1 y2
      gi_wp2
      exact ⟨HF.out.1, rfl, HF.out.2⟩
  case done =>
    rintro D ys W hD hys ⟨i1, _, _⟩ hK
    subst hys
    have hJ' : J W2.heap.size rs.reverse (W.putObj D (.deferred none)) := by
      have := (HJ.out W2.heap.size).putObj (.deferred none) i1 (by omega) hK rfl
      rwa [bw_map rs rs.length (Nat.le_refl _), List.take_of_length_le (by simp)] at this
    gi_wp2
    refine ⟨by simp, .inl ⟨_, _, rfl, run_takeDeferred hK, ?_⟩⟩
    exact ⟨_, results_none rfl _ _ _, ⟨_, rfl⟩, _, Nat.le_of_lt hAW2, .inl hJ'⟩
  case stop =>
    rintro D c' pre W hD ⟨k, hk, rfl⟩ ⟨rfl, i1⟩ hK
    have hJ' : Jx W2.heap.size (rs.reverse.take k) (W.putObj D (.deferred none)) := by
      have := (HJx.out W2.heap.size).putObj (.deferred none) i1 (by omega) hK rfl
      rwa [bw_map rs k hk] at this
    gi_wp2
    refine ⟨by simp, .inl ⟨_, _, rfl, run_takeDeferred hK, ?_⟩⟩
    exact ⟨_, results_none rfl _ _ _, ⟨_, rfl⟩, _, Nat.le_of_lt hAW2, .inr ⟨k, hk, hJ'⟩⟩

end Go.Proofs.YtphbledmopchnaaGreatDoor.St

/-
  plain.Down.
-/
namespace Go.Proofs.YtphbledmopchnaaGreatDoor.St
open Go.RowKit Go.Lib Go.Shelf Mm
attribute [local go_sem] Oper.semAt_some

/-- 'append' inside a fence, where its run is known by an equation. -/
theorem wpListIn_append_run {F : Fence} {n : Nat} {P : Program} (w : World) {ops : Array Oper} {rest : List Oper} {o : Oper} {a : Act} {Q : Exit → Act → World → Prop}
    (hg : o.guard = none) (s x : Operand) (t : TypeId) (hop : o.op = Op.call { callee := Callee.builtin Builtin.append, args := #[s, x], argTypes := #[t, t] }) (vs vx : Value) (hs : a.eval s = vs) (hx : a.eval x = vx)
    (v' : Value) (w' : World) (hr : (Builtin.append_ #[t, t] o.type #[vs, vx]).run P w = .ok v' w') (h : wpListIn F n P ops Q rest (a.put o.dst v') w') : wpListIn F n P ops Q (o :: rest) a w :=
  wpListIn_plain hg fun K hK => by
    unfold Oper.wpIn
    constructor
    · simp [Oper.about, hop, resolve, Target.leads, Sem.run_pure]
    · rw [Oper.semAt_plain F _ _ (by rw [hop]; intro c hc; cases hc)]
      simp [execOp, hop, resolve, invoke, builtin, hs, hx, hr, Result.andThen]
      exact hK _ _ h

theorem abstract_range {F : Fence} {n : Nat} {P : Program} {Q : Exit → Act → World → Prop} {a : Act} {w : World} {g : Operand} {ps : Array Tmp} {assign body : Code}
    (h : ∀ ag bd a', ag = assign → bd = body → a' = a → (Code.rangeFunc g ps ag bd).wpIn F n P Q a' w) : (Code.rangeFunc g ps assign body).wpIn F n P Q a w := h _ _ _ rfl rfl rfl

/-- What speaks of cells, and of what lies below B. -/
theorem own_of_heap {β : Type} {B : Nat} {I : β → World → Prop} (h : ∀ s X Y, I s X → Y.os = X.os → Y.tape = X.tape → Y.output = X.output → X.heap.size ≤ Y.heap.size → (∀ k, k < X.heap.size → k < B → Y.heap[k]? = X.heap[k]?) → (∀ k t l, Blk X k t l → Y.heap[k]? = X.heap[k]?) → I s Y) : OwnFrom B I := fun s X Y row hs hg hr =>
  h s X Y hs hg.os hg.tape hg.output hg.size (fun k hk hB => hg.block k hk (fun e => by have := (hr k e.symm).1; omega)) (fun k t l hb => blk_own B k t l () X Y row hb hg hr |>.trans hb.symm)

theorem GBuf.kept {e : TypeId} {k : Nat} {w w' : World} {v : Value} {n : Nat} {l : List Value} (h : GBuf e k w v n l) (hk : ∀ b t l, Blk w b t l → w'.heap[b]? = w.heap[b]?) : GBuf e k w' v n l := by
  rcases h with h | ⟨g, cap, cs, rfl, hB, h2⟩
  · exact .inl h
  · exact .inr ⟨g, cap, cs, rfl, hB.of_heap (hk _ _ _ hB), h2⟩

/-- How far plain.Down has come. -/
def JO (w : World) (Lb L D left : Nat) (rec : Loop) (E : Nat) (pre : List (Nat × Nat)) (W : World) : Prop :=
  Below w.heap.size w W ∧ Blk W w.heap.size 3 [.int .i64 (left : Int)] ∧ (∃ v, Blk W Lb 63 [v] ∧ GBuf 170 2 W v pre.length (rcells pre) ∧ Own E v) ∧ W.heap[L]? = some (.loop rec) ∧ W.heap[D]? = some (.deferred (some [])) ∧ (left = 0 ∨ pre.length < left)
def JX (w : World) (Lb L D left : Nat) (rec : Loop) (E : Nat) (pre : List (Nat × Nat)) (W : World) : Prop :=
  Below w.heap.size w W ∧ (∃ v, Blk W Lb 63 [v] ∧ GBuf 170 2 W v pre.length (rcells pre) ∧ Own E v) ∧ W.heap[L]? = some (.loop rec) ∧ W.heap[D]? = some (.deferred (some [])) ∧ pre.length = left ∧ ¬ left = 0

theorem JO.own {w : World} {Lb L D left : Nat} {rec : Loop} {E B : Nat} (hL : L < B) (hD : D < B) (hw : w.heap.size ≤ B) : OwnFrom B (JO w Lb L D left rec E) := own_of_heap fun s X Y hs e1 e2 e3 e4 hk hb => by
  obtain ⟨h1, h2, ⟨v, h3, h4, h5⟩, h6, h7, h8⟩ := hs
  have lL := (Array.getElem?_eq_some_iff.1 h6).1
  have lD := (Array.getElem?_eq_some_iff.1 h7).1
  exact ⟨⟨e1.trans h1.os, e2.trans h1.tape, e3.trans h1.output, Nat.le_trans h1.size e4, fun k hk' => (hk k (by have := h1.size; omega) (by omega)).trans (h1.block k hk')⟩, h2.of_heap (hb _ _ _ h2), ⟨v, h3.of_heap (hb _ _ _ h3), GBuf.kept h4 hb, h5⟩, (hk L lL hL).trans h6, (hk D lD hD).trans h7, h8⟩
theorem JX.own {w : World} {Lb L D left : Nat} {rec : Loop} {E B : Nat} (hL : L < B) (hD : D < B) (hw : w.heap.size ≤ B) : OwnFrom B (JX w Lb L D left rec E) := own_of_heap fun s X Y hs e1 e2 e3 e4 hk hb => by
  obtain ⟨h1, ⟨v, h3, h4, h5⟩, h6, h7, h8⟩ := hs
  have lL := (Array.getElem?_eq_some_iff.1 h6).1
  have lD := (Array.getElem?_eq_some_iff.1 h7).1
  exact ⟨⟨e1.trans h1.os, e2.trans h1.tape, e3.trans h1.output, Nat.le_trans h1.size e4, fun k hk' => (hk k (by have := h1.size; omega) (by omega)).trans (h1.block k hk')⟩, ⟨v, h3.of_heap (hb _ _ _ h3), GBuf.kept h4 hb, h5⟩, (hk L lL hL).trans h6, (hk D lD hD).trans h7, h8⟩

set_option maxHeartbeats 4000000 in
set_option maxRecDepth 100000 in
theorem pdown : DownSaid := by
  intro sp most fl rs row left w hS hrl hleft
  have hnf : ∀ (b : Nat) (W : World), (binOp BinOp.eql 234 (.func (.func 226) #[] #[.pointer (some ⟨b, 0, none⟩)]) .nilFunc).run Tryz.prog W = .ok (.bool false) W := fun _ _ => by kernel_rfl
  have hsplt := hS.lt.1
  have HS := hid hS
  have HM := hid (mdown_any sp (w.alloc (.cells #[.int .i64 (left : Int)] 3)))
  clear hS
  refine (callsIn_wide (n := 10)).1 ?_
  refine callsIn_of_wp_marks Tryz.func87 rfl trivial ?_ rfl
  simp only [Tryz.ntmps87, List.size_toArray, List.length_cons, List.length_nil, Nat.reduceAdd, Nat.reduceSub, Array.replicate_succ, Array.replicate_zero, List.push_toArray, List.append_toArray, List.nil_append, List.cons_append]
  gi_wp2_with (refine ⟨trivial, ?_⟩; gi_at_call 130; refine (callsIn_wide.2 HM.out).mono ?_; rintro e w' ⟨rfl, rfl⟩)
  obtain ⟨w3, hw3⟩ : ∃ w3, w3 = ((w.alloc (.cells #[.int .i64 (left : Int)] 3)).alloc (.cells #[.pointer (some ⟨sp, 0, none⟩)] 273)).alloc (.cells #[.slice none 0 0] 63) := ⟨_, rfl⟩
  rw [← hw3]
  have HW3 : Hid (Below w.heap.size w w3 ∧ w3.heap.size = w.heap.size + 3 ∧ Blk w3 w.heap.size 3 [.int .i64 (left : Int)] ∧ Blk w3 (w.heap.size + 1) 273 [.pointer (some ⟨sp, 0, none⟩)] ∧ Blk w3 (w.heap.size + 1 + 1) 63 [.slice none 0 0]) := by
    rw [hw3]
    have z1 := Blk.new w 3 [.int .i64 (left : Int)]
    have z2 := Blk.new (w.alloc (.cells #[.int .i64 (left : Int)] 3)) 273 [.pointer (some ⟨sp, 0, none⟩)]
    have z3 := Blk.new ((w.alloc (.cells #[.int .i64 (left : Int)] 3)).alloc (.cells #[.pointer (some ⟨sp, 0, none⟩)] 273)) 63 [.slice none 0 0]
    simp only [World.size_alloc] at z2 z3
    exact ⟨(((Below.refl _ w).alloc (Nat.le_refl _) _).alloc (by simp) _).alloc (by simp; omega) _, by simp, (z1.alloc _).alloc _, z2.alloc _, z3⟩
  clear hw3 HM hnf
  refine abstract_range (fun ag bd a0 has hbd ha0 => wpIn_rangeFunc ?_)
  intro fn _
  obtain ⟨rec, hrec⟩ : ∃ rec : LoopState → Option Code → Loop, rec = fun st pe => { state := st, pending := pe, fn := fn, tmps := a0.tmps, params := #[14], assign := ag, body := bd, defers := w3.heap.size } := ⟨_, rfl⟩
  obtain ⟨A, hA⟩ : ∃ A, A = (w3.alloc (.deferred (some []))).alloc (.loop (rec .ready none)) := ⟨_, rfl⟩
  obtain ⟨hb3, hs3, x1, x2, x3⟩ := HW3.out
  have hsA : A.heap.size = w3.heap.size + 2 := by rw [hA]; simp
  have hbA : Below w3.heap.size w3 A := by rw [hA]; exact ((Below.refl _ w3).alloc (Nat.le_refl _) _).alloc (by simp) _
  have hLA : A.heap[w3.heap.size + 1]? = some (.loop (rec .ready none)) := by rw [hA]; have := World.alloc_heap_new (w3.alloc (.deferred (some []))) (.loop (rec .ready none)); rwa [World.size_alloc] at this
  have hDA : A.heap[w3.heap.size]? = some (.deferred (some [])) := by rw [hA]; exact (Below.heap_alloc _ _ _ (by simp)).trans (World.alloc_heap_new w3 _)
  have hbwA : Below w.heap.size w A := hb3.trans (hbA.mono (by omega))
  have HSA := hid (HS.out.of_heap (w' := A) (hbwA.block sp hsplt) (fun k hk => hbwA.block k (HS.out.lt.2 k hk)))
  have y1 := x1.of_heap (hbA.block _ x1.lt)
  have y2 := x2.of_heap (hbA.block _ x2.lt)
  have y3 := x3.of_heap (hbA.block _ x3.lt)
  refine ⟨w3.heap.size + 1, [{ target := .collected w3.heap.size, args := #[] }], A, { target := .fn (.func 226) #[.pointer (some ⟨w.heap.size + 1, 0, none⟩)], args := #[.func (.yield (w3.heap.size + 1)) #[] #[]] }, A, 226, #[.func (.yield (w3.heap.size + 1)) #[] #[], .pointer (some ⟨w.heap.size + 1, 0, none⟩)], A, ?_, ?_, fun _ _ => trivial, ?_, fun _ => by omega, ?_⟩
  · rw [hA, hrec]; exact run_enterLoop_outer _ _ _ _ _
  · rw [ha0]; simp [resolve, Act.eval, go_sem]
  · simp [invoke, go_sem]
  · refine (down1_in (10 - 1) (by omega) (w3.heap.size + 1) (w.heap.size + 1) sp most fl rs row A HSA.out y2 hrl (JO w (w.heap.size + 1 + 1) (w3.heap.size + 1) w3.heap.size left (rec .ready none)) (JX w (w.heap.size + 1 + 1) (w3.heap.size + 1) w3.heap.size left (rec .done (some (.exit 0))))
      (fun E => JO.own (by omega) (by omega) (by omega)) (fun E => JX.own (by omega) (by omega) (by omega)) (fun E W hW => ?_) ?_).mono ?_
    · exact ⟨hbwA.trans (hW.mono (by omega)), y1.of_heap (hW.block _ (by omega)), ⟨_, y3.of_heap (hW.block _ (by omega)), GBuf.nil _ _ _, fun k hk => by simp [Value.ownBlock] at hk⟩, (hW.block _ (by omega)).trans hLA, (hW.block _ (by omega)).trans hDA, by simp; omega⟩
    · intro m E pre x W hE hEW hJ hlen
      obtain ⟨h1, h2, ⟨v', h3, h4, h5⟩, h6, h7, h8⟩ := hJ
      have hy := run_yield (P := Tryz.prog) (args := encR x) h6 (by rw [hrec]; rfl)
      have hsz6 := (Array.getElem?_eq_some_iff.1 h6).1
      obtain ⟨Wa, hWa⟩ : ∃ Wa, Wa = W.alloc (.cells #[.int .u64 (x.1 : Int), .int .u64 (x.2 : Int)] 170) := ⟨_, rfl⟩
      have ha6 : Wa.heap[w3.heap.size + 1]? = some (.loop (rec .ready none)) := by rw [hWa]; exact (Below.heap_alloc _ _ _ hsz6).trans h6
      obtain ⟨Wb, hWb⟩ : ∃ Wb, Wb = Wa.putObj (w3.heap.size + 1) (.loop { rec .ready none with state := .busy }) := ⟨_, rfl⟩
      have hbr : (Instr.beginRound (w3.heap.size + 1)).run Tryz.prog Wa = .ok () Wb := by rw [hWb]; exact run_beginRound ha6 (by rw [hrec])
      have hsb : Wb.heap.size = W.heap.size + 1 := by rw [hWb, hWa]; simp
      have hob : ∀ k, k < W.heap.size → k ≠ w3.heap.size + 1 → Wb.heap[k]? = W.heap[k]? := fun k hk hn => by rw [hWb, World.putObj_heap_other hn, hWa]; exact Below.heap_alloc _ _ _ hk
      have hlb : Wb.heap[w3.heap.size + 1]? = some (.loop { rec .ready none with state := .busy }) := by rw [hWb]; exact World.putObj_heap_same (by rw [hWa]; simp; omega)
      have hxb : Blk Wb W.heap.size 170 [.int .u64 (x.1 : Int), .int .u64 (x.2 : Int)] := by
        have z := Blk.new W 170 [.int .u64 (x.1 : Int), .int .u64 (x.2 : Int)]
        rw [hWb]
        refine Blk.of_heap (w := Wa) (by rw [hWa]; exact z) (World.putObj_heap_other (by omega))
      have hosb : Wb.os = W.os ∧ Wb.tape = W.tape ∧ Wb.output = W.output := by rw [hWb, hWa]; exact ⟨rfl, rfl, rfl⟩
      have b2 := h2.of_heap (hob _ h2.lt (by omega))
      have b3 := h3.of_heap (hob _ h3.lt (by omega))
      have b4 : GBuf 170 2 Wb v' pre.length (rcells pre) := h4.of_heap (fun k hk => hob k (h4.lt k hk) (by have := h5 k hk; omega))
      obtain ⟨g, C, W5, run5, c1, c2, c3, c4⟩ := rpush b4 h5 (by omega) (by omega) x.1 x.2
      obtain ⟨a9, c9, rfl, _⟩ := h4.shape
      have d3 : Wb.cell? ⟨w.heap.size + 1 + 1, 0, none⟩ = some (.slice a9 pre.length c9) := b3.cell 0
      have hne9 : ∀ k, k < E → (Value.slice a9 pre.length c9).ownBlock ≠ some k := fun k hk e => by have := h5 k e; omega
      have e3 := b3.of_heap (c4 _ b3.lt (hne9 _ (by omega)))
      have e2 := b2.of_heap (c4 _ b2.lt (hne9 _ (by omega)))
      have e6 := (c4 _ (by omega) (hne9 _ (by omega))).trans hlb
      have d3' : W5.cell? ⟨w.heap.size + 1 + 1, 0, none⟩ = some (.slice a9 pre.length c9) := e3.cell 0
      have f3' := e3.frozen 0
      have d2' : W5.cell? ⟨w.heap.size, 0, none⟩ = some (.int .i64 (left : Int)) := e2.cell 0
      have dx0 : Wb.cell? ⟨W.heap.size, 0, none⟩ = some (.int .u64 (x.1 : Int)) := hxb.cell 0
      have dx1 : Wb.cell? ⟨W.heap.size, 1, none⟩ = some (.int .u64 (x.2 : Int)) := hxb.cell 1
      rw [hrec] at hy
      refine ⟨fn, _, ag, bd, hy, roundIn_of_wpIn trivial ?_⟩
      clear hy
      have hFIN : ∀ (W6 : World), W6 = W5.setCell ⟨w.heap.size + 1 + 1, 0, none⟩ (.slice (some ⟨g, 0, none⟩) (pre.length + 1) C) → ∀ (jump : Option Code) (st : LoopState), st = (if jump.isNone then .ready else .done) →
          ∃ W7, (Instr.endRound (w3.heap.size + 1) jump).run Tryz.prog W6 = .ok (.bool jump.isNone) W7 ∧ W7.heap[w3.heap.size + 1]? = some (.loop (rec st jump)) ∧ KpO A.heap.size E W W7 ∧ Below w.heap.size w W7 ∧ Blk W7 w.heap.size 3 [.int .i64 (left : Int)] ∧ (∃ v, Blk W7 (w.heap.size + 1 + 1) 63 [v] ∧ GBuf 170 2 W7 v (pre ++ [x]).length (rcells (pre ++ [x])) ∧ Own E v) ∧ W7.heap[w3.heap.size]? = some (.deferred (some [])) := by
        intro W6 hW6 jump st hst
        have h66 : W6.heap[w3.heap.size + 1]? = some (.loop { rec .ready none with state := .busy }) := by rw [hW6, Below.heap_setCell _ _ _ _ (by simp; omega)]; exact e6
        have hrun := run_endRound (P := Tryz.prog) jump h66
        obtain ⟨W7, hW7⟩ : ∃ W7, W7 = W6.putObj (w3.heap.size + 1) (.loop (rec st jump)) := ⟨_, rfl⟩
        refine ⟨W7, ?_, ?_, ?_⟩
        · rw [hrun, hW7, hst, hrec]
        · rw [hW7]; exact World.putObj_heap_same (Array.getElem?_eq_some_iff.1 h66).1
        have o7 : ∀ k, k ≠ w3.heap.size + 1 → k ≠ w.heap.size + 1 + 1 → W7.heap[k]? = W5.heap[k]? := fun k n1 n2 => by rw [hW7, World.putObj_heap_other n1, hW6, Below.heap_setCell _ _ _ _ n2]
        have s7 : W7.heap.size = W5.heap.size := by rw [hW7, hW6]; simp
        have os7 : W7.os = W5.os ∧ W7.tape = W5.tape ∧ W7.output = W5.output := by rw [hW7, hW6]; exact ⟨rfl, rfl, rfl⟩
        have s5 := c3.size
        have oW : ∀ k, k < W.heap.size → k ≠ w3.heap.size + 1 → k ≠ w.heap.size + 1 + 1 → (Value.slice a9 pre.length c9).ownBlock ≠ some k → W7.heap[k]? = W.heap[k]? := fun k hk n1 n2 n3 => by
          rw [o7 k n1 n2, c4 k (by omega) n3, hob k hk n1]
        have hgE := c2 g rfl
        have hg3 : g ≠ w3.heap.size + 1 := by omega
        have hg2 : g ≠ w.heap.size + 1 + 1 := by omega
        refine ⟨⟨by omega, fun k k1 k2 => oW k (by omega) (by omega) (by omega) (hne9 k k2), ⟨by omega, fun k o k1 k2 k3 => ?_⟩⟩, ⟨?_, ?_, ?_, by have := h1.size; omega, fun k hk => ?_⟩, ?_, ⟨_, ?_, c1.of_heap (fun k hk => ?_), c2⟩, ?_⟩
        · have hkl := (Array.getElem?_eq_some_iff.1 k2).1
          rw [oW k hkl (by omega) (by omega) (fun e => ?_), k2]
          rcases h4 with ⟨e', _⟩ | ⟨g', cap, cs, e', hB, _⟩
          · rw [e'] at e; simp [Value.ownBlock] at e
          · rw [e'] at e; simp [Value.ownBlock] at e; subst e
            have := hB.symm.trans k2
            simp at this
            rw [← this] at k3
            cases k3
        · rw [os7.1, c3.os, hosb.1, h1.os]
        · rw [os7.2.1, c3.tape, hosb.2.1, h1.tape]
        · rw [os7.2.2, c3.output, hosb.2.2, h1.output]
        · rw [oW k (by have := h1.size; omega) (by omega) (by omega) (hne9 k (by omega)), h1.block k hk]
        · exact e2.of_heap (o7 _ (by omega) (by omega))
        · rw [hW7]
          refine Blk.of_heap (w := W6) ?_ (World.putObj_heap_other (by omega))
          rw [hW6]
          exact e3.stCell 0 _
        · have hkg : k = g := by simp [Value.ownBlock] at hk; omega
          subst hkg
          exact o7 k hg3 hg2
        · rw [oW _ (by omega) (by omega) (by omega) (hne9 _ (by omega)), h7]
      have HFIN := hid hFIN
      have HBR := hid hbr
      have hlen6 : (pre ++ [x]).length = pre.length + 1 := by simp
      clear hFIN hbr ha6 hob hlb hxb hosb b2 b3 b4 c1 c2 c3 c4 e3 e2 e6 h1 h2 h3 h4 h5 h6 h7 hne9 hLA hDA hbA hbwA y1 y2 y3 hb3 x1 x2 x3 HSA HS HW3 hA hs3 hsA hsb hWb hsz6 hrec
      subst has hbd ha0
      simp only [encR]
      gi_wp2
      rw [← hWa]
      refine ⟨Wb, HBR.out, ?_⟩
      clear hWa HBR
      have q3 : (W5.setCell ⟨w.heap.size + 1 + 1, 0, none⟩ (.slice (some ⟨g, 0, none⟩) (pre.length + 1) C)).cell? ⟨w.heap.size + 1 + 1, 0, none⟩ = some (.slice (some ⟨g, 0, none⟩) (pre.length + 1) C) := World.cell?_setCell_same' _ _ _ (by rw [d3']; rfl)
      have q2 : (W5.setCell ⟨w.heap.size + 1 + 1, 0, none⟩ (.slice (some ⟨g, 0, none⟩) (pre.length + 1) C)).cell? ⟨w.heap.size, 0, none⟩ = some (.int .i64 (left : Int)) := cell_of d2' (Below.heap_setCell _ _ _ _ (by simp; omega))
      have hpl : pre.length ≤ 1000000 := by omega
      by_cases hlf : pre.length + 1 = left
      · have hlf' : ((pre.length : Int) + 1 == (left : Int)) = true := by simp; omega
        have hl0 : ¬ left = 0 := by omega
        have HQ : Hid (∃ W7, (Instr.endRound (w3.heap.size + 1) (some (.exit 0))).run Tryz.prog (W5.setCell ⟨w.heap.size + 1 + 1, 0, none⟩ (.slice (some ⟨g, 0, none⟩) (pre.length + 1) C)) = .ok (.bool false) W7 ∧ JX w (w.heap.size + 1 + 1) (w3.heap.size + 1) w3.heap.size left (rec .done (some (.exit 0))) E (pre ++ [x]) W7 ∧ KpO A.heap.size E W W7) := by
          obtain ⟨W7, r1, r2, r3, r4, r5, r6, r7⟩ := HFIN.out _ rfl (some (.exit 0)) .done rfl
          exact ⟨W7, r1, ⟨r4, r6, r2, r7, by omega, hl0⟩, r3⟩
        clear HFIN hlf h8 hl0 hlen6
        gi_wp2_with (gi_at_builtin; refine wpListIn_append_run _ rfl _ _ _ rfl _ _ rfl rfl _ _ (run5 _) ?_)
        obtain ⟨W7, r1, r2, r3⟩ := HQ.out
        exact ⟨_, _, r1, .inr ⟨rfl, r2, r3⟩⟩
      · have hlf' : ((pre.length : Int) + 1 == (left : Int)) = false := by simp; omega
        have HQ : Hid (∃ W7, (Instr.endRound (w3.heap.size + 1) none).run Tryz.prog (W5.setCell ⟨w.heap.size + 1 + 1, 0, none⟩ (.slice (some ⟨g, 0, none⟩) (pre.length + 1) C)) = .ok (.bool true) W7 ∧ JO w (w.heap.size + 1 + 1) (w3.heap.size + 1) w3.heap.size left (rec .ready none) E (pre ++ [x]) W7 ∧ KpO A.heap.size E W W7) := by
          obtain ⟨W7, r1, r2, r3, r4, r5, r6, r7⟩ := HFIN.out _ rfl none .ready rfl
          exact ⟨W7, r1, ⟨r4, r5, r6, r2, r7, by rw [hlen6]; omega⟩, r3⟩
        clear HFIN hlf h8 hlen6
        gi_wp2_with (gi_at_builtin; refine wpListIn_append_run _ rfl _ _ _ rfl _ _ rfl rfl _ _ (run5 _) ?_)
        obtain ⟨W7, r1, r2, r3⟩ := HQ.out
        exact ⟨_, _, r1, .inl ⟨rfl, r2, r3⟩⟩
    · rintro e W ⟨⟨v, rfl⟩, E, hEA, hJ | ⟨k, hk, hJ⟩⟩
      · obtain ⟨h1, _, ⟨v', h3, h4, h5⟩, h6, h7, h8⟩ := hJ
        have hsz := (Array.getElem?_eq_some_iff.1 h6).1
        obtain ⟨W4, hW4⟩ : ∃ W4, W4 = W.putObj (w3.heap.size + 1) (.loop { rec .ready none with state := .exhausted }) := ⟨_, rfl⟩
        have hend : (Instr.endLoop (w3.heap.size + 1)).run Tryz.prog W = .ok none W4 := by
          have := run_endLoop (P := Tryz.prog) h6 (by rw [hrec]; simp)
          rw [hW4]
          rw [hrec] at this ⊢
          exact this
        refine ⟨none, W4, hend, ?_⟩
        have hoth : ∀ k, k ≠ w3.heap.size + 1 → W4.heap[k]? = W.heap[k]? := fun k hk => by rw [hW4]; exact World.putObj_heap_other hk
        have hs4 : W4.heap.size = W.heap.size := by rw [hW4]; simp
        have hos4 : W4.os = W.os ∧ W4.tape = W.tape ∧ W4.output = W.output := by rw [hW4]; exact ⟨rfl, rfl, rfl⟩
        have z3 := h3.of_heap (hoth _ (by omega))
        have z7 := (hoth _ (by omega)).trans h7
        have hb4 : Below w.heap.size w W4 := ⟨hos4.1.trans h1.os, hos4.2.1.trans h1.tape, hos4.2.2.trans h1.output, by have := h1.size; omega, fun k hk => (hoth k (by omega)).trans (h1.block k hk)⟩
        obtain ⟨a9, c9, rfl, _⟩ := h4.shape
        have zc : W4.cell? ⟨w.heap.size + 1 + 1, 0, none⟩ = some (.slice a9 (rs.reverse).length c9) := z3.cell 0
        have HF : Hid (GBuf 170 2 (W4.putObj w3.heap.size (.deferred none)) (.slice a9 (rs.reverse).length c9) (Rg.down rs left).length (rcells (Rg.down rs left)) ∧ Own w.heap.size (.slice a9 (rs.reverse).length c9) ∧ Below w.heap.size w (W4.putObj w3.heap.size (.deferred none))) := by
          have hdn : rs.reverse = Rg.down rs left := by have := down_all rs rs.length left (.inl ⟨rfl, by rcases h8 with h | h; exact .inl h; exact .inr (by simp at h; omega)⟩); rwa [List.take_of_length_le (by simp)] at this
          refine ⟨?_, fun k hk => ?_, ⟨hb4.os, hb4.tape, hb4.output, by have := hb4.size; simpa using this, fun k hk => (World.putObj_heap_other (by omega)).trans (hb4.block k hk)⟩⟩
          · rw [← hdn]
            refine h4.of_heap (fun k hk => ?_)
            have hkb := h4.lt k hk
            have hkc : ∃ t l, Blk W k t l := by
              rcases h4 with ⟨e, _⟩ | ⟨g, cap, cs, e, hB, _⟩
              · rw [e] at hk; simp [Value.ownBlock] at hk
              · rw [e] at hk; simp [Value.ownBlock] at hk; subst hk; exact ⟨_, _, hB⟩
            obtain ⟨t, l, hkB⟩ := hkc
            have n1 : k ≠ w3.heap.size + 1 := fun e => by rw [e] at hkB; have := hkB.symm.trans h6; cases this
            have n2 : k ≠ w3.heap.size := fun e => by rw [e] at hkB; have := hkB.symm.trans h7; cases this
            rw [World.putObj_heap_other n2, hoth k n1]
          · have := h5 k hk
            omega
        generalize (rs.reverse).length = N9 at *
        clear h8 h1 h3 h4 h5 h6 h7 hend hoth hs4 hos4 z3 hb4 hsz hsA hbA hLA hDA hbwA y1 y2 y3 hb3 hs3 x1 x2 x3 hA hW4 hrec has hbd HW3 HSA HS
        subst ha0
        gi_wp2
        refine ⟨by simp, .inl ⟨_, _, rfl, run_takeDeferred z7, ?_⟩⟩
        exact ⟨.tuple #[.slice a9 N9 c9, .bool true], by simp [results, Tryz.results87, go_sem], _, rfl, HF.out⟩
      · obtain ⟨h1, ⟨v', h3, h4, h5⟩, h6, h7, h8, h9⟩ := hJ
        have hsz := (Array.getElem?_eq_some_iff.1 h6).1
        obtain ⟨W4, hW4⟩ : ∃ W4, W4 = W.putObj (w3.heap.size + 1) (.loop { rec .done (some (.exit 0)) with state := .exhausted }) := ⟨_, rfl⟩
        have hend : (Instr.endLoop (w3.heap.size + 1)).run Tryz.prog W = .ok (some (.exit 0)) W4 := by
          have := run_endLoop (P := Tryz.prog) h6 (by rw [hrec]; simp)
          rw [hW4]
          rw [hrec] at this ⊢
          exact this
        refine ⟨(some (.exit 0)), W4, hend, ?_⟩
        have hoth : ∀ k, k ≠ w3.heap.size + 1 → W4.heap[k]? = W.heap[k]? := fun k hk => by rw [hW4]; exact World.putObj_heap_other hk
        have hs4 : W4.heap.size = W.heap.size := by rw [hW4]; simp
        have hos4 : W4.os = W.os ∧ W4.tape = W.tape ∧ W4.output = W.output := by rw [hW4]; exact ⟨rfl, rfl, rfl⟩
        have z3 := h3.of_heap (hoth _ (by omega))
        have z7 := (hoth _ (by omega)).trans h7
        have hb4 : Below w.heap.size w W4 := ⟨hos4.1.trans h1.os, hos4.2.1.trans h1.tape, hos4.2.2.trans h1.output, by have := h1.size; omega, fun k hk => (hoth k (by omega)).trans (h1.block k hk)⟩
        obtain ⟨a9, c9, rfl, _⟩ := h4.shape
        have zc : W4.cell? ⟨w.heap.size + 1 + 1, 0, none⟩ = some (.slice a9 (rs.reverse.take k).length c9) := z3.cell 0
        have HF : Hid (GBuf 170 2 (W4.putObj w3.heap.size (.deferred none)) (.slice a9 (rs.reverse.take k).length c9) (Rg.down rs left).length (rcells (Rg.down rs left)) ∧ Own w.heap.size (.slice a9 (rs.reverse.take k).length c9) ∧ Below w.heap.size w (W4.putObj w3.heap.size (.deferred none))) := by
          have hdn : rs.reverse.take k = Rg.down rs left := down_all rs k left (.inr ⟨by simp at h8; omega, h9⟩)
          refine ⟨?_, fun k hk => ?_, ⟨hb4.os, hb4.tape, hb4.output, by have := hb4.size; simpa using this, fun k hk => (World.putObj_heap_other (by omega)).trans (hb4.block k hk)⟩⟩
          · rw [← hdn]
            refine h4.of_heap (fun k hk => ?_)
            have hkb := h4.lt k hk
            have hkc : ∃ t l, Blk W k t l := by
              rcases h4 with ⟨e, _⟩ | ⟨g, cap, cs, e, hB, _⟩
              · rw [e] at hk; simp [Value.ownBlock] at hk
              · rw [e] at hk; simp [Value.ownBlock] at hk; subst hk; exact ⟨_, _, hB⟩
            obtain ⟨t, l, hkB⟩ := hkc
            have n1 : k ≠ w3.heap.size + 1 := fun e => by rw [e] at hkB; have := hkB.symm.trans h6; cases this
            have n2 : k ≠ w3.heap.size := fun e => by rw [e] at hkB; have := hkB.symm.trans h7; cases this
            rw [World.putObj_heap_other n2, hoth k n1]
          · have := h5 k hk
            omega
        generalize (rs.reverse.take k).length = N9 at *
        clear h8 h1 h3 h4 h5 h6 h7 hend hoth hs4 hos4 z3 hb4 hsz hsA hbA hLA hDA hbwA y1 y2 y3 hb3 hs3 x1 x2 x3 hA hW4 hrec has hbd HW3 HSA HS
        subst ha0
        gi_wp2
        refine ⟨by simp, .inl ⟨_, _, rfl, run_takeDeferred z7, ?_⟩⟩
        exact ⟨.tuple #[.slice a9 N9 c9, .bool true], by simp [results, Tryz.results87, go_sem], _, rfl, HF.out⟩

end Go.Proofs.YtphbledmopchnaaGreatDoor.St

/-
  plain.Down.
-/
namespace Go.Proofs.YtphbledmopchnaaGreatDoor
theorem downSaid : St.DownSaid := St.pdown
end Go.Proofs.YtphbledmopchnaaGreatDoor
