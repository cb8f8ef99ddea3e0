import Derived.Test.YtphbledmopchnaaGreatDoorRows
import Derived.Test.YtphbledmopchnaaGreatDoorQh
import Derived.Deep.SlicePairs
import Derived.ChangeArms
import Derived.OpenShut
/-
  The packet that came in, read.
-/
namespace Go.Proofs.YtphbledmopchnaaGreatDoor
open Go.ChangeShapes Go.WideShapes Go.RowKit Go.Deep

theorem cells72 : Tryz.prog.cellsOf 65 = 10 := by kernel_rfl
theorem cells140 : Tryz.prog.cellsOf 170 = 2 := by kernel_rfl
theorem cells41 : Tryz.prog.cellsOf 43 = 1 := by kernel_rfl
theorem cells3 : Tryz.prog.cellsOf 3 = 1 := by kernel_rfl
theorem cells4 : Tryz.prog.cellsOf 4 = 1 := by kernel_rfl
theorem cells9 : Tryz.prog.cellsOf 9 = 1 := by kernel_rfl
theorem cells70 : Tryz.prog.cellsOf 63 = 1 := by kernel_rfl

section
variable {H : Type} {enc : TypeId × Value → H}

theorem bulk_pos (d : DataW H) : 1 ≤ Rows.uptoBulk d := by
  cases d with
  | lit l => cases l <;> simp [Rows.uptoBulk]
  | _ => simp [Rows.uptoBulk]

theorem bulkAll_append : ∀ a b : List (DataW H), Rows.uptoBulkAll (a ++ b) = Rows.uptoBulkAll a + Rows.uptoBulkAll b
  | [], b => by simp [Rows.uptoBulkAll]
  | x :: a, b => by
    have := bulkAll_append a b
    simp only [List.cons_append, Rows.uptoBulkAll]
    omega

theorem bulkAll_succ (D : Nat → DataW H) (k : Nat) : Rows.uptoBulkAll ((List.range (k + 1)).map D) = Rows.uptoBulkAll ((List.range k).map D) + Rows.uptoBulk (D k) := by
  rw [List.range_succ, List.map_append, bulkAll_append]
  simp [Rows.uptoBulkAll]

theorem bulkAll_le (D : Nat → DataW H) : ∀ k, k ≤ Rows.uptoBulkAll ((List.range k).map D)
  | 0 => Nat.zero_le _
  | k + 1 => by
    have h1 := bulkAll_le D k
    have h2 := bulk_pos (D k)
    rw [bulkAll_succ]
    omega

theorem bulkAll_each (D : Nat → DataW H) : ∀ k i, i < k → Rows.uptoBulk (D i) ≤ Rows.uptoBulkAll ((List.range k).map D)
  | 0, i, h => absurd h (Nat.not_lt_zero _)
  | k + 1, i, h => by
    rw [bulkAll_succ]
    by_cases e : i = k
    · subst e; omega
    · have := bulkAll_each D k i (by omega)
      omega

theorem u64_of {n : Int} (h : (Lit.int .u64 n).wf = true) : ∃ m : Nat, n = (m : Int) ∧ m < 18446744073709551616 := by
  have := bounds_u64 h
  exact ⟨n.toNat, by omega, by omega⟩

theorem getD_range {α : Type} (q : Nat → α) (d : α) (len j : Nat) (h : j < len) : ((List.range len).map q).getD j d = q j := by
  rw [List.getD_eq_getElem?_getD, List.getElem?_map, List.getElem?_range h]
  rfl

theorem rng_of {W : World} {c : Value} {x : DataW H × List MemPlace} {fuel : Nat} (h : DataW.trod enc Tryz.prog W 0 (fun _ => true) true fuel 63 [c] = some x) :
    ∃ ra rs rc, c = .slice ra rs.length rc ∧ RngAt W ra rs ∧ rs.length + 1 ≤ Rows.uptoBulk x.1 := by
  rcases open_slice_pairs Tryz.underlying63 Tryz.underlying170 cells140 rfl rfl cells41 cells41 h with ⟨hc, hx⟩ | ⟨a, len, cap, m, n, V0, V1, D0, D1, P0, P1, hc, _, hl, hm, hmm, rfl, hall⟩
  · simp only [List.cons.injEq, and_true] at hc
    subst hc
    subst hx
    exact ⟨none, [], 0, rfl, fun j hj => absurd hj (Nat.not_lt_zero _), by simp [Rows.uptoBulk]⟩
  · simp only [List.cons.injEq, and_true] at hc
    subst hc
    simp only [if_true] at hmm
    subst hmm
    have each : ∀ i, i < len → ∃ q : Nat × Nat, V0 i = .int .u64 (q.1 : Int) ∧ V1 i = .int .u64 (q.2 : Int) ∧ q.1 < 18446744073709551616 ∧ q.2 < 18446744073709551616 := fun i hi => by
      obtain ⟨_, _, t0, t1⟩ := hall i (by omega)
      obtain ⟨n0, e0, _, w0⟩ := DataW.trod_int Tryz.underlying43 t0
      obtain ⟨n1, e1, _, w1⟩ := DataW.trod_int Tryz.underlying43 t1
      obtain ⟨m0, rfl, l0⟩ := u64_of w0
      obtain ⟨m1, rfl, l1⟩ := u64_of w1
      simp only [List.cons.injEq, and_true] at e0 e1
      exact ⟨(m0, m1), e0, e1, l0, l1⟩
    obtain ⟨q, hq⟩ := choose_lt each
    refine ⟨some a, (List.range len).map q, m, by simp, ?_, ?_⟩
    · intro j hj
      simp only [List.length_map, List.length_range] at hj
      obtain ⟨b, off, spot⟩ := a
      have hspot : spot = none := by
        have := World.cell?_spot (hall 0 (by omega)).1
        simpa [Addr.add] using this
      subst hspot
      obtain ⟨c0, c1, _, _⟩ := hall j (by omega)
      obtain ⟨q0, q1, q2, q3⟩ := hq j hj
      rw [Addr.add_lit] at c0 c1
      rw [getD_range q _ len j hj]
      exact ⟨b, off, rfl, by rw [c0, q0], by rw [Nat.add_assoc, c1, q1], q2, q3⟩
    · have := bulkAll_le (fun i => DataW.agg [D0 i, D1 i]) len
      simp only [List.length_map, List.length_range, Rows.uptoBulk]
      omega

/-- What a frame weighs. -/
def load (f : Fr) : Nat := f.data.size + f.ranges.length + 1

set_option maxHeartbeats 1000000 in
set_option maxRecDepth 100000 in
theorem frame_of {W : World} {b off : Nat} {cs : List Value} {d : DataW H} {p : List MemPlace} {fuel : Nat} (hcell : ∀ i, i < 10 → W.cell? ⟨b, off + i, none⟩ = cs[i]?) (hlen : cs.length = 10)
    (h : DataW.trod enc Tryz.prog W 0 (fun _ => true) true fuel 65 cs = some (d, p)) (hB : Rows.uptoBulk d ≤ 1048576) :
    ∃ q : Fr × Option Addr × Nat, FrAt W b off q.1 q.2.1 q.2.2 ∧ load q.1 ≤ Rows.uptoBulk d := by
  obtain ⟨xs, k, hk, hxy, _, hxl, hf⟩ := DataW.trod_struct Tryz.underlying65 h
  match xs, hxl, cs, hlen with
  | [y0, y1, y2, y3, y4, y5, y6, y7, y8, y9], _, [v0, v1, v2, v3, v4, v5, v6, v7, v8, v9], _ =>
    have g0 := hf 0 _ rfl
    have g1 := hf 1 _ rfl
    have g2 := hf 2 _ rfl
    have g3 := hf 3 _ rfl
    have g4 := hf 4 _ rfl
    have g5 := hf 5 _ rfl
    have g6 := hf 6 _ rfl
    have g7 := hf 7 _ rfl
    have g8 := hf 8 _ rfl
    have g9 := hf 9 _ rfl
    clear hf
    simp [cells3, cells4, cells9, cells41, cells70] at g0 g1 g2 g3 g4 g5 g6 g7 g8 g9
    obtain ⟨n0, e0, x0, w0⟩ := DataW.trod_int Tryz.underlying3 g0
    obtain ⟨n1, e1, x1, w1⟩ := DataW.trod_int Tryz.underlying3 g1
    obtain ⟨n2, e2, x2, w2⟩ := DataW.trod_int Tryz.underlying43 g2
    obtain ⟨n3, e3, x3, w3⟩ := DataW.trod_int Tryz.underlying43 g3
    obtain ⟨n4, e4, x4, w4⟩ := DataW.trod_int Tryz.underlying43 g4
    obtain ⟨n5, e5, x5⟩ := DataW.trod_bool Tryz.underlying4 g5
    obtain ⟨n6, e6, x6, w6⟩ := DataW.trod_int Tryz.underlying43 g6
    obtain ⟨n7, e7, x7, w7⟩ := DataW.trod_int Tryz.underlying43 g7
    obtain ⟨n8, e8, x8, _⟩ := DataW.trod_string Tryz.underlying9 g8
    obtain ⟨ra, rs, rc, e9, hR, hr⟩ := rng_of g9
    obtain ⟨m2, rfl, l2⟩ := u64_of w2
    obtain ⟨m3, rfl, l3⟩ := u64_of w3
    obtain ⟨m4, rfl, l4⟩ := u64_of w4
    obtain ⟨m6, rfl, l6⟩ := u64_of w6
    obtain ⟨m7, rfl, l7⟩ := u64_of w7
    simp only [List.cons.injEq, and_true] at e0 e1 e2 e3 e4 e5 e6 e7 e8
    have hd : Rows.uptoBulk d = Rows.uptoBulk y0.1 + (Rows.uptoBulk y1.1 + (Rows.uptoBulk y2.1 + (Rows.uptoBulk y3.1 + (Rows.uptoBulk y4.1 + (Rows.uptoBulk y5.1 + (Rows.uptoBulk y6.1 + (Rows.uptoBulk y7.1 + (Rows.uptoBulk y8.1 + (Rows.uptoBulk y9.1 + 0))))))))) + 1 := by
      simp only [Prod.mk.injEq] at hxy
      rw [hxy.1]
      simp only [List.map_cons, List.map_nil, Rows.uptoBulk, Rows.uptoBulkAll]
    have h8 : Rows.uptoBulk y8.1 = n8.size + 1 := by
      rw [x8]
      have e : n8.data.toList.length = n8.size := Array.length_toList
      show Rows.uptoBulk (DataW.lit (Lit.string n8.data.toList)) = _
      rw [Rows.uptoBulk, e]
    have hload : n8.size + rs.length + 1 ≤ Rows.uptoBulk d := by omega
    have b0 := bounds_i64 w0
    have b1 := bounds_i64 w1
    refine ⟨(⟨n0, n1, m2, m3, m4, n5, m6, m7, n8, rs⟩, ra, rc), ?_, hload⟩
    refine ⟨?_, ?_, ?_, ?_, ?_, ?_, ?_, ?_, ?_, ?_, hR, ?_, ?_, b0, b1, ⟨l2, l3, l4, l6, l7⟩⟩
    · have := hcell 0 (by omega); rw [e0] at this; exact this
    · have := hcell 1 (by omega); rw [e1] at this; exact this
    · have := hcell 2 (by omega); rw [e2] at this; exact this
    · have := hcell 3 (by omega); rw [e3] at this; exact this
    · have := hcell 4 (by omega); rw [e4] at this; exact this
    · have := hcell 5 (by omega); rw [e5] at this; exact this
    · have := hcell 6 (by omega); rw [e6] at this; exact this
    · have := hcell 7 (by omega); rw [e7] at this; exact this
    · have := hcell 8 (by omega); rw [e8] at this; exact this
    · have := hcell 9 (by omega); rw [e9] at this; exact this
    · show rs.length ≤ 1000000000; omega
    · show n8.size ≤ 1000000000; omega

theorem loadTo_eq (fs : List Fr) (k : Nat) : loadTo fs (k + 1) = loadTo fs k + load (fs.getD k fr0) := rfl


set_option maxRecDepth 100000 in
theorem frames_of {W : World} {c : Value} {x : DataW H × List MemPlace} {fuel : Nat} (h : DataW.trod enc Tryz.prog W 0 (fun _ => true) true fuel 54 [c] = some x) (hB : Rows.uptoBulk x.1 ≤ 1048576) :
    ∃ fa fs fc ra rc, c = .slice fa fs.length fc ∧ FrsW W fa fs ra rc ∧ loadTo fs fs.length ≤ 1048576 ∧ fs.length ≤ 1048576 := by
  rcases open_slice Tryz.underlying54 h with ⟨hc, hx⟩ | ⟨a, len, cap, m, n, D, Pl, hc, _, hl, hm, hmm, rfl, hall⟩
  · simp only [List.cons.injEq, and_true] at hc
    subst hc
    exact ⟨none, [], 0, fun _ => none, fun _ => 0, rfl, fun j hj => absurd hj (Nat.not_lt_zero _), by simp [loadTo], by simp⟩
  · simp only [List.cons.injEq, and_true] at hc
    subst hc
    simp only [if_true] at hmm
    subst hmm
    simp only [Rows.uptoBulk] at hB
    obtain ⟨b, off, spot⟩ := a
    have hspot : 0 < len → spot = none := fun h0 => by
      obtain ⟨cs', h1, _⟩ := hall 0 (by omega)
      rw [cells72] at h1
      obtain ⟨_, hlen, hcell⟩ := World.cells?_some h1
      have h2 := hcell 0 (by omega)
      rw [List.getElem?_eq_getElem (by omega)] at h2
      have := World.cell?_spot h2
      simpa [Addr.add] using this
    have each : ∀ i, i < len → ∃ q : Fr × Option Addr × Nat, FrAt W b (off + i * 10) q.1 q.2.1 q.2.2 ∧ load q.1 ≤ Rows.uptoBulk (D i) := fun i hi => by
      obtain ⟨cs', h1, h2⟩ := hall i (by omega)
      rw [cells72] at h1
      obtain ⟨_, hlen, hcell⟩ := World.cells?_some h1
      have hs := hspot (by omega)
      subst hs
      have := bulkAll_each D len i hi
      refine frame_of (fun j hj => ?_) hlen h2 (by omega)
      have := hcell j hj
      rw [Addr.add_lit, Addr.add_lit] at this
      exact this
    have : Inhabited Fr := ⟨fr0⟩
    obtain ⟨q, hq⟩ := choose_lt each
    have hload : ∀ k, k ≤ len → loadTo ((List.range len).map fun i => (q i).1) k ≤ Rows.uptoBulkAll ((List.range k).map D) := fun k => by
      induction k with
      | zero => intro _; exact Nat.zero_le _
      | succ k ih =>
        intro hk
        have h1 := ih (by omega)
        have h2 := (hq k (by omega)).2
        rw [loadTo_eq, bulkAll_succ, getD_range (fun i => (q i).1) _ len k (by omega)]
        omega
    refine ⟨some ⟨b, off, spot⟩, (List.range len).map fun i => (q i).1, m, fun i => (q i).2.1, fun i => (q i).2.2, by simp, ?_, ?_, ?_⟩
    · intro j hj
      simp only [List.length_map, List.length_range] at hj
      have hs := hspot (by omega)
      subst hs
      rw [getD_range (fun i => (q i).1) _ len j hj]
      exact ⟨b, off, rfl, (hq j hj).1⟩
    · have := hload len (Nat.le_refl _)
      simp only [List.length_map, List.length_range]
      omega
    · have := bulkAll_le D len
      simp only [List.length_map, List.length_range]
      omega

theorem cells46 : Tryz.prog.cellsOf 74 = 7 := by kernel_rfl
theorem cells44 : Tryz.prog.cellsOf 56 = 2 := by kernel_rfl
theorem cells42 : Tryz.prog.cellsOf 54 = 1 := by kernel_rfl

theorem bulkAll_le3 (D : Nat → DataW H) : ∀ k, (∀ i, i < k → 3 ≤ Rows.uptoBulk (D i)) → 3 * k ≤ Rows.uptoBulkAll ((List.range k).map D)
  | 0, _ => Nat.zero_le _
  | k + 1, h => by
    have h1 := bulkAll_le3 D k (fun i hi => h i (by omega))
    have h2 := h k (by omega)
    rw [bulkAll_succ]
    omega

set_option maxHeartbeats 1000000 in
set_option maxRecDepth 100000 in
theorem op_of {W : World} {b off : Nat} {cs : List Value} {d : DataW H} {p : List MemPlace} {fuel : Nat} (hcell : ∀ i, i < 7 → W.cell? ⟨b, off + i, none⟩ = cs[i]?) (hlen : cs.length = 7)
    (h : DataW.trod enc Tryz.prog W 0 (fun _ => true) true fuel 74 cs = some (d, p)) (hB : Rows.uptoBulk d ≤ 1048576) :
    ∃ q : OpR, OpAt W b off q ∧ 3 ≤ Rows.uptoBulk d := by
  obtain ⟨xs, k, hk, hxy, _, hxl, hf⟩ := DataW.trod_struct Tryz.underlying74 h
  match xs, hxl, cs, hlen with
  | [y0, y1, y2, y3, y4, y5], _, [v0, v1, v2, v3, v4, v5, v6], _ =>
    have g0 := hf 0 _ rfl
    have g1 := hf 1 _ rfl
    have g2 := hf 2 _ rfl
    have g3 := hf 3 _ rfl
    have g4 := hf 4 _ rfl
    have g5 := hf 5 _ rfl
    clear hf
    simp [cells3, cells9, cells44] at g0 g1 g2 g3 g4 g5
    obtain ⟨n0, e0, x0, w0⟩ := DataW.trod_int Tryz.underlying3 g0
    obtain ⟨n1, e1, x1, w1⟩ := DataW.trod_int Tryz.underlying3 g1
    obtain ⟨n2, e2, x2, w2⟩ := DataW.trod_int Tryz.underlying3 g2
    obtain ⟨n3, e3, x3, w3⟩ := DataW.trod_int Tryz.underlying3 g3
    obtain ⟨n4, e4, x4, _⟩ := DataW.trod_string Tryz.underlying9 g4
    obtain ⟨zs, k', hk', hzy, _, hzl, hz⟩ := DataW.trod_struct Tryz.underlying56 g5
    match zs, hzl with
    | [z0, z1], _ =>
      have q0 := hz 0 _ rfl
      have q1 := hz 1 _ rfl
      clear hz
      simp [cells41, cells42] at q0 q1
      obtain ⟨n5, e5, x5, w5⟩ := DataW.trod_int Tryz.underlying43 q0
      obtain ⟨m5, rfl, l5⟩ := u64_of w5
      have hd : Rows.uptoBulk d = Rows.uptoBulk y0.1 + (Rows.uptoBulk y1.1 + (Rows.uptoBulk y2.1 + (Rows.uptoBulk y3.1 + (Rows.uptoBulk y4.1 + (Rows.uptoBulk y5.1 + 0))))) + 1 := by
        simp only [Prod.mk.injEq] at hxy
        rw [hxy.1]
        simp only [List.map_cons, List.map_nil, Rows.uptoBulk, Rows.uptoBulkAll]
      have hd5 : Rows.uptoBulk y5.1 = Rows.uptoBulk z0.1 + (Rows.uptoBulk z1.1 + 0) + 1 := by
        rw [hzy]
        simp only [List.map_cons, List.map_nil, Rows.uptoBulk, Rows.uptoBulkAll]
      have h4 : Rows.uptoBulk y4.1 = n4.size + 1 := by
        rw [x4]
        have e : n4.data.toList.length = n4.size := Array.length_toList
        show Rows.uptoBulk (DataW.lit (Lit.string n4.data.toList)) = _
        rw [Rows.uptoBulk, e]
      have p0 := bulk_pos y0.1
      have p1 := bulk_pos y1.1
      obtain ⟨fa, fs, fc, ra, rc, e6, hF, hld, hfl⟩ := frames_of q1 (by omega)
      simp only [List.cons.injEq, and_true] at e0 e1 e2 e3 e4 e5
      have b1 := bounds_i64 w1
      have b2 := bounds_i64 w2
      refine ⟨⟨n0, n1, n2, n3, n4, m5, fs, fa, fc, ra, rc⟩, ⟨?_, ?_, ?_, ?_, ?_, ?_, ?_, hF, b1, b2, ?_, hfl, l5, hld⟩, by omega⟩
      · have := hcell 0 (by omega); rw [e0] at this; exact this
      · have := hcell 1 (by omega); rw [e1] at this; exact this
      · have := hcell 2 (by omega); rw [e2] at this; exact this
      · have := hcell 3 (by omega); rw [e3] at this; exact this
      · have := hcell 4 (by omega); rw [e4] at this; exact this
      · have := hcell 5 (by omega); rw [e5] at this; exact this
      · have := hcell 6 (by omega); rw [e6] at this; exact this
      · show n4.size ≤ 1048576; omega


set_option maxRecDepth 100000 in
theorem ops_of {W : World} {c : Value} {x : DataW H × List MemPlace} {fuel : Nat} (h : DataW.trod enc Tryz.prog W 0 (fun _ => true) true fuel 22 [c] = some x) (hB : Rows.uptoBulk x.1 ≤ 1048576) :
    ∃ oa os oc, c = .slice oa os.length oc ∧ OpsW W oa os ∧ os.length ≤ 500000 := by
  rcases open_slice Tryz.underlying22 h with ⟨hc, hx⟩ | ⟨a, len, cap, m, n, D, Pl, hc, _, hl, hm, hmm, rfl, hall⟩
  · simp only [List.cons.injEq, and_true] at hc
    subst hc
    exact ⟨none, [], 0, rfl, fun j hj => absurd hj (Nat.not_lt_zero _), by simp⟩
  · simp only [List.cons.injEq, and_true] at hc
    subst hc
    simp only [if_true] at hmm
    subst hmm
    simp only [Rows.uptoBulk] at hB
    obtain ⟨b, off, spot⟩ := a
    have hspot : 0 < len → spot = none := fun h0 => by
      obtain ⟨cs', h1, _⟩ := hall 0 (by omega)
      rw [cells46] at h1
      obtain ⟨_, hlen, hcell⟩ := World.cells?_some h1
      have h2 := hcell 0 (by omega)
      rw [List.getElem?_eq_getElem (by omega)] at h2
      have := World.cell?_spot h2
      simpa [Addr.add] using this
    have each : ∀ i, i < len → ∃ q : OpR, OpAt W b (off + i * 7) q ∧ 3 ≤ Rows.uptoBulk (D i) := fun i hi => by
      obtain ⟨cs', h1, h2⟩ := hall i (by omega)
      rw [cells46] at h1
      obtain ⟨_, hlen, hcell⟩ := World.cells?_some h1
      have hs := hspot (by omega)
      subst hs
      have := bulkAll_each D len i hi
      refine op_of (fun j hj => ?_) hlen h2 (by omega)
      have := hcell j hj
      rw [Addr.add_lit, Addr.add_lit] at this
      exact this
    have : Inhabited OpR := ⟨op0⟩
    obtain ⟨q, hq⟩ := choose_lt each
    refine ⟨some ⟨b, off, spot⟩, (List.range len).map q, m, by simp, ?_, ?_⟩
    · intro j hj
      simp only [List.length_map, List.length_range] at hj
      have hs := hspot (by omega)
      subst hs
      rw [getD_range q _ len j hj]
      exact ⟨b, off, rfl, (hq j hj).1⟩
    · have := bulkAll_le3 D len (fun i hi => (hq i hi).2)
      simp only [List.length_map, List.length_range]
      omega

end
end Go.Proofs.YtphbledmopchnaaGreatDoor
