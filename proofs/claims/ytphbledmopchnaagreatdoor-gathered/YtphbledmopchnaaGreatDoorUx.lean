import Derived.Test.YtphbledmopchnaaGreatDoorRows
import Derived.Test.YtphbledmopchnaaGreatDoorUw
import Derived.Deep.SlicePairs
import Derived.ChangeArms
import Derived.OpenShut
import Derived.SizedLaws
/-
  The script that came in, read, whatever its size.
-/
namespace Go.Proofs.YtphbledmopchnaaGreatDoor
open Go.ChangeShapes Go.WideShapes Go.RowKit Go.Deep

theorem bytes79 : 0 < Tryz.prog.bytesOf 65 := by decide +kernel
theorem bytes151 : 0 < Tryz.prog.bytesOf 170 := by decide +kernel
theorem bytes48 : 0 < Tryz.prog.bytesOf 74 := by decide +kernel
theorem cells72 : Tryz.prog.cellsOf 65 = 10 := by kernel_rfl
theorem cells140 : Tryz.prog.cellsOf 170 = 2 := by kernel_rfl
theorem cells41 : Tryz.prog.cellsOf 43 = 1 := by kernel_rfl
theorem cells3 : Tryz.prog.cellsOf 3 = 1 := by kernel_rfl
theorem cells4 : Tryz.prog.cellsOf 4 = 1 := by kernel_rfl
theorem cells9 : Tryz.prog.cellsOf 9 = 1 := by kernel_rfl
theorem cells70 : Tryz.prog.cellsOf 63 = 1 := by kernel_rfl

section
variable {H : Type} {enc : TypeId × Value → H}

/-- Each string and slice of it is within the reach. -/
def Wt (t : TypeId) (d : DataW H) : Prop := ∀ n ∈ d.weights Tryz.prog t, n ≤ 140737488351232
theorem wt_string {t : TypeId} {bs : List UInt8} (h : Wt (H := H) t (.lit (.string bs))) : bs.length ≤ 140737488351232 := h _ (by simp [DataW.weights])
theorem wt_all {e : TypeId} : ∀ {l : List (DataW H)} {d : DataW H}, d ∈ l → ∀ n ∈ d.weights Tryz.prog e, n ∈ DataW.weightsAll Tryz.prog e l
  | [], d, h, _, _ => by cases h
  | x :: l, d, h, n, hn => by
    rw [DataW.weightsAll]
    rcases List.mem_cons.1 h with rfl | h
    · exact List.mem_append_left _ hn
    · exact List.mem_append_right _ (wt_all h n hn)
theorem wt_slice {t e : TypeId} {elems spare : List (DataW H)} (hu : Tryz.prog.underlying t = some (.slice e)) (hb : 0 < Tryz.prog.bytesOf e) (h : Wt t (.slice elems spare)) : elems.length ≤ 140737488351232 ∧ ∀ d ∈ elems, Wt e d := by
  refine ⟨?_, fun d hd n hn => h n ?_⟩
  · have h1 := h ((elems.length + spare.length) * Tryz.prog.bytesOf e) (by simp [DataW.weights, hu])
    have h2 : (elems.length + spare.length) * 1 ≤ (elems.length + spare.length) * Tryz.prog.bytesOf e := Nat.mul_le_mul_left _ hb
    omega
  · simp only [DataW.weights, hu]
    exact List.mem_cons_of_mem _ (List.mem_append_left _ (wt_all hd n hn))
theorem wt_agg {t : TypeId} {fs : Array Field} {parts : List (DataW H)} (hu : Tryz.prog.underlying t = some (.struct fs)) (h : Wt t (.agg parts)) {j : Nat} {tj : TypeId} {d : DataW H} (ht : (fs.toList.map (·.type))[j]? = some tj) (hd : parts[j]? = some d) : Wt tj d := fun n hn => h n (by
  simp only [DataW.weights, hu]
  exact DataW.weights_mem_each ht hd n hn)

theorem u64_of {n : Int} (h : (Lit.int .u64 n).wf = true) : ∃ m : Nat, n = (m : Int) ∧ m < 18446744073709551616 := by
  have := bounds_u64 h
  exact ⟨n.toNat, by omega, by omega⟩

theorem getD_range {α : Type} (q : Nat → α) (d : α) (len j : Nat) (h : j < len) : ((List.range len).map q).getD j d = q j := by
  rw [List.getD_eq_getElem?_getD, List.getElem?_map, List.getElem?_range h]
  rfl

theorem rng_of {W : World} {c : Value} {x : DataW H × List MemPlace} {fuel : Nat} (h : DataW.trod enc Tryz.prog W 0 (fun _ => true) true fuel 63 [c] = some x) (hB : Wt 63 x.1) :
    ∃ ra rs rc, c = .slice ra rs.length rc ∧ RngAt W ra rs ∧ rs.length ≤ 140737488351232 := by
  rcases open_slice_pairs Tryz.underlying63 Tryz.underlying170 cells140 rfl rfl cells41 cells41 h with ⟨hc, hx⟩ | ⟨a, len, cap, m, n, V0, V1, D0, D1, P0, P1, hc, _, hl, hm, hmm, rfl, hall⟩
  · simp only [List.cons.injEq, and_true] at hc
    subst hc
    subst hx
    exact ⟨none, [], 0, rfl, fun j hj => absurd hj (Nat.not_lt_zero _), by simp⟩
  · simp only [List.cons.injEq, and_true] at hc
    subst hc
    simp only [if_true] at hmm
    subst hmm
    have each : ∀ i, i < len → ∃ q : Nat × Nat, V0 i = .int .u64 (q.1 : Int) ∧ V1 i = .int .u64 (q.2 : Int) ∧ q.1 < 18446744073709551616 ∧ q.2 < 18446744073709551616 := fun i hi => by
      obtain ⟨_, _, t0, t1⟩ := hall i (by omega)
      obtain ⟨n0, e0, _, w0⟩ := DataW.trod_int Tryz.underlying43 t0
      obtain ⟨n1, e1, _, w1⟩ := DataW.trod_int Tryz.underlying43 t1
      obtain ⟨m0, rfl, l0⟩ := u64_of w0
      obtain ⟨m1, rfl, l1⟩ := u64_of w1
      simp only [List.cons.injEq, and_true] at e0 e1
      exact ⟨(m0, m1), e0, e1, l0, l1⟩
    obtain ⟨q, hq⟩ := choose_lt each
    refine ⟨some a, (List.range len).map q, m, by simp, ?_, ?_⟩
    · intro j hj
      simp only [List.length_map, List.length_range] at hj
      obtain ⟨b, off, spot⟩ := a
      have hspot : spot = none := by
        have := World.cell?_spot (hall 0 (by omega)).1
        simpa [Addr.add] using this
      subst hspot
      obtain ⟨c0, c1, _, _⟩ := hall j (by omega)
      obtain ⟨q0, q1, q2, q3⟩ := hq j hj
      rw [Addr.add_lit] at c0 c1
      rw [getD_range q _ len j hj]
      exact ⟨b, off, rfl, by rw [c0, q0], by rw [Nat.add_assoc, c1, q1], q2, q3⟩
    · have := (wt_slice Tryz.underlying63 bytes151 hB).1
      simpa using this

set_option maxHeartbeats 1000000 in
set_option maxRecDepth 100000 in
theorem frame_of {W : World} {b off : Nat} {cs : List Value} {d : DataW H} {p : List MemPlace} {fuel : Nat} (hcell : ∀ i, i < 10 → W.cell? ⟨b, off + i, none⟩ = cs[i]?) (hlen : cs.length = 10)
    (h : DataW.trod enc Tryz.prog W 0 (fun _ => true) true fuel 65 cs = some (d, p)) (hB : Wt 65 d) :
    ∃ q : Fr × Option Addr × Nat, FrAt0 W b off q.1 q.2.1 q.2.2 := by
  obtain ⟨xs, k, hk, hxy, _, hxl, hf⟩ := DataW.trod_struct Tryz.underlying65 h
  match xs, hxl, cs, hlen with
  | [y0, y1, y2, y3, y4, y5, y6, y7, y8, y9], _, [v0, v1, v2, v3, v4, v5, v6, v7, v8, v9], _ =>
    have g0 := hf 0 _ rfl
    have g1 := hf 1 _ rfl
    have g2 := hf 2 _ rfl
    have g3 := hf 3 _ rfl
    have g4 := hf 4 _ rfl
    have g5 := hf 5 _ rfl
    have g6 := hf 6 _ rfl
    have g7 := hf 7 _ rfl
    have g8 := hf 8 _ rfl
    have g9 := hf 9 _ rfl
    clear hf
    simp [cells3, cells4, cells9, cells41, cells70] at g0 g1 g2 g3 g4 g5 g6 g7 g8 g9
    obtain ⟨n0, e0, x0, w0⟩ := DataW.trod_int Tryz.underlying3 g0
    obtain ⟨n1, e1, x1, w1⟩ := DataW.trod_int Tryz.underlying3 g1
    obtain ⟨n2, e2, x2, w2⟩ := DataW.trod_int Tryz.underlying43 g2
    obtain ⟨n3, e3, x3, w3⟩ := DataW.trod_int Tryz.underlying43 g3
    obtain ⟨n4, e4, x4, w4⟩ := DataW.trod_int Tryz.underlying43 g4
    obtain ⟨n5, e5, x5⟩ := DataW.trod_bool Tryz.underlying4 g5
    obtain ⟨n6, e6, x6, w6⟩ := DataW.trod_int Tryz.underlying43 g6
    obtain ⟨n7, e7, x7, w7⟩ := DataW.trod_int Tryz.underlying43 g7
    obtain ⟨n8, e8, x8, _⟩ := DataW.trod_string Tryz.underlying9 g8
    have hB' : Wt 65 (.agg [y0.1, y1.1, y2.1, y3.1, y4.1, y5.1, y6.1, y7.1, y8.1, y9.1]) := by
      simp only [Prod.mk.injEq] at hxy
      rw [hxy.1] at hB
      exact hB
    have w8' : Wt 9 y8.1 := wt_agg Tryz.underlying65 hB' (j := 8) rfl rfl
    have w9' : Wt 63 y9.1 := wt_agg Tryz.underlying65 hB' (j := 9) rfl rfl
    obtain ⟨ra, rs, rc, e9, hR, hr⟩ := rng_of g9 w9'
    obtain ⟨m2, rfl, l2⟩ := u64_of w2
    obtain ⟨m3, rfl, l3⟩ := u64_of w3
    obtain ⟨m4, rfl, l4⟩ := u64_of w4
    obtain ⟨m6, rfl, l6⟩ := u64_of w6
    obtain ⟨m7, rfl, l7⟩ := u64_of w7
    simp only [List.cons.injEq, and_true] at e0 e1 e2 e3 e4 e5 e6 e7 e8
    have h8 : n8.size ≤ 140737488351232 := by
      rw [x8] at w8'
      have h := wt_string w8'
      have e : n8.data.toList.length = n8.size := Array.length_toList
      omega
    have b0 := bounds_i64 w0
    have b1 := bounds_i64 w1
    refine ⟨(⟨n0, n1, m2, m3, m4, n5, m6, m7, n8, rs⟩, ra, rc), ?_⟩
    refine ⟨?_, ?_, ?_, ?_, ?_, ?_, ?_, ?_, ?_, ?_, hR, hr, h8, b0, b1, ⟨l2, l3, l4, l6, l7⟩⟩
    · have := hcell 0 (by omega); rw [e0] at this; exact this
    · have := hcell 1 (by omega); rw [e1] at this; exact this
    · have := hcell 2 (by omega); rw [e2] at this; exact this
    · have := hcell 3 (by omega); rw [e3] at this; exact this
    · have := hcell 4 (by omega); rw [e4] at this; exact this
    · have := hcell 5 (by omega); rw [e5] at this; exact this
    · have := hcell 6 (by omega); rw [e6] at this; exact this
    · have := hcell 7 (by omega); rw [e7] at this; exact this
    · have := hcell 8 (by omega); rw [e8] at this; exact this
    · have := hcell 9 (by omega); rw [e9] at this; exact this


set_option maxRecDepth 100000 in
theorem frames_of {W : World} {c : Value} {x : DataW H × List MemPlace} {fuel : Nat} (h : DataW.trod enc Tryz.prog W 0 (fun _ => true) true fuel 54 [c] = some x) (hB : Wt 54 x.1) :
    ∃ fa fs fc ra rc, c = .slice fa fs.length fc ∧ FrsW0 W fa fs ra rc ∧ fs.length ≤ 140737488351232 := by
  rcases open_slice Tryz.underlying54 h with ⟨hc, hx⟩ | ⟨a, len, cap, m, n, D, Pl, hc, _, hl, hm, hmm, rfl, hall⟩
  · simp only [List.cons.injEq, and_true] at hc
    subst hc
    exact ⟨none, [], 0, fun _ => none, fun _ => 0, rfl, fun j hj => absurd hj (Nat.not_lt_zero _), by simp⟩
  · simp only [List.cons.injEq, and_true] at hc
    subst hc
    simp only [if_true] at hmm
    subst hmm
    obtain ⟨b, off, spot⟩ := a
    have hspot : 0 < len → spot = none := fun h0 => by
      obtain ⟨cs', h1, _⟩ := hall 0 (by omega)
      rw [cells72] at h1
      obtain ⟨_, hlen, hcell⟩ := World.cells?_some h1
      have h2 := hcell 0 (by omega)
      rw [List.getElem?_eq_getElem (by omega)] at h2
      have := World.cell?_spot h2
      simpa [Addr.add] using this
    have each : ∀ i, i < len → ∃ q : Fr × Option Addr × Nat, FrAt0 W b (off + i * 10) q.1 q.2.1 q.2.2 := fun i hi => by
      obtain ⟨cs', h1, h2⟩ := hall i (by omega)
      rw [cells72] at h1
      obtain ⟨_, hlen, hcell⟩ := World.cells?_some h1
      have hs := hspot (by omega)
      subst hs
      refine frame_of (fun j hj => ?_) hlen h2 ((wt_slice Tryz.underlying54 bytes79 hB).2 _ (List.mem_map.2 ⟨i, List.mem_range.2 hi, rfl⟩))
      have := hcell j hj
      rw [Addr.add_lit, Addr.add_lit] at this
      exact this
    have : Inhabited Fr := ⟨fr0⟩
    obtain ⟨q, hq⟩ := choose_lt each
    refine ⟨some ⟨b, off, spot⟩, (List.range len).map fun i => (q i).1, m, fun i => (q i).2.1, fun i => (q i).2.2, by simp, ?_, ?_⟩
    · intro j hj
      simp only [List.length_map, List.length_range] at hj
      have hs := hspot (by omega)
      subst hs
      rw [getD_range (fun i => (q i).1) _ len j hj]
      exact ⟨b, off, rfl, hq j hj⟩
    · have := (wt_slice Tryz.underlying54 bytes79 hB).1
      simpa using this

theorem cells46 : Tryz.prog.cellsOf 74 = 7 := by kernel_rfl
theorem cells44 : Tryz.prog.cellsOf 56 = 2 := by kernel_rfl
theorem cells42 : Tryz.prog.cellsOf 54 = 1 := by kernel_rfl

set_option maxHeartbeats 1000000 in
set_option maxRecDepth 100000 in
theorem op_of {W : World} {b off : Nat} {cs : List Value} {d : DataW H} {p : List MemPlace} {fuel : Nat} (hcell : ∀ i, i < 7 → W.cell? ⟨b, off + i, none⟩ = cs[i]?) (hlen : cs.length = 7)
    (h : DataW.trod enc Tryz.prog W 0 (fun _ => true) true fuel 74 cs = some (d, p)) (hB : Wt 74 d) :
    ∃ q : OpR, OpAt0 W b off q := by
  obtain ⟨xs, k, hk, hxy, _, hxl, hf⟩ := DataW.trod_struct Tryz.underlying74 h
  match xs, hxl, cs, hlen with
  | [y0, y1, y2, y3, y4, y5], _, [v0, v1, v2, v3, v4, v5, v6], _ =>
    have g0 := hf 0 _ rfl
    have g1 := hf 1 _ rfl
    have g2 := hf 2 _ rfl
    have g3 := hf 3 _ rfl
    have g4 := hf 4 _ rfl
    have g5 := hf 5 _ rfl
    clear hf
    simp [cells3, cells9, cells44] at g0 g1 g2 g3 g4 g5
    obtain ⟨n0, e0, x0, w0⟩ := DataW.trod_int Tryz.underlying3 g0
    obtain ⟨n1, e1, x1, w1⟩ := DataW.trod_int Tryz.underlying3 g1
    obtain ⟨n2, e2, x2, w2⟩ := DataW.trod_int Tryz.underlying3 g2
    obtain ⟨n3, e3, x3, w3⟩ := DataW.trod_int Tryz.underlying3 g3
    obtain ⟨n4, e4, x4, _⟩ := DataW.trod_string Tryz.underlying9 g4
    obtain ⟨zs, k', hk', hzy, _, hzl, hz⟩ := DataW.trod_struct Tryz.underlying56 g5
    match zs, hzl with
    | [z0, z1], _ =>
      have q0 := hz 0 _ rfl
      have q1 := hz 1 _ rfl
      clear hz
      simp [cells41, cells42] at q0 q1
      obtain ⟨n5, e5, x5, w5⟩ := DataW.trod_int Tryz.underlying43 q0
      obtain ⟨m5, rfl, l5⟩ := u64_of w5
      have hB' : Wt 74 (.agg [y0.1, y1.1, y2.1, y3.1, y4.1, y5.1]) := by
        simp only [Prod.mk.injEq] at hxy
        rw [hxy.1] at hB
        exact hB
      have w4' : Wt 9 y4.1 := wt_agg Tryz.underlying74 hB' (j := 4) rfl rfl
      have w5' : Wt 56 y5.1 := wt_agg Tryz.underlying74 hB' (j := 5) rfl rfl
      have h4 : n4.size ≤ 140737488351232 := by
        rw [x4] at w4'
        have h := wt_string w4'
        have e : n4.data.toList.length = n4.size := Array.length_toList
        omega
      have wz : Wt 54 z1.1 := by
        rw [hzy] at w5'
        exact wt_agg (parts := [z0.1, z1.1]) Tryz.underlying56 w5' (j := 1) rfl rfl
      obtain ⟨fa, fs, fc, ra, rc, e6, hF, hfl⟩ := frames_of q1 wz
      simp only [List.cons.injEq, and_true] at e0 e1 e2 e3 e4 e5
      have b1 := bounds_i64 w1
      have b2 := bounds_i64 w2
      refine ⟨⟨n0, n1, n2, n3, n4, m5, fs, fa, fc, ra, rc⟩, ⟨?_, ?_, ?_, ?_, ?_, ?_, ?_, hF, b1, b2, h4, hfl, l5⟩⟩
      · have := hcell 0 (by omega); rw [e0] at this; exact this
      · have := hcell 1 (by omega); rw [e1] at this; exact this
      · have := hcell 2 (by omega); rw [e2] at this; exact this
      · have := hcell 3 (by omega); rw [e3] at this; exact this
      · have := hcell 4 (by omega); rw [e4] at this; exact this
      · have := hcell 5 (by omega); rw [e5] at this; exact this
      · have := hcell 6 (by omega); rw [e6] at this; exact this


set_option maxRecDepth 100000 in
theorem ops_of {W : World} {c : Value} {x : DataW H × List MemPlace} {fuel : Nat} (h : DataW.trod enc Tryz.prog W 0 (fun _ => true) true fuel 22 [c] = some x) (hB : Wt 22 x.1) :
    ∃ oa os oc, c = .slice oa os.length oc ∧ OpsW0 W oa os ∧ os.length ≤ 140737488351232 := by
  rcases open_slice Tryz.underlying22 h with ⟨hc, hx⟩ | ⟨a, len, cap, m, n, D, Pl, hc, _, hl, hm, hmm, rfl, hall⟩
  · simp only [List.cons.injEq, and_true] at hc
    subst hc
    exact ⟨none, [], 0, rfl, fun j hj => absurd hj (Nat.not_lt_zero _), by simp⟩
  · simp only [List.cons.injEq, and_true] at hc
    subst hc
    simp only [if_true] at hmm
    subst hmm
    obtain ⟨b, off, spot⟩ := a
    have hspot : 0 < len → spot = none := fun h0 => by
      obtain ⟨cs', h1, _⟩ := hall 0 (by omega)
      rw [cells46] at h1
      obtain ⟨_, hlen, hcell⟩ := World.cells?_some h1
      have h2 := hcell 0 (by omega)
      rw [List.getElem?_eq_getElem (by omega)] at h2
      have := World.cell?_spot h2
      simpa [Addr.add] using this
    have each : ∀ i, i < len → ∃ q : OpR, OpAt0 W b (off + i * 7) q := fun i hi => by
      obtain ⟨cs', h1, h2⟩ := hall i (by omega)
      rw [cells46] at h1
      obtain ⟨_, hlen, hcell⟩ := World.cells?_some h1
      have hs := hspot (by omega)
      subst hs
      refine op_of (fun j hj => ?_) hlen h2 ((wt_slice Tryz.underlying22 bytes48 hB).2 _ (List.mem_map.2 ⟨i, List.mem_range.2 hi, rfl⟩))
      have := hcell j hj
      rw [Addr.add_lit, Addr.add_lit] at this
      exact this
    have : Inhabited OpR := ⟨op0⟩
    obtain ⟨q, hq⟩ := choose_lt each
    refine ⟨some ⟨b, off, spot⟩, (List.range len).map q, m, by simp, ?_, ?_⟩
    · intro j hj
      simp only [List.length_map, List.length_range] at hj
      have hs := hspot (by omega)
      subst hs
      rw [getD_range q _ len j hj]
      exact ⟨b, off, rfl, hq j hj⟩
    · have := (wt_slice Tryz.underlying22 bytes48 hB).1
      simpa using this

end
end Go.Proofs.YtphbledmopchnaaGreatDoor
