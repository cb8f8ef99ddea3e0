/-
  plain.copied: what a copy is.
-/
import Derived.Test.YtphbledmopchnaaDoorGBuf
namespace Go.Proofs.YtphbledmopchnaaDoor
open Go.RowKit Go.Lib Go.Shelf Mm

/-- The cells of ranges, of a frame, of frames. -/
def rcells : List (Nat × Nat) → List Value
  | [] => []
  | r :: t => .int .u64 (r.1 : Int) :: .int .u64 (r.2 : Int) :: rcells t
def fcells (f : Fr) (v : Value) : List Value := [.int .i64 f.kind, .int .i64 f.stream, .int .u64 (f.offset : Int), .int .u64 (f.reliable : Int), .int .u64 (f.limit : Int), .bool f.fin, .int .u64 (f.id : Int), .int .u64 (f.deadline : Int), .string f.data, v]
def fcsTo (fs : List Fr) (v9 : Nat → Value) : Nat → List Value
  | 0 => []
  | k + 1 => fcsTo fs v9 k ++ fcells (fs.getD k fr0) (v9 k)

theorem rcells_len : ∀ rs, (rcells rs).length = rs.length * 2
  | [] => rfl
  | r :: t => by simp [rcells, rcells_len t]; omega
theorem rcells_one : ∀ rs, ∀ v ∈ rcells rs, v.oneCell' = true
  | [], v, hv => by simp [rcells] at hv
  | r :: t, v, hv => by
    simp [rcells] at hv
    rcases hv with rfl | rfl | hv
    · rfl
    · rfl
    · exact rcells_one t v hv
theorem rcells_get : ∀ (rs : List (Nat × Nat)) j, j < rs.length → (rcells rs)[j * 2]? = some (.int .u64 ((rs.getD j (0, 0)).1 : Int)) ∧ (rcells rs)[j * 2 + 1]? = some (.int .u64 ((rs.getD j (0, 0)).2 : Int))
  | [], j, h => by simp at h
  | r :: t, 0, h => by simp [rcells]
  | r :: t, j + 1, h => by
    have := rcells_get t j (by simpa using h)
    rw [show (j + 1) * 2 = j * 2 + 1 + 1 by omega]
    simp only [rcells, List.getElem?_cons_succ, List.getD_cons_succ]
    exact this
theorem rcells_append : ∀ a b, rcells (a ++ b) = rcells a ++ rcells b
  | [], b => rfl
  | r :: t, b => by simp [rcells, rcells_append t b]
theorem fcsTo_len (fs : List Fr) (v9 : Nat → Value) : ∀ k, (fcsTo fs v9 k).length = k * 10
  | 0 => rfl
  | k + 1 => by rw [fcsTo, List.length_append, fcsTo_len fs v9 k]; simp [fcells]; omega
theorem fcsTo_get (fs : List Fr) (v9 : Nat → Value) : ∀ k j i, j < k → i < 10 → (fcsTo fs v9 k)[j * 10 + i]? = (fcells (fs.getD j fr0) (v9 j))[i]?
  | 0, j, i, h, _ => by omega
  | k + 1, j, i, h, hi => by
    have hl := fcsTo_len fs v9 k
    rw [fcsTo]
    by_cases e : j = k
    · subst e
      rw [List.getElem?_append_right (by omega)]
      congr 1; omega
    · rw [List.getElem?_append_left (by omega)]
      exact fcsTo_get fs v9 k j i (by omega) hi
theorem fcsTo_congr (fs : List Fr) (v9 v9' : Nat → Value) : ∀ k, (∀ j, j < k → v9 j = v9' j) → fcsTo fs v9 k = fcsTo fs v9' k
  | 0, _ => rfl
  | k + 1, h => by rw [fcsTo, fcsTo, fcsTo_congr fs v9 v9' k (fun j hj => h j (by omega)), h k (by omega)]

/-- Numbers that fit. -/
structure FrOk (f : Fr) : Prop where
  rlen : f.ranges.length ≤ 1000000000
  dlen : f.data.size ≤ 1000000000
  k0 : -9223372036854775808 ≤ f.kind ∧ f.kind ≤ 9223372036854775807
  s0 : -9223372036854775808 ≤ f.stream ∧ f.stream ≤ 9223372036854775807
  u0 : f.offset < 18446744073709551616 ∧ f.reliable < 18446744073709551616 ∧ f.limit < 18446744073709551616 ∧ f.id < 18446744073709551616 ∧ f.deadline < 18446744073709551616
  r0 : ∀ j, j < f.ranges.length → (f.ranges.getD j (0, 0)).1 < 18446744073709551616 ∧ (f.ranges.getD j (0, 0)).2 < 18446744073709551616

theorem FrAt.ok {w : World} {b off : Nat} {f : Fr} {ra : Option Addr} {rc : Nat} (h : FrAt w b off f ra rc) : FrOk f :=
  ⟨h.rlen, h.dlen, h.k0, h.s0, h.u0, fun j hj => by obtain ⟨_, _, _, _, _, h1, h2⟩ := h.rng j hj; exact ⟨h1, h2⟩⟩

/-- The first k frames of a copy. -/
structure CpTo (B : Nat) (w : World) (s : Value) (fs : List Fr) (v9 : Nat → Value) (k : Nat) : Prop where
  buf : GBuf 28 10 w s k (fcsTo fs v9 k)
  own : Own B s
  rng : ∀ j, j < k → GBuf 50 2 w (v9 j) (fs.getD j fr0).ranges.length (rcells (fs.getD j fr0).ranges) ∧ Own B (v9 j) ∧ ∀ b, (v9 j).ownBlock = some b → s.ownBlock ≠ some b

def raOf : Value → Option Addr
  | .slice a _ _ => a
  | _ => none
def rcOf : Value → Nat
  | .slice _ _ c => c
  | _ => 0

/-- A copy is frames in memory. -/
theorem CpTo.frs {B : Nat} {w : World} {s : Value} {fs : List Fr} {v9 : Nat → Value} (h : CpTo B w s fs v9 fs.length) (hok : ∀ j, j < fs.length → FrOk (fs.getD j fr0)) :
    ∃ fa fc, s = .slice fa fs.length fc ∧ FrsAt w fa fs (fun j => raOf (v9 j)) (fun j => rcOf (v9 j)) := by
  obtain ⟨fa, fc, hs, _⟩ := h.buf.shape
  refine ⟨fa, fc, hs, fun j hj => ?_⟩
  have hget := fun i hi => fcsTo_get fs v9 fs.length j i hj hi
  have hc := fun i (hi : i < 10) x (hx : (fcells (fs.getD j fr0) (v9 j))[i]? = some x) => h.buf.cell hs (j * 10 + i) x (by rw [hget i hi]; exact hx)
  obtain ⟨g, hfa, c0, _⟩ := hc 0 (by omega) _ rfl
  subst hfa
  obtain ⟨g', e', c1, _⟩ := hc 1 (by omega) _ rfl
  cases e'
  obtain ⟨g', e', c2, _⟩ := hc 2 (by omega) _ rfl
  cases e'
  obtain ⟨g', e', c3, _⟩ := hc 3 (by omega) _ rfl
  cases e'
  obtain ⟨g', e', c4, _⟩ := hc 4 (by omega) _ rfl
  cases e'
  obtain ⟨g', e', c5, _⟩ := hc 5 (by omega) _ rfl
  cases e'
  obtain ⟨g', e', c6, _⟩ := hc 6 (by omega) _ rfl
  cases e'
  obtain ⟨g', e', c7, _⟩ := hc 7 (by omega) _ rfl
  cases e'
  obtain ⟨g', e', c8, _⟩ := hc 8 (by omega) _ rfl
  cases e'
  obtain ⟨g', e', c9, _⟩ := hc 9 (by omega) _ rfl
  cases e'
  obtain ⟨hR, _, _⟩ := h.rng j hj
  obtain ⟨ra, rc, hv, hle⟩ := hR.shape
  have ok := hok j hj
  refine ⟨g, 0, rfl, ⟨by rw [Nat.zero_add]; exact c0, by rw [Nat.zero_add]; exact c1, by rw [Nat.zero_add]; exact c2, by rw [Nat.zero_add]; exact c3, by rw [Nat.zero_add]; exact c4, by rw [Nat.zero_add]; exact c5, by rw [Nat.zero_add]; exact c6, by rw [Nat.zero_add]; exact c7, by rw [Nat.zero_add]; exact c8, ?_, ?_, ok.rlen, ok.dlen, ok.k0, ok.s0, ok.u0⟩, ?_, ?_⟩
  · rw [Nat.zero_add, c9]
    simp only [hv, raOf, rcOf]
  · intro i hi
    obtain ⟨r1, r2⟩ := rcells_get _ i hi
    obtain ⟨b1, e1, d1, _⟩ := hR.cell hv _ _ r1
    obtain ⟨b2, e2, d2, _⟩ := hR.cell hv _ _ r2
    rw [e1] at e2
    cases e2
    refine ⟨b1, 0, by simp only [hv]; exact e1, by rw [Nat.zero_add]; exact d1, by rw [Nat.zero_add]; exact d2, ok.r0 i hi⟩
  · simp only [hv]; exact hle
  · intro x hx
    simp only [hv] at hx
    refine hR.lt x.block ?_
    have hra : ra = some x := hx
    rw [hv, hra]
    rfl

end Go.Proofs.YtphbledmopchnaaDoor
