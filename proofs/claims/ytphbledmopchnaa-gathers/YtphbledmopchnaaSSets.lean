/-
  A set in memory.
-/
import Derived.Test.YtphbledmopchnaaSPlain
import Derived.Test.YtphbledmopchnaaSSearch
import Derived.Test.YtphbledmopchnaaSClosures
import Derived.Test.YtphbledmopchnaaSReplace
namespace Go.Proofs.Ytphbledmopchnaa.St
open Go.RowKit Go.Lib Mm

/-- Ranges as cells. -/
def rcells : List (Nat × Nat) → List Value
  | [] => []
  | r :: t => .int .u64 (r.1 : Int) :: .int .u64 (r.2 : Int) :: rcells t

theorem rcells_length : ∀ rs, (rcells rs).length = 2 * rs.length
  | [] => rfl
  | r :: t => by simp [rcells, rcells_length t]; omega
theorem rcells_lo : ∀ (rs : List (Nat × Nat)) (i : Nat), i < rs.length → (rcells rs)[i * 2]? = some (.int .u64 ((rs.getD i (0, 0)).1 : Int))
  | [], i, h => by simp at h
  | r :: t, 0, _ => by simp [rcells]
  | r :: t, i + 1, h => by
    rw [show (i + 1) * 2 = i * 2 + 1 + 1 by omega]
    simp only [rcells, List.getElem?_cons_succ, List.getD_cons_succ]
    exact rcells_lo t i (by simpa using h)
theorem rcells_hi : ∀ (rs : List (Nat × Nat)) (i : Nat), i < rs.length → (rcells rs)[i * 2 + 1]? = some (.int .u64 ((rs.getD i (0, 0)).2 : Int))
  | [], i, h => by simp at h
  | r :: t, 0, _ => by simp [rcells]
  | r :: t, i + 1, h => by
    rw [show (i + 1) * 2 + 1 = i * 2 + 1 + 1 + 1 by omega]
    simp only [rcells, List.getElem?_cons_succ, List.getD_cons_succ]
    exact rcells_hi t i (by simpa using h)
theorem rcells_append : ∀ a b, rcells (a ++ b) = rcells a ++ rcells b
  | [], _ => rfl
  | r :: t, b => by simp [rcells, rcells_append t b]
theorem rcells_take : ∀ (rs : List (Nat × Nat)) (i : Nat), (rcells rs).take (2 * i) = rcells (rs.take i)
  | [], i => by simp [rcells]
  | r :: t, 0 => by simp [rcells]
  | r :: t, i + 1 => by rw [show 2 * (i + 1) = 2 * i + 1 + 1 by omega]; simp [rcells, rcells_take t i]
theorem rcells_drop : ∀ (rs : List (Nat × Nat)) (i : Nat), (rcells rs).drop (2 * i) = rcells (rs.drop i)
  | [], i => by simp [rcells]
  | r :: t, 0 => by simp [rcells]
  | r :: t, i + 1 => by rw [show 2 * (i + 1) = 2 * i + 1 + 1 by omega]; simp [rcells, rcells_drop t i]
theorem rcells_one : ∀ (rs : List (Nat × Nat)), ∀ v ∈ rcells rs, v.oneCell' = true
  | [], v, h => by simp [rcells] at h
  | r :: t, v, h => by
    simp [rcells] at h
    rcases h with rfl | rfl | h
    · rfl
    · rfl
    · exact rcells_one t v h

theorem countP_range_list (rs : List (Nat × Nat)) (f : Nat × Nat → Bool) : (List.range rs.length).countP (fun i => f (rs.getD i (0, 0))) = rs.countP f := by
  have h : rs = (List.range rs.length).map (fun i => rs.getD i (0, 0)) := by
    apply List.ext_getElem
    · simp
    · intro i h1 h2
      simp [h1]
  conv => rhs; rw [h]
  rw [List.countP_map]
  rfl

/-- Where the ranges lie. -/
def RowAt (w : World) (sp : Nat) (base : Option Addr) (c : Nat) (rs : List (Nat × Nat)) : Prop :=
  base = none ∧ rs = [] ∧ c = 0 ∨ ∃ b l, base = some ⟨b, 0, none⟩ ∧ b ≠ sp ∧ Blk w b 40 l ∧ l.length = 2 * c ∧ l.take (2 * rs.length) = rcells rs ∧ ∀ v ∈ l, v.oneCell' = true

/-- A set: in block sp; its ranges in block row. -/
def SetAt (w : World) (sp : Nat) (most : Int) (fl : Nat) (rs : List (Nat × Nat)) (row : Option Nat) : Prop :=
  ∃ base c, Blk w sp 36 [.int .i64 most, .int .u64 (fl : Int), .slice base rs.length c] ∧ rs.length ≤ c ∧ c ≤ 9223372036854775807 ∧ row = base.map (·.block) ∧ RowAt w sp base c rs

/-- All but the set's own blocks is as it was. -/
structure Kept (w w' : World) (sp : Nat) (row : Option Nat) : Prop where
  os : w'.os = w.os
  tape : w'.tape = w.tape
  output : w'.output = w.output
  size : w.heap.size ≤ w'.heap.size
  block : ∀ k, k < w.heap.size → k ≠ sp → some k ≠ row → w'.heap[k]? = w.heap[k]?

theorem RowAt.cell_hi {w : World} {sp : Nat} {base : Option Addr} {c : Nat} {rs : List (Nat × Nat)} (h : RowAt w sp base c rs) {i : Nat} (hi : i < rs.length) :
    ∃ b, base = some ⟨b, 0, none⟩ ∧ b ≠ sp ∧ b < w.heap.size ∧ w.cell? ⟨b, i * 2 + 1, none⟩ = some (.int .u64 ((rs.getD i (0, 0)).2 : Int)) ∧ w.cell? ⟨b, i * 2, none⟩ = some (.int .u64 ((rs.getD i (0, 0)).1 : Int)) := by
  rcases h with ⟨_, rfl, _⟩ | ⟨b, l, h1, h2, h3, h4, h5, _⟩
  · simp at hi
  · refine ⟨b, h1, h2, h3.lt, ?_, ?_⟩
    · rw [h3.cell, ← rcells_hi rs i hi, ← h5, List.getElem?_take, if_pos (by omega)]
    · rw [h3.cell, ← rcells_lo rs i hi, ← h5, List.getElem?_take, if_pos (by omega)]

theorem RowAt.of_heap {w w' : World} {sp : Nat} {base : Option Addr} {c : Nat} {rs : List (Nat × Nat)} (h : RowAt w sp base c rs) (e : ∀ b, base = some ⟨b, 0, none⟩ → w'.heap[b]? = w.heap[b]?) : RowAt w' sp base c rs := by
  rcases h with ⟨h1, h2, h3⟩ | ⟨b, l, h1, h2, h3, h4⟩
  · exact .inl ⟨h1, h2, h3⟩
  · exact .inr ⟨b, l, h1, h2, h3.of_heap (e b h1), h4⟩

theorem _root_.Go.Proofs.Ytphbledmopchnaa.Mm.Blk.stCell {w : World} {b : Nat} {t : TypeId} {l : List Value} (h : Blk w b t l) (o : Nat) (v : Value) : Blk (w.setCell ⟨b, o, none⟩ v) b t (l.set o v) := by
  rw [setCell_eq_setRow w b o l.toArray t (0, 0) v h]
  have := setRow_heap w b l.toArray (l.toArray.setIfInBounds o v) t (0, 0) h
  unfold Blk
  rw [this]
  simp
theorem _root_.Go.Proofs.Ytphbledmopchnaa.Mm.Blk.stCell_other {w : World} {b : Nat} {t : TypeId} {l : List Value} (h : Blk w b t l) (a : Addr) (v : Value) (hne : b ≠ a.block) : Blk (w.setCell a v) b t l :=
  h.of_heap (Below.heap_setCell w a v b hne)

/-- What join comes to, once the new slice is stored. -/
theorem post_join {w W' w' : World} {sp : Nat} {base : Option Addr} {c : Nat} {most : Int} {fl : Nat} {rs rs' : List (Nat × Nat)} {b' c' : Nat} {l' : List Value}
    (hs : Blk w sp 36 [.int .i64 most, .int .u64 (fl : Int), .slice base rs.length c]) (R : RowAt w sp base c rs) (hE : Below w.heap.size w W')
    (o1 : Blk w' b' 40 l') (o2 : l'.length = 2 * c') (o3 : rs'.length ≤ c') (o4 : c' ≤ 9223372036854775807) (o5 : l'.take (2 * rs'.length) = rcells rs') (o6 : ∀ v ∈ l', v.oneCell' = true)
    (o7 : W'.grownBy w' (base.map (·.block))) (o8 : some b' = base.map (·.block) ∨ W'.heap.size ≤ b') :
    SetAt (w'.setCell ⟨sp, 2, none⟩ (.slice (some ⟨b', 0, none⟩) rs'.length c')) sp most fl rs' (some b') ∧ Kept w (w'.setCell ⟨sp, 2, none⟩ (.slice (some ⟨b', 0, none⟩) rs'.length c')) sp (base.map (·.block)) ∧ (some b' = base.map (·.block) ∨ w.heap.size ≤ b') := by
  have hlt := hs.lt
  have hsz := hE.size
  have hrow : ∀ k, base.map (·.block) = some k → k ≠ sp := by
    intro k hk
    rcases R with ⟨rfl, _⟩ | ⟨b, l, rfl, hb, _⟩
    · cases hk
    · simp at hk; rw [← hk]; exact hb
  have hb' : b' ≠ sp := by
    rcases o8 with h | h
    · exact hrow b' h.symm
    · omega
  have hsp' : Blk w' sp 36 [.int .i64 most, .int .u64 (fl : Int), .slice base rs.length c] :=
    (hs.of_heap (hE.block sp hlt)).of_heap (o7.block sp (by omega) (fun e => hrow sp e.symm rfl))
  refine ⟨⟨some ⟨b', 0, none⟩, c', hsp'.stCell 2 _, o3, o4, rfl, .inr ⟨b', l', rfl, hb', o1.stCell_other _ _ hb', o2, o5, o6⟩⟩, ⟨?_, ?_, ?_, ?_, ?_⟩, ?_⟩
  · exact o7.os.trans hE.os
  · exact o7.tape.trans hE.tape
  · exact o7.output.trans hE.output
  · have := o7.size
    show w.heap.size ≤ (w'.heap.modify _ _).size
    simp; omega
  · intro k hk hne hr
    rw [Below.heap_setCell _ _ _ _ hne, o7.block k (by omega) hr, hE.block k hk]
  · rcases o8 with h | h
    · exact .inl h
    · exact .inr (by omega)

end Go.Proofs.Ytphbledmopchnaa.St
