/-
  Slices of elements of k cells that are appended to.
-/
import Derived.Test.YtphbledmopchnaaDoorTold
import Derived.Deep.Upon
namespace Go.Proofs.YtphbledmopchnaaDoor
open Go.RowKit Go.Lib Go.Shelf Mm

/-- A slice type and its elements. -/
structure Elt (t e : TypeId) (z : Value) (k bytes : Nat) : Prop where
  ht : Tryd.prog.underlying t = some (.slice e)
  hi : (Tryd.prog.info? e).map (fun i => (i.zero, i.size, i.bytes)) = some (some z, k, bytes)
  hz : ∀ n, (Builtin.zeroCells z.cells n).toList.length = n * k
  h1 : ∀ n, ∀ v ∈ (Builtin.zeroCells z.cells n).toList, v.oneCell' = true
  hb : bytes ≤ 104

def frZero : Value := .agg #[.int .i64 0, .int .i64 0, .int .u64 0, .int .u64 0, .int .u64 0, .bool false, .int .u64 0, .int .u64 0, .string ⟨#[]⟩, .slice none 0 0]
def rgZero : Value := .agg #[.int .u64 0, .int .u64 0]
theorem eltR : Elt 26 50 rgZero 2 16 := ⟨by kernel_rfl, by kernel_rfl, zero2_len, zero2_one, by omega⟩
theorem eltF : Elt 23 28 frZero 10 104 := ⟨by kernel_rfl, by kernel_rfl, fun n => by simp [frZero, Builtin.zeroCells, Value.cells], fun n v hv => by
  simp [frZero, Builtin.zeroCells, Value.cells] at hv
  obtain ⟨i, _, rfl⟩ := hv
  have : i % 10 = 0 ∨ i % 10 = 1 ∨ i % 10 = 2 ∨ i % 10 = 3 ∨ i % 10 = 4 ∨ i % 10 = 5 ∨ i % 10 = 6 ∨ i % 10 = 7 ∨ i % 10 = 8 ∨ i % 10 = 9 := by omega
  rcases this with h | h | h | h | h | h | h | h | h | h <;> rw [h] <;> rfl, by omega⟩

/-- A slice of n elements of the call's own; l: their cells. -/
def GBuf (e : TypeId) (k : Nat) (w : World) (v : Value) (n : Nat) (l : List Value) : Prop :=
  v = .slice none 0 0 ∧ n = 0 ∧ l = [] ∨ ∃ g cap cs, v = .slice (some ⟨g, 0, none⟩) n cap ∧ Blk w g e cs ∧ cs.length = cap * k ∧ n ≤ cap ∧ cap ≤ 9223372036854775807 ∧ l.length = n * k ∧ cs.take (n * k) = l ∧ ∀ v ∈ cs, v.oneCell' = true

theorem GBuf.len {e : TypeId} {k : Nat} {w : World} {v : Value} {n : Nat} {l : List Value} (h : GBuf e k w v n l) : l.length = n * k := by
  rcases h with ⟨_, rfl, rfl⟩ | ⟨g, cap, cs, _, _, _, _, _, h, _⟩
  · simp
  · exact h
theorem GBuf.lt {e : TypeId} {k : Nat} {w : World} {v : Value} {n : Nat} {l : List Value} (h : GBuf e k w v n l) : ∀ b, v.ownBlock = some b → b < w.heap.size := by
  intro b hb
  rcases h with ⟨rfl, _⟩ | ⟨g, cap, cs, rfl, hB, _⟩
  · simp [Value.ownBlock] at hb
  · simp [Value.ownBlock] at hb; subst hb; exact hB.lt
theorem GBuf.of_heap {e : TypeId} {k : Nat} {w w' : World} {v : Value} {n : Nat} {l : List Value} (h : GBuf e k w v n l) (he : ∀ b, v.ownBlock = some b → w'.heap[b]? = w.heap[b]?) : GBuf e k w' v n l := by
  rcases h with h | ⟨g, cap, cs, rfl, hB, h2⟩
  · exact .inl h
  · exact .inr ⟨g, cap, cs, rfl, hB.of_heap (he g rfl), h2⟩
theorem GBuf.nil (e : TypeId) (k : Nat) (w : World) : GBuf e k w (.slice none 0 0) 0 [] := .inl ⟨rfl, rfl, rfl⟩
theorem GBuf.shape {e : TypeId} {k : Nat} {w : World} {v : Value} {n : Nat} {l : List Value} (h : GBuf e k w v n l) : ∃ a c, v = .slice a n c ∧ n ≤ c := by
  rcases h with ⟨rfl, rfl, _⟩ | ⟨g, cap, cs, rfl, _, _, h, _⟩
  · exact ⟨_, _, rfl, Nat.le_refl _⟩
  · exact ⟨_, _, rfl, h⟩
/-- One of its cells. -/
theorem GBuf.cell {e : TypeId} {k : Nat} {w : World} {v : Value} {n : Nat} {l : List Value} (h : GBuf e k w v n l) {a : Option Addr} {c : Nat} (hv : v = .slice a n c) (j : Nat) (x : Value) (hx : l[j]? = some x) : ∃ g, a = some ⟨g, 0, none⟩ ∧ w.cell? ⟨g, j, none⟩ = some x ∧ w.frozen? ⟨g, j, none⟩ = false := by
  rcases h with ⟨_, rfl, rfl⟩ | ⟨g, cap, cs, rfl, hB, _, _, _, h4, h5, _⟩
  · simp at hx
  · simp at hv
    refine ⟨g, hv.1.symm, ?_, hB.frozen j⟩
    rw [hB.cell]
    rw [← h5, List.getElem?_take] at hx
    split at hx
    · exact hx
    · cases hx

/-- 'append(v, ..)' of m elements that lie at a. -/
theorem run_append_gbuf {t e : TypeId} {z : Value} {k bytes : Nat} (E : Elt t e z k bytes) {w : World} {v : Value} {n : Nat} {l : List Value} (h : GBuf e k w v n l) (a : Addr) (m mc : Nat) (ns : List Value) (hm : ns.length = m * k) (h0 : 0 < m)
    (h1 : ∀ v ∈ ns, v.oneCell' = true) (hsrc : ∀ j u, ns[j]? = some u → w.cell? (a.add j) = some u) (hsz : n + m ≤ 1000000000000) :
    ∃ v' w', (∀ ty, (Builtin.append_ #[t, t] ty #[v, .slice (some a) m mc]).run Tryd.prog w = .ok v' w') ∧ GBuf e k w' v' (n + m) (l ++ ns) ∧ Gr w w' v v' := by
  have hbig : (n + m) * bytes ≤ 140737488355328 := Nat.le_trans (Nat.mul_le_mul hsz E.hb) (by decide)
  have hll := h.len
  have hk : (n + m) * k = n * k + m * k := Nat.add_mul _ _ _
  have grow : ∀ base c (cs : List Value), cs = l → c < n + m → (base = none ∧ cs = [] ∨ ∃ b : Addr, base = some b ∧ cs.length = n * k ∧ ∀ j v, cs[j]? = some v → w.cell? (b.add j) = some v) → (∀ v ∈ cs, v.oneCell' = true) → ∃ v' w', (∀ ty, (Builtin.append_ #[t, t] ty #[.slice base n c, .slice (some a) m mc]).run Tryd.prog w = .ok v' w') ∧ GBuf e k w' v' (n + m) (l ++ ns) ∧ Gr w w' (.slice base n c) v' := by
    intro base c cs hcs hr hold hone
    have hap := fun ty => run_append_grow_blk (P := Tryd.prog) (w := w) t t ty e _ k bytes E.ht E.ht E.hi (base := base) (n := n) (c := c) (m := m) (mc := mc) (cs := cs) hold a (vs := ns) hm hsrc h1 hr hbig (by omega)
    have hGn := grownCap_ge w (n + m) c e
    have hG63 := grownCap_le_maxLen w (n + m) c e (by unfold maxLen; omega)
    unfold maxLen at hG63
    have hcl : cs.length = n * k := by rw [hcs, hll]
    refine ⟨_, _, hap, .inr ⟨w.heap.size, _, _, rfl, Blk.new w e _, ?_, hGn, hG63, by rw [List.length_append]; omega, ?_, ?_⟩, grown_trans (grown_drew w _) (World.grownBy_alloc w.drew _ _), ?_⟩
    · rw [List.length_append, List.length_append, E.hz, hcl, hm]
      have : (grownCap w (n + m) c e - (n + m)) * k + (n + m) * k = grownCap w (n + m) c e * k := by rw [← Nat.add_mul]; congr 1; omega
      omega
    · rw [List.take_append_of_le_length (by rw [List.length_append]; omega), List.take_of_length_le (by rw [List.length_append]; omega), hcs]
    · intro u hu
      rcases List.mem_append.1 hu with hu | hu
      · rcases List.mem_append.1 hu with hu | hu
        · exact hone u hu
        · exact h1 u hu
      · exact E.h1 _ u hu
    · intro b hb
      simp [Value.ownBlock] at hb
      exact .inr (by omega)
  rcases h with ⟨rfl, rfl, rfl⟩ | ⟨g, cap, cs, rfl, hB, h2, h3, h4, h5, h6, h7⟩
  · exact grow none 0 [] rfl (by omega) (.inl ⟨rfl, rfl⟩) (fun v hv => by simp at hv)
  · by_cases hr : n + m ≤ cap
    · have hfit : (n + m) * k ≤ cap * k := Nat.mul_le_mul_right _ hr
      have hap := fun ty => run_append_room_blk (P := Tryd.prog) (w := w) t t ty e _ k bytes E.ht E.ht E.hi (n := n) (c := cap) (m := m) (mc := mc) hB a (vs := ns) hm hsrc h1 hr (by omega)
      have hse := splice_end cs ns (n * k) (by omega)
      refine ⟨_, _, hap, .inr ⟨g, cap, _, rfl, hB.put _, ?_, hr, h4, by rw [List.length_append]; omega, ?_, splice_one h7 h1⟩, put_grown w g _, fun b hb => .inl hb⟩
      · rw [splice_length _ _ _ (by omega), h2]
      · rw [hk, ← hm, hse, h6]
    · exact grow (some ⟨g, 0, none⟩) cap l rfl (by omega) (.inr ⟨_, rfl, h5, fun j u hj => by
        rw [Addr.add_lit, Nat.zero_add, hB.cell]
        rw [← h6, List.getElem?_take] at hj
        split at hj
        · exact hj
        · cases hj⟩) (fun u hu => h7 u (by rw [← h6] at hu; exact List.mem_of_mem_take hu))

/-- 'append(nil, s...)', s a slice without elements. -/
theorem run_append_none {t e : TypeId} {z : Value} {k bytes : Nat} (E : Elt t e z k bytes) (w : World) (a : Option Addr) (c : Nat) (ty : TypeId) :
    (Builtin.append_ #[t, t] ty #[.slice none 0 0, .slice a 0 c]).run Tryd.prog w = .ok (.slice none 0 0) w := by
  obtain ⟨i, hi, hz, hs, _⟩ := info_parts E.hi
  have hf : (Builtin.firstCells i.size 0 (.slice a 0 c)).run Tryd.prog w = .ok #[] w := by
    cases a with
    | none => exact run_firstCells_none w i.size 0 0 c
    | some b => exact run_firstCells_some w i.size 0 b 0 c [] (by simp) (fun j v hj => by simp at hj)
  simp [Builtin.append_, run_underlying E.ht, sizeOf, typeInfo, hi, Builtin.lenOf, hf]

end Go.Proofs.YtphbledmopchnaaDoor
