/-
  Bytes that are appended to.
-/
import Derived.Test.YtphbledmopchnaaDoorProg
import Derived.Test.YtphbledmopchnaaDoorMem
import Derived.Test.YtphbledmopchnaaDoorSum
namespace Go.Proofs.YtphbledmopchnaaDoor
open Go.RowKit Go.Lib Mm

theorem u29 : Tryd.prog.underlying 29 = some (.slice 5) := by kernel_rfl
theorem u9 : Tryd.prog.underlying 9 = some .string := by kernel_rfl
theorem info5 : (Tryd.prog.info? 5).map (fun i => (i.zero, i.size, i.bytes)) = some (some (.int .u8 0), 1, 1) := by kernel_rfl

def bcells (l : List UInt8) : List Value := l.map fun b => .int .u8 ((b.toNat : Nat) : Int)
theorem bcells_length (l : List UInt8) : (bcells l).length = l.length := by simp [bcells]
theorem bcells_append (a b : List UInt8) : bcells (a ++ b) = bcells a ++ bcells b := by simp [bcells]
theorem bcells_one (l : List UInt8) : ∀ v ∈ bcells l, v.oneCell' = true := by
  intro v hv
  obtain ⟨_, _, rfl⟩ := List.mem_map.1 hv
  rfl
theorem zero1_len (n : Nat) : (Builtin.zeroCells (Value.int .u8 0).cells n).toList.length = n := by simp [Builtin.zeroCells, Value.cells]
theorem zero1_one (n : Nat) : ∀ v ∈ (Builtin.zeroCells (Value.int .u8 0).cells n).toList, v.oneCell' = true := by
  intro v hv
  simp [Builtin.zeroCells, Value.cells] at hv
  obtain ⟨i, _, rfl⟩ := hv
  have : i % 1 = 0 := by omega
  rw [this]; rfl

/-- A slice of bytes of the call's own. -/
def Buf (w : World) (v : Value) (l : List UInt8) : Prop :=
  v = .slice none 0 0 ∧ l = [] ∨ ∃ g cap cs, v = .slice (some ⟨g, 0, none⟩) l.length cap ∧ Blk w g 5 cs ∧ cs.length = cap ∧ l.length ≤ cap ∧ cap ≤ 9223372036854775807 ∧ cs.take l.length = bcells l ∧ ∀ v ∈ cs, v.oneCell' = true

/-- Nothing has turned but v's own block; v' lies there, or in new memory. -/
def Gr (w w' : World) (v v' : Value) : Prop := w.grownBy w' v.ownBlock ∧ ∀ k, v'.ownBlock = some k → v.ownBlock = some k ∨ w.heap.size ≤ k

theorem Gr.refl (w : World) (v : Value) : Gr w w v v := ⟨grown_refl w _, fun _ h => .inl h⟩
theorem Gr.trans {a b c : World} {u v x : Value} (h : Gr a b u v) (k : Gr b c v x) : Gr a c u x :=
  ⟨⟨k.1.os.trans h.1.os, k.1.tape.trans h.1.tape, k.1.output.trans h.1.output, Nat.le_trans h.1.size k.1.size, fun i hi hne => (k.1.block i (Nat.lt_of_lt_of_le hi h.1.size) (fun e => by
      rcases h.2 i e.symm with e' | e'
      · exact hne e'.symm
      · omega)).trans (h.1.block i hi hne)⟩,
   fun i hi => by
    have hsz := h.1.size
    rcases k.2 i hi with e | e
    · exact h.2 i e
    · exact .inr (by omega)⟩
/-- A block is laid ahead. -/
theorem Gr.alloc {w w' : World} {v v' : Value} (o : Obj) (h : Gr (w.alloc o) w' v v') : Gr w w' v v' :=
  ⟨⟨h.1.os, h.1.tape, h.1.output, by have := h.1.size; simp at this; omega, fun i hi hne => by rw [h.1.block i (by simp; omega) hne, Below.heap_alloc _ _ _ hi]⟩,
   fun i hi => by
    rcases h.2 i hi with e | e
    · exact .inl e
    · simp at e; exact .inr (by omega)⟩

theorem Buf.lt {w : World} {v : Value} {l : List UInt8} (h : Buf w v l) : ∀ k, v.ownBlock = some k → k < w.heap.size := by
  intro k hk
  rcases h with ⟨rfl, _⟩ | ⟨g, cap, cs, rfl, hB, _⟩
  · simp [Value.ownBlock] at hk
  · simp [Value.ownBlock] at hk; subst hk; exact hB.lt
theorem Buf.of_heap {w w' : World} {v : Value} {l : List UInt8} (h : Buf w v l) (e : ∀ k, v.ownBlock = some k → w'.heap[k]? = w.heap[k]?) : Buf w' v l := by
  rcases h with h | ⟨g, cap, cs, rfl, hB, h2⟩
  · exact .inl h
  · exact .inr ⟨g, cap, cs, rfl, hB.of_heap (e g rfl), h2⟩
theorem Buf.alloc {w : World} {v : Value} {l : List UInt8} (h : Buf w v l) (o : Obj) : Buf (w.alloc o) v l := h.of_heap (fun k hk => Below.heap_alloc w o k (h.lt k hk))
theorem Buf.drewN {w : World} {v : Value} {l : List UInt8} (h : Buf w v l) (q : Nat) : Buf (w.drewN q) v l := h.of_heap (fun _ _ => rfl)
theorem Buf.nil (w : World) : Buf w (.slice none 0 0) [] := .inl ⟨rfl, rfl⟩

/-- 'append(b, ..)': the bytes that lie at a. -/
theorem run_append_buf {w : World} {v : Value} {l : List UInt8} (h : Buf w v l) (a : Addr) (m mc : Nat) (ns : List UInt8) (hm : ns.length = m) (h0 : 0 < m)
    (hsrc : ∀ j u, (bcells ns)[j]? = some u → w.cell? (a.add j) = some u) (hsz : l.length + m ≤ 70368744177664) :
    ∃ v' w', (∀ ty, (Builtin.append_ #[29, 29] ty #[v, .slice (some a) m mc]).run Tryd.prog w = .ok v' w') ∧ Buf w' v' (l ++ ns) ∧ Gr w w' v v' := by
  have hbl := bcells_length ns
  have grow : ∀ base n c (cs : List Value), n = l.length → cs = bcells l → c < n + m → (base = none ∧ cs = [] ∨ ∃ b : Addr, base = some b ∧ cs.length = n * 1 ∧ ∀ j v, cs[j]? = some v → w.cell? (b.add j) = some v) → ∃ v' w', (∀ ty, (Builtin.append_ #[29, 29] ty #[.slice base n c, .slice (some a) m mc]).run Tryd.prog w = .ok v' w') ∧ Buf w' v' (l ++ ns) ∧ Gr w w' (.slice base n c) v' := by
    intro base n c cs hn hcs hr hold
    have hap := fun ty => run_append_grow_blk (P := Tryd.prog) (w := w) 29 29 ty 5 _ 1 1 u29 u29 info5 (base := base) (n := n) (c := c) (m := m) (mc := mc) (cs := cs) hold a (vs := bcells ns) (by omega) hsrc (bcells_one ns) hr (by omega) (by omega)
    have hGn := grownCap_ge w (n + m) c 5
    have hG63 := grownCap_le_maxLen w (n + m) c 5 (by unfold maxLen; omega)
    unfold maxLen at hG63
    have hcl : cs.length = n := by rw [hcs, bcells_length, hn]
    refine ⟨_, _, hap, .inr ⟨w.heap.size, _, _, by rw [List.length_append, hm, ← hn], Blk.new w 5 _, ?_, by rw [List.length_append, hm, ← hn]; exact hGn, hG63, ?_, ?_⟩, grown_trans (grown_drew w _) (World.grownBy_alloc w.drew _ _), ?_⟩
    · rw [List.length_append, List.length_append, zero1_len, hbl]; omega
    · rw [List.length_append, hm, bcells_append, List.take_append_of_le_length (by rw [List.length_append]; omega), List.take_of_length_le (by rw [List.length_append]; omega), hcs]
    · intro u hu
      rcases List.mem_append.1 hu with hu | hu
      · rcases List.mem_append.1 hu with hu | hu
        · rw [hcs] at hu; exact bcells_one l u hu
        · exact bcells_one ns u hu
      · exact zero1_one _ u hu
    · intro k hk
      simp [Value.ownBlock] at hk
      exact .inr (by omega)
  rcases h with ⟨rfl, rfl⟩ | ⟨g, cap, cs, rfl, hB, h2, h3, h4, h5, h6⟩
  · exact grow none 0 0 [] rfl rfl (by omega) (.inl ⟨rfl, rfl⟩)
  · by_cases hr : l.length + m ≤ cap
    · have hap := fun ty => run_append_room_blk (P := Tryd.prog) (w := w) 29 29 ty 5 _ 1 1 u29 u29 info5 (n := l.length) (c := cap) (m := m) (mc := mc) hB a (vs := bcells ns) (by omega) hsrc (bcells_one ns) hr (by omega)
      have hse := splice_end cs (bcells ns) (l.length * 1) (by omega)
      refine ⟨_, _, hap, .inr ⟨g, cap, _, by rw [List.length_append, hm], hB.put _, ?_, by rw [List.length_append, hm]; exact hr, h4, ?_, splice_one h6 (bcells_one ns)⟩, put_grown w g _, fun k hk => .inl hk⟩
      · rw [splice_length _ _ _ (by omega), h2]
      · rw [hbl, hm, Nat.mul_one] at hse
        rw [List.length_append, hm, Nat.mul_one, hse, bcells_append, h5]
    · exact grow (some ⟨g, 0, none⟩) l.length cap (bcells l) rfl rfl (by omega) (.inr ⟨_, rfl, by rw [bcells_length]; omega, fun j u hj => by
        rw [Addr.add_lit, Nat.zero_add, hB.cell]
        rw [← h5, List.getElem?_take] at hj
        split at hj
        · exact hj
        · cases hj⟩)

end Go.Proofs.YtphbledmopchnaaDoor
