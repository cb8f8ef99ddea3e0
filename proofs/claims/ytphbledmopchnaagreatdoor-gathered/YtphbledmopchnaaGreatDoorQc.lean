import Derived.Test.YtphbledmopchnaaGreatDoorUa
import Derived.Deep.Upon
/-
  plain.Told, plain.number.
-/
namespace Go.Proofs.YtphbledmopchnaaGreatDoor
open Go.RowKit Go.Lib Go.Shelf Mm

theorem told_nil (w : World) : Calls Tryz.prog 42 #[.nilIface] w fun e w' => e = .returned (.tuple #[.int .i64 0, .int .i64 (-1)]) ∧ Below w.heap.size w w' := by
  go_enter Tryz.func42, Tryz.ntmps42
  go_wp2
  go_ret2
  exact ⟨rfl, ((Below.refl _ w).alloc (Nat.le_refl _) _).alloc (by simp) _⟩

set_option maxHeartbeats 1000000 in
theorem told_errno (x : Int) (heq : ∀ w, (binOp .eql 94 (.iface 57 (.int .i64 x)) (.iface 57 (.int .i64 x))).run Tryz.prog w = .ok (.bool true) w) (w : World) (hg : ErrAt w) :
    Calls Tryz.prog 42 #[.iface 57 (.int .i64 x)] w fun e w' => e = .returned (.tuple #[.int .i64 x, .int .i64 (-1)]) ∧ Below w.heap.size w w' := by
  obtain ⟨W1, hW1⟩ : ∃ W1, W1 = (w.alloc (.cells #[.pointer none] 133)).alloc (.cells #[.int .i64 0] 57) := ⟨_, rfl⟩
  have hs : W1.heap.size = w.heap.size + 2 := by rw [hW1]; simp
  have hb : Below w.heap.size w W1 := by rw [hW1]; exact ((Below.refl _ w).alloc (Nat.le_refl _) _).alloc (by simp) _
  have h0 : 0 < w.heap.size := World.block_lt_of_cell? _ _ hg
  have hg1 : ErrAt W1 := cell_of hg (hb.block 0 h0)
  have hB : Blk W1 (w.heap.size + 1) 57 [.int .i64 0] := by rw [hW1]; have := Blk.new (w.alloc (.cells #[.pointer none] 133)) 57 [.int .i64 0]; simpa using this
  have HM := hid (as_miss x ⟨w.heap.size, 0, none⟩ W1 hg1)
  obtain ⟨W2, hW2⟩ : ∃ W2, W2 = (((W1.alloc (.cells #[.pointer (some ⟨w.heap.size, 0, none⟩)] 135)).alloc (.cells #[.pointer (some ⟨2, 135, none⟩), .pointer (some ⟨W1.heap.size, 0, none⟩), .int .u64 150] 217)).alloc (.cells #[.pointer (some ⟨2, 135, none⟩), .pointer (some ⟨W1.heap.size, 0, none⟩), .int .u64 150] 217)) := ⟨_, rfl⟩
  have hb2 : Below W1.heap.size W1 W2 := by rw [hW2]; exact (((Below.refl _ W1).alloc (Nat.le_refl _) _).alloc (by simp) _).alloc (by simp; omega) _
  have hB2 : Blk W2 (w.heap.size + 1) 57 [.int .i64 0] := hB.of_heap (hb2.block _ (by omega))
  have hg2 : ErrAt W2 := cell_of hg1 (hb2.block 0 (by omega))
  have HH := hid (as_hit x ⟨w.heap.size + 1, 0, none⟩ (.int .i64 0) W2 hg2 (hB2.cell 0) (hB2.frozen 0))
  have HI := hid (fun w => is_same x w heq)
  obtain ⟨W3, hW3⟩ : ∃ W3, W3 = ((((W2.alloc (.cells #[.pointer (some ⟨w.heap.size + 1, 0, none⟩)] 139)).alloc (.cells #[.pointer (some ⟨2, 139, none⟩), .pointer (some ⟨W2.heap.size, 0, none⟩), .int .u64 150] 217)).alloc (.cells #[.pointer (some ⟨2, 139, none⟩), .pointer (some ⟨W2.heap.size, 0, none⟩), .int .u64 150] 217)).alloc (.cells #[.int .i64 x] 57)) := ⟨_, rfl⟩
  have hb3 : Below W2.heap.size W2 W3 := by rw [hW3]; exact ((((Below.refl _ W2).alloc (Nat.le_refl _) _).alloc (by simp) _).alloc (by simp; omega) _).alloc (by simp; omega) _
  have hB3 : Blk W3 (w.heap.size + 1) 57 [.int .i64 0] := hB2.of_heap (hb3.block _ (by have := hb2.size; omega))
  have k1 : (W3.setCell ⟨w.heap.size + 1, 0, none⟩ (.int .i64 x)).cell? ⟨w.heap.size + 1, 0, none⟩ = some (.int .i64 x) := World.cell?_setCell_same' _ _ _ (by rw [hB3.cell 0]; rfl)
  have HF : Hid (Below w.heap.size w (W3.setCell ⟨w.heap.size + 1, 0, none⟩ (.int .i64 x))) := (((hb.trans (hb2.mono (by omega))).trans (hb3.mono (by have := hb2.size; omega))).setCell (p := ⟨w.heap.size + 1, 0, none⟩) (by simp) _)
  rw [← hW2] at HM
  rw [← hW3] at HH
  have HW1 := hid hW1
  clear hW1 hW2 hW3 hs hb hg hg1 hB hb2 hB2 hg2 hb3 hB3
  go_enter Tryz.func42, Tryz.ntmps42
  go_wp2_with fail
  rw [← HW1.out]
  refine HM.out.mono ?_
  rintro e w2 ⟨rfl, hw2⟩
  subst hw2
  go_wp2_with fail
  refine HH.out.mono ?_
  rintro e w3 ⟨rfl, hw3⟩
  subst hw3
  go_wp2_with fail
  refine (HI.out _).mono ?_
  rintro e w4 ⟨rfl, hw4⟩
  subst hw4
  go_wp2
  go_ret2
  exact ⟨rfl, HF.out⟩

theorem number_of (v : Value) (x at_ : Int) (w : World) (P : World → Prop) (h : Calls Tryz.prog 42 #[v] w fun e w' => e = .returned (.tuple #[.int .i64 x, .int .i64 at_]) ∧ P w') :
    Calls Tryz.prog 60 #[v] w fun e w' => e = .returned (.int .i64 x) ∧ P w' := by
  have H := hid h
  clear h
  go_enter Tryz.func60, Tryz.ntmps60
  go_wp2_with fail
  refine H.out.mono ?_
  rintro e w2 ⟨rfl, hw2⟩
  have H2 := hid hw2
  clear hw2
  go_wp2
  go_ret
  exact ⟨rfl, H2.out⟩

end Go.Proofs.YtphbledmopchnaaGreatDoor

/-
  Slices of elements of k cells that are appended to.
-/
namespace Go.Proofs.YtphbledmopchnaaGreatDoor
open Go.RowKit Go.Lib Go.Shelf Mm

/-- A slice type and its elements. -/
structure Elt (t e : TypeId) (z : Value) (k bytes : Nat) : Prop where
  ht : Tryz.prog.underlying t = some (.slice e)
  hi : (Tryz.prog.info? e).map (fun i => (i.zero, i.size, i.bytes)) = some (some z, k, bytes)
  hz : ∀ n, (Builtin.zeroCells z.cells n).toList.length = n * k
  h1 : ∀ n, ∀ v ∈ (Builtin.zeroCells z.cells n).toList, v.oneCell' = true
  hb : bytes ≤ 104

def frZero : Value := .agg #[.int .i64 0, .int .i64 0, .int .u64 0, .int .u64 0, .int .u64 0, .bool false, .int .u64 0, .int .u64 0, .string ⟨#[]⟩, .slice none 0 0]
def rgZero : Value := .agg #[.int .u64 0, .int .u64 0]
theorem eltR : Elt 63 170 rgZero 2 16 := ⟨by kernel_rfl, by kernel_rfl, zero2_len, zero2_one, by omega⟩
theorem eltF : Elt 54 65 frZero 10 104 := ⟨by kernel_rfl, by kernel_rfl, fun n => by simp [frZero, Builtin.zeroCells, Value.cells], fun n v hv => by
  simp [frZero, Builtin.zeroCells, Value.cells] at hv
  obtain ⟨i, _, rfl⟩ := hv
  have : i % 10 = 0 ∨ i % 10 = 1 ∨ i % 10 = 2 ∨ i % 10 = 3 ∨ i % 10 = 4 ∨ i % 10 = 5 ∨ i % 10 = 6 ∨ i % 10 = 7 ∨ i % 10 = 8 ∨ i % 10 = 9 := by omega
  rcases this with h | h | h | h | h | h | h | h | h | h <;> rw [h] <;> rfl, by omega⟩

/-- A slice of n elements of the call's own; l: their cells. -/
def GBuf (e : TypeId) (k : Nat) (w : World) (v : Value) (n : Nat) (l : List Value) : Prop :=
  v = .slice none 0 0 ∧ n = 0 ∧ l = [] ∨ ∃ g cap cs, v = .slice (some ⟨g, 0, none⟩) n cap ∧ Blk w g e cs ∧ cs.length = cap * k ∧ n ≤ cap ∧ cap ≤ 9223372036854775807 ∧ l.length = n * k ∧ cs.take (n * k) = l ∧ ∀ v ∈ cs, v.oneCell' = true

theorem GBuf.len {e : TypeId} {k : Nat} {w : World} {v : Value} {n : Nat} {l : List Value} (h : GBuf e k w v n l) : l.length = n * k := by
  rcases h with ⟨_, rfl, rfl⟩ | ⟨g, cap, cs, _, _, _, _, _, h, _⟩
  · simp
  · exact h
theorem GBuf.lt {e : TypeId} {k : Nat} {w : World} {v : Value} {n : Nat} {l : List Value} (h : GBuf e k w v n l) : ∀ b, v.ownBlock = some b → b < w.heap.size := by
  intro b hb
  rcases h with ⟨rfl, _⟩ | ⟨g, cap, cs, rfl, hB, _⟩
  · simp [Value.ownBlock] at hb
  · simp [Value.ownBlock] at hb; subst hb; exact hB.lt
theorem GBuf.of_heap {e : TypeId} {k : Nat} {w w' : World} {v : Value} {n : Nat} {l : List Value} (h : GBuf e k w v n l) (he : ∀ b, v.ownBlock = some b → w'.heap[b]? = w.heap[b]?) : GBuf e k w' v n l := by
  rcases h with h | ⟨g, cap, cs, rfl, hB, h2⟩
  · exact .inl h
  · exact .inr ⟨g, cap, cs, rfl, hB.of_heap (he g rfl), h2⟩
theorem GBuf.nil (e : TypeId) (k : Nat) (w : World) : GBuf e k w (.slice none 0 0) 0 [] := .inl ⟨rfl, rfl, rfl⟩
theorem GBuf.shape {e : TypeId} {k : Nat} {w : World} {v : Value} {n : Nat} {l : List Value} (h : GBuf e k w v n l) : ∃ a c, v = .slice a n c ∧ n ≤ c := by
  rcases h with ⟨rfl, rfl, _⟩ | ⟨g, cap, cs, rfl, _, _, h, _⟩
  · exact ⟨_, _, rfl, Nat.le_refl _⟩
  · exact ⟨_, _, rfl, h⟩
/-- One of its cells. -/
theorem GBuf.cell {e : TypeId} {k : Nat} {w : World} {v : Value} {n : Nat} {l : List Value} (h : GBuf e k w v n l) {a : Option Addr} {c : Nat} (hv : v = .slice a n c) (j : Nat) (x : Value) (hx : l[j]? = some x) : ∃ g, a = some ⟨g, 0, none⟩ ∧ w.cell? ⟨g, j, none⟩ = some x ∧ w.frozen? ⟨g, j, none⟩ = false := by
  rcases h with ⟨_, rfl, rfl⟩ | ⟨g, cap, cs, rfl, hB, _, _, _, h4, h5, _⟩
  · simp at hx
  · simp at hv
    refine ⟨g, hv.1.symm, ?_, hB.frozen j⟩
    rw [hB.cell]
    rw [← h5, List.getElem?_take] at hx
    split at hx
    · exact hx
    · cases hx

/-- 'append(v, ..)' of m elements that lie at a. -/
theorem run_append_gbuf {t e : TypeId} {z : Value} {k bytes : Nat} (E : Elt t e z k bytes) {w : World} {v : Value} {n : Nat} {l : List Value} (h : GBuf e k w v n l) (a : Addr) (m mc : Nat) (ns : List Value) (hm : ns.length = m * k) (h0 : 0 < m)
    (h1 : ∀ v ∈ ns, v.oneCell' = true) (hsrc : ∀ j u, ns[j]? = some u → w.cell? (a.add j) = some u) (hsz : n + m ≤ 1000000000000) :
    ∃ v' w', (∀ ty, (Builtin.append_ #[t, t] ty #[v, .slice (some a) m mc]).run Tryz.prog w = .ok v' w') ∧ GBuf e k w' v' (n + m) (l ++ ns) ∧ Gr w w' v v' := by
  have hbig : (n + m) * bytes ≤ 140737488355328 := Nat.le_trans (Nat.mul_le_mul hsz E.hb) (by decide)
  have hll := h.len
  have hk : (n + m) * k = n * k + m * k := Nat.add_mul _ _ _
  have grow : ∀ base c (cs : List Value), cs = l → c < n + m → (base = none ∧ cs = [] ∨ ∃ b : Addr, base = some b ∧ cs.length = n * k ∧ ∀ j v, cs[j]? = some v → w.cell? (b.add j) = some v) → (∀ v ∈ cs, v.oneCell' = true) → ∃ v' w', (∀ ty, (Builtin.append_ #[t, t] ty #[.slice base n c, .slice (some a) m mc]).run Tryz.prog w = .ok v' w') ∧ GBuf e k w' v' (n + m) (l ++ ns) ∧ Gr w w' (.slice base n c) v' := by
    intro base c cs hcs hr hold hone
    have hap := fun ty => run_append_grow_blk (P := Tryz.prog) (w := w) t t ty e _ k bytes E.ht E.ht E.hi (base := base) (n := n) (c := c) (m := m) (mc := mc) (cs := cs) hold a (vs := ns) hm hsrc h1 hr hbig (by omega)
    have hGn := grownCap_ge w (n + m) c e
    have hG63 := grownCap_le_maxLen w (n + m) c e (by unfold maxLen; omega)
    unfold maxLen at hG63
    have hcl : cs.length = n * k := by rw [hcs, hll]
    refine ⟨_, _, hap, .inr ⟨w.heap.size, _, _, rfl, Blk.new w e _, ?_, hGn, hG63, by rw [List.length_append]; omega, ?_, ?_⟩, grown_trans (grown_drew w _) (World.grownBy_alloc w.drew _ _), ?_⟩
    · rw [List.length_append, List.length_append, E.hz, hcl, hm]
      have : (grownCap w (n + m) c e - (n + m)) * k + (n + m) * k = grownCap w (n + m) c e * k := by rw [← Nat.add_mul]; congr 1; omega
      omega
    · rw [List.take_append_of_le_length (by rw [List.length_append]; omega), List.take_of_length_le (by rw [List.length_append]; omega), hcs]
    · intro u hu
      rcases List.mem_append.1 hu with hu | hu
      · rcases List.mem_append.1 hu with hu | hu
        · exact hone u hu
        · exact h1 u hu
      · exact E.h1 _ u hu
    · intro b hb
      simp [Value.ownBlock] at hb
      exact .inr (by omega)
  rcases h with ⟨rfl, rfl, rfl⟩ | ⟨g, cap, cs, rfl, hB, h2, h3, h4, h5, h6, h7⟩
  · exact grow none 0 [] rfl (by omega) (.inl ⟨rfl, rfl⟩) (fun v hv => by simp at hv)
  · by_cases hr : n + m ≤ cap
    · have hfit : (n + m) * k ≤ cap * k := Nat.mul_le_mul_right _ hr
      have hap := fun ty => run_append_room_blk (P := Tryz.prog) (w := w) t t ty e _ k bytes E.ht E.ht E.hi (n := n) (c := cap) (m := m) (mc := mc) hB a (vs := ns) hm hsrc h1 hr (by omega)
      have hse := splice_end cs ns (n * k) (by omega)
      refine ⟨_, _, hap, .inr ⟨g, cap, _, rfl, hB.put _, ?_, hr, h4, by rw [List.length_append]; omega, ?_, splice_one h7 h1⟩, put_grown w g _, fun b hb => .inl hb⟩
      · rw [splice_length _ _ _ (by omega), h2]
      · rw [hk, ← hm, hse, h6]
    · exact grow (some ⟨g, 0, none⟩) cap l rfl (by omega) (.inr ⟨_, rfl, h5, fun j u hj => by
        rw [Addr.add_lit, Nat.zero_add, hB.cell]
        rw [← h6, List.getElem?_take] at hj
        split at hj
        · exact hj
        · cases hj⟩) (fun u hu => h7 u (by rw [← h6] at hu; exact List.mem_of_mem_take hu))

/-- 'append(nil, s...)', s a slice without elements. -/
theorem run_append_none {t e : TypeId} {z : Value} {k bytes : Nat} (E : Elt t e z k bytes) (w : World) (a : Option Addr) (c : Nat) (ty : TypeId) :
    (Builtin.append_ #[t, t] ty #[.slice none 0 0, .slice a 0 c]).run Tryz.prog w = .ok (.slice none 0 0) w := by
  obtain ⟨i, hi, hz, hs, _⟩ := info_parts E.hi
  have hf : (Builtin.firstCells i.size 0 (.slice a 0 c)).run Tryz.prog w = .ok #[] w := by
    cases a with
    | none => exact run_firstCells_none w i.size 0 0 c
    | some b => exact run_firstCells_some w i.size 0 b 0 c [] (by simp) (fun j v hj => by simp at hj)
  simp [Builtin.append_, run_underlying E.ht, sizeOf, typeInfo, hi, Builtin.lenOf, hf]

end Go.Proofs.YtphbledmopchnaaGreatDoor

/-
  plain.copied: what a copy is.
-/
namespace Go.Proofs.YtphbledmopchnaaGreatDoor
open Go.RowKit Go.Lib Go.Shelf Mm

/-- The cells of ranges, of a frame, of frames. -/
def rcells : List (Nat × Nat) → List Value
  | [] => []
  | r :: t => .int .u64 (r.1 : Int) :: .int .u64 (r.2 : Int) :: rcells t
def fcells (f : Fr) (v : Value) : List Value := [.int .i64 f.kind, .int .i64 f.stream, .int .u64 (f.offset : Int), .int .u64 (f.reliable : Int), .int .u64 (f.limit : Int), .bool f.fin, .int .u64 (f.id : Int), .int .u64 (f.deadline : Int), .string f.data, v]
def fcsTo (fs : List Fr) (v9 : Nat → Value) : Nat → List Value
  | 0 => []
  | k + 1 => fcsTo fs v9 k ++ fcells (fs.getD k fr0) (v9 k)

theorem rcells_len : ∀ rs, (rcells rs).length = rs.length * 2
  | [] => rfl
  | r :: t => by simp [rcells, rcells_len t]; omega
theorem rcells_one : ∀ rs, ∀ v ∈ rcells rs, v.oneCell' = true
  | [], v, hv => by simp [rcells] at hv
  | r :: t, v, hv => by
    simp [rcells] at hv
    rcases hv with rfl | rfl | hv
    · rfl
    · rfl
    · exact rcells_one t v hv
theorem rcells_get : ∀ (rs : List (Nat × Nat)) j, j < rs.length → (rcells rs)[j * 2]? = some (.int .u64 ((rs.getD j (0, 0)).1 : Int)) ∧ (rcells rs)[j * 2 + 1]? = some (.int .u64 ((rs.getD j (0, 0)).2 : Int))
  | [], j, h => by simp at h
  | r :: t, 0, h => by simp [rcells]
  | r :: t, j + 1, h => by
    have := rcells_get t j (by simpa using h)
    rw [show (j + 1) * 2 = j * 2 + 1 + 1 by omega]
    simp only [rcells, List.getElem?_cons_succ, List.getD_cons_succ]
    exact this
theorem rcells_append : ∀ a b, rcells (a ++ b) = rcells a ++ rcells b
  | [], b => rfl
  | r :: t, b => by simp [rcells, rcells_append t b]
theorem fcsTo_len (fs : List Fr) (v9 : Nat → Value) : ∀ k, (fcsTo fs v9 k).length = k * 10
  | 0 => rfl
  | k + 1 => by rw [fcsTo, List.length_append, fcsTo_len fs v9 k]; simp [fcells]; omega
theorem fcsTo_get (fs : List Fr) (v9 : Nat → Value) : ∀ k j i, j < k → i < 10 → (fcsTo fs v9 k)[j * 10 + i]? = (fcells (fs.getD j fr0) (v9 j))[i]?
  | 0, j, i, h, _ => by omega
  | k + 1, j, i, h, hi => by
    have hl := fcsTo_len fs v9 k
    rw [fcsTo]
    by_cases e : j = k
    · subst e
      rw [List.getElem?_append_right (by omega)]
      congr 1; omega
    · rw [List.getElem?_append_left (by omega)]
      exact fcsTo_get fs v9 k j i (by omega) hi
theorem fcsTo_congr (fs : List Fr) (v9 v9' : Nat → Value) : ∀ k, (∀ j, j < k → v9 j = v9' j) → fcsTo fs v9 k = fcsTo fs v9' k
  | 0, _ => rfl
  | k + 1, h => by rw [fcsTo, fcsTo, fcsTo_congr fs v9 v9' k (fun j hj => h j (by omega)), h k (by omega)]

/-- Numbers that fit. -/
structure FrOk (f : Fr) : Prop where
  rlen : f.ranges.length ≤ 1000000000
  dlen : f.data.size ≤ 1000000000
  k0 : -9223372036854775808 ≤ f.kind ∧ f.kind ≤ 9223372036854775807
  s0 : -9223372036854775808 ≤ f.stream ∧ f.stream ≤ 9223372036854775807
  u0 : f.offset < 18446744073709551616 ∧ f.reliable < 18446744073709551616 ∧ f.limit < 18446744073709551616 ∧ f.id < 18446744073709551616 ∧ f.deadline < 18446744073709551616
  r0 : ∀ j, j < f.ranges.length → (f.ranges.getD j (0, 0)).1 < 18446744073709551616 ∧ (f.ranges.getD j (0, 0)).2 < 18446744073709551616

theorem FrAt.ok {w : World} {b off : Nat} {f : Fr} {ra : Option Addr} {rc : Nat} (h : FrAt w b off f ra rc) : FrOk f :=
  ⟨h.rlen, h.dlen, h.k0, h.s0, h.u0, fun j hj => by obtain ⟨_, _, _, _, _, h1, h2⟩ := h.rng j hj; exact ⟨h1, h2⟩⟩

/-- The first k frames of a copy. -/
structure CpTo (B : Nat) (w : World) (s : Value) (fs : List Fr) (v9 : Nat → Value) (k : Nat) : Prop where
  buf : GBuf 65 10 w s k (fcsTo fs v9 k)
  own : Own B s
  rng : ∀ j, j < k → GBuf 170 2 w (v9 j) (fs.getD j fr0).ranges.length (rcells (fs.getD j fr0).ranges) ∧ Own B (v9 j) ∧ ∀ b, (v9 j).ownBlock = some b → s.ownBlock ≠ some b

def raOf : Value → Option Addr
  | .slice a _ _ => a
  | _ => none
def rcOf : Value → Nat
  | .slice _ _ c => c
  | _ => 0

/-- A copy is frames in memory. -/
theorem CpTo.frs {B : Nat} {w : World} {s : Value} {fs : List Fr} {v9 : Nat → Value} (h : CpTo B w s fs v9 fs.length) (hok : ∀ j, j < fs.length → FrOk (fs.getD j fr0)) :
    ∃ fa fc, s = .slice fa fs.length fc ∧ FrsAt w fa fs (fun j => raOf (v9 j)) (fun j => rcOf (v9 j)) := by
  obtain ⟨fa, fc, hs, _⟩ := h.buf.shape
  refine ⟨fa, fc, hs, fun j hj => ?_⟩
  have hget := fun i hi => fcsTo_get fs v9 fs.length j i hj hi
  have hc := fun i (hi : i < 10) x (hx : (fcells (fs.getD j fr0) (v9 j))[i]? = some x) => h.buf.cell hs (j * 10 + i) x (by rw [hget i hi]; exact hx)
  obtain ⟨g, hfa, c0, _⟩ := hc 0 (by omega) _ rfl
  subst hfa
  obtain ⟨g', e', c1, _⟩ := hc 1 (by omega) _ rfl
  cases e'
  obtain ⟨g', e', c2, _⟩ := hc 2 (by omega) _ rfl
  cases e'
  obtain ⟨g', e', c3, _⟩ := hc 3 (by omega) _ rfl
  cases e'
  obtain ⟨g', e', c4, _⟩ := hc 4 (by omega) _ rfl
  cases e'
  obtain ⟨g', e', c5, _⟩ := hc 5 (by omega) _ rfl
  cases e'
  obtain ⟨g', e', c6, _⟩ := hc 6 (by omega) _ rfl
  cases e'
  obtain ⟨g', e', c7, _⟩ := hc 7 (by omega) _ rfl
  cases e'
  obtain ⟨g', e', c8, _⟩ := hc 8 (by omega) _ rfl
  cases e'
  obtain ⟨g', e', c9, _⟩ := hc 9 (by omega) _ rfl
  cases e'
  obtain ⟨hR, _, _⟩ := h.rng j hj
  obtain ⟨ra, rc, hv, hle⟩ := hR.shape
  have ok := hok j hj
  refine ⟨g, 0, rfl, ⟨by rw [Nat.zero_add]; exact c0, by rw [Nat.zero_add]; exact c1, by rw [Nat.zero_add]; exact c2, by rw [Nat.zero_add]; exact c3, by rw [Nat.zero_add]; exact c4, by rw [Nat.zero_add]; exact c5, by rw [Nat.zero_add]; exact c6, by rw [Nat.zero_add]; exact c7, by rw [Nat.zero_add]; exact c8, ?_, ?_, ok.rlen, ok.dlen, ok.k0, ok.s0, ok.u0⟩, ?_, ?_⟩
  · rw [Nat.zero_add, c9]
    simp only [hv, raOf, rcOf]
  · intro i hi
    obtain ⟨r1, r2⟩ := rcells_get _ i hi
    obtain ⟨b1, e1, d1, _⟩ := hR.cell hv _ _ r1
    obtain ⟨b2, e2, d2, _⟩ := hR.cell hv _ _ r2
    rw [e1] at e2
    cases e2
    refine ⟨b1, 0, by simp only [hv]; exact e1, by rw [Nat.zero_add]; exact d1, by rw [Nat.zero_add]; exact d2, ok.r0 i hi⟩
  · simp only [hv]; exact hle
  · intro x hx
    simp only [hv] at hx
    refine hR.lt x.block ?_
    have hra : ra = some x := hx
    rw [hv, hra]
    rfl

end Go.Proofs.YtphbledmopchnaaGreatDoor

/-
  plain.copied.
-/
namespace Go.Proofs.YtphbledmopchnaaGreatDoor
open Go.RowKit Go.Lib Go.Shelf Mm

/-- The ranges are copied. -/
theorem copy_rng {W1 : World} (rs : List (Nat × Nat)) (ra : Option Addr) (rc : Nat) (hR : RngAt W1 ra rs) (hl : rs.length ≤ 1000000000) :
    ∃ a' c' W2, (∀ ty, (Builtin.append_ #[63, 63] ty #[.slice none 0 0, .slice ra rs.length rc]).run Tryz.prog W1 = .ok (.slice a' rs.length c') W2) ∧ GBuf 170 2 W2 (.slice a' rs.length c') rs.length (rcells rs) ∧ Gr W1 W2 (.slice none 0 0) (.slice a' rs.length c') := by
  cases rs with
  | nil => exact ⟨none, 0, W1, fun ty => run_append_none eltR W1 ra rc ty, GBuf.nil _ _ _, Gr.refl _ _⟩
  | cons r t =>
    obtain ⟨b, off, ha, _⟩ := hR 0 (by simp)
    subst ha
    obtain ⟨v', w', h1, h2, h3⟩ := run_append_gbuf eltR (GBuf.nil 170 2 W1) ⟨b, off, none⟩ (r :: t).length rc (rcells (r :: t)) (rcells_len _) (by simp) (rcells_one _) (fun j u hu => by
      have hjl : j < (r :: t).length * 2 := by
        have := (List.getElem?_eq_some_iff.1 hu).1
        rwa [rcells_len] at this
      have hj2 : j / 2 < (r :: t).length := by omega
      obtain ⟨b', off', e, c1, c2, _⟩ := hR (j / 2) hj2
      simp at e
      obtain ⟨rfl, rfl⟩ := e
      obtain ⟨g1, g2⟩ := rcells_get (r :: t) (j / 2) hj2
      rw [Addr.add_lit]
      rcases Nat.mod_two_eq_zero_or_one j with hm | hm
      · rw [show j = j / 2 * 2 by omega] at hu
        rw [g1] at hu
        rw [show off + j = off + j / 2 * 2 by omega, c1]
        exact hu
      · rw [show j = j / 2 * 2 + 1 by omega] at hu
        rw [g2] at hu
        rw [show off + j = off + j / 2 * 2 + 1 by omega, c2]
        exact hu) (by omega)
    rw [Nat.zero_add, List.nil_append] at h2
    obtain ⟨a', c', hv, _⟩ := h2.shape
    subst hv
    exact ⟨a', c', w', h1, h2, h3⟩

theorem Own.mono {A B : Nat} {v : Value} (h : Own B v) (hA : A ≤ B) : Own A v := fun k hk => Nat.le_trans hA (h k hk)

theorem fcells_one (f : Fr) (a : Option Addr) (n c : Nat) : ∀ v ∈ fcells f (.slice a n c), v.oneCell' = true := by
  intro v hv
  simp [fcells] at hv
  rcases hv with h | h | h | h | h | h | h | h | h | h <;> subst h <;> rfl

/-- One frame more is copied. -/
theorem copy_step {B : Nat} {wr : World} {u3 : Value} {fs : List Fr} {v9 : Nat → Value} {k : Nat} (hk : k < fs.length) (hl : fs.length ≤ 1000000000) (hc : CpTo B wr u3 fs v9 k) (hB : B ≤ wr.heap.size) (f : Fr) (hf : fs.getD k fr0 = f) (ra : Option Addr) (rc : Nat)
    (hR : RngAt wr ra f.ranges) (hrl : f.ranges.length ≤ 1000000000) :
    ∃ a' c' W2 v'' W5, (∀ ty, (Builtin.append_ #[63, 63] ty #[.slice none 0 0, .slice ra f.ranges.length rc]).run Tryz.prog (wr.alloc (.cells #[.int .i64 f.kind, .int .i64 f.stream, .int .u64 (f.offset : Int), .int .u64 (f.reliable : Int), .int .u64 (f.limit : Int), .bool f.fin, .int .u64 (f.id : Int), .int .u64 (f.deadline : Int), .string f.data, .slice ra f.ranges.length rc] 65)) = .ok (.slice a' f.ranges.length c') W2) ∧
      Blk W2 wr.heap.size 65 (fcells f (.slice ra f.ranges.length rc)) ∧
      (∀ ty, (Builtin.append_ #[54, 54] ty #[u3, .slice (some ⟨W2.heap.size, 0, none⟩) 1 1]).run Tryz.prog ((W2.setCell ⟨wr.heap.size, 9, none⟩ (.slice a' f.ranges.length c')).alloc (.cells #[.int .i64 f.kind, .int .i64 f.stream, .int .u64 (f.offset : Int), .int .u64 (f.reliable : Int), .int .u64 (f.limit : Int), .bool f.fin, .int .u64 (f.id : Int), .int .u64 (f.deadline : Int), .string f.data, .slice a' f.ranges.length c'] 65)) = .ok v'' W5) ∧
      CpTo B W5 v'' fs (fun j => if j = k then .slice a' f.ranges.length c' else v9 j) (k + 1) ∧ Below B wr W5 := by
  obtain ⟨W1, hW1⟩ : ∃ W1, W1 = wr.alloc (.cells #[.int .i64 f.kind, .int .i64 f.stream, .int .u64 (f.offset : Int), .int .u64 (f.reliable : Int), .int .u64 (f.limit : Int), .bool f.fin, .int .u64 (f.id : Int), .int .u64 (f.deadline : Int), .string f.data, .slice ra f.ranges.length rc] 65) := ⟨_, rfl⟩
  rw [← hW1]
  have hs1 : W1.heap.size = wr.heap.size + 1 := by rw [hW1]; simp
  have hb1 : Below wr.heap.size wr W1 := by rw [hW1]; exact (Below.refl _ _).alloc (Nat.le_refl _) _
  have hF1 : Blk W1 wr.heap.size 65 (fcells f (.slice ra f.ranges.length rc)) := by rw [hW1]; exact Blk.new wr 65 _
  obtain ⟨a', c', W2, hrun1, hG2, hGr2⟩ := copy_rng f.ranges ra rc (hR.below hb1) hrl
  have hb2 : Below W1.heap.size W1 W2 := hGr2.below (Own.nil _) (Nat.le_refl _)
  have hO2 : Own W1.heap.size (.slice a' f.ranges.length c') := hGr2.own (Own.nil _) (Nat.le_refl _)
  have hs2 := hb2.size
  have hF2 : Blk W2 wr.heap.size 65 (fcells f (.slice ra f.ranges.length rc)) := hF1.of_heap (hb2.block _ (by omega))
  obtain ⟨W3, hW3⟩ : ∃ W3, W3 = W2.setCell ⟨wr.heap.size, 9, none⟩ (.slice a' f.ranges.length c') := ⟨_, rfl⟩
  have hs3 : W3.heap.size = W2.heap.size := by rw [hW3]; simp
  have h3 : ∀ b, b ≠ wr.heap.size → W3.heap[b]? = W2.heap[b]? := fun b hb => by rw [hW3]; exact Below.heap_setCell _ _ _ _ hb
  have hb2' : Below wr.heap.size W1 W2 := hb2.mono (by omega)
  have hb13 : Below wr.heap.size W1 W3 := by rw [hW3]; exact hb2'.setCell (p := ⟨wr.heap.size, 9, none⟩) (Nat.le_refl _) _
  obtain ⟨W4, hW4⟩ : ∃ W4, W4 = W3.alloc (.cells #[.int .i64 f.kind, .int .i64 f.stream, .int .u64 (f.offset : Int), .int .u64 (f.reliable : Int), .int .u64 (f.limit : Int), .bool f.fin, .int .u64 (f.id : Int), .int .u64 (f.deadline : Int), .string f.data, .slice a' f.ranges.length c'] 65) := ⟨_, rfl⟩
  have hs4 : W4.heap.size = W2.heap.size + 1 := by rw [hW4]; simp [hs3]
  have h4 : ∀ b, b < W3.heap.size → W4.heap[b]? = W3.heap[b]? := fun b hb => by rw [hW4]; exact Below.heap_alloc _ _ _ hb
  have hF4 : Blk W4 W2.heap.size 65 (fcells f (.slice a' f.ranges.length c')) := by rw [hW4, ← hs3]; exact Blk.new W3 65 _
  have hold : ∀ b, b < wr.heap.size → W4.heap[b]? = wr.heap[b]? := fun b hb => by rw [h4 b (by omega), h3 b (by omega), hb2.block b (by omega), hb1.block b hb]
  have hu3 := hc.buf.lt
  have hbuf4 : GBuf 65 10 W4 u3 k (fcsTo fs v9 k) := hc.buf.of_heap (fun b hb => hold b (hu3 b hb))
  obtain ⟨v'', W5, hrun2, hG5, hGr5⟩ := run_append_gbuf eltF hbuf4 ⟨W2.heap.size, 0, none⟩ 1 1 (fcells f (.slice a' f.ranges.length c')) (by simp [fcells]) (by omega) (fcells_one f _ _ _) (fun j u hu => by rw [Addr.add_lit, Nat.zero_add, hF4.cell]; exact hu) (by omega)
  have hb5 : Below B W4 W5 := hGr5.below hc.own (by omega)
  refine ⟨a', c', W2, v'', W5, hrun1, hF2, ?_, ⟨?_, hGr5.own hc.own (by omega), fun j hj => ?_⟩, ?_⟩
  · rw [← hW3, ← hW4]; exact hrun2
  · have e : fcsTo fs (fun j => if j = k then .slice a' f.ranges.length c' else v9 j) (k + 1) = fcsTo fs v9 k ++ fcells f (.slice a' f.ranges.length c') := by
      rw [fcsTo, hf, fcsTo_congr fs _ v9 k (fun j hj => by rw [if_neg (by omega)]), if_pos rfl]
    rw [e]
    exact hG5
  · by_cases e : j = k
    · subst e
      simp only [if_true]
      rw [hf]
      have hlt := hG2.lt
      refine ⟨hG2.of_heap (fun b hb => ?_), fun b hb => by have := hO2 b hb; omega, fun b hb e => ?_⟩
      · have := hO2 b hb
        have := hlt b hb
        rw [hGr5.1.block b (by omega) (fun e => by have := hu3 b e.symm; omega), h4 b (by omega), h3 b (by omega)]
      · have := hO2 b hb
        have := hlt b hb
        rcases hGr5.2 b e with e' | e'
        · have := hu3 b e'; omega
        · omega
    · simp only [if_neg e]
      obtain ⟨r1, r2, r3⟩ := hc.rng j (by omega)
      have hlt := r1.lt
      refine ⟨r1.of_heap (fun b hb => ?_), r2, fun b hb e' => ?_⟩
      · have := hlt b hb
        rw [hGr5.1.block b (by omega) (fun e => r3 b hb e.symm), hold b this]
      · have := hlt b hb
        rcases hGr5.2 b e' with e' | e'
        · exact r3 b hb e'
        · omega
  · have h14 : Below B wr W4 := by
      rw [hW4]
      exact ((hb1.mono hB).trans (hb13.mono hB)).alloc (by omega) _
    exact h14.trans hb5

/-- Frames that came in: nothing is said of where an empty list of ranges lies. -/
def FrsW (w : World) (fa : Option Addr) (fs : List Fr) (ra : Nat → Option Addr) (rc : Nat → Nat) : Prop :=
  ∀ j, j < fs.length → ∃ b off, fa = some ⟨b, off, none⟩ ∧ FrAt w b (off + j * 10) (fs.getD j fr0) (ra j) (rc j)
theorem FrsW.below {w w' : World} {fa : Option Addr} {fs : List Fr} {ra : Nat → Option Addr} {rc : Nat → Nat} (h : FrsW w fa fs ra rc) (hb : Below w.heap.size w w') : FrsW w' fa fs ra rc := fun j hj => by
  obtain ⟨b, off, ha, h1⟩ := h j hj
  exact ⟨b, off, ha, h1.below hb⟩
theorem FrsAt.weak {w : World} {fa : Option Addr} {fs : List Fr} {ra : Nat → Option Addr} {rc : Nat → Nat} (h : FrsAt w fa fs ra rc) : FrsW w fa fs ra rc := fun j hj => by
  obtain ⟨b, off, ha, h1, _⟩ := h j hj
  exact ⟨b, off, ha, h1⟩

set_option maxHeartbeats 1000000 in
set_option maxRecDepth 100000 in
theorem copied_any (n : Nat) (fa : Option Addr) (fs : List Fr) (fc : Nat) (ra : Nat → Option Addr) (rc : Nat → Nat) (w : World) (hl : fs.length ≤ 1000000000) (hF : FrsW w fa fs ra rc) :
    Calls Tryz.prog 123 #[.agg #[.int .u64 (n : Int), .slice fa fs.length fc]] w fun e w' => ∃ s v9, e = .returned (.agg #[.int .u64 (n : Int), s]) ∧ CpTo (w.heap.size + 2) w' s fs v9 fs.length ∧ Below w.heap.size w w' := by
  have HF := hid hF
  clear hF
  go_enter Tryz.func123, Tryz.ntmps123
  go_wp2_with fail
  obtain ⟨W0, hW0⟩ : ∃ W0, W0 = (w.alloc (.cells #[.int .u64 (n : Int), .slice fa fs.length fc] 56)).alloc (.cells #[.int .u64 0, .slice none 0 0] 56) := ⟨_, rfl⟩
  have hs0 : W0.heap.size = w.heap.size + 2 := by rw [hW0]; simp
  have hb0 : Below w.heap.size w W0 := by rw [hW0]; exact ((Below.refl _ w).alloc (Nat.le_refl _) _).alloc (by simp) _
  have hA0 : Blk W0 w.heap.size 56 [.int .u64 (n : Int), .slice fa fs.length fc] := by rw [hW0]; exact (Blk.new w 56 _).alloc _
  have hR0 : Blk W0 (w.heap.size + 1) 56 [.int .u64 0, .slice none 0 0] := by rw [hW0]; have := Blk.new (w.alloc (.cells #[.int .u64 (n : Int), .slice fa fs.length fc] 56)) 56 [.int .u64 0, .slice none 0 0]; simpa using this
  rw [← hW0]
  have HW := hid (And.intro hs0 (And.intro hb0 (And.intro hA0 hR0)))
  clear hW0 hs0 hb0 hA0 hR0
  go_loopw [3, 9] (fun s3 s9 wr => ∃ k : Nat, k ≤ fs.length ∧ s9 = .int .i64 k ∧ Hid (∃ v9, CpTo (w.heap.size + 2) wr s3 fs v9 k ∧ Below (w.heap.size + 2) W0 wr)) (fun _ s9 _ => fs.length - (intOf s9).toNat)
  case atStart => exact ⟨0, Nat.zero_le _, rfl, fun _ => .bool false, ⟨GBuf.nil _ _ _, Own.nil _, fun j hj => absurd hj (Nat.not_lt_zero _)⟩, Below.refl _ _⟩
  case round =>
    obtain ⟨k, hk, rfl, HI⟩ := hrel
    by_cases hlt : k < fs.length
    · have hlt' : (k : Int) < (fs.length : Int) := by omega
      obtain ⟨v9, hCp, hb⟩ := HI.out
      obtain ⟨hs0, hb0, hA0, hR0⟩ := HW.out
      have hszr : w.heap.size + 2 ≤ wr.heap.size := by rw [← hs0]; exact hb.size
      have hbw : Below w.heap.size w wr := hb0.trans (hb.mono (by omega))
      obtain ⟨b, off, ha, hFr0⟩ := HF.out k hlt
      have hFr := hFr0.below hbw
      subst ha
      obtain ⟨a', c', W2, v'', W5, run1, hF2, run2, hCp', hb'⟩ := copy_step hlt hl hCp hszr _ rfl (ra k) (rc k) hFr.rng hFr.rlen
      have HI' : Hid (∃ v9, CpTo (w.heap.size + 2) W5 v'' fs v9 (k + 1) ∧ Below (w.heap.size + 2) W0 W5) := ⟨_, hCp', hb.trans hb'⟩
      have c0 := hFr.c0
      have c1 := hFr.c1
      have c2 := hFr.c2
      have c3 := hFr.c3
      have c4 := hFr.c4
      have c5 := hFr.c5
      have c6 := hFr.c6
      have c7 := hFr.c7
      have c8 := hFr.c8
      have c9 := hFr.c9
      generalize fs.getD k fr0 = F at c0 c1 c2 c3 c4 c5 c6 c7 c8 c9 run1 run2 hF2
      have d0 : W2.cell? ⟨wr.heap.size, 0, none⟩ = some (.int .i64 F.kind) := hF2.cell 0
      have d1 : W2.cell? ⟨wr.heap.size, 1, none⟩ = some (.int .i64 F.stream) := hF2.cell 1
      have d2 : W2.cell? ⟨wr.heap.size, 2, none⟩ = some (.int .u64 (F.offset : Int)) := hF2.cell 2
      have d3 : W2.cell? ⟨wr.heap.size, 3, none⟩ = some (.int .u64 (F.reliable : Int)) := hF2.cell 3
      have d4 : W2.cell? ⟨wr.heap.size, 4, none⟩ = some (.int .u64 (F.limit : Int)) := hF2.cell 4
      have d5 : W2.cell? ⟨wr.heap.size, 5, none⟩ = some (.bool F.fin) := hF2.cell 5
      have d6 : W2.cell? ⟨wr.heap.size, 6, none⟩ = some (.int .u64 (F.id : Int)) := hF2.cell 6
      have d7 : W2.cell? ⟨wr.heap.size, 7, none⟩ = some (.int .u64 (F.deadline : Int)) := hF2.cell 7
      have d8 : W2.cell? ⟨wr.heap.size, 8, none⟩ = some (.string F.data) := hF2.cell 8
      have d9 : W2.cell? ⟨wr.heap.size, 9, none⟩ = some (.slice (ra k) F.ranges.length (rc k)) := hF2.cell 9
      have z9 := hF2.frozen 9
      clear hCp hb hs0 hb0 hA0 hR0 hszr hbw hFr0 hFr hF2 hCp' hb' HI HF
      go_wp2_with (first | (at_builtin; refine Lib.wpList_append_run _ rfl _ _ _ _ rfl _ _ rfl rfl _ _ (run1 _) ?_) | (at_builtin; refine Lib.wpList_append_run _ rfl _ _ _ _ rfl _ _ rfl rfl _ _ (run2 _) ?_))
      go_roundw
      case rel => exact ⟨k + 1, by omega, by go_num, HI'⟩
      case measure => simp [intOf]; omega
    · obtain rfl : k = fs.length := by omega
      obtain ⟨v9, hCp, hb⟩ := HI.out
      obtain ⟨hs0, hb0, hA0, hR0⟩ := HW.out
      have hAr := hA0.of_heap (hb.block _ (by omega))
      have hRr := hR0.of_heap (hb.block _ (by omega))
      obtain ⟨a3, c3, hv3, _⟩ := hCp.buf.shape
      subst hv3
      have hszr : w.heap.size + 2 ≤ wr.heap.size := by rw [← hs0]; exact hb.size
      have p0 : wr.cell? ⟨w.heap.size, 0, none⟩ = some (.int .u64 (n : Int)) := hAr.cell 0
      have p1 : wr.cell? ⟨w.heap.size, 1, none⟩ = some (.slice fa fs.length fc) := hAr.cell 1
      have q0 : wr.cell? ⟨w.heap.size + 1, 0, none⟩ = some (.int .u64 0) := hRr.cell 0
      have q1 : wr.cell? ⟨w.heap.size + 1, 1, none⟩ = some (.slice none 0 0) := hRr.cell 1
      have z1 := hAr.frozen 1
      have y0 := hRr.frozen 0
      have y1 := hRr.frozen 1
      have hfin : ∀ x y z : Value, CpTo (w.heap.size + 2) (((wr.setCell ⟨w.heap.size, 1, none⟩ x).setCell ⟨w.heap.size + 1, 0, none⟩ y).setCell ⟨w.heap.size + 1, 1, none⟩ z) (.slice a3 fs.length c3) fs v9 fs.length ∧ Below w.heap.size w (((wr.setCell ⟨w.heap.size, 1, none⟩ x).setCell ⟨w.heap.size + 1, 0, none⟩ y).setCell ⟨w.heap.size + 1, 1, none⟩ z) := fun x y z => by
        have hbw : Below w.heap.size w wr := hb0.trans (hb.mono (by omega))
        have hst : ∀ b, w.heap.size + 2 ≤ b → (((wr.setCell ⟨w.heap.size, 1, none⟩ x).setCell ⟨w.heap.size + 1, 0, none⟩ y).setCell ⟨w.heap.size + 1, 1, none⟩ z).heap[b]? = wr.heap[b]? := fun b hb => by
          rw [Below.heap_setCell _ _ _ _ (by simp; omega), Below.heap_setCell _ _ _ _ (by simp; omega), Below.heap_setCell _ _ _ _ (by simp; omega)]
        refine ⟨⟨hCp.buf.of_heap (fun b hb => hst b (hCp.own b hb)), hCp.own, fun j hj => ?_⟩, ((hbw.setCell (p := ⟨w.heap.size, 1, none⟩) (Nat.le_refl _) _).setCell (p := ⟨w.heap.size + 1, 0, none⟩) (by simp) _).setCell (p := ⟨w.heap.size + 1, 1, none⟩) (by simp) _⟩
        obtain ⟨r1, r2, r3⟩ := hCp.rng j hj
        exact ⟨r1.of_heap (fun b hb => hst b (r2 b hb)), r2, r3⟩
      have HFIN := hid hfin
      clear hfin hCp hb hs0 hb0 hA0 hR0 hAr hRr HI
      go_wp2_with fail
      obtain ⟨f1, f2⟩ := HFIN.out (.slice a3 fs.length c3) (.int .u64 (n : Int)) (.slice a3 fs.length c3)
      exact bodyPost_ret (v := .agg #[.int .u64 (n : Int), .slice a3 fs.length c3]) (by simp [results, Tryz.results123, go_sem, q0, q1]) rfl ⟨_, _, rfl, f1, f2⟩

end Go.Proofs.YtphbledmopchnaaGreatDoor
