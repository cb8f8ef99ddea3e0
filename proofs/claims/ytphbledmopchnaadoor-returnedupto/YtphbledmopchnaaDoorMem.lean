/-
  MEMORY: copy, clear, append at elements of k cells, a whole block at a time. Of no program.
-/
import Derived.Deep.AppendSrc
import Derived.Lib.AppendZerosOnto
import Derived.Lib.JoinLaws
import Derived.Lib.SliceRun
import Derived.Lib.Overlaps
import Derived.WalkKit
import Derived.Deep.Draws
namespace Go.Proofs.YtphbledmopchnaaDoor.Mm
open Go.RowKit
variable {P : Program}

/-- What a block holds behind a store of cs from o on. -/
def splice (l : List Value) (o : Nat) (cs : List Value) : List Value := l.take o ++ cs ++ l.drop (o + cs.length)

theorem splice_length (l : List Value) (o : Nat) (cs : List Value) (h : o + cs.length ≤ l.length) : (splice l o cs).length = l.length := by
  simp [splice]; omega

/-- A block of cells none of which is frozen. -/
def Blk (w : World) (b : Nat) (t : TypeId) (l : List Value) : Prop := w.heap[b]? = some (.cells l.toArray t (0, 0))

theorem Blk.cell {w : World} {b : Nat} {t : TypeId} {l : List Value} (h : Blk w b t l) (j : Nat) : w.cell? ⟨b, j, none⟩ = l[j]? := by
  unfold Blk at h
  simp [World.cell?, h]
theorem Blk.frozen {w : World} {b : Nat} {t : TypeId} {l : List Value} (h : Blk w b t l) (j : Nat) : w.frozen? ⟨b, j, none⟩ = false := by
  unfold Blk at h
  simp [World.frozen?, h]
theorem Blk.shape {w : World} {b : Nat} {t : TypeId} {l : List Value} (h : Blk w b t l) : w.shape? b = some (t, l.length) := by
  unfold Blk at h
  simp [World.shape?, h]
theorem Blk.lt {w : World} {b : Nat} {t : TypeId} {l : List Value} (h : Blk w b t l) : b < w.heap.size := (Array.getElem?_eq_some_iff.1 h).1
theorem Blk.of_heap {w w' : World} {b : Nat} {t : TypeId} {l : List Value} (h : Blk w b t l) (e : w'.heap[b]? = w.heap[b]?) : Blk w' b t l := by
  unfold Blk at h ⊢; rw [e, h]
theorem Blk.drew {w : World} {b : Nat} {t : TypeId} {l : List Value} (h : Blk w b t l) : Blk w.drew b t l := h
theorem Blk.alloc {w : World} {b : Nat} {t : TypeId} {l : List Value} (h : Blk w b t l) (o : Obj) : Blk (w.alloc o) b t l :=
  h.of_heap (Below.heap_alloc w o b h.lt)
theorem Blk.new (w : World) (t : TypeId) (l : List Value) : Blk (w.alloc (.cells l.toArray t)) w.heap.size t l := by
  show (w.heap.push _)[w.heap.size]? = _
  simp

/-- A store into a block, the world behind. -/
def put (w : World) (b : Nat) (l : List Value) : World := w.setRow b l.toArray
theorem Blk.put {w : World} {b : Nat} {t : TypeId} {l : List Value} (h : Blk w b t l) (l' : List Value) : Blk (put w b l') b t l' := setRow_heap w b _ _ t _ h
theorem put_other (w : World) (b k : Nat) (l : List Value) (h : k ≠ b) : (put w b l).heap[k]? = w.heap[k]? := setRow_other w b k _ h
theorem put_grown (w : World) (b : Nat) (l : List Value) : w.grownBy (put w b l) (some b) :=
  ⟨rfl, rfl, rfl, by simp [put], fun k _ hne => put_other w b k l (fun e => hne (by rw [e]))⟩

theorem run_storeCells_blk {w : World} {g o : Nat} {t : TypeId} {l : List Value} (h : Blk w g t l) (cs : List Value) (hfit : o + cs.length ≤ l.length) (h1 : ∀ v ∈ cs, v.oneCell' = true) :
    (storeCells ⟨g, o, none⟩ cs).run P w = .ok () (put w g (splice l o cs)) := by
  have := run_storeCells_at P g o t cs 0 l.toArray w h (by simpa using hfit) h1
  simpa [put, splice] using this

theorem setCells_blk {w : World} {g o : Nat} {t : TypeId} {l : List Value} (h : Blk w g t l) (cs : List Value) (hfit : o + cs.length ≤ l.length) (h1 : ∀ v ∈ cs, v.oneCell' = true) :
    w.setCells g o cs = put w g (splice l o cs) := by
  have a := run_storeCells_blk (P := default) h cs hfit h1
  have b := run_storeCells_cells (P := default) g o cs 0 w (fun j hj => by rw [h.cell]; simp; omega) (fun j _ => h.frozen _) h1
  rw [b] at a
  simpa using a

/-- 'copy(d, s)' at elements of k cells. -/
theorem run_copy_blk {w : World} (dT sT ty elem : TypeId) {g o dLen dCap : Nat} {t : TypeId} {l : List Value} (h : Blk w g t l) (a : Addr) (sLen sCap k n : Nat) (cs : List Value)
    (hu : P.underlying dT = some (.slice elem)) (hs : (P.info? elem).map (·.size) = some k) (hn : Nat.min sLen dLen = n) (hl : cs.length = n * k)
    (hsrc : ∀ j v, cs[j]? = some v → w.cell? (a.add j) = some v) (hfit : o + cs.length ≤ l.length) (h1 : ∀ v ∈ cs, v.oneCell' = true) :
    (Builtin.copy_ #[dT, sT] ty #[.slice (some ⟨g, o, none⟩) dLen dCap, .slice (some a) sLen sCap]).run P w = .ok (goInt n) (put w g (splice l o cs)) := by
  have hst := run_storeCells_blk (P := P) (o := o) h cs hfit h1
  cases hq : P.info? elem with
  | none => simp [hq] at hs
  | some i =>
    have hi : i.size = k := by simpa [hq] using hs
    have hf := run_firstCells_some (P := P) w k n a sLen sCap cs hl hsrc
    simp [Builtin.copy_, run_underlying hu, Builtin.lenOf, sizeOf, typeInfo, hq, hi, hn, hf, hst]

/-- 'clear(s)' at elements whose zero value has the cells zs. -/
theorem run_clear_blk {w : World} (t e ty : TypeId) (z : Value) (ht : P.underlying t = some (.slice e)) (hv : ∀ w, (zeroValue e).run P w = .ok z w) {b o n c : Nat} {tb : TypeId} {l : List Value} (h : Blk w b tb l) (hn : 0 < n)
    (hfit : o + (Builtin.zeroCells z.cells n).toList.length ≤ l.length) (h1 : ∀ v ∈ (Builtin.zeroCells z.cells n).toList, v.oneCell' = true) :
    (Builtin.clear_ #[t] ty #[.slice (some ⟨b, o, none⟩) n c]).run P w = .ok (.tuple #[]) (put w b (splice l o (Builtin.zeroCells z.cells n).toList)) := by
  have hst := run_storeCells_blk (P := P) (o := o) h _ hfit h1
  obtain ⟨m, rfl⟩ : ∃ m, n = m + 1 := ⟨n - 1, by omega⟩
  simp [Builtin.clear_, run_underlying ht, hv, hst]

/-- 'append(s, v...)' where there is room. -/
theorem run_append_room_blk {w : World} (t tx ty e : TypeId) (z : Value) (k bytes : Nat) (ht : P.underlying t = some (.slice e)) (htx : P.underlying tx = some (.slice e)) (hinfo : (P.info? e).map (fun i => (i.zero, i.size, i.bytes)) = some (some z, k, bytes))
    {b n c m mc : Nat} {tb : TypeId} {l vs : List Value} (h : Blk w b tb l) (a : Addr) (hvl : vs.length = m * k) (hsrc : ∀ j v, vs[j]? = some v → w.cell? (a.add j) = some v) (h1v : ∀ v ∈ vs, v.oneCell' = true)
    (hroom : n + m ≤ c) (hl : n * k + vs.length ≤ l.length) :
    (Builtin.append_ #[t, tx] ty #[.slice (some ⟨b, 0, none⟩) n c, .slice (some a) m mc]).run P w = .ok (.slice (some ⟨b, 0, none⟩) (n + m) c) (put w b (splice l (n * k) vs)) := by
  obtain ⟨i, hi, _, hs, _⟩ := info_parts hinfo
  have hS : Src P i.size tx (.slice (some a) m mc) m vs w := by rw [hs]; exact Src.ofSlice w htx a m mc vs hvl hsrc h1v
  rw [run_append_room_src (P := P) (w := w) t tx ty e i ht hi b 0 n c _ m vs hS hroom (fun j hj => by rw [h.cell, hs]; simp; omega) (fun j _ => h.frozen _), setCells_blk h _ (by rw [hs]; omega) h1v, hs, Nat.zero_add]

/-- 'append(s, v...)' where there is none: a new block. -/
theorem run_append_grow_blk {w : World} (t tx ty e : TypeId) (z : Value) (k bytes : Nat) (ht : P.underlying t = some (.slice e)) (htx : P.underlying tx = some (.slice e)) (hinfo : (P.info? e).map (fun i => (i.zero, i.size, i.bytes)) = some (some z, k, bytes))
    {base : Option Addr} {n c m mc : Nat} {cs vs : List Value} (hold : base = none ∧ cs = [] ∨ ∃ b, base = some b ∧ cs.length = n * k ∧ ∀ j v, cs[j]? = some v → w.cell? (b.add j) = some v)
    (a : Addr) (hvl : vs.length = m * k) (hsrc : ∀ j v, vs[j]? = some v → w.cell? (a.add j) = some v) (h1v : ∀ v ∈ vs, v.oneCell' = true)
    (hroom : c < n + m) (hbig : (n + m) * bytes ≤ 140737488355328) (hn63 : n + m ≤ 9223372036854775807) :
    (Builtin.append_ #[t, tx] ty #[.slice base n c, .slice (some a) m mc]).run P w = .ok (.slice (some ⟨w.heap.size, 0, none⟩) (n + m) (grownCap w (n + m) c e))
      (w.drew.alloc (.cells (cs ++ vs ++ (Builtin.zeroCells z.cells (grownCap w (n + m) c e - (n + m))).toList).toArray e)) := by
  obtain ⟨i, hi, hz, hs, hb⟩ := info_parts hinfo
  have hS : Src P i.size tx (.slice (some a) m mc) m vs w := by rw [hs]; exact Src.ofSlice w htx a m mc vs hvl hsrc h1v
  have hO : (Builtin.firstCells i.size n (.slice base n c)).run P w.drew = .ok cs.toArray w.drew := by
    rcases hold with ⟨rfl, rfl⟩ | ⟨b, rfl, hl, hc⟩
    · exact run_firstCells_none w.drew i.size n n c
    · rw [hs]; exact run_firstCells_some w.drew k n b n c cs hl hc
  rw [run_append_grow_src (P := P) (w := w) t tx ty e i z ht hi hz base n c cs hO _ m vs hS hroom (by omega) (by rw [hb]; exact growslice_fits hroom hbig)]
  congr 3
  apply Array.ext'
  simp

/-- 'append(s[:i], make(S, k)...)' where there is no room: a new block. -/
theorem run_append_zeros_blk {w : World} (t tn ty e : TypeId) (z : Value) (k bytes : Nat) (kn kq : IntKind) (ht : P.underlying t = some (.slice e)) (htn : P.underlying tn = some (.int kn)) (hinfo : (P.info? e).map (fun i => (i.zero, i.size, i.bytes)) = some (some z, k, bytes)) (hk : 0 < k)
    (b : Addr) {n c m : Nat} {cs : List Value} (hl : cs.length = n * k) (hc : ∀ j v, cs[j]? = some v → w.cell? (b.add j) = some v)
    (hm : 0 < m) (hroom : c < n + m) (hbig : (n + m) * bytes ≤ 140737488355328) (hn63 : n + m ≤ 9223372036854775807) :
    (Builtin.append_ #[t, tn] ty #[.slice (some b) n c, .int kq (m : Nat)]).run P w = .ok (.slice (some ⟨w.heap.size, 0, none⟩) (n + m) (grownCap w (n + m) c e))
      (w.drew.alloc (.cells (cs ++ (Builtin.zeroCells z.cells m).toList ++ (Builtin.zeroCells z.cells (grownCap w (n + m) c e - (n + m))).toList).toArray e)) := by
  obtain ⟨i, hi, hz, hs, hb⟩ := info_parts hinfo
  have hO : (Builtin.firstCells i.size n (.slice (some b) n c)).run P w.drew = .ok cs.toArray w.drew := by
    rw [hs]; exact run_firstCells_some w.drew k n b n c cs hl hc
  have hmb : m * bytes ≤ (n + m) * bytes := Nat.mul_le_mul_right _ (by omega)
  rw [Lib.run_append_grow_zeros w t tn ty e i z kq kn ht htn hi hz (some b) n c cs hO m hm (by omega) hroom (by omega) (by rw [hb]; omega) (by rw [hb]; exact growslice_fits hroom hbig)]
  congr 3
  apply Array.ext'
  simp

theorem splice_get (l : List Value) (o : Nat) (cs : List Value) (h : o + cs.length ≤ l.length) (j : Nat) : (splice l o cs)[j]? = if j < o then l[j]? else if j < o + cs.length then cs[j - o]? else l[j]? := by
  unfold splice
  have ht : (l.take o).length = o := by simp; omega
  by_cases h1 : j < o
  · rw [if_pos h1, List.append_assoc, List.getElem?_append_left (by omega), List.getElem?_take, if_pos h1]
  · rw [if_neg h1]
    by_cases h2 : j < o + cs.length
    · rw [if_pos h2, List.append_assoc, List.getElem?_append_right (by omega), List.getElem?_append_left (by omega), ht]
    · rw [if_neg h2, List.getElem?_append_right (by simp; omega), List.getElem?_drop]
      congr 1
      simp; omega

/-- What stands behind the two stores of an insertion in place (a: where; m: cells of the elements; k: cells of what is inserted). -/
theorem shift_take (l vs : List Value) (a m k : Nat) (ha : a ≤ m) (hl : m + k ≤ l.length) (hv : vs.length = k) :
    (splice (splice l (a + k) ((l.drop a).take (m - a))) a vs).take (m + k) = (l.take m).take a ++ vs ++ (l.take m).drop a := by
  have hml : ((l.drop a).take (m - a)).length = m - a := by simp; omega
  have hl1 : (splice l (a + k) ((l.drop a).take (m - a))).length = l.length := splice_length _ _ _ (by omega)
  apply List.ext_getElem?
  intro j
  rw [List.getElem?_take, splice_get _ _ _ (by omega), splice_get _ _ _ (by omega), hv, hml]
  by_cases h1 : j < a
  · rw [if_pos (by omega), if_pos h1, if_pos (by omega), List.append_assoc, List.getElem?_append_left (by simp; omega), List.getElem?_take, if_pos h1, List.getElem?_take, if_pos (by omega)]
  · rw [if_neg h1]
    by_cases h2 : j < a + k
    · rw [if_pos (by omega), if_pos h2, List.append_assoc, List.getElem?_append_right (by simp; omega), List.getElem?_append_left (by simp; omega)]
      congr 1; simp; omega
    · rw [if_neg h2]
      by_cases h3 : j < m + k
      · rw [if_pos h3, if_neg h2, if_pos (by omega), List.getElem?_take, if_pos (by omega), List.getElem?_drop, List.getElem?_append_right (by simp; omega), List.getElem?_drop, List.getElem?_take, if_pos (by simp; omega)]
        congr 1; simp; omega
      · rw [if_neg h3, List.getElem?_eq_none (by simp; omega)]

/-- Two stores behind one another. -/
theorem two_take (R vs tl : List Value) (a k : Nat) (hv : vs.length = k) (hl : a + k + tl.length ≤ R.length) :
    (splice (splice R a vs) (a + k) tl).take (a + k + tl.length) = R.take a ++ vs ++ tl := by
  have hl1 : (splice R a vs).length = R.length := splice_length _ _ _ (by omega)
  apply List.ext_getElem?
  intro j
  rw [List.getElem?_take, splice_get _ _ _ (by omega), splice_get _ _ _ (by omega), hv]
  by_cases h1 : j < a
  · rw [if_pos (by omega), if_pos (by omega), if_pos h1, List.append_assoc, List.getElem?_append_left (by simp; omega), List.getElem?_take, if_pos h1]
  · rw [if_neg h1]
    by_cases h2 : j < a + k
    · rw [if_pos (by omega), if_pos h2, if_pos h2, List.append_assoc, List.getElem?_append_right (by simp; omega), List.getElem?_append_left (by simp; omega)]
      congr 1; simp; omega
    · by_cases h3 : j < a + k + tl.length
      · rw [if_pos h3, if_neg h2, if_pos h3, List.getElem?_append_right (by simp; omega)]
        congr 1; simp; omega
      · rw [if_neg h3, List.getElem?_eq_none (by simp; omega)]

theorem splice_take_below (R cs : List Value) (o a : Nat) (h : o + cs.length ≤ R.length) (ha : a ≤ o) : (splice R o cs).take a = R.take a := by
  apply List.ext_getElem?
  intro j
  rw [List.getElem?_take, List.getElem?_take, splice_get _ _ _ h]
  by_cases h1 : j < a
  · rw [if_pos h1, if_pos h1, if_pos (by omega)]
  · rw [if_neg h1, if_neg h1]

theorem splice_end (R vs : List Value) (a : Nat) (h : a + vs.length ≤ R.length) : (splice R a vs).take (a + vs.length) = R.take a ++ vs := by
  unfold splice
  rw [List.take_append_of_le_length (by simp; omega), List.take_of_length_le (by simp; omega)]

theorem splice_one {R cs : List Value} {o : Nat} (h1 : ∀ v ∈ R, v.oneCell' = true) (h2 : ∀ v ∈ cs, v.oneCell' = true) : ∀ v ∈ splice R o cs, v.oneCell' = true := by
  intro v hv
  unfold splice at hv
  rcases List.mem_append.1 hv with hv | hv
  · rcases List.mem_append.1 hv with hv | hv
    · exact h1 v (List.mem_of_mem_take hv)
    · exact h2 v hv
  · exact h1 v (List.mem_of_mem_drop hv)

theorem splice_drop_above (R cs : List Value) (o a : Nat) (h : o + cs.length ≤ R.length) (ha : o + cs.length ≤ a) : (splice R o cs).drop a = R.drop a := by
  apply List.ext_getElem?
  intro j
  rw [List.getElem?_drop, List.getElem?_drop, splice_get _ _ _ h, if_neg (by omega), if_neg (by omega)]

theorem zero2_len (n : Nat) : (Builtin.zeroCells (Value.agg #[.int .u64 0, .int .u64 0]).cells n).toList.length = n * 2 := by
  simp [Builtin.zeroCells, Value.cells]
theorem zero2_one (n : Nat) : ∀ v ∈ (Builtin.zeroCells (Value.agg #[.int .u64 0, .int .u64 0]).cells n).toList, v.oneCell' = true := by
  intro v hv
  simp [Builtin.zeroCells, Value.cells] at hv
  obtain ⟨i, _, rfl⟩ := hv
  have : i % 2 = 0 ∨ i % 2 = 1 := by omega
  rcases this with h | h <;> rw [h] <;> rfl

/-- The worlds that such a call comes to. -/
theorem grown_drew (w : World) (row : Option Nat) : w.grownBy w.drew row := ⟨rfl, rfl, rfl, Nat.le_refl _, fun _ _ _ => rfl⟩
theorem grown_drewN (w : World) (q : Nat) (row : Option Nat) : w.grownBy (w.drewN q) row := ⟨rfl, rfl, rfl, Nat.le_refl _, fun _ _ _ => rfl⟩
theorem grown_refl (w : World) (row : Option Nat) : w.grownBy w row := ⟨rfl, rfl, rfl, Nat.le_refl _, fun _ _ _ => rfl⟩
theorem grown_trans {a b c : World} {row : Option Nat} (h : a.grownBy b row) (k : b.grownBy c row) : a.grownBy c row :=
  ⟨k.os.trans h.os, k.tape.trans h.tape, k.output.trans h.output, Nat.le_trans h.size k.size, fun i hi hne => (k.block i (Nat.lt_of_lt_of_le hi h.size) hne).trans (h.block i hi hne)⟩
/-- A store into a block that the call itself has laid. -/
theorem grown_put_new {a w : World} {row : Option Nat} (h : a.grownBy w row) (b : Nat) (l : List Value) (hb : a.heap.size ≤ b) : a.grownBy (put w b l) row :=
  ⟨h.os, h.tape, h.output, Nat.le_trans h.size (by simp [put]), fun k hk hne => (put_other w b k l (by omega)).trans (h.block k hk hne)⟩

end Go.Proofs.YtphbledmopchnaaDoor.Mm
