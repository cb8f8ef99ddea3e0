import Derived.Deep.AppendSrc
import Derived.Lib.AppendZerosOnto
import Derived.Lib.JoinLaws
import Derived.Lib.SliceRun
import Derived.Lib.Overlaps
import Derived.WalkKit
import Derived.Deep.Draws
import Derived.Test.YtphbledmopchnaaGreatDoorProg
import Derived.WalkLawsBesides
import Derived.Deep.LoopGhost
import Derived.Deep.QuietTactic
import Derived.BigQuiet
import Derived.Outline
import Derived.Deep.Light
import Derived.OpenShut
import Derived.Shelf.Abstract
import Derived.Laws.EntriesVeiled
/-
  MEMORY: copy, clear, append at elements of k cells, a whole block at a time. Of no program.
-/
namespace Go.Proofs.YtphbledmopchnaaGreatDoor.Mm
open Go.RowKit
variable {P : Program}

/-- What a block holds behind a store of cs from o on. -/
def splice (l : List Value) (o : Nat) (cs : List Value) : List Value := l.take o ++ cs ++ l.drop (o + cs.length)

theorem splice_length (l : List Value) (o : Nat) (cs : List Value) (h : o + cs.length ≤ l.length) : (splice l o cs).length = l.length := by
  simp [splice]; omega

/-- A block of cells none of which is frozen. -/
def Blk (w : World) (b : Nat) (t : TypeId) (l : List Value) : Prop := w.heap[b]? = some (.cells l.toArray t (0, 0))

theorem Blk.cell {w : World} {b : Nat} {t : TypeId} {l : List Value} (h : Blk w b t l) (j : Nat) : w.cell? ⟨b, j, none⟩ = l[j]? := by
  unfold Blk at h
  simp [World.cell?, h]
theorem Blk.frozen {w : World} {b : Nat} {t : TypeId} {l : List Value} (h : Blk w b t l) (j : Nat) : w.frozen? ⟨b, j, none⟩ = false := by
  unfold Blk at h
  simp [World.frozen?, h]
theorem Blk.shape {w : World} {b : Nat} {t : TypeId} {l : List Value} (h : Blk w b t l) : w.shape? b = some (t, l.length) := by
  unfold Blk at h
  simp [World.shape?, h]
theorem Blk.lt {w : World} {b : Nat} {t : TypeId} {l : List Value} (h : Blk w b t l) : b < w.heap.size := (Array.getElem?_eq_some_iff.1 h).1
theorem Blk.of_heap {w w' : World} {b : Nat} {t : TypeId} {l : List Value} (h : Blk w b t l) (e : w'.heap[b]? = w.heap[b]?) : Blk w' b t l := by
  unfold Blk at h ⊢; rw [e, h]
theorem Blk.drew {w : World} {b : Nat} {t : TypeId} {l : List Value} (h : Blk w b t l) : Blk w.drew b t l := h
theorem Blk.alloc {w : World} {b : Nat} {t : TypeId} {l : List Value} (h : Blk w b t l) (o : Obj) : Blk (w.alloc o) b t l :=
  h.of_heap (Below.heap_alloc w o b h.lt)
theorem Blk.new (w : World) (t : TypeId) (l : List Value) : Blk (w.alloc (.cells l.toArray t)) w.heap.size t l := by
  show (w.heap.push _)[w.heap.size]? = _
  simp

/-- A store into a block, the world behind. -/
def put (w : World) (b : Nat) (l : List Value) : World := w.setRow b l.toArray
theorem Blk.put {w : World} {b : Nat} {t : TypeId} {l : List Value} (h : Blk w b t l) (l' : List Value) : Blk (put w b l') b t l' := setRow_heap w b _ _ t _ h
theorem put_other (w : World) (b k : Nat) (l : List Value) (h : k ≠ b) : (put w b l).heap[k]? = w.heap[k]? := setRow_other w b k _ h
theorem put_grown (w : World) (b : Nat) (l : List Value) : w.grownBy (put w b l) (some b) :=
  ⟨rfl, rfl, rfl, by simp [put], fun k _ hne => put_other w b k l (fun e => hne (by rw [e]))⟩

theorem run_storeCells_blk {w : World} {g o : Nat} {t : TypeId} {l : List Value} (h : Blk w g t l) (cs : List Value) (hfit : o + cs.length ≤ l.length) (h1 : ∀ v ∈ cs, v.oneCell' = true) :
    (storeCells ⟨g, o, none⟩ cs).run P w = .ok () (put w g (splice l o cs)) := by
  have := run_storeCells_at P g o t cs 0 l.toArray w h (by simpa using hfit) h1
  simpa [put, splice] using this

theorem setCells_blk {w : World} {g o : Nat} {t : TypeId} {l : List Value} (h : Blk w g t l) (cs : List Value) (hfit : o + cs.length ≤ l.length) (h1 : ∀ v ∈ cs, v.oneCell' = true) :
    w.setCells g o cs = put w g (splice l o cs) := by
  have a := run_storeCells_blk (P := default) h cs hfit h1
  have b := run_storeCells_cells (P := default) g o cs 0 w (fun j hj => by rw [h.cell]; simp; omega) (fun j _ => h.frozen _) h1
  rw [b] at a
  simpa using a

/-- 'copy(d, s)' at elements of k cells. -/
theorem run_copy_blk {w : World} (dT sT ty elem : TypeId) {g o dLen dCap : Nat} {t : TypeId} {l : List Value} (h : Blk w g t l) (a : Addr) (sLen sCap k n : Nat) (cs : List Value)
    (hu : P.underlying dT = some (.slice elem)) (hs : (P.info? elem).map (·.size) = some k) (hn : Nat.min sLen dLen = n) (hl : cs.length = n * k)
    (hsrc : ∀ j v, cs[j]? = some v → w.cell? (a.add j) = some v) (hfit : o + cs.length ≤ l.length) (h1 : ∀ v ∈ cs, v.oneCell' = true) :
    (Builtin.copy_ #[dT, sT] ty #[.slice (some ⟨g, o, none⟩) dLen dCap, .slice (some a) sLen sCap]).run P w = .ok (goInt n) (put w g (splice l o cs)) := by
  have hst := run_storeCells_blk (P := P) (o := o) h cs hfit h1
  cases hq : P.info? elem with
  | none => simp [hq] at hs
  | some i =>
    have hi : i.size = k := by simpa [hq] using hs
    have hf := run_firstCells_some (P := P) w k n a sLen sCap cs hl hsrc
    simp [Builtin.copy_, run_underlying hu, Builtin.lenOf, sizeOf, typeInfo, hq, hi, hn, hf, hst]

/-- 'clear(s)' at elements whose zero value has the cells zs. -/
theorem run_clear_blk {w : World} (t e ty : TypeId) (z : Value) (ht : P.underlying t = some (.slice e)) (hv : ∀ w, (zeroValue e).run P w = .ok z w) {b o n c : Nat} {tb : TypeId} {l : List Value} (h : Blk w b tb l) (hn : 0 < n)
    (hfit : o + (Builtin.zeroCells z.cells n).toList.length ≤ l.length) (h1 : ∀ v ∈ (Builtin.zeroCells z.cells n).toList, v.oneCell' = true) :
    (Builtin.clear_ #[t] ty #[.slice (some ⟨b, o, none⟩) n c]).run P w = .ok (.tuple #[]) (put w b (splice l o (Builtin.zeroCells z.cells n).toList)) := by
  have hst := run_storeCells_blk (P := P) (o := o) h _ hfit h1
  obtain ⟨m, rfl⟩ : ∃ m, n = m + 1 := ⟨n - 1, by omega⟩
  simp [Builtin.clear_, run_underlying ht, hv, hst]

/-- 'append(s, v...)' where there is room. -/
theorem run_append_room_blk {w : World} (t tx ty e : TypeId) (z : Value) (k bytes : Nat) (ht : P.underlying t = some (.slice e)) (htx : P.underlying tx = some (.slice e)) (hinfo : (P.info? e).map (fun i => (i.zero, i.size, i.bytes)) = some (some z, k, bytes))
    {b n c m mc : Nat} {tb : TypeId} {l vs : List Value} (h : Blk w b tb l) (a : Addr) (hvl : vs.length = m * k) (hsrc : ∀ j v, vs[j]? = some v → w.cell? (a.add j) = some v) (h1v : ∀ v ∈ vs, v.oneCell' = true)
    (hroom : n + m ≤ c) (hl : n * k + vs.length ≤ l.length) :
    (Builtin.append_ #[t, tx] ty #[.slice (some ⟨b, 0, none⟩) n c, .slice (some a) m mc]).run P w = .ok (.slice (some ⟨b, 0, none⟩) (n + m) c) (put w b (splice l (n * k) vs)) := by
  obtain ⟨i, hi, _, hs, _⟩ := info_parts hinfo
  have hS : Src P i.size tx (.slice (some a) m mc) m vs w := by rw [hs]; exact Src.ofSlice w htx a m mc vs hvl hsrc h1v
  rw [run_append_room_src (P := P) (w := w) t tx ty e i ht hi b 0 n c _ m vs hS hroom (fun j hj => by rw [h.cell, hs]; simp; omega) (fun j _ => h.frozen _), setCells_blk h _ (by rw [hs]; omega) h1v, hs, Nat.zero_add]

/-- 'append(s, v...)' where there is none: a new block. -/
theorem run_append_grow_blk {w : World} (t tx ty e : TypeId) (z : Value) (k bytes : Nat) (ht : P.underlying t = some (.slice e)) (htx : P.underlying tx = some (.slice e)) (hinfo : (P.info? e).map (fun i => (i.zero, i.size, i.bytes)) = some (some z, k, bytes))
    {base : Option Addr} {n c m mc : Nat} {cs vs : List Value} (hold : base = none ∧ cs = [] ∨ ∃ b, base = some b ∧ cs.length = n * k ∧ ∀ j v, cs[j]? = some v → w.cell? (b.add j) = some v)
    (a : Addr) (hvl : vs.length = m * k) (hsrc : ∀ j v, vs[j]? = some v → w.cell? (a.add j) = some v) (h1v : ∀ v ∈ vs, v.oneCell' = true)
    (hroom : c < n + m) (hbig : (n + m) * bytes ≤ 140737488355328) (hn63 : n + m ≤ 9223372036854775807) :
    (Builtin.append_ #[t, tx] ty #[.slice base n c, .slice (some a) m mc]).run P w = .ok (.slice (some ⟨w.heap.size, 0, none⟩) (n + m) (grownCap w (n + m) c e))
      (w.drew.alloc (.cells (cs ++ vs ++ (Builtin.zeroCells z.cells (grownCap w (n + m) c e - (n + m))).toList).toArray e)) := by
  obtain ⟨i, hi, hz, hs, hb⟩ := info_parts hinfo
  have hS : Src P i.size tx (.slice (some a) m mc) m vs w := by rw [hs]; exact Src.ofSlice w htx a m mc vs hvl hsrc h1v
  have hO : (Builtin.firstCells i.size n (.slice base n c)).run P w.drew = .ok cs.toArray w.drew := by
    rcases hold with ⟨rfl, rfl⟩ | ⟨b, rfl, hl, hc⟩
    · exact run_firstCells_none w.drew i.size n n c
    · rw [hs]; exact run_firstCells_some w.drew k n b n c cs hl hc
  rw [run_append_grow_src (P := P) (w := w) t tx ty e i z ht hi hz base n c cs hO _ m vs hS hroom (by omega) (by rw [hb]; exact growslice_fits hroom hbig)]
  congr 3
  apply Array.ext'
  simp

/-- 'append(s[:i], make(S, k)...)' where there is no room: a new block. -/
theorem run_append_zeros_blk {w : World} (t tn ty e : TypeId) (z : Value) (k bytes : Nat) (kn kq : IntKind) (ht : P.underlying t = some (.slice e)) (htn : P.underlying tn = some (.int kn)) (hinfo : (P.info? e).map (fun i => (i.zero, i.size, i.bytes)) = some (some z, k, bytes)) (hk : 0 < k)
    (b : Addr) {n c m : Nat} {cs : List Value} (hl : cs.length = n * k) (hc : ∀ j v, cs[j]? = some v → w.cell? (b.add j) = some v)
    (hm : 0 < m) (hroom : c < n + m) (hbig : (n + m) * bytes ≤ 140737488355328) (hn63 : n + m ≤ 9223372036854775807) :
    (Builtin.append_ #[t, tn] ty #[.slice (some b) n c, .int kq (m : Nat)]).run P w = .ok (.slice (some ⟨w.heap.size, 0, none⟩) (n + m) (grownCap w (n + m) c e))
      (w.drew.alloc (.cells (cs ++ (Builtin.zeroCells z.cells m).toList ++ (Builtin.zeroCells z.cells (grownCap w (n + m) c e - (n + m))).toList).toArray e)) := by
  obtain ⟨i, hi, hz, hs, hb⟩ := info_parts hinfo
  have hO : (Builtin.firstCells i.size n (.slice (some b) n c)).run P w.drew = .ok cs.toArray w.drew := by
    rw [hs]; exact run_firstCells_some w.drew k n b n c cs hl hc
  have hmb : m * bytes ≤ (n + m) * bytes := Nat.mul_le_mul_right _ (by omega)
  rw [Lib.run_append_grow_zeros w t tn ty e i z kq kn ht htn hi hz (some b) n c cs hO m hm (by omega) hroom (by omega) (by rw [hb]; omega) (by rw [hb]; exact growslice_fits hroom hbig)]
  congr 3
  apply Array.ext'
  simp

theorem splice_get (l : List Value) (o : Nat) (cs : List Value) (h : o + cs.length ≤ l.length) (j : Nat) : (splice l o cs)[j]? = if j < o then l[j]? else if j < o + cs.length then cs[j - o]? else l[j]? := by
  unfold splice
  have ht : (l.take o).length = o := by simp; omega
  by_cases h1 : j < o
  · rw [if_pos h1, List.append_assoc, List.getElem?_append_left (by omega), List.getElem?_take, if_pos h1]
  · rw [if_neg h1]
    by_cases h2 : j < o + cs.length
    · rw [if_pos h2, List.append_assoc, List.getElem?_append_right (by omega), List.getElem?_append_left (by omega), ht]
    · rw [if_neg h2, List.getElem?_append_right (by simp; omega), List.getElem?_drop]
      congr 1
      simp; omega

/-- What stands behind the two stores of an insertion in place (a: where; m: cells of the elements; k: cells of what is inserted). -/
theorem shift_take (l vs : List Value) (a m k : Nat) (ha : a ≤ m) (hl : m + k ≤ l.length) (hv : vs.length = k) :
    (splice (splice l (a + k) ((l.drop a).take (m - a))) a vs).take (m + k) = (l.take m).take a ++ vs ++ (l.take m).drop a := by
  have hml : ((l.drop a).take (m - a)).length = m - a := by simp; omega
  have hl1 : (splice l (a + k) ((l.drop a).take (m - a))).length = l.length := splice_length _ _ _ (by omega)
  apply List.ext_getElem?
  intro j
  rw [List.getElem?_take, splice_get _ _ _ (by omega), splice_get _ _ _ (by omega), hv, hml]
  by_cases h1 : j < a
  · rw [if_pos (by omega), if_pos h1, if_pos (by omega), List.append_assoc, List.getElem?_append_left (by simp; omega), List.getElem?_take, if_pos h1, List.getElem?_take, if_pos (by omega)]
  · rw [if_neg h1]
    by_cases h2 : j < a + k
    · rw [if_pos (by omega), if_pos h2, List.append_assoc, List.getElem?_append_right (by simp; omega), List.getElem?_append_left (by simp; omega)]
      congr 1; simp; omega
    · rw [if_neg h2]
      by_cases h3 : j < m + k
      · rw [if_pos h3, if_neg h2, if_pos (by omega), List.getElem?_take, if_pos (by omega), List.getElem?_drop, List.getElem?_append_right (by simp; omega), List.getElem?_drop, List.getElem?_take, if_pos (by simp; omega)]
        congr 1; simp; omega
      · rw [if_neg h3, List.getElem?_eq_none (by simp; omega)]

/-- Two stores behind one another. -/
theorem two_take (R vs tl : List Value) (a k : Nat) (hv : vs.length = k) (hl : a + k + tl.length ≤ R.length) :
    (splice (splice R a vs) (a + k) tl).take (a + k + tl.length) = R.take a ++ vs ++ tl := by
  have hl1 : (splice R a vs).length = R.length := splice_length _ _ _ (by omega)
  apply List.ext_getElem?
  intro j
  rw [List.getElem?_take, splice_get _ _ _ (by omega), splice_get _ _ _ (by omega), hv]
  by_cases h1 : j < a
  · rw [if_pos (by omega), if_pos (by omega), if_pos h1, List.append_assoc, List.getElem?_append_left (by simp; omega), List.getElem?_take, if_pos h1]
  · rw [if_neg h1]
    by_cases h2 : j < a + k
    · rw [if_pos (by omega), if_pos h2, if_pos h2, List.append_assoc, List.getElem?_append_right (by simp; omega), List.getElem?_append_left (by simp; omega)]
      congr 1; simp; omega
    · by_cases h3 : j < a + k + tl.length
      · rw [if_pos h3, if_neg h2, if_pos h3, List.getElem?_append_right (by simp; omega)]
        congr 1; simp; omega
      · rw [if_neg h3, List.getElem?_eq_none (by simp; omega)]

theorem splice_take_below (R cs : List Value) (o a : Nat) (h : o + cs.length ≤ R.length) (ha : a ≤ o) : (splice R o cs).take a = R.take a := by
  apply List.ext_getElem?
  intro j
  rw [List.getElem?_take, List.getElem?_take, splice_get _ _ _ h]
  by_cases h1 : j < a
  · rw [if_pos h1, if_pos h1, if_pos (by omega)]
  · rw [if_neg h1, if_neg h1]

theorem splice_end (R vs : List Value) (a : Nat) (h : a + vs.length ≤ R.length) : (splice R a vs).take (a + vs.length) = R.take a ++ vs := by
  unfold splice
  rw [List.take_append_of_le_length (by simp; omega), List.take_of_length_le (by simp; omega)]

theorem splice_one {R cs : List Value} {o : Nat} (h1 : ∀ v ∈ R, v.oneCell' = true) (h2 : ∀ v ∈ cs, v.oneCell' = true) : ∀ v ∈ splice R o cs, v.oneCell' = true := by
  intro v hv
  unfold splice at hv
  rcases List.mem_append.1 hv with hv | hv
  · rcases List.mem_append.1 hv with hv | hv
    · exact h1 v (List.mem_of_mem_take hv)
    · exact h2 v hv
  · exact h1 v (List.mem_of_mem_drop hv)

theorem splice_drop_above (R cs : List Value) (o a : Nat) (h : o + cs.length ≤ R.length) (ha : o + cs.length ≤ a) : (splice R o cs).drop a = R.drop a := by
  apply List.ext_getElem?
  intro j
  rw [List.getElem?_drop, List.getElem?_drop, splice_get _ _ _ h, if_neg (by omega), if_neg (by omega)]

theorem zero2_len (n : Nat) : (Builtin.zeroCells (Value.agg #[.int .u64 0, .int .u64 0]).cells n).toList.length = n * 2 := by
  simp [Builtin.zeroCells, Value.cells]
theorem zero2_one (n : Nat) : ∀ v ∈ (Builtin.zeroCells (Value.agg #[.int .u64 0, .int .u64 0]).cells n).toList, v.oneCell' = true := by
  intro v hv
  simp [Builtin.zeroCells, Value.cells] at hv
  obtain ⟨i, _, rfl⟩ := hv
  have : i % 2 = 0 ∨ i % 2 = 1 := by omega
  rcases this with h | h <;> rw [h] <;> rfl

/-- The worlds that such a call comes to. -/
theorem grown_drew (w : World) (row : Option Nat) : w.grownBy w.drew row := ⟨rfl, rfl, rfl, Nat.le_refl _, fun _ _ _ => rfl⟩
theorem grown_drewN (w : World) (q : Nat) (row : Option Nat) : w.grownBy (w.drewN q) row := ⟨rfl, rfl, rfl, Nat.le_refl _, fun _ _ _ => rfl⟩
theorem grown_refl (w : World) (row : Option Nat) : w.grownBy w row := ⟨rfl, rfl, rfl, Nat.le_refl _, fun _ _ _ => rfl⟩
theorem grown_trans {a b c : World} {row : Option Nat} (h : a.grownBy b row) (k : b.grownBy c row) : a.grownBy c row :=
  ⟨k.os.trans h.os, k.tape.trans h.tape, k.output.trans h.output, Nat.le_trans h.size k.size, fun i hi hne => (k.block i (Nat.lt_of_lt_of_le hi h.size) hne).trans (h.block i hi hne)⟩
/-- A store into a block that the call itself has laid. -/
theorem grown_put_new {a w : World} {row : Option Nat} (h : a.grownBy w row) (b : Nat) (l : List Value) (hb : a.heap.size ≤ b) : a.grownBy (put w b l) row :=
  ⟨h.os, h.tape, h.output, Nat.le_trans h.size (by simp [put]), fun k hk hne => (put_other w b k l (by omega)).trans (h.block k hk hne)⟩

end Go.Proofs.YtphbledmopchnaaGreatDoor.Mm

/-
  PLAIN: the sum, four bits at a time; a byte that is turned is seen.
-/
namespace Go.Proofs.YtphbledmopchnaaGreatDoor.Crc

def tab : List Nat := [0, 498536548, 997073096, 651767980, 1994146192, 1802195444, 1303535960, 1342533948, 3988292384, 4027552580, 3604390888, 3412177804, 2607071920, 2262029012, 2685067896, 3183342108]

/-- Four bits leave. -/
def nib (c : Nat) : Nat := (c >>> 4) ^^^ tab.getD (c &&& 15) 0
/-- A byte comes. -/
def byt (c : Nat) (x : UInt8) : Nat := nib (nib (c ^^^ x.toNat))
def reg (c : Nat) (l : List UInt8) : Nat := l.foldl byt c
/-- The sum. -/
def sum (l : List UInt8) : Nat := 4294967295 ^^^ reg 4294967295 l

theorem xor_right {a b c : Nat} (h : a ^^^ c = b ^^^ c) : a = b := by
  have := congrArg (fun z => z ^^^ c) h
  simpa [Nat.xor_assoc] using this
theorem xor_left {a b c : Nat} (h : c ^^^ a = c ^^^ b) : a = b := by
  rw [Nat.xor_comm c a, Nat.xor_comm c b] at h
  exact xor_right h

theorem tab_lt : ∀ k, k < 16 → tab.getD k 0 < 4294967296 := by decide
theorem tab_top : ∀ a, a < 16 → ∀ b, b < 16 → tab.getD a 0 >>> 28 = tab.getD b 0 >>> 28 → a = b := by decide

theorem and15 (c : Nat) : c &&& 15 = c % 16 := by
  have := Nat.and_two_pow_sub_one_eq_mod c 4
  simpa using this
theorem and15_lt (c : Nat) : c &&& 15 < 16 := by rw [and15]; omega

theorem nib_lt (c : Nat) (h : c < 4294967296) : nib c < 4294967296 := by
  unfold nib
  have h1 : c >>> 4 < 2 ^ 32 := by rw [Nat.shiftRight_eq_div_pow]; omega
  have h2 : tab.getD (c &&& 15) 0 < 2 ^ 32 := tab_lt _ (and15_lt c)
  exact Nat.xor_lt_two_pow h1 h2

theorem nib_top (c : Nat) (h : c < 4294967296) : nib c >>> 28 = tab.getD (c &&& 15) 0 >>> 28 := by
  unfold nib
  rw [Nat.shiftRight_xor_distrib]
  have : c >>> 4 >>> 28 = 0 := by
    rw [← Nat.shiftRight_add, Nat.shiftRight_eq_div_pow]
    omega
  rw [this, Nat.zero_xor]

theorem nib_inj (a b : Nat) (ha : a < 4294967296) (hb : b < 4294967296) (h : nib a = nib b) : a = b := by
  have h1 : a &&& 15 = b &&& 15 := tab_top _ (and15_lt a) _ (and15_lt b) (by rw [← nib_top a ha, ← nib_top b hb, h])
  have h2 : a >>> 4 = b >>> 4 := by
    have e := h
    unfold nib at e
    rw [h1] at e
    exact xor_right e
  rw [and15, and15] at h1
  rw [Nat.shiftRight_eq_div_pow, Nat.shiftRight_eq_div_pow] at h2
  omega

theorem u8_lt (x : UInt8) : x.toNat < 256 := x.toNat_lt

theorem byt_lt (c : Nat) (x : UInt8) (h : c < 4294967296) : byt c x < 4294967296 := by
  unfold byt
  have h1 : c ^^^ x.toNat < 2 ^ 32 := Nat.xor_lt_two_pow (by omega) (by have := u8_lt x; omega)
  exact nib_lt _ (nib_lt _ h1)
theorem reg_lt (c : Nat) (l : List UInt8) (h : c < 4294967296) : reg c l < 4294967296 := by
  induction l generalizing c with
  | nil => exact h
  | cons x t ih => exact ih _ (byt_lt c x h)
theorem sum_lt (l : List UInt8) : sum l < 4294967296 :=
  Nat.xor_lt_two_pow (n := 32) (by omega) (reg_lt _ l (by omega))

theorem xor_lt32 {a b : Nat} (ha : a < 4294967296) (hb : b < 4294967296) : a ^^^ b < 4294967296 := Nat.xor_lt_two_pow (n := 32) ha hb

theorem byt_inj_left (a b : Nat) (x : UInt8) (ha : a < 4294967296) (hb : b < 4294967296) (h : byt a x = byt b x) : a = b := by
  have hx := u8_lt x
  have h1 := nib_inj _ _ (nib_lt _ (xor_lt32 ha (by omega))) (nib_lt _ (xor_lt32 hb (by omega))) h
  exact xor_right (nib_inj _ _ (xor_lt32 ha (by omega)) (xor_lt32 hb (by omega)) h1)
theorem byt_inj_right (a : Nat) (x y : UInt8) (ha : a < 4294967296) (h : byt a x = byt a y) : x = y := by
  have hx := u8_lt x
  have hy := u8_lt y
  have h1 := nib_inj _ _ (nib_lt _ (xor_lt32 ha (by omega))) (nib_lt _ (xor_lt32 ha (by omega))) h
  have h2 := xor_left (nib_inj _ _ (xor_lt32 ha (by omega)) (xor_lt32 ha (by omega)) h1)
  exact UInt8.toNat_inj.1 h2
theorem reg_inj (a b : Nat) (l : List UInt8) (ha : a < 4294967296) (hb : b < 4294967296) (h : reg a l = reg b l) : a = b := by
  induction l generalizing a b with
  | nil => exact h
  | cons x t ih => exact byt_inj_left a b x ha hb (ih _ _ (byt_lt a x ha) (byt_lt b x hb) h)

/-- One byte that is another: another sum. -/
theorem sum_turned (p t : List UInt8) (x y : UInt8) (h : x ≠ y) : sum (p ++ x :: t) ≠ sum (p ++ y :: t) := by
  intro e
  have e1 := xor_left e
  unfold reg at e1
  rw [List.foldl_append, List.foldl_append] at e1
  have hp : List.foldl byt 4294967295 p < 4294967296 := reg_lt _ p (by omega)
  exact h (byt_inj_right _ x y hp (reg_inj _ _ t (byt_lt _ x hp) (byt_lt _ y hp) e1))

end Go.Proofs.YtphbledmopchnaaGreatDoor.Crc

/-
  PLAIN: numbers as 1, 2, 4, 8 bytes.
-/
namespace Go.Proofs.YtphbledmopchnaaGreatDoor.Num

def code (n : Nat) : Nat := if n < 64 then 0 else if n < 16384 then 1 else if n < 1073741824 then 2 else 3

/-- k bytes, the highest first. -/
def be : Nat → Nat → List UInt8
  | 0, _ => []
  | k + 1, n => UInt8.ofNat (n / 256 ^ k % 256) :: be k n

/-- A number, its length told by the first two bits. -/
def bytes (n : Nat) : List UInt8 := be (2 ^ code n) (n + code n * 2 ^ (8 * 2 ^ code n - 2))

theorem code_le (n : Nat) : code n ≤ 3 := by unfold code; split <;> (try split) <;> (try split) <;> omega

theorem be_length : ∀ k n, (be k n).length = k
  | 0, _ => rfl
  | k + 1, n => by simp [be, be_length k n]

theorem bytes_length (n : Nat) : (bytes n).length = 2 ^ code n := be_length _ _

/-- Bytes as a number, the highest first. -/
def val (a : Nat) (l : List UInt8) : Nat := l.foldl (fun n x => n * 256 + x.toNat) a

theorem val_be : ∀ k n a, val a (be k n) = a * 256 ^ k + n % 256 ^ k
  | 0, n, a => by simp [be, val, Nat.mod_one]
  | k + 1, n, a => by
    have ih := val_be k n (a * 256 + n / 256 ^ k % 256)
    have h : val a (be (k + 1) n) = val (a * 256 + n / 256 ^ k % 256) (be k n) := by
      show val a (UInt8.ofNat (n / 256 ^ k % 256) :: be k n) = _
      unfold val
      rw [List.foldl_cons, UInt8.toNat_ofNat_of_lt' (Nat.mod_lt _ (by decide))]
    rw [h, ih, Nat.pow_succ, Nat.mod_mul, Nat.add_mul, Nat.mul_assoc a 256, Nat.mul_comm 256 (256 ^ k), Nat.mul_comm (n / 256 ^ k % 256)]
    omega

/-- A number is read: what it is, and what is left. -/
def read : List UInt8 → Option (Nat × List UInt8)
  | [] => none
  | x :: t => if t.length < 2 ^ (x.toNat / 64) - 1 then none else some (val (x.toNat % 64) (t.take (2 ^ (x.toNat / 64) - 1)), t.drop (2 ^ (x.toNat / 64) - 1))

theorem read_cons (x : UInt8) (t : List UInt8) : read (x :: t) = if t.length < 2 ^ (x.toNat / 64) - 1 then none else some (val (x.toNat % 64) (t.take (2 ^ (x.toNat / 64) - 1)), t.drop (2 ^ (x.toNat / 64) - 1)) := rfl

theorem read_bytes (n : Nat) (h : n < 4611686018427387904) (t : List UInt8) : read (bytes n ++ t) = some (n, t) := by
  -- one case a length
  have key : ∀ (c k : Nat), 2 ^ c = k + 1 → c < 4 → n < 64 * 256 ^ k → read (be (k + 1) (n + c * (64 * 256 ^ k)) ++ t) = some (n, t) := by
    intro c k hk hc hn
    have hpos : 0 < 256 ^ k := Nat.pow_pos (by decide)
    have hq : (n + c * (64 * 256 ^ k)) / 256 ^ k = n / 256 ^ k + c * 64 := by
      rw [← Nat.mul_assoc, Nat.add_mul_div_right _ _ hpos]
    have h64 : ∀ q, q < 64 → (q + c * 64) / 64 = c ∧ (q + c * 64) % 64 = q ∧ q + c * 64 < 256 := fun q hq => by omega
    have hn2 : n / 256 ^ k < 64 := (Nat.div_lt_iff_lt_mul hpos).2 hn
    have hx : (UInt8.ofNat ((n + c * (64 * 256 ^ k)) / 256 ^ k % 256)).toNat = n / 256 ^ k + c * 64 := by
      rw [UInt8.toNat_ofNat_of_lt' (Nat.mod_lt _ (by decide)), hq]
      exact Nat.mod_eq_of_lt (h64 _ hn2).2.2
    show read (UInt8.ofNat ((n + c * (64 * 256 ^ k)) / 256 ^ k % 256) :: (be k (n + c * (64 * 256 ^ k)) ++ t)) = _
    rw [read_cons, hx, (h64 _ hn2).1, (h64 _ hn2).2.1, hk, Nat.add_sub_cancel]
    have hl := be_length k (n + c * (64 * 256 ^ k))
    rw [if_neg (by simp [hl]), List.take_append_of_le_length (by omega), List.take_of_length_le (by omega), List.drop_append_of_le_length (by omega), List.drop_of_length_le (by omega), List.nil_append, val_be]
    rw [← Nat.mul_assoc, Nat.add_mul_mod_self_right]
    congr 2
    exact Nat.div_add_mod' n (256 ^ k)
  unfold bytes code
  by_cases h1 : n < 64
  · simp only [h1, if_true]
    exact key 0 0 rfl (by omega) (by omega)
  · by_cases h2 : n < 16384
    · simp only [h1, h2, if_true, if_false]
      exact key 1 1 rfl (by omega) (by omega)
    · by_cases h3 : n < 1073741824
      · simp only [h1, h2, h3, if_true, if_false]
        exact key 2 3 rfl (by omega) (by omega)
      · simp only [h1, h2, h3, if_false]
        exact key 3 7 rfl (by omega) (by omega)

end Go.Proofs.YtphbledmopchnaaGreatDoor.Num

/-
  lengthCode, sum.
-/
namespace Go.Proofs.YtphbledmopchnaaGreatDoor
open Go.RowKit Go.Lib

theorem hid {p : Prop} (h : p) : Hid p := h
theorem ret_int {k : IntKind} {a b : Int} (h : a = b) : Ending.returned (.int k a) = .returned (.int k b) := by rw [h]
theorem ret_bool {a b : Bool} (h : a = b) : Ending.returned (.bool a) = .returned (.bool b) := by rw [h]

set_option maxRecDepth 1000000 in
theorem lengthCode_any (n : Nat) (w : World) : Calls Tryz.prog 271 #[.int .u64 (n : Int)] w fun e w' => e = .returned (.int .i64 (Num.code n : Nat)) ∧ w' = w := by
  generalize hcode : Num.code n = C
  unfold Num.code at hcode
  by_cases h1 : n < 64
  · have hC : Hid (C = 0) := by rw [if_pos h1] at hcode; exact hcode.symm
    have g1 : (n : Int) < 64 := by omega
    clear hcode h1
    go_enter Tryz.func271, Tryz.ntmps271
    go_wp2
    go_ret
    exact ⟨ret_int (by rw [hC.out]; rfl), rfl⟩
  · have g1 : ¬ ((n : Int) < 64) := by omega
    by_cases h2 : n < 16384
    · have hC : Hid (C = 1) := by rw [if_neg h1, if_pos h2] at hcode; exact hcode.symm
      have g2 : (n : Int) < 16384 := by omega
      clear hcode h1 h2
      go_enter Tryz.func271, Tryz.ntmps271
      go_wp2
      go_ret
      exact ⟨ret_int (by rw [hC.out]; rfl), rfl⟩
    · have g2 : ¬ ((n : Int) < 16384) := by omega
      by_cases h3 : n < 1073741824
      · have hC : Hid (C = 2) := by rw [if_neg h1, if_neg h2, if_pos h3] at hcode; exact hcode.symm
        have g3 : (n : Int) < 1073741824 := by omega
        clear hcode h1 h2 h3
        go_enter Tryz.func271, Tryz.ntmps271
        go_wp2
        go_ret
        exact ⟨ret_int (by rw [hC.out]; rfl), rfl⟩
      · have hC : Hid (C = 3) := by rw [if_neg h1, if_neg h2, if_neg h3] at hcode; exact hcode.symm
        have g3 : ¬ ((n : Int) < 1073741824) := by omega
        clear hcode h1 h2 h3
        go_enter Tryz.func271, Tryz.ntmps271
        go_wp2
        go_ret
        exact ⟨ret_int (by rw [hC.out]; rfl), rfl⟩

/-- A slice of bytes that is read. -/
def BytesAt (w : World) (a : Option Addr) (l : List UInt8) : Prop :=
  ∀ j (hj : j < l.length), ∃ b off, a = some ⟨b, off, none⟩ ∧ w.cell? ⟨b, off + j, none⟩ = some (.int .u8 ((l[j].toNat : Nat) : Int))

/-- The table. -/
def TabAt (w : World) : Prop := ∀ k, k < 16 → w.cell? ⟨1, k, none⟩ = some (.int .u32 ((Crc.tab.getD k 0 : Nat) : Int))

theorem not_u32 (R : Nat) (h : R < 4294967296) : bits .xor .u32 IntKind.u32.max (R : Int) = ((4294967295 ^^^ R : Nat) : Int) := by
  have e : IntKind.u32.max = ((4294967295 : Nat) : Int) := by decide
  rw [e]
  exact u32_xor_nat 4294967295 R (by omega) h

theorem reg_take (l : List UInt8) (k : Nat) (h : k < l.length) : Crc.reg 4294967295 (l.take (k + 1)) = Crc.byt (Crc.reg 4294967295 (l.take k)) l[k] := by
  rw [List.take_succ_eq_append_getElem h]
  unfold Crc.reg
  rw [List.foldl_append]
  rfl

theorem nib_rules (S i D T : Nat) (hS : S < 4294967296) (hi : i = S &&& 15) (hD : D = S >>> 4) (hT : T = Crc.tab.getD i 0) :
    bits .and .u32 (S : Int) 15 = (i : Int) ∧ (S : Int) / 16 = (D : Int) ∧ bits .xor .u32 (D : Int) (T : Int) = (Crc.nib S : Int) ∧ (i : Int) < 16 ∧ i < 16 := by
  have h16 := Crc.and15_lt S
  have hD' : D = S / 16 := by rw [hD, Nat.shiftRight_eq_div_pow]
  refine ⟨?_, by omega, ?_, by omega, by omega⟩
  · rw [hi]; exact u32_and_nat S 15 hS (by omega)
  · have h1 : D < 4294967296 := by omega
    have h2 : T < 4294967296 := by rw [hT]; exact Crc.tab_lt i (by omega)
    rw [u32_xor_nat D T h1 h2, hT, hD, hi]; rfl

set_option maxHeartbeats 1000000 in
theorem sum_any (a : Option Addr) (l : List UInt8) (c : Nat) (w : World) (hl : l.length ≤ 1000000000) (hb : BytesAt w a l) (ht : TabAt w) :
    Calls Tryz.prog 159 #[.slice a l.length c] w fun e w' => e = .returned (.int .u32 (Crc.sum l : Nat)) ∧ w' = w := by
  have HB := hid hb
  have HT := hid ht
  clear hb ht
  go_enter Tryz.func159, Tryz.ntmps159
  go_wp2
  go_loop [3, 8] (fun s3 s8 => ∃ k : Nat, k ≤ l.length ∧ s8 = .int .i64 k ∧ s3 = .int .u32 (Crc.reg 4294967295 (l.take k) : Nat)) (fun _ s8 => l.length - (intOf s8).toNat)
  case atStart => exact ⟨0, Nat.zero_le _, rfl, rfl⟩
  case round =>
    obtain ⟨k, hk, rfl, rfl⟩ := hrel
    by_cases hlt : k < l.length
    · have hlt' : (k : Int) < (l.length : Int) := by omega
      obtain ⟨b, off, ha, hc⟩ := HB.out k hlt
      subst ha
      have hr := Crc.reg_lt 4294967295 (l.take k) (by omega)
      have hst := reg_take l k hlt
      have hX := Crc.u8_lt l[k]
      have hby : Crc.byt (Crc.reg 4294967295 (l.take k)) l[k] = Crc.nib (Crc.nib (Crc.reg 4294967295 (l.take k) ^^^ l[k].toNat)) := rfl
      rw [hby] at hst
      generalize Crc.reg 4294967295 (l.take k) = R at hr hst
      generalize l[k].toNat = X at hc hX hst
      obtain ⟨S1, i1, D1, T1, hS, b1⟩ : ∃ S1 i1 D1 T1 : Nat, S1 = R ^^^ X ∧ i1 = S1 &&& 15 ∧ D1 = S1 >>> 4 ∧ T1 = Crc.tab.getD i1 0 := ⟨_, _, _, _, rfl, rfl, rfl, rfl⟩
      have hS1 : S1 < 4294967296 := by rw [hS]; exact Crc.xor_lt32 hr (by omega)
      obtain ⟨i2, D2, T2, b2⟩ : ∃ i2 D2 T2 : Nat, i2 = Crc.nib S1 &&& 15 ∧ D2 = Crc.nib S1 >>> 4 ∧ T2 = Crc.tab.getD i2 0 := ⟨_, _, _, rfl, rfl, rfl⟩
      have r1 : bits .xor .u32 (R : Int) ((X : Int) % 4294967296) = (S1 : Int) := by
        rw [show (X : Int) % 4294967296 = (X : Int) by omega, hS]; exact u32_xor_nat R X hr (by omega)
      have r2 : bits .xor .u32 (R : Int) (X : Int) = (S1 : Int) := by
        rw [hS]; exact u32_xor_nat R X hr (by omega)
      obtain ⟨q1, q2, q3, q4, q5⟩ := nib_rules S1 i1 D1 T1 hS1 b1.1 b1.2.1 b1.2.2
      obtain ⟨p1, p2, p3, p4, p5⟩ := nib_rules (Crc.nib S1) i2 D2 T2 (Crc.nib_lt S1 hS1) b2.1 b2.2.1 b2.2.2
      have t1 := HT.out i1 q5
      have t2 := HT.out i2 p5
      rw [← b1.2.2] at t1
      rw [← b2.2.2] at t2
      have HST := hid hst
      have HSS := hid hS
      clear hst hS b1 b2 hby
      generalize hN1 : Crc.nib S1 = N1 at *
      generalize hN2 : Crc.nib N1 = N2 at *
      have HN := hid (And.intro hN1 hN2)
      clear hN1 hN2
      go_wp2
      go_round
      case rel => exact ⟨k + 1, by omega, by go_num, by rw [HST.out, ← HSS.out, HN.out.1, HN.out.2]⟩
      case measure => simp [intOf]; omega
    · obtain rfl : k = l.length := by omega
      have hr := Crc.reg_lt 4294967295 (l.take l.length) (by omega)
      rw [List.take_length] at hr ⊢
      have HS : Hid (Crc.sum l = 4294967295 ^^^ Crc.reg 4294967295 l) := rfl
      generalize Crc.reg 4294967295 l = R at hr HS ⊢
      go_wp2
      go_ret
      exact ⟨ret_int (by rw [not_u32 R hr, HS.out]), rfl⟩

end Go.Proofs.YtphbledmopchnaaGreatDoor

/-
  Bytes that are appended to.
-/
namespace Go.Proofs.YtphbledmopchnaaGreatDoor
open Go.RowKit Go.Lib Mm

theorem u29 : Tryz.prog.underlying 60 = some (.slice 5) := by kernel_rfl
theorem u9 : Tryz.prog.underlying 9 = some .string := by kernel_rfl
theorem info5 : (Tryz.prog.info? 5).map (fun i => (i.zero, i.size, i.bytes)) = some (some (.int .u8 0), 1, 1) := by kernel_rfl

def bcells (l : List UInt8) : List Value := l.map fun b => .int .u8 ((b.toNat : Nat) : Int)
theorem bcells_length (l : List UInt8) : (bcells l).length = l.length := by simp [bcells]
theorem bcells_append (a b : List UInt8) : bcells (a ++ b) = bcells a ++ bcells b := by simp [bcells]
theorem bcells_one (l : List UInt8) : ∀ v ∈ bcells l, v.oneCell' = true := by
  intro v hv
  obtain ⟨_, _, rfl⟩ := List.mem_map.1 hv
  rfl
theorem zero1_len (n : Nat) : (Builtin.zeroCells (Value.int .u8 0).cells n).toList.length = n := by simp [Builtin.zeroCells, Value.cells]
theorem zero1_one (n : Nat) : ∀ v ∈ (Builtin.zeroCells (Value.int .u8 0).cells n).toList, v.oneCell' = true := by
  intro v hv
  simp [Builtin.zeroCells, Value.cells] at hv
  obtain ⟨i, _, rfl⟩ := hv
  have : i % 1 = 0 := by omega
  rw [this]; rfl

/-- A slice of bytes of the call's own. -/
def Buf (w : World) (v : Value) (l : List UInt8) : Prop :=
  v = .slice none 0 0 ∧ l = [] ∨ ∃ g cap cs, v = .slice (some ⟨g, 0, none⟩) l.length cap ∧ Blk w g 5 cs ∧ cs.length = cap ∧ l.length ≤ cap ∧ cap ≤ 9223372036854775807 ∧ cs.take l.length = bcells l ∧ ∀ v ∈ cs, v.oneCell' = true

/-- Nothing has turned but v's own block; v' lies there, or in new memory. -/
def Gr (w w' : World) (v v' : Value) : Prop := w.grownBy w' v.ownBlock ∧ ∀ k, v'.ownBlock = some k → v.ownBlock = some k ∨ w.heap.size ≤ k

theorem Gr.refl (w : World) (v : Value) : Gr w w v v := ⟨grown_refl w _, fun _ h => .inl h⟩
theorem Gr.trans {a b c : World} {u v x : Value} (h : Gr a b u v) (k : Gr b c v x) : Gr a c u x :=
  ⟨⟨k.1.os.trans h.1.os, k.1.tape.trans h.1.tape, k.1.output.trans h.1.output, Nat.le_trans h.1.size k.1.size, fun i hi hne => (k.1.block i (Nat.lt_of_lt_of_le hi h.1.size) (fun e => by
      rcases h.2 i e.symm with e' | e'
      · exact hne e'.symm
      · omega)).trans (h.1.block i hi hne)⟩,
   fun i hi => by
    have hsz := h.1.size
    rcases k.2 i hi with e | e
    · exact h.2 i e
    · exact .inr (by omega)⟩
/-- A block is laid ahead. -/
theorem Gr.alloc {w w' : World} {v v' : Value} (o : Obj) (h : Gr (w.alloc o) w' v v') : Gr w w' v v' :=
  ⟨⟨h.1.os, h.1.tape, h.1.output, by have := h.1.size; simp at this; omega, fun i hi hne => by rw [h.1.block i (by simp; omega) hne, Below.heap_alloc _ _ _ hi]⟩,
   fun i hi => by
    rcases h.2 i hi with e | e
    · exact .inl e
    · simp at e; exact .inr (by omega)⟩

theorem Buf.lt {w : World} {v : Value} {l : List UInt8} (h : Buf w v l) : ∀ k, v.ownBlock = some k → k < w.heap.size := by
  intro k hk
  rcases h with ⟨rfl, _⟩ | ⟨g, cap, cs, rfl, hB, _⟩
  · simp [Value.ownBlock] at hk
  · simp [Value.ownBlock] at hk; subst hk; exact hB.lt
theorem Buf.of_heap {w w' : World} {v : Value} {l : List UInt8} (h : Buf w v l) (e : ∀ k, v.ownBlock = some k → w'.heap[k]? = w.heap[k]?) : Buf w' v l := by
  rcases h with h | ⟨g, cap, cs, rfl, hB, h2⟩
  · exact .inl h
  · exact .inr ⟨g, cap, cs, rfl, hB.of_heap (e g rfl), h2⟩
theorem Buf.alloc {w : World} {v : Value} {l : List UInt8} (h : Buf w v l) (o : Obj) : Buf (w.alloc o) v l := h.of_heap (fun k hk => Below.heap_alloc w o k (h.lt k hk))
theorem Buf.drewN {w : World} {v : Value} {l : List UInt8} (h : Buf w v l) (q : Nat) : Buf (w.drewN q) v l := h.of_heap (fun _ _ => rfl)
theorem Buf.nil (w : World) : Buf w (.slice none 0 0) [] := .inl ⟨rfl, rfl⟩

/-- 'append(b, ..)': the bytes that lie at a. -/
theorem run_append_buf {w : World} {v : Value} {l : List UInt8} (h : Buf w v l) (a : Addr) (m mc : Nat) (ns : List UInt8) (hm : ns.length = m) (h0 : 0 < m)
    (hsrc : ∀ j u, (bcells ns)[j]? = some u → w.cell? (a.add j) = some u) (hsz : l.length + m ≤ 70368744177664) :
    ∃ v' w', (∀ ty, (Builtin.append_ #[60, 60] ty #[v, .slice (some a) m mc]).run Tryz.prog w = .ok v' w') ∧ Buf w' v' (l ++ ns) ∧ Gr w w' v v' := by
  have hbl := bcells_length ns
  have grow : ∀ base n c (cs : List Value), n = l.length → cs = bcells l → c < n + m → (base = none ∧ cs = [] ∨ ∃ b : Addr, base = some b ∧ cs.length = n * 1 ∧ ∀ j v, cs[j]? = some v → w.cell? (b.add j) = some v) → ∃ v' w', (∀ ty, (Builtin.append_ #[60, 60] ty #[.slice base n c, .slice (some a) m mc]).run Tryz.prog w = .ok v' w') ∧ Buf w' v' (l ++ ns) ∧ Gr w w' (.slice base n c) v' := by
    intro base n c cs hn hcs hr hold
    have hap := fun ty => run_append_grow_blk (P := Tryz.prog) (w := w) 60 60 ty 5 _ 1 1 u29 u29 info5 (base := base) (n := n) (c := c) (m := m) (mc := mc) (cs := cs) hold a (vs := bcells ns) (by omega) hsrc (bcells_one ns) hr (by omega) (by omega)
    have hGn := grownCap_ge w (n + m) c 5
    have hG63 := grownCap_le_maxLen w (n + m) c 5 (by unfold maxLen; omega)
    unfold maxLen at hG63
    have hcl : cs.length = n := by rw [hcs, bcells_length, hn]
    refine ⟨_, _, hap, .inr ⟨w.heap.size, _, _, by rw [List.length_append, hm, ← hn], Blk.new w 5 _, ?_, by rw [List.length_append, hm, ← hn]; exact hGn, hG63, ?_, ?_⟩, grown_trans (grown_drew w _) (World.grownBy_alloc w.drew _ _), ?_⟩
    · rw [List.length_append, List.length_append, zero1_len, hbl]; omega
    · rw [List.length_append, hm, bcells_append, List.take_append_of_le_length (by rw [List.length_append]; omega), List.take_of_length_le (by rw [List.length_append]; omega), hcs]
    · intro u hu
      rcases List.mem_append.1 hu with hu | hu
      · rcases List.mem_append.1 hu with hu | hu
        · rw [hcs] at hu; exact bcells_one l u hu
        · exact bcells_one ns u hu
      · exact zero1_one _ u hu
    · intro k hk
      simp [Value.ownBlock] at hk
      exact .inr (by omega)
  rcases h with ⟨rfl, rfl⟩ | ⟨g, cap, cs, rfl, hB, h2, h3, h4, h5, h6⟩
  · exact grow none 0 0 [] rfl rfl (by omega) (.inl ⟨rfl, rfl⟩)
  · by_cases hr : l.length + m ≤ cap
    · have hap := fun ty => run_append_room_blk (P := Tryz.prog) (w := w) 60 60 ty 5 _ 1 1 u29 u29 info5 (n := l.length) (c := cap) (m := m) (mc := mc) hB a (vs := bcells ns) (by omega) hsrc (bcells_one ns) hr (by omega)
      have hse := splice_end cs (bcells ns) (l.length * 1) (by omega)
      refine ⟨_, _, hap, .inr ⟨g, cap, _, by rw [List.length_append, hm], hB.put _, ?_, by rw [List.length_append, hm]; exact hr, h4, ?_, splice_one h6 (bcells_one ns)⟩, put_grown w g _, fun k hk => .inl hk⟩
      · rw [splice_length _ _ _ (by omega), h2]
      · rw [hbl, hm, Nat.mul_one] at hse
        rw [List.length_append, hm, Nat.mul_one, hse, bcells_append, h5]
    · exact grow (some ⟨g, 0, none⟩) l.length cap (bcells l) rfl rfl (by omega) (.inr ⟨_, rfl, by rw [bcells_length]; omega, fun j u hj => by
        rw [Addr.add_lit, Nat.zero_add, hB.cell]
        rw [← h5, List.getElem?_take] at hj
        split at hj
        · exact hj
        · cases hj⟩)

end Go.Proofs.YtphbledmopchnaaGreatDoor

/-
  appendNumber.
-/
namespace Go.Proofs.YtphbledmopchnaaGreatDoor
open Go.RowKit Go.Lib Mm

theorem or_add (n c k : Nat) (h : n < 2 ^ k) : n ||| (c * 2 ^ k) = n + c * 2 ^ k := by
  rw [Nat.or_comm, Nat.mul_comm, ← Nat.two_pow_add_eq_or_of_lt h, Nat.add_comm]

theorem be_get : ∀ (K N j m : Nat), K = j + m + 1 → (Num.be K N).take (j + 1) = (Num.be K N).take j ++ [UInt8.ofNat (N / 256 ^ m % 256)]
  | 0, _, _, _, h => by omega
  | K + 1, N, 0, m, h => by
    obtain rfl : K = m := by omega
    simp [Num.be]
  | K + 1, N, j + 1, m, h => by
    have := be_get K N j m (by omega)
    simp [Num.be, this]

/-- A round of the loop: what is appended. -/
theorem round_buf {w wr : World} {v s0 : Value} {l : List UInt8} {K N j m : Nat} (hK : K = j + m + 1) (hB : Buf wr s0 (l ++ (Num.be K N).take j)) (hG : Gr w wr v s0) (hl : l.length ≤ 35184372088832) (hk8 : K ≤ 8) (c : Int) (hc : c = ((N / 256 ^ m % 256 : Nat) : Int)) :
    ∃ v' w', (∀ ty, (Builtin.append_ #[60, 60] ty #[s0, .slice (some ⟨wr.heap.size, 0, none⟩) 1 1]).run Tryz.prog (wr.alloc (.cells #[.int .u8 c] 5)) = .ok v' w') ∧ Buf w' v' (l ++ (Num.be K N).take (j + 1)) ∧ Gr w w' v v' := by
  have hlen : (l ++ (Num.be K N).take j).length ≤ l.length + 8 := by simp [Num.be_length]; omega
  obtain ⟨v', w', h1, h2, h3⟩ := run_append_buf (hB.alloc (.cells #[.int .u8 c] 5)) ⟨wr.heap.size, 0, none⟩ 1 1 [UInt8.ofNat (N / 256 ^ m % 256)] rfl (by omega) (fun i u hu => by
    match i, hu with
    | 0, hu =>
      simp [bcells] at hu
      rw [Addr.add_lit, Nat.zero_add, (Blk.new wr 5 [.int .u8 c]).cell, ← hu, hc]
      simp
    | i + 1, hu => simp [bcells] at hu) (by omega)
  refine ⟨v', w', h1, ?_, hG.trans (h3.alloc _)⟩
  rw [be_get K N j m hK, ← List.append_assoc]
  exact h2

set_option maxHeartbeats 1000000 in
set_option maxRecDepth 1000000 in
theorem appendNumber_any (v : Value) (l : List UInt8) (n : Nat) (w : World) (hb : Buf w v l) (hn : n < 4611686018427387904) (hl : l.length ≤ 35184372088832) :
    Calls Tryz.prog 211 #[v, .int .u64 (n : Int)] w fun e w' => ∃ v', e = .returned v' ∧ Buf w' v' (l ++ Num.bytes n) ∧ Gr w w' v v' := by
  have hcd := lengthCode_any n w
  have HC := hid hcd
  clear hcd
  have hby : Hid (Num.bytes n = Num.be (2 ^ Num.code n) (n + Num.code n * 2 ^ (8 * 2 ^ Num.code n - 2))) := rfl
  have h4 : Num.code n = 0 ∧ n < 64 ∨ Num.code n = 1 ∧ n < 16384 ∨ Num.code n = 2 ∧ n < 1073741824 ∨ Num.code n = 3 := by
    unfold Num.code
    split <;> (try split) <;> (try split) <;> omega
  have HB := hid hb
  clear hb
  go_enter Tryz.func211, Tryz.ntmps211
  go_wp2_with fail
  refine HC.out.mono ?_
  rintro e w1 ⟨rfl, hw1⟩
  subst hw1
  rcases h4 with ⟨hc, hlt⟩ | ⟨hc, hlt⟩ | ⟨hc, hlt⟩ | hc
  · have hor : bits .or .u64 (n : Int) 0 = ((n + 0 : Nat) : Int) := by
      have := u64_or_nat n 0 (by omega) (by omega)
      rw [show (0 : Nat) = 0 * 2 ^ 6 from rfl, or_add n 0 6 hlt] at this
      exact this
    have hbt : Num.bytes n = Num.be 1 (n + 0) := by rw [hby.out, hc]
    rw [hc]
    obtain ⟨N, hN⟩ : ∃ N, N = n + 0 := ⟨_, rfl⟩
    rw [← hN] at hor hbt
    have HBT := hid hbt
    clear hN hby hlt hc hbt
    go_wp2_with fail
    go_loopw [0, 6] (fun s0 s6 wr => ∃ j m t : Nat, 1 = j + m ∧ s6 = .int .i64 t ∧ Hid (t = 8 * m) ∧ Hid (Buf wr s0 (l ++ (Num.be 1 N).take j)) ∧ Hid (Gr w1 wr v s0)) (fun _ s6 _ => (intOf s6).toNat)
    case atStart => exact ⟨0, 1, 8, rfl, rfl, rfl, by rw [List.take_zero, List.append_nil]; exact HB.out, Gr.refl w1 v⟩
    case round =>
      obtain ⟨j, m, t, hjm, rfl, Ht, HBr, HGr⟩ := hrel
      cases m with
      | zero =>
        have ht0 : t = 0 := Ht.out
        subst ht0
        have HF : Hid (Buf wr u0 (l ++ Num.bytes n)) := by
          have := HBr.out
          rw [List.take_of_length_le (by rw [Num.be_length]; omega), ← HBT.out] at this
          exact this
        clear HBr hjm
        go_wp2
        go_ret
        exact ⟨_, rfl, HF.out, HGr.out⟩
      | succ m =>
        have ht : t = 8 * m + 8 := by have := Ht.out; omega
        obtain ⟨t', ht'⟩ : ∃ t', t' = 8 * m := ⟨_, rfl⟩
        have e1 : (t : Int) - 8 = (t' : Int) := by omega
        have g1 : (0 : Int) < (t : Int) := by omega
        have g2 : (t' : Int) < 64 := by omega
        have g4 : (t : Int) ≤ 64 := by omega
        have e2 : min t' 64 = t' := by omega
        obtain ⟨Q, hQ⟩ : ∃ Q, Q = N / 256 ^ m := ⟨_, rfl⟩
        obtain ⟨cc, hcc⟩ : ∃ cc, cc = Q % 256 := ⟨_, rfl⟩
        have hpw : 2 ^ t' = 256 ^ m := by rw [ht', Nat.pow_mul]
        have e3 : (N : Int) / 2 ^ t' = (Q : Int) := by
          rw [hQ, ← hpw]; simp
        have e4 : (Q : Int) % 256 = (cc : Int) := by omega
        obtain ⟨v', w', hrun, hB', hG'⟩ := round_buf (w := w1) (v := v) (l := l) (N := N) (m := m) hjm HBr.out HGr.out hl (by omega) (cc : Int) (by rw [hcc, hQ])
        have HB' := hid hB'
        have HG' := hid hG'
        have HT' := hid ht'
        have HTT := hid (show t' < t by omega)
        have HJ := hid hjm
        clear hjm ht ht' hQ hcc hpw hB' hG' HBr HGr Ht
        go_wp2_with (at_builtin; refine Lib.wpList_append_run _ rfl _ _ _ _ rfl _ _ rfl rfl _ _ (hrun _) ?_)
        go_roundw
        case rel => first | exact ⟨j + 1, m, t', by have := HJ.out; omega, rfl, HT', HB', HG'⟩ | ((repeat apply Exists.intro); exact ⟨⟨j + 1, m, t', by have := HJ.out; omega, rfl, HT', HB', HG'⟩, rfl⟩)
        case measure => simp [intOf]; exact HTT.out
  · have hor : bits .or .u64 (n : Int) 16384 = ((n + 16384 : Nat) : Int) := by
      have := u64_or_nat n 16384 (by omega) (by omega)
      rw [show (16384 : Nat) = 1 * 2 ^ 14 from rfl, or_add n 1 14 hlt] at this
      exact this
    have hbt : Num.bytes n = Num.be 2 (n + 16384) := by rw [hby.out, hc]
    rw [hc]
    obtain ⟨N, hN⟩ : ∃ N, N = n + 16384 := ⟨_, rfl⟩
    rw [← hN] at hor hbt
    have HBT := hid hbt
    clear hN hby hlt hc hbt
    go_wp2_with fail
    go_loopw [0, 6] (fun s0 s6 wr => ∃ j m t : Nat, 2 = j + m ∧ s6 = .int .i64 t ∧ Hid (t = 8 * m) ∧ Hid (Buf wr s0 (l ++ (Num.be 2 N).take j)) ∧ Hid (Gr w1 wr v s0)) (fun _ s6 _ => (intOf s6).toNat)
    case atStart => exact ⟨0, 2, 16, rfl, rfl, rfl, by rw [List.take_zero, List.append_nil]; exact HB.out, Gr.refl w1 v⟩
    case round =>
      obtain ⟨j, m, t, hjm, rfl, Ht, HBr, HGr⟩ := hrel
      cases m with
      | zero =>
        have ht0 : t = 0 := Ht.out
        subst ht0
        have HF : Hid (Buf wr u0 (l ++ Num.bytes n)) := by
          have := HBr.out
          rw [List.take_of_length_le (by rw [Num.be_length]; omega), ← HBT.out] at this
          exact this
        clear HBr hjm
        go_wp2
        go_ret
        exact ⟨_, rfl, HF.out, HGr.out⟩
      | succ m =>
        have ht : t = 8 * m + 8 := by have := Ht.out; omega
        obtain ⟨t', ht'⟩ : ∃ t', t' = 8 * m := ⟨_, rfl⟩
        have e1 : (t : Int) - 8 = (t' : Int) := by omega
        have g1 : (0 : Int) < (t : Int) := by omega
        have g2 : (t' : Int) < 64 := by omega
        have g4 : (t : Int) ≤ 64 := by omega
        have e2 : min t' 64 = t' := by omega
        obtain ⟨Q, hQ⟩ : ∃ Q, Q = N / 256 ^ m := ⟨_, rfl⟩
        obtain ⟨cc, hcc⟩ : ∃ cc, cc = Q % 256 := ⟨_, rfl⟩
        have hpw : 2 ^ t' = 256 ^ m := by rw [ht', Nat.pow_mul]
        have e3 : (N : Int) / 2 ^ t' = (Q : Int) := by
          rw [hQ, ← hpw]; simp
        have e4 : (Q : Int) % 256 = (cc : Int) := by omega
        obtain ⟨v', w', hrun, hB', hG'⟩ := round_buf (w := w1) (v := v) (l := l) (N := N) (m := m) hjm HBr.out HGr.out hl (by omega) (cc : Int) (by rw [hcc, hQ])
        have HB' := hid hB'
        have HG' := hid hG'
        have HT' := hid ht'
        have HTT := hid (show t' < t by omega)
        have HJ := hid hjm
        clear hjm ht ht' hQ hcc hpw hB' hG' HBr HGr Ht
        go_wp2_with (at_builtin; refine Lib.wpList_append_run _ rfl _ _ _ _ rfl _ _ rfl rfl _ _ (hrun _) ?_)
        go_roundw
        case rel => first | exact ⟨j + 1, m, t', by have := HJ.out; omega, rfl, HT', HB', HG'⟩ | ((repeat apply Exists.intro); exact ⟨⟨j + 1, m, t', by have := HJ.out; omega, rfl, HT', HB', HG'⟩, rfl⟩)
        case measure => simp [intOf]; exact HTT.out
  · have hor : bits .or .u64 (n : Int) 2147483648 = ((n + 2147483648 : Nat) : Int) := by
      have := u64_or_nat n 2147483648 (by omega) (by omega)
      rw [show (2147483648 : Nat) = 2 * 2 ^ 30 from rfl, or_add n 2 30 hlt] at this
      exact this
    have hbt : Num.bytes n = Num.be 4 (n + 2147483648) := by rw [hby.out, hc]
    rw [hc]
    obtain ⟨N, hN⟩ : ∃ N, N = n + 2147483648 := ⟨_, rfl⟩
    rw [← hN] at hor hbt
    have HBT := hid hbt
    clear hN hby hlt hc hbt
    go_wp2_with fail
    go_loopw [0, 6] (fun s0 s6 wr => ∃ j m t : Nat, 4 = j + m ∧ s6 = .int .i64 t ∧ Hid (t = 8 * m) ∧ Hid (Buf wr s0 (l ++ (Num.be 4 N).take j)) ∧ Hid (Gr w1 wr v s0)) (fun _ s6 _ => (intOf s6).toNat)
    case atStart => exact ⟨0, 4, 32, rfl, rfl, rfl, by rw [List.take_zero, List.append_nil]; exact HB.out, Gr.refl w1 v⟩
    case round =>
      obtain ⟨j, m, t, hjm, rfl, Ht, HBr, HGr⟩ := hrel
      cases m with
      | zero =>
        have ht0 : t = 0 := Ht.out
        subst ht0
        have HF : Hid (Buf wr u0 (l ++ Num.bytes n)) := by
          have := HBr.out
          rw [List.take_of_length_le (by rw [Num.be_length]; omega), ← HBT.out] at this
          exact this
        clear HBr hjm
        go_wp2
        go_ret
        exact ⟨_, rfl, HF.out, HGr.out⟩
      | succ m =>
        have ht : t = 8 * m + 8 := by have := Ht.out; omega
        obtain ⟨t', ht'⟩ : ∃ t', t' = 8 * m := ⟨_, rfl⟩
        have e1 : (t : Int) - 8 = (t' : Int) := by omega
        have g1 : (0 : Int) < (t : Int) := by omega
        have g2 : (t' : Int) < 64 := by omega
        have g4 : (t : Int) ≤ 64 := by omega
        have e2 : min t' 64 = t' := by omega
        obtain ⟨Q, hQ⟩ : ∃ Q, Q = N / 256 ^ m := ⟨_, rfl⟩
        obtain ⟨cc, hcc⟩ : ∃ cc, cc = Q % 256 := ⟨_, rfl⟩
        have hpw : 2 ^ t' = 256 ^ m := by rw [ht', Nat.pow_mul]
        have e3 : (N : Int) / 2 ^ t' = (Q : Int) := by
          rw [hQ, ← hpw]; simp
        have e4 : (Q : Int) % 256 = (cc : Int) := by omega
        obtain ⟨v', w', hrun, hB', hG'⟩ := round_buf (w := w1) (v := v) (l := l) (N := N) (m := m) hjm HBr.out HGr.out hl (by omega) (cc : Int) (by rw [hcc, hQ])
        have HB' := hid hB'
        have HG' := hid hG'
        have HT' := hid ht'
        have HTT := hid (show t' < t by omega)
        have HJ := hid hjm
        clear hjm ht ht' hQ hcc hpw hB' hG' HBr HGr Ht
        go_wp2_with (at_builtin; refine Lib.wpList_append_run _ rfl _ _ _ _ rfl _ _ rfl rfl _ _ (hrun _) ?_)
        go_roundw
        case rel => first | exact ⟨j + 1, m, t', by have := HJ.out; omega, rfl, HT', HB', HG'⟩ | ((repeat apply Exists.intro); exact ⟨⟨j + 1, m, t', by have := HJ.out; omega, rfl, HT', HB', HG'⟩, rfl⟩)
        case measure => simp [intOf]; exact HTT.out
  · have hor : bits .or .u64 (n : Int) 13835058055282163712 = ((n + 13835058055282163712 : Nat) : Int) := by
      have := u64_or_nat n 13835058055282163712 (by omega) (by omega)
      rw [show (13835058055282163712 : Nat) = 3 * 2 ^ 62 from rfl, or_add n 3 62 hn] at this
      exact this
    have hbt : Num.bytes n = Num.be 8 (n + 13835058055282163712) := by rw [hby.out, hc]
    rw [hc]
    obtain ⟨N, hN⟩ : ∃ N, N = n + 13835058055282163712 := ⟨_, rfl⟩
    rw [← hN] at hor hbt
    have HBT := hid hbt
    clear hN hby hc hbt
    go_wp2_with fail
    go_loopw [0, 6] (fun s0 s6 wr => ∃ j m t : Nat, 8 = j + m ∧ s6 = .int .i64 t ∧ Hid (t = 8 * m) ∧ Hid (Buf wr s0 (l ++ (Num.be 8 N).take j)) ∧ Hid (Gr w1 wr v s0)) (fun _ s6 _ => (intOf s6).toNat)
    case atStart => exact ⟨0, 8, 64, rfl, rfl, rfl, by rw [List.take_zero, List.append_nil]; exact HB.out, Gr.refl w1 v⟩
    case round =>
      obtain ⟨j, m, t, hjm, rfl, Ht, HBr, HGr⟩ := hrel
      cases m with
      | zero =>
        have ht0 : t = 0 := Ht.out
        subst ht0
        have HF : Hid (Buf wr u0 (l ++ Num.bytes n)) := by
          have := HBr.out
          rw [List.take_of_length_le (by rw [Num.be_length]; omega), ← HBT.out] at this
          exact this
        clear HBr hjm
        go_wp2
        go_ret
        exact ⟨_, rfl, HF.out, HGr.out⟩
      | succ m =>
        have ht : t = 8 * m + 8 := by have := Ht.out; omega
        obtain ⟨t', ht'⟩ : ∃ t', t' = 8 * m := ⟨_, rfl⟩
        have e1 : (t : Int) - 8 = (t' : Int) := by omega
        have g1 : (0 : Int) < (t : Int) := by omega
        have g2 : (t' : Int) < 64 := by omega
        have g4 : (t : Int) ≤ 64 := by omega
        have e2 : min t' 64 = t' := by omega
        obtain ⟨Q, hQ⟩ : ∃ Q, Q = N / 256 ^ m := ⟨_, rfl⟩
        obtain ⟨cc, hcc⟩ : ∃ cc, cc = Q % 256 := ⟨_, rfl⟩
        have hpw : 2 ^ t' = 256 ^ m := by rw [ht', Nat.pow_mul]
        have e3 : (N : Int) / 2 ^ t' = (Q : Int) := by
          rw [hQ, ← hpw]; simp
        have e4 : (Q : Int) % 256 = (cc : Int) := by omega
        obtain ⟨v', w', hrun, hB', hG'⟩ := round_buf (w := w1) (v := v) (l := l) (N := N) (m := m) hjm HBr.out HGr.out hl (by omega) (cc : Int) (by rw [hcc, hQ])
        have HB' := hid hB'
        have HG' := hid hG'
        have HT' := hid ht'
        have HTT := hid (show t' < t by omega)
        have HJ := hid hjm
        clear hjm ht ht' hQ hcc hpw hB' hG' HBr HGr Ht
        go_wp2_with (at_builtin; refine Lib.wpList_append_run _ rfl _ _ _ _ rfl _ _ rfl rfl _ _ (hrun _) ?_)
        go_roundw
        case rel => first | exact ⟨j + 1, m, t', by have := HJ.out; omega, rfl, HT', HB', HG'⟩ | ((repeat apply Exists.intro); exact ⟨⟨j + 1, m, t', by have := HJ.out; omega, rfl, HT', HB', HG'⟩, rfl⟩)
        case measure => simp [intOf]; exact HTT.out

end Go.Proofs.YtphbledmopchnaaGreatDoor

/-
  appendSum, cutSum.
-/
namespace Go.Proofs.YtphbledmopchnaaGreatDoor
open Go.RowKit Go.Lib Mm

theorem Buf.bytes {w : World} {v : Value} {l : List UInt8} (h : Buf w v l) : ∃ a c, v = .slice a l.length c ∧ BytesAt w a l := by
  rcases h with ⟨rfl, rfl⟩ | ⟨g, cap, cs, rfl, hB, h2, h3, h4, h5, h6⟩
  · exact ⟨none, 0, rfl, fun j hj => by simp at hj⟩
  · refine ⟨_, cap, rfl, fun j hj => ⟨g, 0, rfl, ?_⟩⟩
    rw [hB.cell, Nat.zero_add]
    have : (cs.take l.length)[j]? = (bcells l)[j]? := by rw [h5]
    rw [List.getElem?_take, if_pos hj] at this
    rw [this]
    simp [bcells, hj]

/-- The sum of a packet, as four bytes. -/
def sumBytes (l : List UInt8) : List UInt8 := Num.be 4 (Crc.sum l)

theorem sumBytes_cells (l : List UInt8) (q1 q2 q3 q4 : Nat) (h1 : q1 = Crc.sum l / 16777216 % 256) (h2 : q2 = Crc.sum l / 65536 % 256) (h3 : q3 = Crc.sum l / 256 % 256) (h4 : q4 = Crc.sum l % 256) :
    bcells (sumBytes l) = [.int .u8 (q1 : Int), .int .u8 (q2 : Int), .int .u8 (q3 : Int), .int .u8 (q4 : Int)] := by
  subst h1; subst h2; subst h3; subst h4
  simp [sumBytes, Num.be, bcells]

set_option maxHeartbeats 1000000 in
set_option maxRecDepth 100000 in
theorem appendSum_any (v : Value) (l : List UInt8) (w : World) (hb : Buf w v l) (ht : TabAt w) (hl : l.length ≤ 1000000000) :
    Calls Tryz.prog 220 #[v] w fun e w' => ∃ v', e = .returned v' ∧ Buf w' v' (l ++ sumBytes l) ∧ Gr w w' v v' := by
  obtain ⟨a, c, hv, hby⟩ := hb.bytes
  have hs := sum_any a l c w hl hby ht
  rw [← hv] at hs
  have hlt := Crc.sum_lt l
  obtain ⟨q1, h1⟩ : ∃ q, q = Crc.sum l / 16777216 % 256 := ⟨_, rfl⟩
  obtain ⟨q2, h2⟩ : ∃ q, q = Crc.sum l / 65536 % 256 := ⟨_, rfl⟩
  obtain ⟨q3, h3⟩ : ∃ q, q = Crc.sum l / 256 % 256 := ⟨_, rfl⟩
  obtain ⟨q4, h4⟩ : ∃ q, q = Crc.sum l % 256 := ⟨_, rfl⟩
  have hsc := sumBytes_cells l q1 q2 q3 q4 h1 h2 h3 h4
  obtain ⟨v', w', hrun, hB', hG'⟩ := run_append_buf (hb.alloc (.cells #[.int .u8 (q1 : Int), .int .u8 (q2 : Int), .int .u8 (q3 : Int), .int .u8 (q4 : Int)] 5)) ⟨w.heap.size, 0, none⟩ 4 4 (sumBytes l) (Num.be_length 4 _) (by omega) (fun i u hu => by
    rw [hsc] at hu
    rw [Addr.add_lit, Nat.zero_add, (Blk.new w 5 [.int .u8 (q1 : Int), .int .u8 (q2 : Int), .int .u8 (q3 : Int), .int .u8 (q4 : Int)]).cell]
    exact hu) (by omega)
  generalize Crc.sum l = S at hs hlt h1 h2 h3 h4
  have e1 : (S : Int) / 16777216 = (q1 : Int) := by omega
  have e2 : (S : Int) / 65536 % 256 = (q2 : Int) := by omega
  have e3 : (S : Int) / 256 % 256 = (q3 : Int) := by omega
  have e4 : (S : Int) % 256 = (q4 : Int) := by omega
  have HS := hid hs
  have HB' := hid hB'
  have HG' := hid (hG'.alloc _)
  clear h1 h2 h3 h4 hs hsc hB' hG' hb ht hby hv
  go_enter Tryz.func220, Tryz.ntmps220
  go_wp2_with fail
  refine HS.out.mono ?_
  rintro e w1 ⟨rfl, hw1⟩
  subst hw1
  go_wp2_with (at_builtin; refine Lib.wpList_append_run _ rfl _ _ _ _ rfl _ _ rfl rfl _ _ (hrun _) ?_)
  go_ret
  exact ⟨v', rfl, HB'.out, HG'.out⟩

theorem BytesAt.cut {w : World} {a : Option Addr} {l : List UInt8} (h : BytesAt w a l) (n : Nat) : BytesAt w a (l.take n) := fun j hj => by
  obtain ⟨b, off, ha, hc⟩ := h j (by simp at hj; omega)
  exact ⟨b, off, ha, by rw [hc]; simp⟩

set_option maxHeartbeats 1000000 in
set_option maxRecDepth 100000 in
theorem cutSum_short (a : Option Addr) (l : List UInt8) (c : Nat) (w : World) (hl : l.length < 4) :
    Calls Tryz.prog 115 #[.slice a l.length c] w fun e w' => e = .returned (.tuple #[.slice none 0 0, .bool false]) ∧ w' = w := by
  have h1 : (l.length : Int) - 4 < 0 := by omega
  go_enter Tryz.func115, Tryz.ntmps115
  go_wp2
  go_ret2
  exact ⟨rfl, rfl⟩

theorem ret_sb {x : Value} {a b : Bool} (h : a = b) : Ending.returned (.tuple #[x, .bool a]) = .returned (.tuple #[x, .bool b]) := by rw [h]

theorem val_snoc (a : Nat) (l : List UInt8) (x : UInt8) : Num.val a (l ++ [x]) = Num.val a l * 256 + x.toNat := by
  unfold Num.val; rw [List.foldl_append]; rfl
theorem val_lt : ∀ (l : List UInt8) (a k : Nat), a < 256 ^ k → Num.val a l < 256 ^ (k + l.length)
  | [], a, k, h => by simpa [Num.val] using h
  | x :: t, a, k, h => by
    have hx := Crc.u8_lt x
    have := val_lt t (a * 256 + x.toNat) (k + 1) (by rw [Nat.pow_succ]; omega)
    rw [List.length_cons, show k + (t.length + 1) = k + 1 + t.length by omega]
    exact this

theorem or_u32 (T X : Nat) (hT : T < 16777216) (hX : X < 256) : bits .or .u32 ((T : Int) * 256) (X : Int) = ((T * 256 + X : Nat) : Int) := by
  have h := u32_or_nat (T * 256) X (by omega) (by omega)
  rw [Nat.or_comm, or_add X T 8 hX, Nat.add_comm] at h
  rw [← h]
  simp

set_option maxHeartbeats 1000000 in
set_option maxRecDepth 100000 in
theorem cutSum_any (b off : Nat) (body tl : List UInt8) (c : Nat) (w : World) (hl : body.length ≤ 1000000000) (h4 : tl.length = 4) (hc : body.length + 4 ≤ c) (hb : BytesAt w (some ⟨b, off, none⟩) (body ++ tl)) (ht : TabAt w) :
    Calls Tryz.prog 115 #[.slice (some ⟨b, off, none⟩) (body.length + 4) c] w fun e w' => e = .returned (.tuple #[.slice (some ⟨b, off, none⟩) body.length c, .bool (decide (Num.val 0 tl = Crc.sum body))]) ∧ ∃ q, w' = w.drewN q := by
  have hbb : BytesAt w (some ⟨b, off, none⟩) body := by
    have := hb.cut body.length
    rwa [List.take_left'] at this
    rfl
  have hs := fun q => sum_any (some ⟨b, off, none⟩) body c (w.drewN q) hl hbb ht
  have htl : ∀ k, k < 4 → w.cell? ⟨b, off + body.length + k, none⟩ = some (.int .u8 (((tl.getD k 0).toNat : Nat) : Int)) := fun k hk => by
    obtain ⟨b', off', ha, hcc⟩ := hb (body.length + k) (by simp; omega)
    simp at ha
    obtain ⟨rfl, rfl⟩ := ha
    rw [Nat.add_assoc, hcc]
    simp [hk, h4]
  have hsn : ∀ k, k < 4 → Num.val 0 (tl.take (k + 1)) = Num.val 0 (tl.take k) * 256 + (tl.getD k 0).toNat ∧ Num.val 0 (tl.take k) < 16777216 := fun k hk => by
    refine ⟨?_, ?_⟩
    · rw [List.take_succ_eq_append_getElem (by omega), val_snoc]
      simp [hk, h4]
    · have := val_lt (tl.take k) 0 0 (by decide)
      have hk' : (tl.take k).length = k := by simp; omega
      rw [hk', Nat.zero_add] at this
      exact Nat.lt_of_lt_of_le this (by
        have : (256 : Nat) ^ k ≤ 256 ^ 3 := Nat.pow_le_pow_right (by decide) (by omega)
        omega)
  have HSN := hid hsn
  have HV4 : Hid (Num.val 0 (tl.take 4) = Num.val 0 tl) := by rw [List.take_of_length_le (by omega)]; rfl
  clear hsn
  have HS := hid hs
  have HT := hid htl
  have H4 := hid h4
  have i1 : (0 : Int) ≤ (body.length : Int) := by omega
  generalize body.length = n at *
  have i2 : (n : Int) ≤ (n : Int) + 4 := by omega
  have i3 : ¬ (c = n) := by omega
  clear hs htl hb hbb ht h4 H4
  go_enter Tryz.func115, Tryz.ntmps115
  go_wp2_with fail
  go_loop [5, 17] (fun s5 s17 => ∃ k : Nat, k ≤ 4 ∧ s17 = .int .i64 k ∧ s5 = .int .u32 (Num.val 0 (tl.take k) : Nat)) (fun _ s17 => 4 - (intOf s17).toNat)
  case atStart => exact ⟨0, Nat.zero_le _, rfl, rfl⟩
  case round =>
    obtain ⟨k, hk, rfl, rfl⟩ := hrel
    by_cases hlt : k < 4
    · have hlt' : (k : Int) < 4 := by omega
      have hcl := HT.out k hlt
      obtain ⟨hs1, hs2⟩ := HSN.out k hlt
      have hX := Crc.u8_lt (tl.getD k 0)
      generalize (tl.getD k 0).toNat = X at hcl hs1 hX
      generalize Num.val 0 (tl.take k) = T at hs1 hs2
      have e1 := or_u32 T X hs2 hX
      obtain ⟨T', hT'⟩ : ∃ T', T' = T * 256 + X := ⟨_, rfl⟩
      rw [← hT'] at e1 hs1
      have HS1 := hid hs1
      clear hs1 hT'
      go_wp2
      go_round
      case rel => exact ⟨k + 1, by omega, by go_num, by rw [HS1.out]⟩
      case measure => simp [intOf]; omega
    · obtain rfl : k = 4 := by omega
      rw [HV4.out]
      have hcv : (((Num.val 0 tl : Nat) : Int) == ((Crc.sum body : Nat) : Int)) = decide (Num.val 0 tl = Crc.sum body) := by
        rw [Bool.eq_iff_iff, beq_iff_eq, decide_eq_true_iff]; omega
      have HCV := hid hcv
      clear hcv
      have i4 : (n : Int) ≤ (c : Int) := by omega
      go_wp2_with fail
      go_quiet ((go_at_call 159; exact Calls.quiet_of_same (HS.out _)))
      go_wp2
      go_ret2
      exact ⟨ret_sb HCV.out, nq, rfl⟩

end Go.Proofs.YtphbledmopchnaaGreatDoor

/-
  Frames in memory; what may be written.
-/
namespace Go.Proofs.YtphbledmopchnaaGreatDoor
open Go.RowKit Go.Lib Mm

def M62 : Nat := 4611686018427387903

/-- Is the i-th range such as an Ack may have? -/
def okAt (rs : List (Nat × Nat)) (i : Nat) : Bool :=
  decide ((rs.getD i (0, 0)).1 ≤ (rs.getD i (0, 0)).2) && decide ((rs.getD i (0, 0)).2 ≤ M62) && (decide (i = 0) || decide ((rs.getD i (0, 0)).2 + 1 < (rs.getD (i - 1) (0, 0)).1))
def sndR (rs : List (Nat × Nat)) : Bool := (List.range rs.length).all (okAt rs) && decide (0 < rs.length)

/-- Ranges that are read. -/
def RngAt (w : World) (a : Option Addr) (rs : List (Nat × Nat)) : Prop :=
  ∀ j, j < rs.length → ∃ b off, a = some ⟨b, off, none⟩ ∧ w.cell? ⟨b, off + j * 2, none⟩ = some (.int .u64 ((rs.getD j (0, 0)).1 : Int)) ∧ w.cell? ⟨b, off + j * 2 + 1, none⟩ = some (.int .u64 ((rs.getD j (0, 0)).2 : Int)) ∧
    (rs.getD j (0, 0)).1 < 18446744073709551616 ∧ (rs.getD j (0, 0)).2 < 18446744073709551616

theorem RngAt.below {w w' : World} {a : Option Addr} {rs : List (Nat × Nat)} (h : RngAt w a rs) (hb : Below w.heap.size w w') : RngAt w' a rs := fun j hj => by
  obtain ⟨b, off, ha, h1, h2, h3⟩ := h j hj
  exact ⟨b, off, ha, (hb.cell (p := ⟨b, off + j * 2, none⟩) (World.block_lt_of_cell? _ _ h1)).trans h1, (hb.cell (p := ⟨b, off + j * 2 + 1, none⟩) (World.block_lt_of_cell? _ _ h2)).trans h2, h3⟩

theorem isKind_any (k : Int) (w : World) : Calls Tryz.prog 216 #[.int .i64 k] w fun e w' => e = .returned (.bool (decide (1 ≤ k ∧ k ≤ 8))) ∧ w' = w := by
  by_cases h : 1 ≤ k
  · go_enter Tryz.func216, Tryz.ntmps216
    go_wp2
    go_ret
    exact ⟨ret_bool (by rw [decide_eq_decide]; omega), rfl⟩
  · have h' : decide (1 ≤ k) = false := by simp; omega
    go_enter Tryz.func216, Tryz.ntmps216
    go_wp2
    go_ret
    exact ⟨ret_bool (by first | rfl | (symm; rw [decide_eq_false_iff_not]; omega)), rfl⟩

theorem isStream_any (k : Int) (w : World) : Calls Tryz.prog 287 #[.int .i64 k] w fun e w' => e = .returned (.bool (decide (0 ≤ k ∧ k < 8))) ∧ w' = w := by
  by_cases h : 0 ≤ k
  · go_enter Tryz.func287, Tryz.ntmps287
    go_wp2
    go_ret
    exact ⟨ret_bool (by rw [decide_eq_decide]; omega), rfl⟩
  · have h' : decide (0 ≤ k) = false := by simp; omega
    go_enter Tryz.func287, Tryz.ntmps287
    go_wp2
    go_ret
    exact ⟨ret_bool (by first | rfl | (symm; rw [decide_eq_false_iff_not]; omega)), rfl⟩

set_option maxHeartbeats 1000000 in
set_option maxRecDepth 100000 in
theorem soundRanges_any (a : Option Addr) (rs : List (Nat × Nat)) (c : Nat) (w : World) (hl : rs.length ≤ 1000000000) (hr : RngAt w a rs) :
    Calls Tryz.prog 335 #[.slice a rs.length c] w fun e w' => e = .returned (.bool (sndR rs)) ∧ Below w.heap.size w w' := by
  have HR := hid hr
  clear hr
  have HSR : Hid (sndR rs = ((List.range rs.length).all (okAt rs) && decide (0 < rs.length))) := rfl
  go_enter Tryz.func335, Tryz.ntmps335
  go_wp2_with fail
  go_loopw [7] (fun s7 wr => ∃ k : Nat, k ≤ rs.length ∧ s7 = .int .i64 k ∧ Hid (∀ i, i < k → okAt rs i = true) ∧ Hid (Below w.heap.size w wr)) (fun s7 _ => rs.length - (intOf s7).toNat)
  case atStart => exact ⟨0, Nat.zero_le _, rfl, fun i hi => absurd hi (Nat.not_lt_zero _), Below.refl _ _⟩
  case round =>
    obtain ⟨k, hk, rfl, HOK, HB⟩ := hrel
    by_cases hlt : k < rs.length
    · have hlt' : (k : Int) < (rs.length : Int) := by omega
      obtain ⟨b, off, ha, k1, k2, hb1, hb2⟩ := HR.out.below HB.out k hlt
      subst ha
      have hprev : 0 < k → wr.cell? ⟨b, off + (k - 1) * 2, none⟩ = some (.int .u64 ((rs.getD (k - 1) (0, 0)).1 : Int)) := fun h0 => by
        obtain ⟨b', off', ha', k1', _⟩ := HR.out.below HB.out (k - 1) (by omega)
        simp at ha'
        obtain ⟨rfl, rfl⟩ := ha'
        exact k1'
      have hok : Hid (okAt rs k = (decide ((rs.getD k (0, 0)).1 ≤ (rs.getD k (0, 0)).2) && decide ((rs.getD k (0, 0)).2 ≤ M62) && (decide (k = 0) || decide ((rs.getD k (0, 0)).2 + 1 < (rs.getD (k - 1) (0, 0)).1)))) := rfl
      have hbad : okAt rs k = false → Hid (sndR rs = false) := fun h => by
        have : (List.range rs.length).all (okAt rs) = false := by
          rw [List.all_eq_false]
          exact ⟨k, by simpa using hlt, by simp [h]⟩
        rw [HSR.out, this]; rfl
      have hgood : okAt rs k = true → Hid (∀ i, i < k + 1 → okAt rs i = true) := fun h i hi => by
        by_cases e : i = k
        · rw [e]; exact h
        · exact HOK.out i (by omega)
      generalize (rs.getD k (0, 0)).1 = x at k1 hb1 hok
      generalize (rs.getD k (0, 0)).2 = y at k2 hb2 hok
      generalize (rs.getD (k - 1) (0, 0)).1 = z at hprev hok
      generalize okAt rs k = okk at hok hbad hgood
      have HBB := hid (HB.out.size)
      have HHB := hid hbad
      have HHG := hid hgood
      clear hbad hgood HR HOK
      by_cases h1 : x ≤ y
      · have g1 : ¬ ((y : Int) < (x : Int)) := by omega
        by_cases h2 : y ≤ M62
        · have g2 : ¬ ((4611686018427387903 : Int) < (y : Int)) := by unfold M62 at h2; omega
          by_cases h3 : 0 < k
          · have g3 : (0 : Int) < (k : Int) := by omega
            have k3 := hprev h3
            have hbl : b < wr.heap.size := World.block_lt_of_cell? _ _ k3
            have e5 : ((k : Int) - 1).toNat = k - 1 := by omega
            have e6 : IntKind.i64.wrap ((k : Int) - 1) = (k : Int) - 1 := by rw [IntKind.wrap_i64]; omega
            have e7 : (k : Int) - 1 < (rs.length : Int) := by omega
            have e8 : 0 ≤ (k : Int) - 1 := by omega
            have e9 : IntKind.u64.wrap ((y : Int) + 1) = (y : Int) + 1 := by rw [IntKind.wrap_u64]; unfold M62 at h2; omega
            clear hprev
            by_cases h4 : y + 1 < z
            · have hk1 : okk = true := by rw [hok.out]; simp [h1, h2, h4]
              have HG2 := HHG.out hk1
              have g4 : ¬ ((z : Int) ≤ (y : Int) + 1) := by omega
              clear hok HHB HHG hk1
              go_wp2_with fail
              generalize hWq : wr.alloc (.cells #[.int .u64 (x : Int), .int .u64 (y : Int)] 170) = Wq
              have HBq : Hid (Below w.heap.size w Wq) := by rw [← hWq]; exact HB.out.alloc HBB.out _
              have j1 : Wq.cell? ⟨wr.heap.size, 1, none⟩ = some (.int .u64 (y : Int)) := by rw [← hWq]; exact (Blk.new wr 170 [.int .u64 (x : Int), .int .u64 (y : Int)]).cell 1
              have j2 : Wq.cell? ⟨b, off + (k - 1) * 2, none⟩ = some (.int .u64 (z : Int)) := by rw [← hWq, World.cell?_alloc_past _ b _ hbl]; exact k3
              clear hWq
              go_quiet (fail)
              go_wp2
              go_roundw
              case rel => exact ⟨k + 1, by omega, by go_num, HG2, HBq.out.os, HBq.out.tape, HBq.out.output, HBq.out.size, HBq.out.block⟩
              case measure => simp [intOf]; omega
            · have hk1 : okk = false := by rw [hok.out]; simp [h4]; omega
              have HG2 := HHB.out hk1
              have g4 : (z : Int) ≤ (y : Int) + 1 := by omega
              clear hok HHB HHG hk1
              go_wp2_with fail
              generalize hWq : wr.alloc (.cells #[.int .u64 (x : Int), .int .u64 (y : Int)] 170) = Wq
              have HBq : Hid (Below w.heap.size w Wq) := by rw [← hWq]; exact HB.out.alloc HBB.out _
              have j1 : Wq.cell? ⟨wr.heap.size, 1, none⟩ = some (.int .u64 (y : Int)) := by rw [← hWq]; exact (Blk.new wr 170 [.int .u64 (x : Int), .int .u64 (y : Int)]).cell 1
              have j2 : Wq.cell? ⟨b, off + (k - 1) * 2, none⟩ = some (.int .u64 (z : Int)) := by rw [← hWq, World.cell?_alloc_past _ b _ hbl]; exact k3
              clear hWq
              go_quiet (fail)
              go_wp2
              go_ret
              exact ⟨ret_bool HG2.out.symm, HBq.out.os, HBq.out.tape, HBq.out.output, HBq.out.size, HBq.out.block⟩
          · have g3 : decide ((0 : Int) < (k : Int)) = false := by simp; omega
            have hk1 : okk = true := by rw [hok.out]; simp [h1, h2]; omega
            have HG2 := HHG.out hk1
            clear hok HHB HHG hk1 hprev
            go_wp2_with fail
            generalize hWq : wr.alloc (.cells #[.int .u64 (x : Int), .int .u64 (y : Int)] 170) = Wq
            have HBq : Hid (Below w.heap.size w Wq) := by rw [← hWq]; exact HB.out.alloc HBB.out _
            have j1 : Wq.cell? ⟨wr.heap.size, 1, none⟩ = some (.int .u64 (y : Int)) := by rw [← hWq]; exact (Blk.new wr 170 [.int .u64 (x : Int), .int .u64 (y : Int)]).cell 1
            clear hWq
            go_quiet (fail)
            go_wp2
            go_roundw
            case rel => exact ⟨k + 1, by omega, by go_num, HG2, HBq.out.os, HBq.out.tape, HBq.out.output, HBq.out.size, HBq.out.block⟩
            case measure => simp [intOf]; omega
        · have g2 : (4611686018427387903 : Int) < (y : Int) := by unfold M62 at h2; omega
          have hk1 : okk = false := by rw [hok.out]; simp [h2]
          have HG2 := HHB.out hk1
          clear hok HHB HHG hk1 hprev
          go_wp2
          go_ret
          exact ⟨ret_bool HG2.out.symm, HB.out.alloc HBB.out _⟩
      · have g1 : (y : Int) < (x : Int) := by omega
        have hk1 : okk = false := by rw [hok.out]; simp [h1]
        have HG2 := HHB.out hk1
        clear hok HHB HHG hk1 hprev
        go_wp2
        go_ret
        exact ⟨ret_bool HG2.out.symm, HB.out.alloc HBB.out _⟩
    · obtain rfl : k = rs.length := by omega
      have hall : Hid (sndR rs = decide (0 < rs.length)) := by
        have : (List.range rs.length).all (okAt rs) = true := by
          rw [List.all_eq_true]
          intro i hi
          exact HOK.out i (by simpa using hi)
        rw [HSR.out, this]; rfl
      clear HSR HOK
      go_wp2
      go_ret
      exact ⟨ret_bool (by rw [hall.out, decide_eq_decide]), HB.out⟩

end Go.Proofs.YtphbledmopchnaaGreatDoor

/-
  A frame in memory; soundFrame.
-/
namespace Go.Proofs.YtphbledmopchnaaGreatDoor
open Go.RowKit Go.Lib Mm

structure Fr where
  kind : Int
  stream : Int
  offset : Nat
  reliable : Nat
  limit : Nat
  fin : Bool
  id : Nat
  deadline : Nat
  data : ByteArray
  ranges : List (Nat × Nat)

/-- A frame at ⟨b, off⟩. -/
structure FrAt (w : World) (b off : Nat) (f : Fr) (ra : Option Addr) (rc : Nat) : Prop where
  c0 : w.cell? ⟨b, off, none⟩ = some (.int .i64 f.kind)
  c1 : w.cell? ⟨b, off + 1, none⟩ = some (.int .i64 f.stream)
  c2 : w.cell? ⟨b, off + 2, none⟩ = some (.int .u64 (f.offset : Int))
  c3 : w.cell? ⟨b, off + 3, none⟩ = some (.int .u64 (f.reliable : Int))
  c4 : w.cell? ⟨b, off + 4, none⟩ = some (.int .u64 (f.limit : Int))
  c5 : w.cell? ⟨b, off + 5, none⟩ = some (.bool f.fin)
  c6 : w.cell? ⟨b, off + 6, none⟩ = some (.int .u64 (f.id : Int))
  c7 : w.cell? ⟨b, off + 7, none⟩ = some (.int .u64 (f.deadline : Int))
  c8 : w.cell? ⟨b, off + 8, none⟩ = some (.string f.data)
  c9 : w.cell? ⟨b, off + 9, none⟩ = some (.slice ra f.ranges.length rc)
  rng : RngAt w ra f.ranges
  rlen : f.ranges.length ≤ 1000000000
  dlen : f.data.size ≤ 1000000000
  k0 : -9223372036854775808 ≤ f.kind ∧ f.kind ≤ 9223372036854775807
  s0 : -9223372036854775808 ≤ f.stream ∧ f.stream ≤ 9223372036854775807
  u0 : f.offset < 18446744073709551616 ∧ f.reliable < 18446744073709551616 ∧ f.limit < 18446744073709551616 ∧ f.id < 18446744073709551616 ∧ f.deadline < 18446744073709551616

theorem FrAt.below {w w' : World} {b off : Nat} {f : Fr} {ra : Option Addr} {rc : Nat} (h : FrAt w b off f ra rc) (hb : Below w.heap.size w w') : FrAt w' b off f ra rc := by
  have hl := World.block_lt_of_cell? _ _ h.c0
  have e : ∀ o, w'.cell? ⟨b, o, none⟩ = w.cell? ⟨b, o, none⟩ := fun o => hb.cell (p := ⟨b, o, none⟩) hl
  exact ⟨by rw [e, h.c0], by rw [e, h.c1], by rw [e, h.c2], by rw [e, h.c3], by rw [e, h.c4], by rw [e, h.c5], by rw [e, h.c6], by rw [e, h.c7], by rw [e, h.c8], by rw [e, h.c9], h.rng.below hb, h.rlen, h.dlen, h.k0, h.s0, h.u0⟩
theorem FrAt.drewN {w : World} {b off : Nat} {f : Fr} {ra : Option Addr} {rc : Nat} (h : FrAt w b off f ra rc) (q : Nat) : FrAt (w.drewN q) b off f ra rc := h.below ⟨rfl, rfl, rfl, Nat.le_refl _, fun _ _ => rfl⟩

/-- All its numbers fit. -/
def sndN (f : Fr) : Bool := decide (f.offset ≤ M62) && decide (f.reliable ≤ M62) && decide (f.limit ≤ M62) && decide (f.id ≤ M62) && decide (f.deadline ≤ M62)
def sndT (f : Fr) : Bool :=
  if f.kind = 2 then sndR f.ranges else if f.kind = 3 then decide (f.reliable ≤ f.offset) else if f.kind = 4 then decide (f.data.size + f.offset ≤ M62) else true
def snd (f : Fr) : Bool := decide (1 ≤ f.kind ∧ f.kind ≤ 8) && sndN f && decide (0 ≤ f.stream ∧ f.stream < 8) && sndT f

theorem max5 (a b c d e : Nat) : ∃ mx : Nat, (∀ ts t w, (Builtin.max_ ts t #[.int .u64 (a : Int), .int .u64 (b : Int), .int .u64 (c : Int), .int .u64 (d : Int), .int .u64 (e : Int)]).run Tryz.prog w = .ok (.int .u64 (mx : Int)) w) ∧ ∀ B, mx ≤ B ↔ a ≤ B ∧ b ≤ B ∧ c ≤ B ∧ d ≤ B ∧ e ≤ B := by
  refine ⟨max (max (max (max a b) c) d) e, fun ts t w => ?_, fun B => by simp only [Nat.max_le, and_assoc]⟩
  simp only [Builtin.max_, List.foldlM_cons, List.foldlM_nil, Builtin.max2]
  simp only [Sem.run_bind, Sem.run_pure, Result.andThen_ok]
  congr 2
  split <;> (try split) <;> (try split) <;> (try split) <;> omega

set_option maxHeartbeats 1000000 in
set_option maxRecDepth 100000 in
theorem soundNumbers_any (b off : Nat) (f : Fr) (ra : Option Addr) (rc : Nat) (w : World) (h : FrAt w b off f ra rc) :
    Calls Tryz.prog 286 #[.pointer (some ⟨b, off, none⟩)] w fun e w' => e = .returned (.bool (sndN f)) ∧ ∃ q, w' = w.drewN q := by
  have HN : Hid (sndN f = (decide (f.offset ≤ M62) && decide (f.reliable ≤ M62) && decide (f.limit ≤ M62) && decide (f.id ≤ M62) && decide (f.deadline ≤ M62))) := rfl
  have c2 := h.c2
  have c3 := h.c3
  have c4 := h.c4
  have c6 := h.c6
  have c7 := h.c7
  obtain ⟨u1, u2, u3, u4, u5⟩ := h.u0
  obtain ⟨mx, hmx, hmx2⟩ := max5 f.offset f.reliable f.limit f.id f.deadline
  have HF : Hid (sndN f = decide ((mx : Int) ≤ 4611686018427387903)) := by
    rw [HN.out, Bool.eq_iff_iff]
    have := hmx2 4611686018427387903
    simp only [Bool.and_eq_true]
    constructor
    · rintro ⟨⟨⟨⟨a1, a2⟩, a3⟩, a4⟩, a5⟩
      have := this.2 ⟨of_decide_eq_true a1, of_decide_eq_true a2, of_decide_eq_true a3, of_decide_eq_true a4, of_decide_eq_true a5⟩
      exact decide_eq_true (by omega)
    · intro a
      have a' := of_decide_eq_true a
      obtain ⟨a1, a2, a3, a4, a5⟩ := this.1 (by omega)
      exact ⟨⟨⟨⟨decide_eq_true a1, decide_eq_true a2⟩, decide_eq_true a3⟩, decide_eq_true a4⟩, decide_eq_true a5⟩
  clear h HN hmx2
  go_enter Tryz.func286, Tryz.ntmps286
  go_wp2_with fail
  go_quiet (fail)
  go_wp2
  go_ret
  exact ⟨ret_bool HF.out.symm, nq, rfl⟩

set_option maxHeartbeats 1000000 in
set_option maxRecDepth 100000 in
theorem soundTogether_any (b off : Nat) (f : Fr) (ra : Option Addr) (rc : Nat) (w : World) (h : FrAt w b off f ra rc) (hN : f.offset ≤ M62) :
    Calls Tryz.prog 288 #[.pointer (some ⟨b, off, none⟩)] w fun e w' => e = .returned (.bool (sndT f)) ∧ Below w.heap.size w w' := by
  have HN : Hid (sndT f = if f.kind = 2 then sndR f.ranges else if f.kind = 3 then decide (f.reliable ≤ f.offset) else if f.kind = 4 then decide (f.data.size + f.offset ≤ M62) else true) := rfl
  have hR := soundRanges_any ra f.ranges rc w h.rlen h.rng
  have HR := hid hR
  clear hR
  have c0 := h.c0
  have c2 := h.c2
  have c3 := h.c3
  have c8 := h.c8
  have c9 := h.c9
  have hd := h.dlen
  obtain ⟨u1, u2, u3, u4, u5⟩ := h.u0
  clear h
  by_cases h2 : f.kind = 2
  · have HF : Hid (sndT f = sndR f.ranges) := by rw [HN.out, if_pos h2]; rfl
    have g2 : (f.kind == 2) = true := by simp [h2]
    clear HN h2
    go_enter Tryz.func288, Tryz.ntmps288
    go_wp2_with fail
    refine HR.out.mono ?_
    rintro e w' ⟨rfl, hb⟩
    have HB := hid hb
    clear hb
    go_wp2
    go_ret
    exact ⟨ret_bool HF.out.symm, HB.out⟩
  · have g2 : (f.kind == 2) = false := by simp [h2]
    by_cases h3 : f.kind = 3
    · have HF : Hid (sndT f = decide (f.reliable ≤ f.offset)) := by rw [HN.out, if_neg h2, if_pos h3]; rfl
      have g3 : (f.kind == 3) = true := by simp [h3]
      clear HN h2 h3 HR
      go_enter Tryz.func288, Tryz.ntmps288
      go_wp2_with fail
      go_quiet (fail)
      go_wp2
      go_ret
      exact ⟨ret_bool (by rw [HF.out, decide_eq_decide]), rfl, rfl, rfl, Nat.le_refl _, fun _ _ => rfl⟩
    · have g3 : (f.kind == 3) = false := by simp [h3]
      by_cases h4 : f.kind = 4
      · have HF : Hid (sndT f = decide (f.data.size + f.offset ≤ M62)) := by rw [HN.out, if_neg h2, if_neg h3, if_pos h4]; rfl
        have g4 : (f.kind == 4) = true := by simp [h4]
        have e1 : IntKind.u64.wrap (4611686018427387903 - (f.offset : Int)) = 4611686018427387903 - (f.offset : Int) := by rw [IntKind.wrap_u64]; unfold M62 at hN; omega
        have e2 : IntKind.u64.wrap ((f.data.size : Nat) : Int) = ((f.data.size : Nat) : Int) := by rw [IntKind.wrap_u64]; omega
        have HM := hid hN
        clear HN h2 h3 h4 HR hN
        go_enter Tryz.func288, Tryz.ntmps288
        go_wp2_with fail
        go_quiet (fail)
        go_wp2
        go_ret
        exact ⟨ret_bool (by rw [HF.out, decide_eq_decide]; have := HM.out; unfold M62 at *; omega), rfl, rfl, rfl, Nat.le_refl _, fun _ _ => rfl⟩
      · have HF : Hid (sndT f = true) := by rw [HN.out, if_neg h2, if_neg h3, if_neg h4]; rfl
        have g4 : (f.kind == 4) = false := by simp [h4]
        clear HN h2 h3 h4 HR
        go_enter Tryz.func288, Tryz.ntmps288
        go_wp2
        go_ret
        exact ⟨ret_bool HF.out.symm, Below.refl _ _⟩

set_option maxHeartbeats 1000000 in
set_option maxRecDepth 100000 in
theorem soundFrame_any (b off : Nat) (f : Fr) (ra : Option Addr) (rc : Nat) (w : World) (h : FrAt w b off f ra rc) :
    Calls Tryz.prog 218 #[.pointer (some ⟨b, off, none⟩)] w fun e w' => e = .returned (.bool (snd f)) ∧ Below w.heap.size w w' := by
  have HN : Hid (snd f = (decide (1 ≤ f.kind ∧ f.kind ≤ 8) && sndN f && decide (0 ≤ f.stream ∧ f.stream < 8) && sndT f)) := rfl
  have c0 := h.c0
  have c1 := h.c1
  have HK := hid (fun wx => isKind_any f.kind wx)
  have HS := hid (fun wx => isStream_any f.stream wx)
  have HNum := hid (soundNumbers_any b off f ra rc w h)
  have HT := hid (fun q hN => soundTogether_any b off f ra rc (w.drewN q) (h.drewN q) hN)
  have hNb : sndN f = true → f.offset ≤ M62 := fun hx => by
    unfold sndN at hx
    simp only [Bool.and_eq_true, decide_eq_true_eq] at hx
    exact hx.1.1.1.1
  have HNB := hid hNb
  clear h hNb
  generalize decide (1 ≤ f.kind ∧ f.kind ≤ 8) = B1 at *
  generalize sndN f = B2 at *
  generalize decide (0 ≤ f.stream ∧ f.stream < 8) = B3 at *
  generalize sndT f = B4 at *
  cases B1
  · have HF : Hid (snd f = false) := by rw [HN.out]; rfl
    clear HN
    go_enter Tryz.func218, Tryz.ntmps218
    go_wp2_with fail
    refine (HK.out _).mono ?_
    rintro e w1 ⟨rfl, hw1⟩
    subst hw1
    go_wp2
    go_ret
    exact ⟨ret_bool HF.out.symm, Below.refl _ _⟩
  · cases B2
    · have HF : Hid (snd f = false) := by rw [HN.out]; rfl
      clear HN
      go_enter Tryz.func218, Tryz.ntmps218
      go_wp2_with fail
      refine (HK.out _).mono ?_
      rintro e w1 ⟨rfl, hw1⟩
      subst hw1
      go_wp2_with fail
      refine HNum.out.mono ?_
      rintro e w2 ⟨rfl, q, rfl⟩
      go_wp2
      go_ret
      exact ⟨ret_bool HF.out.symm, rfl, rfl, rfl, Nat.le_refl _, fun _ _ => rfl⟩
    · cases B3
      · have HF : Hid (snd f = false) := by rw [HN.out]; rfl
        clear HN
        go_enter Tryz.func218, Tryz.ntmps218
        go_wp2_with fail
        refine (HK.out _).mono ?_
        rintro e w1 ⟨rfl, hw1⟩
        subst hw1
        go_wp2_with fail
        refine HNum.out.mono ?_
        rintro e w2 ⟨rfl, q, rfl⟩
        go_wp2_with fail
        refine (HS.out _).mono ?_
        rintro e w3 ⟨rfl, hw3⟩
        subst hw3
        go_wp2
        go_ret
        exact ⟨ret_bool HF.out.symm, rfl, rfl, rfl, Nat.le_refl _, fun _ _ => rfl⟩
      · have HF : Hid (snd f = B4) := by rw [HN.out]; rfl
        have hN := HNB.out rfl
        have HT2 := hid (fun q => HT.out q hN)
        clear HN HNB HT hN
        go_enter Tryz.func218, Tryz.ntmps218
        go_wp2_with fail
        refine (HK.out _).mono ?_
        rintro e w1 ⟨rfl, hw1⟩
        subst hw1
        go_wp2_with fail
        refine HNum.out.mono ?_
        rintro e w2 ⟨rfl, q, rfl⟩
        go_wp2_with fail
        refine (HS.out _).mono ?_
        rintro e w3 ⟨rfl, hw3⟩
        subst hw3
        go_wp2_with fail
        refine (HT2.out q).mono ?_
        rintro e w4 ⟨rfl, hb⟩
        have HB := hid hb
        clear hb
        go_wp2
        go_ret
        exact ⟨ret_bool HF.out.symm, HB.out.os, HB.out.tape, HB.out.output, HB.out.size, HB.out.block⟩

end Go.Proofs.YtphbledmopchnaaGreatDoor

/-
  The closures that write parts of frames.
-/
namespace Go.Proofs.YtphbledmopchnaaGreatDoor
open Go.RowKit Go.Lib Go.Shelf Mm

/-- The blocks from B0 to ahead of B1 are as in w1. -/
def Keep (B0 B1 : Nat) (w1 w : World) : Prop := B1 ≤ w.heap.size ∧ ∀ k, B0 ≤ k → k < B1 → w.heap[k]? = w1.heap[k]?

/-- What is known where a part of a frame is to be written. -/
structure WPre (B0 B1 : Nat) (w1 w : World) (v : Value) (l : List UInt8) (b off : Nat) (f : Fr) (ra : Option Addr) (rc : Nat) : Prop where
  keep : Keep B0 B1 w1 w
  buf : Buf w v l
  out : ∀ k, v.ownBlock = some k → k < B0 ∨ B1 ≤ k
  frm : FrAt w b off f ra rc
  nb : v.ownBlock ≠ some b
  nr : ∀ x, ra = some x → v.ownBlock ≠ some x.block
  rl : ∀ x, ra = some x → x.block < w.heap.size

theorem cell_of {w w' : World} {a : Addr} {v : Value} (h : w.cell? a = some v) (e : w'.heap[a.block]? = w.heap[a.block]?) : w'.cell? a = some v := by rw [World.cell?_of_block e]; exact h

theorem RngAt.of {w w' : World} {a : Option Addr} {rs : List (Nat × Nat)} (h : RngAt w a rs) (e : ∀ x : Addr, a = some x → x.block < w.heap.size → w'.heap[x.block]? = w.heap[x.block]?) : RngAt w' a rs := fun j hj => by
  obtain ⟨b, off, ha, h1, h2, h3⟩ := h j hj
  have hl := World.block_lt_of_cell? _ _ h1
  have e' := e _ ha hl
  exact ⟨b, off, ha, cell_of h1 e', cell_of h2 e', h3⟩

theorem FrAt.of {w w' : World} {b off : Nat} {f : Fr} {ra : Option Addr} {rc : Nat} (h : FrAt w b off f ra rc) (e : w'.heap[b]? = w.heap[b]?) (er : ∀ x : Addr, ra = some x → x.block < w.heap.size → w'.heap[x.block]? = w.heap[x.block]?) : FrAt w' b off f ra rc :=
  ⟨cell_of h.c0 e, cell_of h.c1 e, cell_of h.c2 e, cell_of h.c3 e, cell_of h.c4 e, cell_of h.c5 e, cell_of h.c6 e, cell_of h.c7 e, cell_of h.c8 e, cell_of h.c9 e, h.rng.of er, h.rlen, h.dlen, h.k0, h.s0, h.u0⟩

/-- Behind a part that was written. -/
theorem WPre.next {B0 B1 : Nat} {w1 w w' : World} {v v' : Value} {l l' : List UInt8} {b off : Nat} {f : Fr} {ra : Option Addr} {rc : Nat} (h : WPre B0 B1 w1 w v l b off f ra rc) (hB : Buf w' v' l') (hG : Gr w w' v v') : WPre B0 B1 w1 w' v' l' b off f ra rc := by
  have hbl := World.block_lt_of_cell? _ _ h.frm.c0
  have hsz := hG.1.size
  have hk := h.keep.1
  refine ⟨⟨Nat.le_trans hk hsz, fun k h0 h1 => (hG.1.block k (by omega) (fun e => by rcases h.out k e.symm with e' | e' <;> omega)).trans (h.keep.2 k h0 h1)⟩, hB, ?_, ?_, ?_, ?_, fun x hx => by have := h.rl x hx; omega⟩
  · intro k hk'
    rcases hG.2 k hk' with e | e
    · exact h.out k e
    · exact .inr (by omega)
  · exact h.frm.of (hG.1.block b hbl (fun e => h.nb e.symm)) (fun x hx hl => hG.1.block _ hl (fun e => h.nr x hx e.symm))
  · intro e
    rcases hG.2 b e with e' | e'
    · exact h.nb e'
    · have hbl' : b < w.heap.size := hbl
      omega
  · intro x hx e
    have hl := h.rl x hx
    rcases hG.2 _ e with e' | e'
    · exact h.nr x hx e'
    · omega

/-- A block is laid: nothing else turns. -/
theorem WPre.alloc {B0 B1 : Nat} {w1 w : World} {v : Value} {l : List UInt8} {b off : Nat} {f : Fr} {ra : Option Addr} {rc : Nat} (h : WPre B0 B1 w1 w v l b off f ra rc) (o : Obj) : WPre B0 B1 w1 (w.alloc o) v l b off f ra rc := by
  have hbl := World.block_lt_of_cell? _ _ h.frm.c0
  have hk := h.keep.1
  exact ⟨⟨by simp; omega, fun k h0 h1 => (Below.heap_alloc w o k (by omega)).trans (h.keep.2 k h0 h1)⟩, h.buf.alloc o, h.out, h.frm.of (Below.heap_alloc w o b hbl) (fun x _ hl => Below.heap_alloc w o _ hl), h.nb, h.nr, fun x hx => by have := h.rl x hx; simp; omega⟩

/-- A function value that writes the bytes sp of f behind what there is. -/
def Wr (B0 B1 : Nat) (w1 : World) (fv : Value) (sp : List UInt8) (b off : Nat) (f : Fr) (ra : Option Addr) (rc : Nat) : Prop :=
  ∃ g cb, fv = .func (.func g) #[] cb ∧ (∀ args w, (callFunc g args).run Tryz.prog w = .ok (.enter g args) w) ∧
    ∀ w v l, WPre B0 B1 w1 w v l b off f ra rc → l.length + sp.length ≤ 35184372088832 →
      Calls Tryz.prog g (#[v, .pointer (some ⟨b, off, none⟩)] ++ cb) w fun e w' => ∃ v', e = .returned v' ∧ Buf w' v' (l ++ sp) ∧ Gr w w' v v'

theorem Keep.cell {B0 B1 : Nat} {w1 w : World} (h : Keep B0 B1 w1 w) {k o : Nat} {v : Value} (h0 : B0 ≤ k) (h1 : k < B1) (hc : w1.cell? ⟨k, o, none⟩ = some v) : w.cell? ⟨k, o, none⟩ = some v := cell_of hc (h.2 k h0 h1)

/-- One byte is appended. -/
theorem run_append_one {w : World} {v : Value} {l : List UInt8} (h : Buf w v l) (x : UInt8) (c : Int) (hc : c = ((x.toNat : Nat) : Int)) (hl : l.length ≤ 35184372088832) :
    ∃ v' w', (∀ ty, (Builtin.append_ #[60, 60] ty #[v, .slice (some ⟨w.heap.size, 0, none⟩) 1 1]).run Tryz.prog (w.alloc (.cells #[.int .u8 c] 5)) = .ok v' w') ∧ Buf w' v' (l ++ [x]) ∧ Gr w w' v v' := by
  obtain ⟨v', w', h1, h2, h3⟩ := run_append_buf (h.alloc (.cells #[.int .u8 c] 5)) ⟨w.heap.size, 0, none⟩ 1 1 [x] rfl (by omega) (fun i u hu => by
    match i, hu with
    | 0, hu =>
      simp [bcells] at hu
      rw [Addr.add_lit, Nat.zero_add, (Blk.new w 5 [.int .u8 c]).cell, ← hu, hc]
      rfl
    | i + 1, hu => simp [bcells] at hu) (by omega)
  exact ⟨v', w', h1, h2, h3.alloc _⟩

set_option maxHeartbeats 1000000 in
theorem first_wr {B0 B1 : Nat} {w1 : World} (xb : Nat) (x : UInt8) (b off : Nat) (f : Fr) (ra : Option Addr) (rc : Nat) (h0 : B0 ≤ xb) (h1 : xb < B1) (hx : w1.cell? ⟨xb, 0, none⟩ = some (.int .u8 ((x.toNat : Nat) : Int))) :
    Wr B0 B1 w1 (.func (.func 321) #[] #[.pointer (some ⟨xb, 0, none⟩)]) [x] b off f ra rc := by
  refine ⟨321, _, rfl, enters_of Tryz.func321 (by kernel_rfl) rfl, fun w v l hp hl => ?_⟩
  have hc := hp.keep.cell h0 h1 hx
  obtain ⟨v', w', hrun, hB, hG⟩ := run_append_one hp.buf x ((x.toNat : Nat) : Int) rfl (by simp at hl; omega)
  have HB := hid hB
  have HG := hid hG
  generalize ((x.toNat : Nat) : Int) = X at hc hrun
  clear hB hG hp hl hx
  go_enter Tryz.func321, Tryz.ntmps321
  go_wp2_with (at_builtin; refine Lib.wpList_append_run _ rfl _ _ _ _ rfl _ _ rfl rfl _ _ (hrun _) ?_)
  go_ret
  exact ⟨v', rfl, HB.out, HG.out⟩

set_option maxHeartbeats 1000000 in
theorem firstData_wr {B0 B1 : Nat} {w1 : World} (b off : Nat) (f : Fr) (ra : Option Addr) (rc : Nat) :
    Wr B0 B1 w1 (.func (.func 331) #[] #[]) [if f.fin then 9 else 8] b off f ra rc := by
  refine ⟨331, _, rfl, enters_of Tryz.func331 (by kernel_rfl) rfl, fun w v l hp hl => ?_⟩
  have c5 := hp.frm.c5
  obtain ⟨v', w', hrun, hB, hG⟩ := run_append_one hp.buf (if f.fin then 9 else 8) (if f.fin then 9 else 8) (by cases f.fin <;> rfl) (by simp at hl; omega)
  have HB := hid hB
  have HG := hid hG
  clear hB hG hp hl
  cases hf : f.fin
  · rw [hf] at c5 hrun
    go_enter Tryz.func331, Tryz.ntmps331
    go_wp2_with (at_builtin; refine Lib.wpList_append_run _ rfl _ _ _ _ rfl _ _ rfl rfl _ _ (hrun _) ?_)
    go_ret
    rw [hf] at HB
    exact ⟨v', rfl, HB.out, HG.out⟩
  · rw [hf] at c5 hrun
    go_enter Tryz.func331, Tryz.ntmps331
    go_wp2_with (at_builtin; refine Lib.wpList_append_run _ rfl _ _ _ _ rfl _ _ rfl rfl _ _ (hrun _) ?_)
    go_ret
    rw [hf] at HB
    exact ⟨v', rfl, HB.out, HG.out⟩

set_option maxHeartbeats 1000000 in
theorem stream_wr {B0 B1 : Nat} {w1 : World} (b off : Nat) (f : Fr) (ra : Option Addr) (rc : Nat) (hs0 : 0 ≤ f.stream) (hs8 : f.stream < 8) :
    Wr B0 B1 w1 (.func (.func 327) #[] #[]) (Num.bytes f.stream.toNat) b off f ra rc := by
  refine ⟨327, _, rfl, enters_of Tryz.func327 (by kernel_rfl) rfl, fun w v l hp hl => ?_⟩
  have c1 := hp.frm.c1
  have hA := appendNumber_any v l f.stream.toNat w hp.buf (by omega) (by omega)
  obtain ⟨s, hs⟩ := Int.eq_ofNat_of_zero_le hs0
  rw [hs] at c1
  rw [hs, Int.toNat_natCast] at hA ⊢
  have hs8' : (s : Int) < 8 := by omega
  have HA := hid hA
  clear hA hp hl hs hs0 hs8
  go_enter Tryz.func327, Tryz.ntmps327
  go_wp2_with fail
  refine HA.out.mono ?_
  rintro e w' ⟨v', rfl, hB, hG⟩
  have HB := hid hB
  have HG := hid hG
  clear hB hG
  go_wp2
  go_ret
  exact ⟨v', rfl, HB.out, HG.out⟩

set_option maxHeartbeats 1000000 in
theorem number_wr {B0 B1 : Nat} {w1 : World} (pb pf i n : Nat) (b off : Nat) (f : Fr) (ra : Option Addr) (rc : Nat) (h0 : B0 ≤ pb) (h1 : pb < B1) (hx : w1.cell? ⟨pb, 0, none⟩ = some (.func (.func pf) #[] #[]))
    (he : ∀ args w, (callFunc pf args).run Tryz.prog w = .ok (.enter pf args) w) (hpf : ∀ w, Calls Tryz.prog pf #[.pointer (some ⟨b, off, none⟩)] w fun e w' => e = .returned (.pointer (some ⟨b, off + i, none⟩)) ∧ w' = w)
    (hc : ∀ w, FrAt w b off f ra rc → w.cell? ⟨b, off + i, none⟩ = some (.int .u64 (n : Int))) (hn : n ≤ M62) :
    Wr B0 B1 w1 (.func (.func 329) #[] #[.pointer (some ⟨pb, 0, none⟩)]) (Num.bytes n) b off f ra rc := by
  refine ⟨329, _, rfl, enters_of Tryz.func329 (by kernel_rfl) rfl, fun w v l hp hl => ?_⟩
  have cc := hp.keep.cell h0 h1 hx
  have cn := hc w hp.frm
  have HA := hid (appendNumber_any v l n w hp.buf (by unfold M62 at hn; omega) (by omega))
  have HP := hid (hpf w)
  clear hpf hp hl hc hn hx
  go_enter Tryz.func329, Tryz.ntmps329
  go_wp2_with fail
  refine HP.out.mono ?_
  rintro e w' ⟨rfl, hw'⟩
  subst hw'
  go_wp2_with fail
  refine HA.out.mono ?_
  rintro e w2 ⟨v', rfl, hB, hG⟩
  have HB := hid hB
  have HG := hid hG
  clear hB hG
  go_wp2
  go_ret
  exact ⟨v', rfl, HB.out, HG.out⟩

/-- 'append(b, s...)', s a string, b not empty. -/
theorem run_append_str {w : World} {v : Value} {l : List UInt8} (h : Buf w v l) (hl0 : 0 < l.length) (s : ByteArray) (hsz : l.length + s.size ≤ 70368744177664) :
    ∃ v' w', (∀ ty, (Builtin.append_ #[60, 9] ty #[v, .string s]).run Tryz.prog w = .ok v' w') ∧ Buf w' v' (l ++ s.data.toList) ∧ Gr w w' v v' := by
  obtain ⟨i, hi, hz, hs, hb⟩ := info_parts info5
  have hS : Src Tryz.prog i.size 9 (.string s) s.size (byteCells s) w := by rw [hs]; exact Src.ofString w u9 s
  have hbl : (byteCells s).length = s.size := byteCells_length s
  have hbc : byteCells s = bcells s.data.toList := rfl
  have hdl : s.data.toList.length = s.size := by rw [Array.length_toList]; rfl
  rcases h with ⟨_, rfl⟩ | ⟨g, cap, cs, rfl, hB, h2, h3, h4, h5, h6⟩
  · simp at hl0
  · by_cases hr : l.length + s.size ≤ cap
    · have hap := fun ty => run_append_room_src (P := Tryz.prog) (w := w) 60 9 ty 5 i u29 hi g 0 l.length cap _ s.size (byteCells s) hS hr (fun j hj => by rw [hB.cell, hs]; simp; omega) (fun j _ => hB.frozen _)
      have hse := splice_end cs (byteCells s) (0 + l.length * i.size) (by rw [hs]; omega)
      rw [setCells_blk hB _ (by rw [hs]; omega) (by rw [hbc]; exact bcells_one _)] at hap
      refine ⟨_, _, hap, .inr ⟨g, cap, _, by rw [List.length_append, hdl], hB.put _, ?_, by rw [List.length_append, hdl]; exact hr, h4, ?_, splice_one h6 (by rw [hbc]; exact bcells_one _)⟩, put_grown w g _, fun k hk => .inl hk⟩
      · rw [splice_length _ _ _ (by rw [hs]; omega), h2]
      · rw [hbl, hs, Nat.mul_one, Nat.zero_add] at hse
        rw [List.length_append, hdl, hs, Nat.mul_one, Nat.zero_add, hse, bcells_append, h5, hbc]
    · have hO : (Builtin.firstCells i.size l.length (.slice (some ⟨g, 0, none⟩) l.length cap)).run Tryz.prog w.drew = .ok (bcells l).toArray w.drew := by
        rw [hs]
        exact run_firstCells_some w.drew 1 l.length ⟨g, 0, none⟩ l.length cap (bcells l) (by rw [bcells_length, Nat.mul_one]) (fun j u hj => by
          rw [Addr.add_lit, Nat.zero_add]
          show w.cell? _ = _
          rw [hB.cell]
          rw [← h5, List.getElem?_take] at hj
          split at hj
          · exact hj
          · cases hj)
      have hap := fun ty => run_append_grow_src (P := Tryz.prog) (w := w) 60 9 ty 5 i (.int .u8 0) u29 hi hz (some ⟨g, 0, none⟩) l.length cap (bcells l) hO _ s.size (byteCells s) hS (by omega) (by omega) (by rw [hb]; exact growslice_fits (by omega) (by omega))
      have hGn := grownCap_ge w (l.length + s.size) cap 5
      have hG63 := grownCap_le_maxLen w (l.length + s.size) cap 5 (by unfold maxLen; omega)
      unfold maxLen at hG63
      have eB : ((bcells l ++ byteCells s).toArray ++ Builtin.zeroCells (Value.int .u8 0).cells (grownCap w (l.length + s.size) cap 5 - (l.length + s.size))) = (bcells l ++ byteCells s ++ (Builtin.zeroCells (Value.int .u8 0).cells (grownCap w (l.length + s.size) cap 5 - (l.length + s.size))).toList).toArray := by
        apply Array.ext'; simp
      rw [eB] at hap
      refine ⟨_, _, hap, .inr ⟨w.heap.size, _, _, by rw [List.length_append, hdl], Blk.new w 5 _, ?_, by rw [List.length_append, hdl]; exact hGn, hG63, ?_, ?_⟩, grown_trans (grown_drew w _) (World.grownBy_alloc w.drew _ _), ?_⟩
      · rw [List.length_append, List.length_append, zero1_len, hbl, bcells_length]; omega
      · rw [List.length_append, hdl, List.take_append_of_le_length (by rw [List.length_append, bcells_length]; omega), List.take_of_length_le (by rw [List.length_append, bcells_length]; omega), bcells_append, hbc]
      · intro u hu
        rcases List.mem_append.1 hu with hu | hu
        · rcases List.mem_append.1 hu with hu | hu
          · exact bcells_one l u hu
          · rw [hbc] at hu; exact bcells_one _ u hu
        · exact zero1_one _ u hu
      · intro k hk
        simp [Value.ownBlock] at hk
        exact .inr (by omega)

set_option maxHeartbeats 1000000 in
theorem text_wr {B0 B1 : Nat} {w1 : World} (b off : Nat) (f : Fr) (ra : Option Addr) (rc : Nat) :
    Wr B0 B1 w1 (.func (.func 333) #[] #[]) (Num.bytes f.data.size ++ f.data.data.toList) b off f ra rc := by
  refine ⟨333, _, rfl, enters_of Tryz.func333 (by kernel_rfl) rfl, fun w v l hp hl => ?_⟩
  have c8 := hp.frm.c8
  have hd := hp.frm.dlen
  have HA := hid (appendNumber_any v l f.data.size w hp.buf (by omega) (by omega))
  have hnl := Num.bytes_length f.data.size
  have hpos : 0 < (Num.bytes f.data.size).length := by rw [hnl]; exact Nat.pow_pos (by decide)
  have hcl : (Num.bytes f.data.size).length ≤ 8 := by
    rw [hnl]
    have := Num.code_le f.data.size
    have : 2 ^ Num.code f.data.size ≤ 2 ^ 3 := Nat.pow_le_pow_right (by decide) this
    omega
  have hdl : f.data.data.toList.length = f.data.size := by rw [Array.length_toList]; rfl
  have hnx := fun w' v' hB hG => (hp.next (w' := w') (v' := v') (l' := l ++ Num.bytes f.data.size) hB hG).frm.c8
  have HNX := hid hnx
  have hst := fun w' v' (hB : Buf w' v' (l ++ Num.bytes f.data.size)) => run_append_str hB (by rw [List.length_append]; omega) f.data (by rw [List.length_append] at hl ⊢; omega)
  have HST := hid hst
  clear hnx hst hp hl hnl hpos hcl hdl
  go_enter Tryz.func333, Tryz.ntmps333
  go_wp2_with fail
  refine HA.out.mono ?_
  rintro e w2 ⟨v', rfl, hB, hG⟩
  have c8' := HNX.out w2 v' hB hG
  obtain ⟨v3, w3, hrun, hB3, hG3⟩ := HST.out w2 v' hB
  rw [List.append_assoc] at hB3
  have HB := hid hB3
  have HG := hid (hG.trans hG3)
  clear hB hG hB3 hG3
  go_wp2_with (at_builtin; refine Lib.wpList_append_run _ rfl _ _ _ _ rfl _ _ rfl rfl _ _ (hrun _) ?_)
  go_ret
  exact ⟨v3, rfl, HB.out, HG.out⟩

end Go.Proofs.YtphbledmopchnaaGreatDoor

/-
  appendRanges.
-/
namespace Go.Proofs.YtphbledmopchnaaGreatDoor
open Go.RowKit Go.Lib Go.Shelf Mm

/-- The ranges behind the first, up to the k-th. -/
def rngTo (rs : List (Nat × Nat)) : Nat → List UInt8
  | 0 => []
  | k + 1 => rngTo rs k ++ (Num.bytes ((rs.getD k (0, 0)).1 - (rs.getD (k + 1) (0, 0)).2 - 2) ++ Num.bytes ((rs.getD (k + 1) (0, 0)).2 - (rs.getD (k + 1) (0, 0)).1))
def rngHead (rs : List (Nat × Nat)) : List UInt8 :=
  Num.bytes (rs.getD 0 (0, 0)).2 ++ (Num.bytes (rs.length - 1) ++ Num.bytes ((rs.getD 0 (0, 0)).2 - (rs.getD 0 (0, 0)).1))
def rngBytes (rs : List (Nat × Nat)) : List UInt8 := rngHead rs ++ rngTo rs (rs.length - 1)

theorem bytes_le (n : Nat) : (Num.bytes n).length ≤ 8 := by
  rw [Num.bytes_length]
  have : 2 ^ Num.code n ≤ 2 ^ 3 := Nat.pow_le_pow_right (by decide) (Num.code_le n)
  omega
theorem rngTo_le (rs : List (Nat × Nat)) : ∀ k, (rngTo rs k).length ≤ 16 * k
  | 0 => by simp [rngTo]
  | k + 1 => by
    have h := rngTo_le rs k
    have h1 := bytes_le ((rs.getD k (0, 0)).1 - (rs.getD (k + 1) (0, 0)).2 - 2)
    have h2 := bytes_le ((rs.getD (k + 1) (0, 0)).2 - (rs.getD (k + 1) (0, 0)).1)
    rw [rngTo, List.length_append, List.length_append]
    omega
theorem rngHead_le (rs : List (Nat × Nat)) : (rngHead rs).length ≤ 24 := by
  have h1 := bytes_le (rs.getD 0 (0, 0)).2
  have h2 := bytes_le (rs.length - 1)
  have h3 := bytes_le ((rs.getD 0 (0, 0)).2 - (rs.getD 0 (0, 0)).1)
  unfold rngHead
  rw [List.length_append, List.length_append]
  omega

theorem Gr.cell {w w' : World} {v v' : Value} (h : Gr w w' v v') {k o : Nat} {x : Value} (hc : w.cell? ⟨k, o, none⟩ = some x) (hne : v.ownBlock ≠ some k) : w'.cell? ⟨k, o, none⟩ = some x :=
  cell_of hc (h.1.block k (World.block_lt_of_cell? _ _ hc) (fun e => hne e.symm))

/-- What an Ack's ranges say of one another. -/
theorem sndR_at {rs : List (Nat × Nat)} (h : sndR rs = true) : 0 < rs.length ∧ ∀ k, k < rs.length → (rs.getD k (0, 0)).1 ≤ (rs.getD k (0, 0)).2 ∧ (rs.getD k (0, 0)).2 ≤ M62 ∧ (0 < k → (rs.getD k (0, 0)).2 + 1 < (rs.getD (k - 1) (0, 0)).1) := by
  unfold sndR at h
  rw [Bool.and_eq_true, List.all_eq_true] at h
  refine ⟨of_decide_eq_true h.2, fun k hk => ?_⟩
  have := h.1 k (by simpa using hk)
  unfold okAt at this
  rw [Bool.and_eq_true, Bool.and_eq_true, Bool.or_eq_true] at this
  refine ⟨of_decide_eq_true this.1.1, of_decide_eq_true this.1.2, fun h0 => ?_⟩
  rcases this.2 with e | e
  · have := of_decide_eq_true e; omega
  · exact of_decide_eq_true e

theorem rngTo_mono (rs : List (Nat × Nat)) : ∀ (m k : Nat), k ≤ m → (rngTo rs k).length ≤ (rngTo rs m).length
  | 0, k, h => by obtain rfl : k = 0 := by omega
                  exact Nat.le_refl _
  | m + 1, k, h => by
    by_cases e : k = m + 1
    · rw [e]; exact Nat.le_refl _
    · have := rngTo_mono rs m k (by omega)
      rw [rngTo, List.length_append]
      omega

theorem rng_nums {rs : List (Nat × Nat)} (hat : ∀ k, k < rs.length → (rs.getD k (0, 0)).1 ≤ (rs.getD k (0, 0)).2 ∧ (rs.getD k (0, 0)).2 ≤ M62 ∧ (0 < k → (rs.getD k (0, 0)).2 + 1 < (rs.getD (k - 1) (0, 0)).1)) (k : Nat) (hk : k + 1 < rs.length) :
    ∃ ga gb : Nat, ga = (rs.getD k (0, 0)).1 - (rs.getD (k + 1) (0, 0)).2 - 2 ∧ gb = (rs.getD (k + 1) (0, 0)).2 - (rs.getD (k + 1) (0, 0)).1 ∧
      (((rs.getD k (0, 0)).1 : Nat) : Int) - (((rs.getD (k + 1) (0, 0)).2 : Nat) : Int) = (((rs.getD k (0, 0)).1 - (rs.getD (k + 1) (0, 0)).2 : Nat) : Int) ∧
      (((rs.getD k (0, 0)).1 - (rs.getD (k + 1) (0, 0)).2 : Nat) : Int) - 2 = (ga : Int) ∧
      (((rs.getD (k + 1) (0, 0)).2 : Nat) : Int) - (((rs.getD (k + 1) (0, 0)).1 : Nat) : Int) = (gb : Int) ∧ ga < 4611686018427387904 ∧ gb < 4611686018427387904 ∧ IntKind.u64.wrap ((((rs.getD k (0, 0)).1 - (rs.getD (k + 1) (0, 0)).2 : Nat)) : Int) = ((((rs.getD k (0, 0)).1 - (rs.getD (k + 1) (0, 0)).2 : Nat)) : Int) ∧ IntKind.u64.wrap (ga : Int) = (ga : Int) ∧ IntKind.u64.wrap (gb : Int) = (gb : Int) := by
  obtain ⟨o1, o2, o3⟩ := hat (k + 1) (by omega)
  have o4 := o3 (by omega)
  rw [Nat.add_sub_cancel] at o4
  obtain ⟨o5, o6, _⟩ := hat k (by omega)
  unfold M62 at o2 o6
  exact ⟨_, _, rfl, rfl, by omega, by omega, by omega, by omega, by omega, by rw [IntKind.wrap_u64]; omega, by rw [IntKind.wrap_u64]; omega, by rw [IntKind.wrap_u64]; omega⟩

set_option maxHeartbeats 400000 in
set_option maxRecDepth 100000 in
theorem ranges_wr {B0 B1 : Nat} {w1 : World} (b off : Nat) (f : Fr) (ra : Option Addr) (rc : Nat) (hR : sndR f.ranges = true) (hrc : f.ranges.length ≤ rc) :
    Wr B0 B1 w1 (.func (.func 325) #[] #[]) (rngBytes f.ranges) b off f ra rc := by
  refine ⟨325, _, rfl, enters_of Tryz.func325 (by kernel_rfl) rfl, fun w v l hp hl => ?_⟩
  obtain ⟨hpos, hat⟩ := sndR_at hR
  have hrl := hp.frm.rlen
  have hmono := rngTo_mono f.ranges (f.ranges.length - 1)
  have hl2 : l.length + ((rngHead f.ranges).length + (rngTo f.ranges (f.ranges.length - 1)).length) ≤ 35184372088832 := by
    unfold rngBytes at hl; rw [List.length_append] at hl; exact hl
  obtain ⟨rb, ro, hra, r1, r2, _, _⟩ := hp.frm.rng 0 hpos
  rw [Nat.zero_mul, Nat.add_zero] at r1 r2
  have hrbl : rb < w.heap.size := World.block_lt_of_cell? _ _ r1
  have hnr := hp.nr _ hra
  have c9 := hp.frm.c9
  rw [hra] at c9
  obtain ⟨q1, q2, _⟩ := hat 0 hpos
  have hvl := hp.buf.lt
  -- the head
  have hp1 := hp.alloc (.cells #[.int .u64 ((f.ranges.getD 0 (0, 0)).1 : Int), .int .u64 ((f.ranges.getD 0 (0, 0)).2 : Int)] 170)
  have hk0 : (w.alloc (.cells #[.int .u64 ((f.ranges.getD 0 (0, 0)).1 : Int), .int .u64 ((f.ranges.getD 0 (0, 0)).2 : Int)] 170)).cell? ⟨w.heap.size, 0, none⟩ = some (.int .u64 ((f.ranges.getD 0 (0, 0)).1 : Int)) := (Blk.new w 170 [.int .u64 ((f.ranges.getD 0 (0, 0)).1 : Int), .int .u64 ((f.ranges.getD 0 (0, 0)).2 : Int)]).cell 0
  have hk1 : (w.alloc (.cells #[.int .u64 ((f.ranges.getD 0 (0, 0)).1 : Int), .int .u64 ((f.ranges.getD 0 (0, 0)).2 : Int)] 170)).cell? ⟨w.heap.size, 1, none⟩ = some (.int .u64 ((f.ranges.getD 0 (0, 0)).2 : Int)) := (Blk.new w 170 [.int .u64 ((f.ranges.getD 0 (0, 0)).1 : Int), .int .u64 ((f.ranges.getD 0 (0, 0)).2 : Int)]).cell 1
  have hhead : Hid (rngHead f.ranges = Num.bytes (f.ranges.getD 0 (0, 0)).2 ++ (Num.bytes (f.ranges.length - 1) ++ Num.bytes ((f.ranges.getD 0 (0, 0)).2 - (f.ranges.getD 0 (0, 0)).1))) := rfl
  have hhl : l.length + 24 ≤ 35184372088832 + 24 := by omega
  have HP1 := hid hp1
  have HK := hid (And.intro hk0 hk1)
  have HVL := hid hvl
  have HL2 := hid hl2
  have HMONO := hid hmono
  have HAT := hid hat
  have HRA := hid hra
  have HHD := hhead
  have HBYTES : Hid (rngBytes f.ranges = rngHead f.ranges ++ rngTo f.ranges (f.ranges.length - 1)) := rfl
  have HNR := hid hnr
  have HP := hid hp
  generalize hlo : (f.ranges.getD 0 (0, 0)).1 = lo0 at *
  generalize hhi : (f.ranges.getD 0 (0, 0)).2 = hi0 at *
  have HLO := hid hlo
  have g1 : (1 : Int) ≤ ((f.ranges.length : Nat) : Int) := by omega
  have g2 : ((f.ranges.length : Nat) : Int) ≤ (rc : Int) := by omega
  clear hp hp1 hk0 hk1 hvl hl2 hl hmono hat hhead hR hra hnr hlo hhi hhl
  have hbl : b < w.heap.size := World.block_lt_of_cell? _ _ c9
  obtain ⟨d0, hd0⟩ : ∃ d0, d0 = hi0 - lo0 := ⟨_, rfl⟩
  have ed : (hi0 : Int) - (lo0 : Int) = (d0 : Int) := by omega
  have hd0l : d0 ≤ hi0 := by omega
  have HD0 := hid hd0
  have HA1 := hid (appendNumber_any v l hi0 _ HP1.out.buf (by unfold M62 at q2; omega) (by have := HL2.out; omega))
  have hS1 : ∀ (x1 : World) (v1 : Value), Buf x1 v1 (l ++ Num.bytes hi0) → Gr (w.alloc (.cells #[.int .u64 (lo0 : Int), .int .u64 (hi0 : Int)] 170)) x1 v v1 →
      WPre B0 B1 w1 x1 v1 (l ++ Num.bytes hi0) b off f ra rc ∧ x1.cell? ⟨w.heap.size, 0, none⟩ = some (.int .u64 (lo0 : Int)) ∧ x1.cell? ⟨w.heap.size, 1, none⟩ = some (.int .u64 (hi0 : Int)) ∧ v1.ownBlock ≠ some w.heap.size := fun x1 v1 hB hG => by
    have hne : v.ownBlock ≠ some w.heap.size := fun e => by have := HVL.out _ e; omega
    refine ⟨HP1.out.next hB hG, hG.cell HK.out.1 hne, hG.cell HK.out.2 hne, fun e => ?_⟩
    rcases hG.2 _ e with e' | e'
    · exact hne e'
    · simp at e'; omega
  have HS1 := hid hS1
  clear hS1 hd0 HK HP1 HVL HNR
  by_cases hc1 : rc = 1
  · have hn1 : f.ranges.length = 1 := by omega
    subst hc1
    have HHD2 : Hid (rngHead f.ranges = Num.bytes hi0 ++ (Num.bytes 0 ++ Num.bytes (hi0 - lo0))) := by rw [HHD.out, hn1]; rfl
    have HBYTES2 : Hid (rngBytes f.ranges = rngHead f.ranges) := by rw [HBYTES.out, hn1]; exact List.append_nil _
    rw [hn1] at c9
    clear HHD HBYTES g1 g2 hrl hpos hrc hn1 HMONO HAT HRA
    go_enter Tryz.func325, Tryz.ntmps325
    go_wp2_with fail
    refine HA1.out.mono ?_
    rintro e x1 ⟨v1, rfl, hB1, hG1⟩
    obtain ⟨hp2, a0, a1, hn2⟩ := HS1.out x1 v1 hB1 hG1
    have HA2 := hid (appendNumber_any v1 _ 0 x1 hB1 (by omega) (by have := HL2.out; rw [HHD2.out] at this; simp only [List.length_append] at this ⊢; omega))
    have HG1 := hid hG1
    have HP2 := hid hp2
    have HN2 := hid hn2
    clear hB1 hG1 hp2 hn2 HA1 HS1
    go_wp2_with fail
    refine HA2.out.mono ?_
    rintro e x2 ⟨v2, rfl, hB2, hG2⟩
    have b0 := hG2.cell a0 HN2.out
    have b1 := hG2.cell a1 HN2.out
    have hp3 := HP2.out.next hB2 hG2
    have hn3 : v2.ownBlock ≠ some w.heap.size := fun e => by
      rcases hG2.2 _ e with e' | e'
      · exact HN2.out e'
      · have := World.block_lt_of_cell? _ _ a0
        simp at this
        omega
    have HA3 := hid (appendNumber_any v2 _ d0 x2 hB2 (by unfold M62 at q2; omega) (by have := HL2.out; rw [HHD2.out] at this; simp only [List.length_append] at this ⊢; omega))
    have HG2 := hid (HG1.out.trans hG2)
    have HP3 := hid hp3
    have HN3 := hid hn3
    clear hB2 hG2 hp3 hn3 HA2 HG1 HP2 HN2 a0 a1
    go_wp2_with fail
    refine HA3.out.mono ?_
    rintro e x3 ⟨v3, rfl, hB3, hG3⟩
    have d1 := hG3.cell b0 HN3.out
    have hp4 := HP3.out.next hB3 hG3
    rw [List.append_assoc, List.append_assoc, HD0.out, ← HHD2.out] at hp4
    have HG3 := hid (HG2.out.trans hG3)
    have HP4 := hid hp4
    clear hB3 hG3 hp4 HA3 HG2 HP3 HN3 b0 b1
    go_wp2_with fail
    go_loopw [0, 7, 41] (fun s0 s7 s41 wr => s41 = .int .i64 0 ∧ s0 = v3 ∧ wr = x3) (fun _ _ _ _ => 0)
    case atStart => exact ⟨rfl, rfl, rfl⟩
    case round =>
      obtain ⟨rfl, rfl, rfl⟩ := hrel
      have hfin := HP4.out.buf
      rw [← HBYTES2.out] at hfin
      have HF := hid hfin
      clear hfin HP4
      go_wp2
      go_ret
      exact ⟨_, rfl, HF.out, HG3.out.alloc _⟩
  · have g3 : ¬ (rc = 1) := hc1
    go_enter Tryz.func325, Tryz.ntmps325
    go_wp2_with fail
    refine HA1.out.mono ?_
    rintro e x1 ⟨v1, rfl, hB1, hG1⟩
    obtain ⟨hp2, a0, a1, hn2⟩ := HS1.out x1 v1 hB1 hG1
    have HA2 := hid (appendNumber_any v1 _ (f.ranges.length - 1) x1 hB1 (by omega) (by have := HL2.out; rw [HHD.out] at this; simp only [List.length_append] at this ⊢; omega))
    have HG1 := hid hG1
    have HP2 := hid hp2
    have HN2 := hid hn2
    clear hB1 hG1 hp2 hn2 HA1 HS1
    go_wp2_with fail
    refine HA2.out.mono ?_
    rintro e x2 ⟨v2, rfl, hB2, hG2⟩
    have b0 := hG2.cell a0 HN2.out
    have b1 := hG2.cell a1 HN2.out
    have hp3 := HP2.out.next hB2 hG2
    have hn3 : v2.ownBlock ≠ some w.heap.size := fun e => by
      rcases hG2.2 _ e with e' | e'
      · exact HN2.out e'
      · have := World.block_lt_of_cell? _ _ a0
        simp at this
        omega
    have HA3 := hid (appendNumber_any v2 _ d0 x2 hB2 (by unfold M62 at q2; omega) (by have := HL2.out; rw [HHD.out] at this; simp only [List.length_append] at this ⊢; omega))
    have HG2 := hid (HG1.out.trans hG2)
    have HP3 := hid hp3
    have HN3 := hid hn3
    clear hB2 hG2 hp3 hn3 HA2 HG1 HP2 HN2 a0 a1
    go_wp2_with fail
    refine HA3.out.mono ?_
    rintro e x3 ⟨v3, rfl, hB3, hG3⟩
    have d1 := hG3.cell b0 HN3.out
    have hp4 := HP3.out.next hB3 hG3
    rw [List.append_assoc, List.append_assoc, HD0.out, ← HHD.out] at hp4
    have HG3 := hid (HG2.out.trans hG3)
    have HP4 := hid hp4
    clear hB3 hG3 hp4 HA3 HG2 HP3 HN3 b0 b1
    go_wp2_with fail
    go_loopw [0, 7, 41] (fun s0 s7 s41 wr => ∃ k : Nat, k ≤ f.ranges.length - 1 ∧ s41 = .int .i64 k ∧ s7 = .int .u64 ((f.ranges.getD k (0, 0)).1 : Nat) ∧ Hid (WPre B0 B1 w1 wr s0 ((l ++ rngHead f.ranges) ++ rngTo f.ranges k) b off f ra rc) ∧ Hid (Gr (w.alloc (.cells #[.int .u64 (lo0 : Int), .int .u64 (hi0 : Int)] 170)) wr v s0)) (fun _ _ s41 _ => f.ranges.length - 1 - (intOf s41).toNat)
    case atStart => exact ⟨0, Nat.zero_le _, rfl, by rw [HLO.out], by rw [rngTo, List.append_nil]; exact HP4.out, HG3.out⟩
    case round =>
      obtain ⟨k, hk, rfl, rfl, HPk, HGk⟩ := hrel
      by_cases hlt : k < f.ranges.length - 1
      · obtain ⟨rb', ro', hra', t1, t2, z1, z2⟩ := HPk.out.frm.rng (k + 1) (by omega)
        rw [HRA.out] at hra'
        simp at hra'
        obtain ⟨rfl, rfl⟩ := hra'
        rw [show ro + (k + 1) * 2 = ro + 2 + k * 2 by omega] at t1 t2
        obtain ⟨ga, gb, hga, hgb, e1, e2, e3, hgal, hgbl, e4, e5, e6⟩ := rng_nums HAT.out k (by omega)
        have hstep : Hid (rngTo f.ranges (k + 1) = rngTo f.ranges k ++ (Num.bytes ((f.ranges.getD k (0, 0)).1 - (f.ranges.getD (k + 1) (0, 0)).2 - 2) ++ Num.bytes ((f.ranges.getD (k + 1) (0, 0)).2 - (f.ranges.getD (k + 1) (0, 0)).1))) := rfl
        rw [← hga, ← hgb] at hstep
        have hlen := HMONO.out (k + 1) (by omega)
        rw [hstep.out] at hlen
        simp only [List.length_append] at hlen
        have hl3 := HL2.out
        clear hga hgb
        generalize (f.ranges.getD k (0, 0)).1 = lok at e1 e2 e4 ⊢
        generalize (f.ranges.getD (k + 1) (0, 0)).2 = hi' at t2 z2 e1 e2 e3 e4
        generalize hZ : (f.ranges.getD (k + 1) (0, 0)).1 = lo' at t1 z1 e3
        clear z1 z2
        have hw := HPk.out.alloc (.cells #[.int .u64 (lo' : Int), .int .u64 (hi' : Int)] 170)
        have n0 : (wr.alloc (.cells #[.int .u64 (lo' : Int), .int .u64 (hi' : Int)] 170)).cell? ⟨wr.heap.size, 0, none⟩ = some (.int .u64 (lo' : Int)) := (Blk.new wr 170 [.int .u64 (lo' : Int), .int .u64 (hi' : Int)]).cell 0
        have n1 : (wr.alloc (.cells #[.int .u64 (lo' : Int), .int .u64 (hi' : Int)] 170)).cell? ⟨wr.heap.size, 1, none⟩ = some (.int .u64 (hi' : Int)) := (Blk.new wr 170 [.int .u64 (lo' : Int), .int .u64 (hi' : Int)]).cell 1
        have hne : u0.ownBlock ≠ some wr.heap.size := fun e => by have := HPk.out.buf.lt _ e; omega
        have HA1 := hid (appendNumber_any u0 _ ga _ hw.buf hgal (by simp only [List.length_append]; omega))
        have hlb : (((l ++ rngHead f.ranges) ++ rngTo f.ranges k) ++ Num.bytes ga).length ≤ 35184372088832 := by simp only [List.length_append]; omega
        have HLB := hid hlb
        have HGBL := hid hgbl
        have HW := hid hw
        have HN01 := hid (And.intro n0 (And.intro n1 hne))
        have HZ := hid hZ
        have glt : (k : Int) < ((f.ranges.length - 1 : Nat) : Int) := by omega
        have hrl2 : rb < wr.heap.size := World.block_lt_of_cell? _ _ t1
        clear hZ hw n0 n1 hne hlb hgbl hgal hlen hl3
        go_wp2_with fail
        refine HA1.out.mono ?_
        rintro e y1 ⟨s1, rfl, hB1, hG1⟩
        obtain ⟨m0, m1, mne⟩ := HN01.out
        have p0 := hG1.cell m0 mne
        have p1 := hG1.cell m1 mne
        have hp2 := HW.out.next hB1 hG1
        have HA2 := hid (appendNumber_any s1 _ gb y1 hB1 HGBL.out HLB.out)
        have HG1 := hid (HGk.out.trans (hG1.alloc _))
        have HP2 := hid hp2
        have mne1 : s1.ownBlock ≠ some wr.heap.size := fun e => by
          rcases hG1.2 _ e with e' | e'
          · exact mne e'
          · simp at e'; omega
        have HMNE := hid mne1
        clear m0 m1 mne hB1 hG1 hp2 HA1 HW HN01 mne1
        go_wp2_with fail
        refine HA2.out.mono ?_
        rintro e y2 ⟨s2, rfl, hB2, hG2⟩
        have p2 := hG2.cell p0 HMNE.out
        have hp3 := HP2.out.next hB2 hG2
        rw [List.append_assoc, List.append_assoc, ← hstep.out] at hp3
        have HG2 := hid (HG1.out.trans hG2)
        have HP3 := hid hp3
        clear hB2 hG2 hp3 HA2 HG1 HP2 p0 p1
        go_wp2_with fail
        go_roundw
        case rel => exact ⟨k + 1, by omega, by go_num, by rw [HZ.out], HP3, HG2⟩
        case measure => simp [intOf]; omega
      · obtain rfl : k = f.ranges.length - 1 := by omega
        have hfin := HPk.out.buf
        rw [List.append_assoc, ← HBYTES.out] at hfin
        have HF := hid hfin
        clear hfin HPk
        go_wp2
        go_ret
        exact ⟨_, rfl, HF.out, HGk.out.alloc _⟩

end Go.Proofs.YtphbledmopchnaaGreatDoor

/-
  inOrder: the writer of several parts.
-/
namespace Go.Proofs.YtphbledmopchnaaGreatDoor
open Go.RowKit Go.Lib Go.Shelf Mm

/-- What the first k parts write. -/
def partsTo (ps : List (List UInt8)) : Nat → List UInt8
  | 0 => []
  | k + 1 => partsTo ps k ++ ps.getD k []
theorem partsTo_mono (ps : List (List UInt8)) : ∀ (m k : Nat), k ≤ m → (partsTo ps k).length ≤ (partsTo ps m).length
  | 0, k, h => by obtain rfl : k = 0 := by omega
                  exact Nat.le_refl _
  | m + 1, k, h => by
    by_cases e : k = m + 1
    · rw [e]; exact Nat.le_refl _
    · have := partsTo_mono ps m k (by omega)
      rw [partsTo, List.length_append]
      omega

set_option maxHeartbeats 1000000 in
set_option maxRecDepth 100000 in
theorem inOrder_wr {B0 B1 : Nat} {w1 : World} (pb qb np : Nat) (fw fr : Nat → Value) (ps : List (List UInt8)) (b off : Nat) (f : Fr) (ra : Option Addr) (rc : Nat) (hnp : np ≤ 100) (hp0 : B0 ≤ pb) (hp1 : pb < B1) (hq0 : B0 ≤ qb) (hq1 : qb < B1)
    (hpb : w1.cell? ⟨pb, 0, none⟩ = some (.slice (some ⟨qb, 0, none⟩) np np)) (hcell : ∀ j, j < np → w1.cell? ⟨qb, j * 2, none⟩ = some (fw j) ∧ w1.cell? ⟨qb, j * 2 + 1, none⟩ = some (fr j)) (hfr : ∀ j, j < np → ∃ g cb, fr j = .func (.func g) #[] cb)
    (hwr : ∀ j, j < np → Wr B0 B1 w1 (fw j) (ps.getD j []) b off f ra rc) :
    Wr B0 B1 w1 (.func (.func 323) #[] #[.pointer (some ⟨pb, 0, none⟩)]) (partsTo ps np) b off f ra rc := by
  refine ⟨323, _, rfl, enters_of Tryz.func323 (by kernel_rfl) rfl, fun w v l hp hl => ?_⟩
  have cp := hp.keep.cell hp0 hp1 hpb
  have HP := hid hp
  have HMONO := hid (partsTo_mono ps np)
  have HL := hid hl
  have HC := hid hcell
  have HFR := hid hfr
  have HWR := hid hwr
  have HQ := hid (And.intro hq0 hq1)
  clear hp hl hcell hfr hwr hpb hp0 hp1 hq0 hq1
  go_enter Tryz.func323, Tryz.ntmps323
  go_wp2_with fail
  go_loopw [0, 10] (fun s0 s10 wr => ∃ k : Nat, k ≤ np ∧ s10 = .int .i64 k ∧ Hid (WPre B0 B1 w1 wr s0 (l ++ partsTo ps k) b off f ra rc) ∧ Hid (Gr w wr v s0)) (fun _ s10 _ => np - (intOf s10).toNat)
  case atStart => exact ⟨0, Nat.zero_le _, rfl, by rw [partsTo, List.append_nil]; exact HP.out, Gr.refl w v⟩
  case round =>
    obtain ⟨k, hk, rfl, HPk, HGk⟩ := hrel
    by_cases hlt : k < np
    · have hlt' : (k : Int) < (np : Int) := by omega
      obtain ⟨q1, q2⟩ := HC.out k hlt
      have t1 := HPk.out.keep.cell HQ.out.1 HQ.out.2 q1
      have t2 := HPk.out.keep.cell HQ.out.1 HQ.out.2 q2
      obtain ⟨g, cb, hfw, eg, hW⟩ := HWR.out k hlt
      obtain ⟨g2, cb2, hfr2⟩ := HFR.out k hlt
      rw [hfw] at t1
      rw [hfr2] at t2
      have hw := HPk.out.alloc (.cells #[.func (.func g) #[] cb, .func (.func g2) #[] cb2] 318)
      have hlen := HMONO.out (k + 1) (by omega)
      have hl2 := HL.out
      have hst : Hid (partsTo ps (k + 1) = partsTo ps k ++ ps.getD k []) := rfl
      rw [hst.out, List.length_append] at hlen
      have hc := hW _ _ _ hw (by rw [List.length_append]; omega)
      have HC2 := hid hc
      have HW := hid hw
      have hbl : qb < wr.heap.size := World.block_lt_of_cell? _ _ t1
      clear hfw hfr2 hw hlen hl2 hc hW q1 q2
      go_wp2_with fail
      refine HC2.out.mono ?_
      rintro e y ⟨s1, rfl, hB, hG⟩
      have hp2 := HW.out.next hB hG
      rw [List.append_assoc, ← hst.out] at hp2
      have HP2 := hid hp2
      have HG2 := hid (HGk.out.trans (hG.alloc _))
      clear hB hG hp2 HC2 HW
      go_wp2_with fail
      go_roundw
      case rel => exact ⟨k + 1, by omega, by go_num, HP2, HG2⟩
      case measure => simp [intOf]; omega
    · obtain rfl : k = np := by omega
      have HF := hid HPk.out.buf
      clear HPk
      go_wp2
      go_ret
      exact ⟨_, rfl, HF.out, HGk.out⟩

end Go.Proofs.YtphbledmopchnaaGreatDoor
