import Derived.Test.YtphbledmopchnaaGreatDoorQi
import Derived.Test.YtphbledmopchnaaGreatDoorUj
import Derived.Test.YtphbledmopchnaaGreatDoorUk
import Derived.Test.YtphbledmopchnaaGreatDoorQc
import Derived.Test.YtphbledmopchnaaGreatDoorQb
import Derived.Test.YtphbledmopchnaaGreatDoorQg
/-
  (*Set).Add, all of it: too many ranges, nothing at all.
-/
namespace Go.Proofs.YtphbledmopchnaaGreatDoor.St
open Go.RowKit Go.Lib Mm

/-- join, all of it. -/
theorem joins : JoinSaid := fun sp lo hi base c most fl rs w hS hB hn hlo hhi hs R hc hc63 => by
  by_cases h : Rg.fst' lo rs < Rg.end' hi rs
  · exact join_some sp lo hi base c most fl rs w hS hB hn hlo hhi hs R hc hc63 h
  · exact join_none sp lo hi base c most fl rs w hS hB hn hlo hhi hs R hc hc63 h

theorem bound_gen (sp : Nat) (most : Int) (w : World) (h0 : w.cell? ⟨sp, 0, none⟩ = some (.int .i64 most)) :
    Calls Tryz.prog 169 #[.pointer (some ⟨sp, 0, none⟩)] w fun e w' => e = .returned (.int .i64 (max most 1)) ∧ w' = w := by
  go_enter Tryz.func169, Tryz.ntmps169
  go_wp2
  go_ret
  exact ⟨ret_int (by omega), rfl⟩

theorem SetAt.len_le {w : World} {sp : Nat} {most : Int} {fl : Nat} {rs : List (Nat × Nat)} {row : Option Nat} (h : SetAt w sp most fl rs row) : rs.length ≤ 9223372036854775807 := by
  obtain ⟨base, c, _, h2, h3, _⟩ := h
  omega

theorem rcells_tail (rs : List (Nat × Nat)) : (rcells rs).drop 2 = rcells rs.tail := by
  cases rs with
  | nil => rfl
  | cons r t => rfl

set_option maxHeartbeats 2000000 in
set_option maxRecDepth 100000 in
theorem drop_any (sp : Nat) (most : Int) (fl : Nat) (rs : List (Nat × Nat)) (row : Option Nat) (w : World) (hset : SetAt w sp most fl rs row) (hlen : 2 ≤ rs.length) (hn : rs.length ≤ 1000001) (hhi : (rs.getD 0 (0, 0)).2 + 1 < 18446744073709551616) :
    Calls Tryz.prog 170 #[.pointer (some ⟨sp, 0, none⟩)] w fun e w' => e = .returned (.tuple #[]) ∧ ∃ b', SetAt w' sp most ((rs.getD 0 (0, 0)).2 + 1) rs.tail (some b') ∧ Kept w w' sp row ∧ (some b' = row ∨ w.heap.size ≤ b') := by
  obtain ⟨base, c, h1, h2, h3, h4, h5⟩ := hset
  have hcc := h5.cell_hi (i := 0) (by omega)
  rcases h5 with ⟨_, hnil, _⟩ | ⟨b, l, rfl, hb, hB, hl, ht, hone⟩
  · simp [hnil] at hlen
  obtain ⟨m, hm⟩ : ∃ m, rs.length = m + 1 := ⟨rs.length - 1, by omega⟩
  obtain ⟨b', hb', _, _, hc1, _⟩ := hcc
  simp at hb'
  subst hb'
  have HT : Hid (rs.tail.length = m ∧ (l.take (2 * (m + 1))).drop 2 = rcells rs.tail) := ⟨by simp; omega, by rw [← hm, ht, rcells_tail]⟩
  rw [hm] at h1 h2 hn hlen
  generalize rs.tail = rt at *
  generalize (rs.getD 0 (0, 0)).2 = x at *
  clear ht hm
  have hx : ((x + 1 : Nat) : Int) = (x : Int) + 1 := by omega
  obtain ⟨W1, hW1⟩ : ∃ W1, W1 = w.setCell ⟨sp, 1, none⟩ (.int .u64 ((x : Int) + 1)) := ⟨_, rfl⟩
  have hsp1 : Blk W1 sp 233 [.int .i64 most, .int .u64 ((x + 1 : Nat) : Int), .slice (some ⟨b, 0, none⟩) (m + 1) c] := by rw [hW1, hx]; exact h1.stCell 1 _
  have hB1 : Blk W1 b 170 l := by rw [hW1]; exact hB.stCell_other _ _ hb
  have HD := hid (delete_first b m c l W1 (by omega) (by omega) h3 (by omega) hB1 hl hone)
  have k2 : w.cell? ⟨sp, 2, none⟩ = some (.slice (some ⟨b, 0, none⟩) (m + 1) c) := h1.cell 2
  have k1 : w.cell? ⟨sp, 1, none⟩ = some (.int .u64 (fl : Int)) := h1.cell 1
  have f1 := h1.frozen 1
  have j2 : W1.cell? ⟨sp, 2, none⟩ = some (.slice (some ⟨b, 0, none⟩) (m + 1) c) := hsp1.cell 2
  have hK1 : Kept w W1 sp row := by
    rw [hW1]
    exact ⟨rfl, rfl, rfl, by simp, fun k _ hne _ => Below.heap_setCell _ _ _ _ hne⟩
  have hs1 : W1.heap.size = w.heap.size := by rw [hW1]; simp
  have hlt1 := hsp1.lt
  have HFIN : Hid (∀ (e : Ending) (w' : World), Out W1 w' (some b) e m ((l.take (2 * (m + 1))).drop 2) → ∃ b' c', e = .returned (.slice (some ⟨b', 0, none⟩) m c') ∧ w'.cell? ⟨sp, 2, none⟩ = some (.slice (some ⟨b, 0, none⟩) (m + 1) c) ∧ w'.frozen? ⟨sp, 2, none⟩ = false ∧
      (∃ b'', SetAt (w'.setCell ⟨sp, 2, none⟩ (.slice (some ⟨b', 0, none⟩) m c')) sp most (x + 1) rt (some b'') ∧ Kept w (w'.setCell ⟨sp, 2, none⟩ (.slice (some ⟨b', 0, none⟩) m c')) sp row ∧ (some b'' = row ∨ w.heap.size ≤ b''))) := by
    rintro e w' ⟨b', c', l', rfl, o1, o2, o3, o4, o5, o6, o7, o8⟩
    have hne : b' ≠ sp := by
      rcases o8 with h | h
      · simp at h; rw [h]; exact hb
      · omega
    have hsp2 : Blk w' sp 233 [.int .i64 most, .int .u64 ((x + 1 : Nat) : Int), .slice (some ⟨b, 0, none⟩) (m + 1) c] := hsp1.of_heap (o7.block sp hlt1 (fun e => hb (by simpa using e.symm)))
    refine ⟨b', c', rfl, hsp2.cell 2, hsp2.frozen 2, b', ?_, ?_, ?_⟩
    · refine ⟨some ⟨b', 0, none⟩, c', ?_, by rw [HT.out.1]; exact o3, o4, rfl, .inr ⟨b', l', rfl, hne, o1.stCell_other _ _ hne, o2, by rw [HT.out.1, o5, HT.out.2], o6⟩⟩
      have := hsp2.stCell 2 (.slice (some ⟨b', 0, none⟩) m c')
      rw [HT.out.1]
      exact this
    · refine ⟨o7.os.trans hK1.os, o7.tape.trans hK1.tape, o7.output.trans hK1.output, ?_, ?_⟩
      · have := o7.size
        show w.heap.size ≤ (w'.heap.modify _ _).size
        simp; omega
      · intro k hk hne hr
        rw [Below.heap_setCell _ _ _ _ hne, o7.block k (by omega) (fun e => hr (by rw [e, h4]; rfl)), hK1.block k hk hne hr]
    · rcases o8 with h | h
      · exact .inl (by rw [h, h4]; rfl)
      · exact .inr (by omega)
  clear hsp1 hB1 hK1 hs1 hlt1 h1 hB hl hone HT hx
  go_enter Tryz.func170, Tryz.ntmps170
  go_wp2_with fail
  rw [← hW1]
  clear hW1
  go_wp2_with (go_at_call 225; refine HD.out.mono ?_; intro e w' hO; obtain ⟨b', c', rfl, q1, q2, HQ⟩ := HFIN.out e w' hO; clear hO HFIN HD)
  go_end0
  exact ⟨rfl, HQ⟩

end Go.Proofs.YtphbledmopchnaaGreatDoor.St

/-
  Many sets in memory, the program's and the document's beside one another.
-/
namespace Go.Proofs.YtphbledmopchnaaGreatDoor.St
open Go.RowKit Go.Lib Mm

/-- Where the document's ranges lie. -/
def DRow (w : World) (base : Option Addr) (rs : List (Nat × Nat)) : Prop :=
  base = none ∧ rs = [] ∨ ∃ b o l, base = some ⟨b, o, none⟩ ∧ Blk w b 170 l ∧ ∀ j v, (rcells rs)[j]? = some v → l[o + j]? = some v

/-- A set of the document's. -/
def DSetAt (w : World) (q : Nat) (most : Int) (fl : Nat) (rs : List (Nat × Nat)) (row : Option Nat) : Prop :=
  ∃ base c, Blk w q 166 [.slice base rs.length c, .int .u64 (fl : Int), .int .i64 most] ∧ rs.length ≤ c ∧ row = base.map (·.block) ∧ DRow w base rs

theorem DRow.of_heap {w w' : World} {base : Option Addr} {rs : List (Nat × Nat)} (h : DRow w base rs) (e : ∀ k, base.map (·.block) = some k → w'.heap[k]? = w.heap[k]?) : DRow w' base rs := by
  rcases h with h | ⟨b, o, l, rfl, hB, h⟩
  · exact .inl h
  · exact .inr ⟨b, o, l, rfl, hB.of_heap (e b rfl), h⟩
theorem DRow.lt {w : World} {base : Option Addr} {rs : List (Nat × Nat)} (h : DRow w base rs) : ∀ k, base.map (·.block) = some k → k < w.heap.size := by
  rcases h with ⟨rfl, _⟩ | ⟨b, o, l, rfl, hB, h⟩
  · intro k hk; cases hk
  · intro k hk; simp at hk; subst hk; exact hB.lt
theorem DSetAt.of_heap {w w' : World} {q : Nat} {most : Int} {fl : Nat} {rs : List (Nat × Nat)} {row : Option Nat} (h : DSetAt w q most fl rs row) (e1 : w'.heap[q]? = w.heap[q]?) (e2 : ∀ k, row = some k → w'.heap[k]? = w.heap[k]?) : DSetAt w' q most fl rs row := by
  obtain ⟨base, c, h1, h2, h3, h4⟩ := h
  exact ⟨base, c, h1.of_heap e1, h2, h3, h4.of_heap (fun k hk => e2 k (by rw [h3, hk]))⟩
theorem DSetAt.lt {w : World} {q : Nat} {most : Int} {fl : Nat} {rs : List (Nat × Nat)} {row : Option Nat} (h : DSetAt w q most fl rs row) : q < w.heap.size ∧ ∀ k, row = some k → k < w.heap.size := by
  obtain ⟨base, c, h1, h2, h3, h4⟩ := h
  exact ⟨h1.lt, fun k hk => h4.lt k (by rw [← h3, hk])⟩
theorem SetAt.of_heap {w w' : World} {q : Nat} {most : Int} {fl : Nat} {rs : List (Nat × Nat)} {row : Option Nat} (h : SetAt w q most fl rs row) (e1 : w'.heap[q]? = w.heap[q]?) (e2 : ∀ k, row = some k → w'.heap[k]? = w.heap[k]?) : SetAt w' q most fl rs row := by
  obtain ⟨base, c, h1, h2, h3, h4, h5⟩ := h
  exact ⟨base, c, h1.of_heap e1, h2, h3, h4, h5.of_heap (fun b hb => e2 b (by rw [h4, hb]; rfl))⟩
theorem SetAt.lt {w : World} {q : Nat} {most : Int} {fl : Nat} {rs : List (Nat × Nat)} {row : Option Nat} (h : SetAt w q most fl rs row) : q < w.heap.size ∧ ∀ k, row = some k → k < w.heap.size := by
  obtain ⟨base, c, h1, h2, h3, h4, h5⟩ := h
  exact ⟨h1.lt, fun k hk => (row_ne h5 k (by rw [← h4, hk])).2⟩

/-- A set, both ways: which is the i-th. -/
structure S1 where
  most : Int
  fl : Nat
  rs : List (Nat × Nat)

def One (W : World) (own : Nat → Nat × Nat) (i : Nat) (s : S1) (p q : Nat) : Prop :=
  ∃ row row', SetAt W p s.most s.fl s.rs row ∧ DSetAt W q (max s.most 1) s.fl s.rs row' ∧ own p = (3, i) ∧ (∀ b, row = some b → own b = (4, i)) ∧ own q = (5, i) ∧ (∀ b, row' = some b → own b = (6, i))

def ptrs (ps : List Nat) : List Value := ps.map fun p => .pointer (some ⟨p, 0, none⟩)

/-- What a script of sets has made. (own: which block is whose; (9, 9): nobody's.) -/
structure Inv (N : Nat) (W : World) (wp : Nat) (own : Nat → Nat × Nat) (vx vm : Value) (ps qs : List Nat) (S : List S1) : Prop where
  blk : Blk W wp 72 [.slice none 0 0, .slice none 0 0, .slice none 0 0, vx, vm, .bool false]
  ownw : own wp = (0, 0)
  bx : GBuf 161 1 W vx ps.length (ptrs ps)
  bm : GBuf 146 1 W vm qs.length (ptrs qs)
  ownx : ∀ b, vx.ownBlock = some b → own b = (1, 0)
  ownm : ∀ b, vm.ownBlock = some b → own b = (2, 0)
  lp : ps.length = S.length
  lq : qs.length = S.length
  one : ∀ i s p q, S[i]? = some s → ps[i]? = some p → qs[i]? = some q → One W own i s p q
  low : ∀ b, b < N → own b = (9, 9)

theorem One.of {W W' : World} {own own' : Nat → Nat × Nat} {i : Nat} {s : S1} {p q : Nat} (h : One W own i s p q) (eo : ∀ k, k < W.heap.size → own' k = own k)
    (e : ∀ k, k < W.heap.size → own k = (3, i) ∨ own k = (4, i) ∨ own k = (5, i) ∨ own k = (6, i) → W'.heap[k]? = W.heap[k]?) : One W' own' i s p q := by
  obtain ⟨row, row', h1, h2, h3, h4, h5, h6⟩ := h
  have l1 := h1.lt
  have l2 := h2.lt
  refine ⟨row, row', h1.of_heap (e p l1.1 (.inl h3)) (fun k hk => e k (l1.2 k hk) (.inr (.inl (h4 k hk)))), h2.of_heap (e q l2.1 (.inr (.inr (.inl h5)))) (fun k hk => e k (l2.2 k hk) (.inr (.inr (.inr (h6 k hk))))), ?_, ?_, ?_, ?_⟩
  · rw [eo p l1.1, h3]
  · intro b hb; rw [eo b (l1.2 b hb), h4 b hb]
  · rw [eo q l2.1, h5]
  · intro b hb; rw [eo b (l2.2 b hb), h6 b hb]

/-- Nothing that is somebody's has turned. -/
theorem Inv.frame {N : Nat} {W W' : World} {wp : Nat} {own : Nat → Nat × Nat} {vx vm : Value} {ps qs : List Nat} {S : List S1} (h : Inv N W wp own vx vm ps qs S) (e : ∀ k, k < W.heap.size → own k ≠ (9, 9) → W'.heap[k]? = W.heap[k]?) : Inv N W' wp own vx vm ps qs S where
  blk := h.blk.of_heap (e wp h.blk.lt (by rw [h.ownw]; decide))
  ownw := h.ownw
  bx := h.bx.of_heap (fun b hb => e b (h.bx.lt b hb) (by rw [h.ownx b hb]; decide))
  bm := h.bm.of_heap (fun b hb => e b (h.bm.lt b hb) (by rw [h.ownm b hb]; decide))
  ownx := h.ownx
  ownm := h.ownm
  lp := h.lp
  lq := h.lq
  one := fun i s p q h1 h2 h3 => (h.one i s p q h1 h2 h3).of (fun _ _ => rfl) (fun k hk ho => e k hk (by rcases ho with ho | ho | ho | ho <;> (rw [ho]; simp)))
  low := h.low

/-- Add of the i-th, both ways. -/
theorem Inv.set {N : Nat} {W W1 W2 : World} {wp : Nat} {own : Nat → Nat × Nat} {vx vm : Value} {ps qs : List Nat} {S : List S1} (h : Inv N W wp own vx vm ps qs S) {i : Nat} {s s' : S1} {p q : Nat} (hi : S[i]? = some s) (hp : ps[i]? = some p) (hq : qs[i]? = some q)
    {row row1 row' row2 : Option Nat} (h1 : SetAt W p s.most s.fl s.rs row) (h2 : DSetAt W q (max s.most 1) s.fl s.rs row') (o1 : own p = (3, i)) (o2 : ∀ b, row = some b → own b = (4, i)) (o3 : own q = (5, i)) (o4 : ∀ b, row' = some b → own b = (6, i))
    (a1 : SetAt W1 p s'.most s'.fl s'.rs row1) (k1 : Kept W W1 p row) (r1 : row1 = row ∨ ∃ b, row1 = some b ∧ W.heap.size ≤ b)
    (a2 : DSetAt W2 q (max s'.most 1) s'.fl s'.rs row2) (k2 : Alone q W1 W2) (r2 : row2 = row' ∨ ∃ b, row2 = some b ∧ W1.heap.size ≤ b) (hN : N ≤ W.heap.size) :
    ∃ own', Inv N W2 wp own' vx vm ps qs (S.set i s') := by
  have l1 := h1.lt
  have l2 := h2.lt
  have la1 := a1.lt
  have hsz := k1.size
  obtain ⟨own', ho, ho1, ho2⟩ : ∃ own' : Nat → Nat × Nat, (∀ k, k < W.heap.size → own' k = own k) ∧ (∀ b, row1 = some b → own' b = (4, i)) ∧ (∀ b, row2 = some b → own' b = (6, i)) := by
    refine ⟨fun k => if k < W.heap.size then own k else if row1 = some k then (4, i) else (6, i), fun k hk => if_pos hk, fun b hb => ?_, fun b hb => ?_⟩
    · by_cases hlt : b < W.heap.size
      · simp only [if_pos hlt]
        rcases r1 with r | ⟨b', r, hb'⟩
        · exact o2 b (by rw [← r, hb])
        · rw [r] at hb; cases hb; omega
      · simp only [if_neg hlt]; rw [if_pos hb]
    · by_cases hlt : b < W.heap.size
      · simp only [if_pos hlt]
        rcases r2 with r | ⟨b', r, hb'⟩
        · exact o4 b (by rw [← r, hb])
        · rw [r] at hb; cases hb; omega
      · simp only [if_neg hlt]
        have : ¬ row1 = some b := fun e => by
          have := la1.2 b e
          rcases r2 with r | ⟨b', r, hb'⟩
          · have := l2.2 b (by rw [← r, hb]); omega
          · rw [r] at hb; cases hb; omega
        rw [if_neg this]
  have eW : ∀ k, k < W.heap.size → own k ≠ (3, i) → own k ≠ (4, i) → own k ≠ (5, i) → W2.heap[k]? = W.heap[k]? := fun k hk n3 n4 n5 => by
    rw [k2.block k (by omega) (fun e => n5 (by rw [e, o3])), k1.block k hk (fun e => n3 (by rw [e, o1])) (fun e => n4 (o2 k e.symm))]
  have e12 : ∀ k, k < W1.heap.size → k ≠ q → W2.heap[k]? = W1.heap[k]? := fun k hk hn => k2.block k hk hn
  refine ⟨own', ?_, ?_, ?_, ?_, ?_, ?_, ?_, ?_, ?_, ?_⟩
  · exact h.blk.of_heap (eW wp h.blk.lt (by rw [h.ownw]; simp) (by rw [h.ownw]; simp) (by rw [h.ownw]; simp))
  · rw [ho wp h.blk.lt, h.ownw]
  · exact h.bx.of_heap (fun b hb => eW b (h.bx.lt b hb) (by rw [h.ownx b hb]; simp) (by rw [h.ownx b hb]; simp) (by rw [h.ownx b hb]; simp))
  · exact h.bm.of_heap (fun b hb => eW b (h.bm.lt b hb) (by rw [h.ownm b hb]; simp) (by rw [h.ownm b hb]; simp) (by rw [h.ownm b hb]; simp))
  · intro b hb; rw [ho b (h.bx.lt b hb), h.ownx b hb]
  · intro b hb; rw [ho b (h.bm.lt b hb), h.ownm b hb]
  · rw [h.lp, List.length_set]
  · rw [h.lq, List.length_set]
  · intro j t pj qj g1 g2 g3
    by_cases hj : i = j
    · subst hj
      have hlt : i < S.length := (List.getElem?_eq_some_iff.1 hi).1
      rw [List.getElem?_set_self hlt] at g1
      rw [hp] at g2
      rw [hq] at g3
      cases g1; cases g2; cases g3
      have hpq : p ≠ q := fun e => by rw [e, o3] at o1; cases o1
      have hrq : ∀ k, row1 = some k → k ≠ q := fun k hk e => by
        have := ho1 k hk
        rw [e, ho q l2.1, o3] at this
        cases this
      exact ⟨row1, row2, a1.of_heap (e12 p la1.1 hpq) (fun k hk => e12 k (la1.2 k hk) (hrq k hk)), a2, by rw [ho p l1.1, o1], ho1, by rw [ho q l2.1, o3], ho2⟩
    · rw [List.getElem?_set_ne hj] at g1
      refine (h.one j t pj qj g1 g2 g3).of ho (fun k hk hk' => eW k hk ?_ ?_ ?_)
      all_goals
        intro e
        rw [e] at hk'
        simp at hk'
        first
        | exact hj hk'
        | exact hj (by omega)
  · intro b hb; rw [ho b (by omega), h.low b hb]

/-- One set more. -/
theorem Inv.push {N : Nat} {W W2 : World} {wp : Nat} {own : Nat → Nat × Nat} {vx vm vx' vm' : Value} {ps qs : List Nat} {S : List S1} (h : Inv N W wp own vx vm ps qs S) {p q : Nat} {most : Int}
    (a1 : SetAt W2 p most 0 [] none) (a2 : DSetAt W2 q (max most 1) 0 [] none) (ab : Blk W2 wp 72 [.slice none 0 0, .slice none 0 0, .slice none 0 0, vx', vm', .bool false])
    (ax : GBuf 161 1 W2 vx' (ps.length + 1) (ptrs ps ++ ptrs [p])) (am : GBuf 146 1 W2 vm' (qs.length + 1) (ptrs qs ++ ptrs [q]))
    (hp : W.heap.size ≤ p) (hq : W.heap.size ≤ q) (hpq : p ≠ q) (hx : ∀ b, vx'.ownBlock = some b → vx.ownBlock = some b ∨ W.heap.size ≤ b ∧ b ≠ p ∧ b ≠ q) (hm : ∀ b, vm'.ownBlock = some b → vm.ownBlock = some b ∨ W.heap.size ≤ b ∧ b ≠ p ∧ b ≠ q ∧ vx'.ownBlock ≠ some b)
    (e : ∀ k, k < W.heap.size → own k ≠ (0, 0) → own k ≠ (1, 0) → own k ≠ (2, 0) → W2.heap[k]? = W.heap[k]?) (hN : N ≤ W.heap.size) :
    ∃ own', Inv N W2 wp own' vx' vm' (ps ++ [p]) (qs ++ [q]) (S ++ [⟨most, 0, []⟩]) := by
  obtain ⟨own', ho, hop, hoq, hox, hom⟩ : ∃ own' : Nat → Nat × Nat, (∀ k, k < W.heap.size → own' k = own k) ∧ own' p = (3, S.length) ∧ own' q = (5, S.length) ∧ (∀ b, vx'.ownBlock = some b → own' b = (1, 0)) ∧ (∀ b, vm'.ownBlock = some b → own' b = (2, 0)) := by
    refine ⟨fun k => if k < W.heap.size then own k else if k = p then (3, S.length) else if k = q then (5, S.length) else if vx'.ownBlock = some k then (1, 0) else (2, 0), fun k hk => if_pos hk, ?_, ?_, fun b hb => ?_, fun b hb => ?_⟩
    · simp only [if_neg (show ¬ p < W.heap.size by omega), if_true]
    · simp only [if_neg (show ¬ q < W.heap.size by omega), if_neg (Ne.symm hpq), if_true]
    · rcases hx b hb with hx | ⟨h1, h2, h3⟩
      · simp only [if_pos (h.bx.lt b hx)]; exact h.ownx b hx
      · simp only [if_neg (show ¬ b < W.heap.size by omega), if_neg h2, if_neg h3, if_pos hb]
    · rcases hm b hb with hm | ⟨h1, h2, h3, h4⟩
      · simp only [if_pos (h.bm.lt b hm)]; exact h.ownm b hm
      · simp only [if_neg (show ¬ b < W.heap.size by omega), if_neg h2, if_neg h3, if_neg h4]
  have lp := h.lp
  have lq := h.lq
  refine ⟨own', ab, by rw [ho wp h.blk.lt, h.ownw], by rw [List.length_append, show ptrs (ps ++ [p]) = ptrs ps ++ ptrs [p] by simp [ptrs]]; exact ax, by rw [List.length_append, show ptrs (qs ++ [q]) = ptrs qs ++ ptrs [q] by simp [ptrs]]; exact am, hox, hom, by simp [lp], by simp [lq], ?_, fun b hb => by rw [ho b (by omega), h.low b hb]⟩
  intro i s p' q' g1 g2 g3
  by_cases hi : i < S.length
  · rw [List.getElem?_append_left hi] at g1
    rw [List.getElem?_append_left (by omega)] at g2 g3
    refine (h.one i s p' q' g1 g2 g3).of ho (fun k hk hk' => e k hk ?_ ?_ ?_) <;> (intro e'; rw [e'] at hk'; simp at hk')
  · rw [List.getElem?_append_right (by omega)] at g1 g2 g3
    have hi0 : i = S.length := by
      have := (List.getElem?_eq_some_iff.1 g1).1
      simp at this; omega
    subst hi0
    rw [lp] at g2
    rw [lq] at g3
    simp at g1 g2 g3
    subst g1; subst g2; subst g3
    exact ⟨none, none, a1, a2, hop, fun b hb => (by cases hb), hoq, fun b hb => (by cases hb)⟩

end Go.Proofs.YtphbledmopchnaaGreatDoor.St

/-
  The program's sets: NewSet, Add, Has, Floor, as mediawire has them.
-/
namespace Go.Proofs.YtphbledmopchnaaGreatDoor.St
open Go.RowKit Go.Lib Mm

theorem small_of {rs : List (Nat × Nat)} (hS : Rg.Sorted rs) (h : ∀ r ∈ rs, r.2 < 18446744073709551616) : Small rs := fun r hr => by
  have h1 := hS.le r hr
  have h2 := h r hr
  omega

theorem Kept.trans {w w1 w2 : World} {sp : Nat} {row row1 : Option Nat} (h : Kept w w1 sp row) (k : Kept w1 w2 sp row1) (hr : row1 = row ∨ ∃ b, row1 = some b ∧ w.heap.size ≤ b) : Kept w w2 sp row :=
  ⟨k.os.trans h.os, k.tape.trans h.tape, k.output.trans h.output, Nat.le_trans h.size k.size, fun j hj hn hne => by
    have hs := h.size
    rw [k.block j (by omega) hn (fun e => by
      rcases hr with r | ⟨b, r, hb⟩
      · exact hne (by rw [e, r])
      · rw [r] at e; cases e; omega), h.block j hj hn hne]⟩

/-- What Add comes to. -/
def PPost (sp : Nat) (most : Int) (row : Option Nat) (w : World) (x : Nat × List (Nat × Nat)) (w' : World) : Prop :=
  ∃ row1, SetAt w' sp most x.1 x.2 row1 ∧ Kept w w' sp row ∧ (row1 = row ∨ ∃ b, row1 = some b ∧ w.heap.size ≤ b)

set_option maxHeartbeats 4000000 in
set_option maxRecDepth 100000 in
theorem add_full (sp lo hi : Nat) (most : Int) (fl : Nat) (rs : List (Nat × Nat)) (row : Option Nat) (w : World) (hset : SetAt w sp most fl rs row) (hok : Rg.Ok 18446744073709551616 1000000 fl rs) (hhi : hi < 18446744073709551616) :
    Calls Tryz.prog 127 #[.pointer (some ⟨sp, 0, none⟩), .int .u64 (lo : Int), .int .u64 (hi : Int)] w fun e w' => e = .returned (.tuple #[]) ∧ PPost sp most row w (Rg.add (max most 1).toNat fl rs lo hi) w' := by
  have hset' := hset
  obtain ⟨base, c, h1, h2, h3, h4, h5⟩ := hset
  have k1 : w.cell? ⟨sp, 1, none⟩ = some (.int .u64 (fl : Int)) := h1.cell 1
  have hmx : ((max lo fl : Nat) : Int) = max (lo : Int) (fl : Int) := by omega
  by_cases hgt : hi < max lo fl
  · have HF : Hid (PPost sp most row w (Rg.add (max most 1).toNat fl rs lo hi) w) := by
      unfold Hid Rg.add
      rw [if_pos hgt]
      exact ⟨row, hset', ⟨rfl, rfl, rfl, Nat.le_refl _, fun _ _ _ _ => rfl⟩, .inl rfl⟩
    have g2 : (hi : Int) < max (lo : Int) (fl : Int) := by omega
    clear h1 h2 h3 h4 h5 hset' hmx hgt
    go_enter Tryz.func127, Tryz.ntmps127
    go_wp2_with fail
    refine bodyPost_ret (results_none rfl _ _ _) rfl ?_
    exact ⟨rfl, HF.out⟩
  · have hlen := hok.len
    have hj := joins sp (max lo fl) hi base c most fl rs w hok.sorted (small_of hok.sorted hok.hi) hlen (by omega) hhi h1 h5 h2 h3
    rw [← h4, hmx] at hj
    have g2 : ¬ ((hi : Int) < max (lo : Int) (fl : Int)) := by omega
    have HADD : Hid (Rg.add (max most 1).toNat fl rs lo hi = if (max most 1).toNat < (Rg.ins (max lo fl) hi rs).length then (((Rg.ins (max lo fl) hi rs).getD 0 (0, 0)).2 + 1, (Rg.ins (max lo fl) hi rs).tail) else (fl, Rg.ins (max lo fl) hi rs)) := by
      unfold Hid Rg.add; rw [if_neg hgt]
    have HSRT := hid (Rg.sorted_ins rs (max lo fl) hi (by omega) hok.sorted)
    have HHI : Hid (∀ r ∈ Rg.ins (max lo fl) hi rs, r.2 < 18446744073709551616) := fun r hr => by
      have := Rg.ins_hi rs (max lo fl) hi 18446744073709551615 (by omega) (fun x hx => by have := hok.hi x hx; omega) r hr
      omega
    have hRl := Rg.ins_length rs (max lo fl) hi
    have HJ := hid hj
    generalize Rg.ins (max lo fl) hi rs = R at *
    generalize Rg.add (max most 1).toNat fl rs lo hi = A at *
    clear hj hmx h1 h2 h3 h4 h5 hset' hgt hok hhi
    by_cases hdr : max most 1 < (R.length : Int)
    · have HA : Hid (A = ((R.getD 0 (0, 0)).2 + 1, R.tail)) := by unfold Hid; rw [HADD.out, if_pos (by omega)]
      have hx : (R.getD 0 (0, 0)).2 + 1 < 18446744073709551616 := Rg.ins_two HSRT.out HHI.out (by omega)
      have HD : Hid (∀ W row1, SetAt W sp most fl R row1 → Calls Tryz.prog 170 #[.pointer (some ⟨sp, 0, none⟩)] W fun e w' => e = .returned (.tuple #[]) ∧ ∃ b', SetAt w' sp most ((R.getD 0 (0, 0)).2 + 1) R.tail (some b') ∧ Kept W w' sp row1 ∧ (some b' = row1 ∨ W.heap.size ≤ b')) :=
        fun W row1 hs => drop_any sp most fl R row1 W hs (by omega) (by omega) hx
      clear HADD HSRT HHI
      go_enter Tryz.func127, Tryz.ntmps127
      go_wp2_with (go_at_call 168; refine HJ.out.mono ?_; rintro e w' ⟨rfl, b', hs', hk, hr⟩)
      obtain ⟨base', c', j0, j1, j2⟩ := hs'.cells
      have HS := hid hs'
      have HK := hid hk
      have HR := hid hr
      clear hs' hk hr HJ k1 g2
      go_quiet ((go_at_call 169; exact Calls.quiet_of_same (bound_gen sp most _ (by simpa using j0))))
      have HD2 := hid (HD.out _ _ (SetAt.drewN HS.out nq))
      go_wp2_with (go_at_call 170; refine HD2.out.mono ?_; rintro e w2 ⟨rfl, b2, hs2, hk2, hr2⟩)
      go_end0
      refine ⟨rfl, some b2, by rw [HA.out]; exact hs2, ?_, ?_⟩
      · refine (Kept.drewN HK.out nq).trans hk2 ?_
        rcases HR.out with h | h
        · exact .inl h
        · exact .inr ⟨b', rfl, h⟩
      · have hsz := HK.out.size
        rcases hr2 with h | h
        · rw [h]
          rcases HR.out with h' | h'
          · exact .inl h'
          · exact .inr ⟨b', rfl, h'⟩
        · exact .inr ⟨b2, rfl, Nat.le_trans hsz h⟩
    · have HA : Hid (A = (fl, R)) := by unfold Hid; rw [HADD.out, if_neg (by omega)]
      clear HADD HSRT HHI
      go_enter Tryz.func127, Tryz.ntmps127
      go_wp2_with (go_at_call 168; refine HJ.out.mono ?_; rintro e w' ⟨rfl, b', hs', hk, hr⟩)
      obtain ⟨base', c', j0, j1, j2⟩ := hs'.cells
      have HS := hid hs'
      have HK := hid hk
      have HR := hid hr
      clear hs' hk hr HJ k1 g2
      go_quiet ((go_at_call 169; exact Calls.quiet_of_same (bound_gen sp most _ (by simpa using j0))))
      go_wp2
      go_end0
      refine ⟨rfl, some b', by rw [HA.out]; exact SetAt.drewN HS.out _, Kept.drewN HK.out _, ?_⟩
      rcases HR.out with h | h
      · exact .inl h
      · exact .inr ⟨b', rfl, h⟩

/-- (*mediawire.Set).Add. -/
theorem padd_any (sp lo hi : Nat) (most : Int) (fl : Nat) (rs : List (Nat × Nat)) (row : Option Nat) (w : World) (hset : SetAt w sp most fl rs row) (hok : Rg.Ok 18446744073709551616 1000000 fl rs) (hhi : hi < 18446744073709551616) :
    Calls Tryz.prog 82 #[.pointer (some ⟨sp, 0, none⟩), .int .u64 (lo : Int), .int .u64 (hi : Int)] w fun e w' => e = .returned (.tuple #[]) ∧ PPost sp most row w (Rg.add (max most 1).toNat fl rs lo hi) w' := by
  have HA := hid (add_full sp lo hi most fl rs row w hset hok hhi)
  clear hset hok hhi
  go_enter Tryz.func82, Tryz.ntmps82
  go_wp2_with (go_at_call 127; refine HA.out.mono ?_; rintro e w' ⟨rfl, hP⟩)
  go_end0
  exact ⟨rfl, hP⟩

/-- (*mediawire.Set).Floor. -/
theorem pfloor_any (sp : Nat) (fl : Nat) (w : World) (h0 : w.cell? ⟨sp, 1, none⟩ = some (.int .u64 (fl : Int))) :
    Calls Tryz.prog 86 #[.pointer (some ⟨sp, 0, none⟩)] w fun e w' => e = .returned (.int .u64 (fl : Int)) ∧ w' = w := by
  have HA := hid (floor_any sp fl w h0)
  clear h0
  go_enter Tryz.func86, Tryz.ntmps86
  go_wp2_with (go_at_call 129; refine HA.out.mono ?_; rintro e w' ⟨rfl, rfl⟩)
  go_ret
  exact ⟨rfl, rfl⟩

/-- (*mediawire.Set).Has. -/
theorem phas_any (sp v : Nat) (most : Int) (fl : Nat) (rs : List (Nat × Nat)) (row : Option Nat) (w : World) (hset : SetAt w sp most fl rs row) (hS : Rg.Sorted rs) (hn : rs.length ≤ 1000000) :
    Calls Tryz.prog 84 #[.pointer (some ⟨sp, 0, none⟩), .int .u64 (v : Int)] w fun e w' => e = .returned (.bool (decide (v < fl) || Rg.has v rs)) ∧ Below w.heap.size w w' := by
  obtain ⟨base, c, h1, h2, h3, h4, h5⟩ := hset
  have HA := hid (has_any sp v base c most fl rs w hS hn h1 h5)
  generalize (decide (v < fl) || Rg.has v rs) = B at *
  clear h1 h2 h3 h4 h5 hS hn
  go_enter Tryz.func84, Tryz.ntmps84
  go_wp2_with (go_at_call 128; refine HA.out.mono ?_; rintro e w' ⟨rfl, hb⟩)
  go_ret
  exact ⟨rfl, hb⟩

/-- mediawire.NewSet. -/
theorem pnew_any (most : Int) (w : World) :
    Calls Tryz.prog 81 #[.int .i64 most] w fun e w' => ∃ p, e = .returned (.pointer (some ⟨p, 0, none⟩)) ∧ SetAt w' p most 0 [] none ∧ w.heap.size ≤ p ∧ Below w.heap.size w w' := by
  have HN : Hid (Calls Tryz.prog 126 #[.int .i64 most] w fun e w' => e = .returned (.agg #[.int .i64 most, .int .u64 0, .slice none 0 0]) ∧ Below w.heap.size w w') := by
    unfold Hid
    go_enter Tryz.func126, Tryz.ntmps126
    go_wp2
    have hB := Blk.new w 192 [.int .i64 most, .int .u64 0, .slice none 0 0]
    have i0 : (w.alloc (.cells #[.int .i64 most, .int .u64 0, .slice none 0 0] 192)).cell? ⟨w.heap.size, 0, none⟩ = some (.int .i64 most) := hB.cell 0
    have i1 : (w.alloc (.cells #[.int .i64 most, .int .u64 0, .slice none 0 0] 192)).cell? ⟨w.heap.size, 1, none⟩ = some (.int .u64 0) := hB.cell 1
    have i2 : (w.alloc (.cells #[.int .i64 most, .int .u64 0, .slice none 0 0] 192)).cell? ⟨w.heap.size, 2, none⟩ = some (.slice none 0 0) := hB.cell 2
    refine bodyPost_ret (v := .agg #[.int .i64 most, .int .u64 0, .slice none 0 0]) (by simp [results, Tryz.results126, go_sem, i0, i1, i2]) rfl ⟨rfl, (Below.refl _ w).alloc (Nat.le_refl _) _⟩
  go_enter Tryz.func81, Tryz.ntmps81
  go_wp2_with (go_at_call 126; refine HN.out.mono ?_; rintro e w' ⟨rfl, hb⟩)
  go_ret
  exact ⟨_, rfl, ⟨none, 0, Blk.new w' 233 [.int .i64 most, .int .u64 0, .slice none 0 0], Nat.le_refl _, by omega, rfl, .inl ⟨rfl, rfl, rfl⟩⟩, hb.size, hb.alloc hb.size _⟩

end Go.Proofs.YtphbledmopchnaaGreatDoor.St

/-
  The document's sets: NewSet, Has, Add.
-/
namespace Go.Proofs.YtphbledmopchnaaGreatDoor.St
open Go.RowKit Go.Lib Mm

theorem dnew_any (most : Int) (w : World) :
    Calls Tryz.prog 77 #[.int .i64 most] w fun e w' => e = .returned (.pointer (some ⟨w.heap.size, 0, none⟩)) ∧ w' = w.alloc (.cells #[.slice none 0 0, .int .u64 0, .int .i64 (max most 1)] 166) := by
  by_cases h : most < 1
  · have e : max most 1 = 1 := by omega
    rw [e]
    go_enter Tryz.func77, Tryz.ntmps77
    go_wp2
    go_ret
    exact ⟨rfl, rfl⟩
  · have e : max most 1 = most := by omega
    rw [e]
    go_enter Tryz.func77, Tryz.ntmps77
    go_wp2
    go_ret
    exact ⟨rfl, rfl⟩

/-- One range of the document's. -/
theorem DRow.cell {w : World} {base : Option Addr} {rs : List (Nat × Nat)} (h : DRow w base rs) {i : Nat} (hi : i < rs.length) :
    ∃ b o, base = some ⟨b, o, none⟩ ∧ b < w.heap.size ∧ w.cell? ⟨b, o + i * 2, none⟩ = some (.int .u64 ((rs.getD i (0, 0)).1 : Int)) ∧ w.cell? ⟨b, o + i * 2 + 1, none⟩ = some (.int .u64 ((rs.getD i (0, 0)).2 : Int)) := by
  rcases h with ⟨_, rfl⟩ | ⟨b, o, l, h1, h2, h3⟩
  · simp at hi
  · refine ⟨b, o, h1, h2.lt, ?_, ?_⟩
    · rw [h2.cell]; exact h3 _ _ (rcells_lo rs i hi)
    · rw [h2.cell, Nat.add_assoc]; exact h3 _ _ (rcells_hi rs i hi)

theorem getD_at (rs : List (Nat × Nat)) (k : Nat) (hk : k < rs.length) : rs.getD k (0, 0) = rs[k] := by simp [List.getD_eq_getElem?_getD, hk]

theorem any_drop (n : Nat) (rs : List (Nat × Nat)) (k : Nat) (hk : k < rs.length) : Rg.dHas n (rs.drop k) = ((decide ((rs.getD k (0, 0)).1 ≤ n) && decide (n ≤ (rs.getD k (0, 0)).2)) || Rg.dHas n (rs.drop (k + 1))) := by
  unfold Rg.dHas
  rw [List.drop_eq_getElem_cons hk, List.any_cons, getD_at rs k hk]

set_option maxHeartbeats 2000000 in
set_option maxRecDepth 100000 in
theorem dhas_any (q n : Nat) (most : Int) (fl : Nat) (rs : List (Nat × Nat)) (row : Option Nat) (w : World) (h : DSetAt w q most fl rs row) (hn : rs.length ≤ 1000000) :
    Calls Tryz.prog 85 #[.pointer (some ⟨q, 0, none⟩), .int .u64 (n : Int)] w fun e w' => e = .returned (.bool (decide (n < fl) || Rg.dHas n rs)) ∧ w' = w := by
  obtain ⟨base, c, h1, h2, h3, h4⟩ := h
  have k0 : w.cell? ⟨q, 0, none⟩ = some (.slice base rs.length c) := h1.cell 0
  have k1 : w.cell? ⟨q, 1, none⟩ = some (.int .u64 (fl : Int)) := h1.cell 1
  have HR := hid h4
  clear h1 h4 h3
  by_cases hf : n < fl
  · have hf' : (n : Int) < (fl : Int) := by omega
    have e : (decide (n < fl) || Rg.dHas n rs) = true := by simp [hf]
    rw [e]
    go_enter Tryz.func85, Tryz.ntmps85
    go_wp2
    go_ret
    exact ⟨rfl, rfl⟩
  · have e : (decide (n < fl) || Rg.dHas n rs) = Rg.dHas n rs := by simp [hf]
    rw [e]
    have hf' : ¬ ((n : Int) < (fl : Int)) := by omega
    have HG : Hid (Rg.dHas n rs = Rg.dHas n (rs.drop 0)) := by unfold Hid; simp
    generalize hD : Rg.dHas n rs = D at HG ⊢
    clear hD e
    go_enter Tryz.func85, Tryz.ntmps85
    go_wp2
    go_loop [5] (fun s5 => ∃ k : Nat, k ≤ rs.length ∧ s5 = .int .i64 k ∧ Hid (D = Rg.dHas n (rs.drop k))) (fun s5 => rs.length - (intOf s5).toNat)
    case atStart => exact ⟨0, Nat.zero_le _, rfl, HG⟩
    case round =>
      obtain ⟨k, hk, rfl, HK⟩ := hrel
      by_cases hlt : k < rs.length
      · have hlt' : (k : Int) < (rs.length : Int) := by omega
        obtain ⟨b, o, hb, _, c0, c1⟩ := HR.out.cell hlt
        subst hb
        have HS := hid (any_drop n rs k hlt)
        generalize (rs.getD k (0, 0)).1 = x at c0 HS
        generalize (rs.getD k (0, 0)).2 = y at c1 HS
        by_cases hx : x ≤ n
        · have hx' : (x : Int) ≤ (n : Int) := by omega
          by_cases hy : n ≤ y
          · have hy' : (n : Int) ≤ (y : Int) := by omega
            have eD : D = true := by rw [HK.out, HS.out]; simp [hx, hy]
            subst eD
            go_wp2
            go_ret
            exact ⟨rfl, rfl⟩
          · have hy' : ¬ ((n : Int) ≤ (y : Int)) := by omega
            have HK2 : Hid (D = Rg.dHas n (rs.drop (k + 1))) := by unfold Hid; rw [HK.out, HS.out]; simp [hy]
            go_wp2
            go_round
            case rel => exact ⟨k + 1, by omega, by go_num, HK2⟩
            case measure => simp [intOf]; omega
        · have hx' : ¬ ((x : Int) ≤ (n : Int)) := by omega
          have HK2 : Hid (D = Rg.dHas n (rs.drop (k + 1))) := by unfold Hid; rw [HK.out, HS.out]; simp [hx]
          go_wp2
          go_round
          case rel => exact ⟨k + 1, by omega, by go_num, HK2⟩
          case measure => simp [intOf]; omega
      · obtain rfl : k = rs.length := by omega
        have eD : D = false := by rw [HK.out]; simp [Rg.dHas]
        subst eD
        go_wp2
        go_ret
        exact ⟨rfl, rfl⟩

end Go.Proofs.YtphbledmopchnaaGreatDoor.St

/-
  sets: one set more.
-/
namespace Go.Proofs.YtphbledmopchnaaGreatDoor.St
open Go.RowKit Go.Lib Mm

theorem eltX : Elt 69 161 (.pointer none) 1 8 := ⟨by kernel_rfl, by kernel_rfl, fun n => by simp [Builtin.zeroCells, Value.cells], fun n v hv => by
  simp [Builtin.zeroCells, Value.cells] at hv
  obtain ⟨i, _, rfl⟩ := hv
  rw [Nat.mod_one]
  rfl, by omega⟩
theorem eltM : Elt 70 146 (.pointer none) 1 8 := ⟨by kernel_rfl, by kernel_rfl, fun n => by simp [Builtin.zeroCells, Value.cells], fun n v hv => by
  simp [Builtin.zeroCells, Value.cells] at hv
  obtain ⟨i, _, rfl⟩ := hv
  rw [Nat.mod_one]
  rfl, by omega⟩

/-- One pointer more behind a list. -/
theorem ppush {t e : TypeId} (E : Elt t e (.pointer none) 1 8) {wr : World} {v : Value} {ps : List Nat} (h : GBuf e 1 wr v ps.length (ptrs ps)) (hl : ps.length ≤ 100000000) (p : Nat) :
    ∃ g c W5, (∀ ty, (Builtin.append_ #[t, t] ty #[v, .slice (some ⟨wr.heap.size, 0, none⟩) 1 1]).run Tryz.prog (wr.alloc (.cells #[.pointer (some ⟨p, 0, none⟩)] e)) = .ok (.slice (some ⟨g, 0, none⟩) (ps.length + 1) c) W5) ∧
      GBuf e 1 W5 (.slice (some ⟨g, 0, none⟩) (ps.length + 1) c) (ps.length + 1) (ptrs ps ++ ptrs [p]) ∧ Gr (wr.alloc (.cells #[.pointer (some ⟨p, 0, none⟩)] e)) W5 v (.slice (some ⟨g, 0, none⟩) (ps.length + 1) c) := by
  have hlt := h.lt
  have hbuf2 : GBuf e 1 (wr.alloc (.cells #[.pointer (some ⟨p, 0, none⟩)] e)) v ps.length (ptrs ps) := h.of_heap (fun b hb => Below.heap_alloc _ _ _ (hlt b hb))
  obtain ⟨v', W5, run5, hB5, hG5⟩ := run_append_gbuf E hbuf2 ⟨wr.heap.size, 0, none⟩ 1 1 (ptrs [p]) rfl (by decide) (fun v hv => by simp [ptrs] at hv; subst hv; rfl)
    (fun j u hu => by
      rw [Addr.add_lit, Nat.zero_add, (Blk.new wr e [.pointer (some ⟨p, 0, none⟩)]).cell]
      exact hu) (by omega)
  obtain ⟨g', C', rfl⟩ : ∃ g' C', v' = .slice (some ⟨g', 0, none⟩) (ps.length + 1) C' := by
    rcases hB5 with ⟨_, h0, _⟩ | ⟨g', C', _, h0, _⟩
    · omega
    · exact ⟨g', C', h0⟩
  exact ⟨g', C', W5, run5, hB5, hG5⟩

/-- What a step on sets comes to. -/
def SPost (N : Nat) (wp : Nat) (S : List S1) (K : Nat) (W W' : World) : Prop :=
  ∃ own vx vm ps qs S', Inv N W' wp own vx vm ps qs S' ∧ S'.length ≤ S.length + 1 ∧ (∀ s ∈ S', Rg.Ok 18446744073709551616 (K + 1) s.fl s.rs) ∧ Below N W W'

theorem Rg.Ok.mono {B k k' fl : Nat} {rs : List (Nat × Nat)} (h : Rg.Ok B k fl rs) (hk : k ≤ k') : Rg.Ok B k' fl rs := ⟨h.sorted, h.hi, by have := h.len; omega, h.fl⟩

set_option maxHeartbeats 4000000 in
set_option maxRecDepth 100000 in
theorem sets_new (N : Nat) (W : World) (wp : Nat) (own : Nat → Nat × Nat) (vx vm : Value) (ps qs : List Nat) (S : List S1) (K : Nat) (hI : Inv N W wp own vx vm ps qs S) (hN : N ≤ W.heap.size) (hl : S.length ≤ 1000000) (hok : ∀ s ∈ S, Rg.Ok 18446744073709551616 K s.fl s.rs)
    (a b c : Int) (s : ByteArray) (n : Int) (fa : Option Addr) (fl fc : Nat) :
    Calls Tryz.prog 49 #[.pointer (some ⟨wp, 0, none⟩), .agg #[.int .i64 18, .int .i64 a, .int .i64 b, .int .i64 c, .string s, .int .u64 n, .slice fa fl fc]] W fun e W' => e = .returned (.bool true) ∧ SPost N wp S K W W' := by
  obtain ⟨ax, cx, rfl, hcx⟩ := hI.bx.shape
  obtain ⟨am, cm, rfl, hcm⟩ := hI.bm.shape
  have hlp := hI.lp
  have hlq := hI.lq
  obtain ⟨W0, hW0⟩ : ∃ W0, W0 = W.alloc (.cells #[.int .i64 18, .int .i64 a, .int .i64 b, .int .i64 c, .string s, .int .u64 n, .slice fa fl fc] 74) := ⟨_, rfl⟩
  have hb0 : Blk W0 W.heap.size 74 [.int .i64 18, .int .i64 a, .int .i64 b, .int .i64 c, .string s, .int .u64 n, .slice fa fl fc] := by rw [hW0]; exact Blk.new W 74 _
  have hB0 : Below W.heap.size W W0 := by rw [hW0]; exact (Below.refl _ W).alloc (Nat.le_refl _) _
  have hs0 : W0.heap.size = W.heap.size + 1 := by rw [hW0]; simp
  have c0 : W0.cell? ⟨W.heap.size, 0, none⟩ = some (.int .i64 18) := hb0.cell 0
  have c1 : W0.cell? ⟨W.heap.size, 1, none⟩ = some (.int .i64 a) := hb0.cell 1
  have hwlt := hI.blk.lt
  have hxlt := hI.bx.lt
  have hmlt := hI.bm.lt
  have hxw : (Value.slice ax ps.length cx).ownBlock ≠ some wp := fun e => by have := hI.ownx wp e; rw [hI.ownw] at this; cases this
  have hmw : (Value.slice am qs.length cm).ownBlock ≠ some wp := fun e => by have := hI.ownm wp e; rw [hI.ownw] at this; cases this
  have hxm : ∀ k, (Value.slice ax ps.length cx).ownBlock = some k → (Value.slice am qs.length cm).ownBlock ≠ some k := fun k e e' => by
    have h1 := hI.ownx k e
    have h2 := hI.ownm k e'
    rw [h1] at h2; cases h2
  have HN := hid (pnew_any a W0)
  have HI := hid hI
  have HX := hid (And.intro hb0 (And.intro hB0 (And.intro hs0 (And.intro hwlt (And.intro hxlt (And.intro hmlt (And.intro hxw (And.intro hmw hxm))))))))
  have HL := hid (And.intro hlp (And.intro hlq (And.intro hl (And.intro hN (And.intro hok (And.intro hcx hcm))))))
  clear hI hb0 hB0 hs0 hwlt hxlt hmlt hxw hmw hxm hlp hlq hl hN hok hcx hcm
  go_enter Tryz.func49, Tryz.ntmps49
  go_wp2_with fail
  rw [← hW0]
  clear hW0
  refine HN.out.mono ?_
  rintro e W1 ⟨p, rfl, hS1, hp1, hB1⟩
  clear HN c0 c1
  obtain ⟨hb0, hB0, hs0, hwlt, hxlt, hmlt, hxw, hmw, hxm⟩ := HX.out
  obtain ⟨hlp, hlq, hl, hN, hok, hcx, hcm⟩ := HL.out
  have hsz1 := hB1.size
  have hw1 : Blk W1 wp 72 [.slice none 0 0, .slice none 0 0, .slice none 0 0, .slice ax ps.length cx, .slice am qs.length cm, .bool false] := HI.out.blk.of_heap (by rw [hB1.block wp (by omega), hB0.block wp (by omega)])
  have hbx1 : GBuf 161 1 W1 (.slice ax ps.length cx) ps.length (ptrs ps) := HI.out.bx.of_heap (fun k hk => by have := hxlt k hk; rw [hB1.block k (by omega), hB0.block k (by omega)])
  obtain ⟨g, C, W2, run2, hG2, hGr2⟩ := ppush eltX hbx1 (by omega) p
  have hsz2 : W1.heap.size + 1 ≤ W2.heap.size := by have := hGr2.1.size; simpa using this
  have hk2 : ∀ k, k < W1.heap.size → (Value.slice ax ps.length cx).ownBlock ≠ some k → W2.heap[k]? = W1.heap[k]? := fun k hk hn => by
    rw [hGr2.1.block k (by simp; omega) (fun e => hn e.symm), Below.heap_alloc _ _ _ hk]
  have hw2 : Blk W2 wp 72 [.slice none 0 0, .slice none 0 0, .slice none 0 0, .slice ax ps.length cx, .slice am qs.length cm, .bool false] := hw1.of_heap (hk2 wp (by omega) hxw)
  have d3 : W1.cell? ⟨wp, 3, none⟩ = some (.slice ax ps.length cx) := hw1.cell 3
  have d3' : W2.cell? ⟨wp, 3, none⟩ = some (.slice ax ps.length cx) := hw2.cell 3
  have f3' := hw2.frozen 3
  obtain ⟨W3, hW3⟩ : ∃ W3, W3 = W2.setCell ⟨wp, 3, none⟩ (.slice (some ⟨g, 0, none⟩) (ps.length + 1) C) := ⟨_, rfl⟩
  have hs3 : W3.heap.size = W2.heap.size := by rw [hW3]; simp
  have hk3 : ∀ k, k ≠ wp → W3.heap[k]? = W2.heap[k]? := fun k hk => by rw [hW3]; exact Below.heap_setCell _ _ _ _ hk
  have hw3 : Blk W3 wp 72 [.slice none 0 0, .slice none 0 0, .slice none 0 0, .slice (some ⟨g, 0, none⟩) (ps.length + 1) C, .slice am qs.length cm, .bool false] := by rw [hW3]; exact hw2.stCell 3 _
  have hop3 : Blk W3 W.heap.size 74 [.int .i64 18, .int .i64 a, .int .i64 b, .int .i64 c, .string s, .int .u64 n, .slice fa fl fc] :=
    hb0.of_heap (by rw [hk3 _ (by omega), hk2 _ (by omega) (fun e => by have := hxlt _ e; omega), hB1.block _ (by omega)])
  have e1 : W3.cell? ⟨W.heap.size, 1, none⟩ = some (.int .i64 a) := hop3.cell 1
  have HM := hid (dnew_any a W3)
  have H1 := hid (And.intro hS1 (And.intro hp1 (And.intro hB1 hsz1)))
  have H2 := hid (And.intro hG2 (And.intro hGr2 (And.intro hsz2 hk2)))
  have H3 := hid (And.intro hs3 (And.intro hk3 (And.intro hw3 hop3)))
  clear hb0 hB0 hs0 hwlt hxlt hmlt hxw hmw hxm hlp hlq hl hN hok hcx hcm hS1 hp1 hB1 hsz1 hw1 hbx1 hG2 hGr2 hsz2 hk2 hw2 hs3 hk3 hw3 hop3
  subst hW3
  go_wp2_with (at_builtin; refine Lib.wpList_append_run _ rfl _ _ _ _ rfl _ _ rfl rfl _ _ (run2 _) ?_)
  refine HM.out.mono ?_
  rintro e W4 ⟨rfl, hW4⟩
  clear HM run2 d3 d3' f3' e1
  obtain ⟨hs3, hk3, hw3, hop3⟩ := H3.out
  obtain ⟨hG2, hGr2, hsz2, hk2⟩ := H2.out
  obtain ⟨hS1, hp1, hB1, hsz1⟩ := H1.out
  obtain ⟨hb0, hB0, hs0, hwlt, hxlt, hmlt, hxw, hmw, hxm⟩ := HX.out
  obtain ⟨hlp, hlq, hl, hN, hok, hcx, hcm⟩ := HL.out
  clear H3 H2 H1 HX HL
  have ho3 : (W2.setCell ⟨wp, 3, none⟩ (.slice (some ⟨g, 0, none⟩) (ps.length + 1) C)).os = W2.os ∧ (W2.setCell ⟨wp, 3, none⟩ (.slice (some ⟨g, 0, none⟩) (ps.length + 1) C)).tape = W2.tape ∧ (W2.setCell ⟨wp, 3, none⟩ (.slice (some ⟨g, 0, none⟩) (ps.length + 1) C)).output = W2.output := ⟨rfl, rfl, rfl⟩
  generalize W2.setCell ⟨wp, 3, none⟩ (.slice (some ⟨g, 0, none⟩) (ps.length + 1) C) = W3 at *
  have ho4 : W4.os = W3.os ∧ W4.tape = W3.tape ∧ W4.output = W3.output := by rw [hW4]; exact ⟨rfl, rfl, rfl⟩
  have hs4 : W4.heap.size = W3.heap.size + 1 := by rw [hW4]; simp
  have hk4 : ∀ k, k < W3.heap.size → W4.heap[k]? = W3.heap[k]? := fun k hk => by rw [hW4]; exact Below.heap_alloc _ _ _ hk
  have hq4 : Blk W4 W3.heap.size 166 [.slice none 0 0, .int .u64 0, .int .i64 (max a 1)] := by rw [hW4]; exact Blk.new W3 166 _
  have hw4 : Blk W4 wp 72 [.slice none 0 0, .slice none 0 0, .slice none 0 0, .slice (some ⟨g, 0, none⟩) (ps.length + 1) C, .slice am qs.length cm, .bool false] := hw3.of_heap (hk4 wp (by omega))
  have hold4 : ∀ k, k < W.heap.size → k ≠ wp → (Value.slice ax ps.length cx).ownBlock ≠ some k → W4.heap[k]? = W.heap[k]? := fun k hk n1 n2 => by
    rw [hk4 k (by omega), hk3 k n1, hk2 k (by omega) n2, hB1.block k (by omega), hB0.block k hk]
  have hbm4 : GBuf 146 1 W4 (.slice am qs.length cm) qs.length (ptrs qs) := HI.out.bm.of_heap (fun k hk => hold4 k (hmlt k hk) (fun e => hmw (by rw [← e]; exact hk)) (fun e => hxm k e hk))
  obtain ⟨g', C', W5, run5, hG5, hGr5⟩ := ppush eltM hbm4 (by omega) W3.heap.size
  have hsz5 : W4.heap.size + 1 ≤ W5.heap.size := by have := hGr5.1.size; simpa using this
  have hk5 : ∀ k, k < W4.heap.size → (Value.slice am qs.length cm).ownBlock ≠ some k → W5.heap[k]? = W4.heap[k]? := fun k hk hn => by
    rw [hGr5.1.block k (by simp; omega) (fun e => hn e.symm), Below.heap_alloc _ _ _ hk]
  have hw5 : Blk W5 wp 72 [.slice none 0 0, .slice none 0 0, .slice none 0 0, .slice (some ⟨g, 0, none⟩) (ps.length + 1) C, .slice am qs.length cm, .bool false] := hw4.of_heap (hk5 wp (by omega) hmw)
  have d4 : W4.cell? ⟨wp, 4, none⟩ = some (.slice am qs.length cm) := hw4.cell 4
  have d4' : W5.cell? ⟨wp, 4, none⟩ = some (.slice am qs.length cm) := hw5.cell 4
  have f4' := hw5.frozen 4
  have hplt : p < W1.heap.size := hS1.lt.1
  have hFIN : SPost N wp S K W (W5.setCell ⟨wp, 4, none⟩ (.slice (some ⟨g', 0, none⟩) (qs.length + 1) C')) := by
    have hk6 : ∀ k, k ≠ wp → (W5.setCell ⟨wp, 4, none⟩ (.slice (some ⟨g', 0, none⟩) (qs.length + 1) C')).heap[k]? = W5.heap[k]? := fun k hk => Below.heap_setCell _ _ _ _ hk
    have hw6 := hw5.stCell 4 (.slice (some ⟨g', 0, none⟩) (qs.length + 1) C')
    have ho6 : (W5.setCell ⟨wp, 4, none⟩ (.slice (some ⟨g', 0, none⟩) (qs.length + 1) C')).os = W5.os ∧ (W5.setCell ⟨wp, 4, none⟩ (.slice (some ⟨g', 0, none⟩) (qs.length + 1) C')).tape = W5.tape ∧ (W5.setCell ⟨wp, 4, none⟩ (.slice (some ⟨g', 0, none⟩) (qs.length + 1) C')).output = W5.output := ⟨rfl, rfl, rfl⟩
    have hs6 : (W5.setCell ⟨wp, 4, none⟩ (.slice (some ⟨g', 0, none⟩) (qs.length + 1) C')).heap.size = W5.heap.size := by simp
    generalize W5.setCell ⟨wp, 4, none⟩ (.slice (some ⟨g', 0, none⟩) (qs.length + 1) C') = W6 at *
    have hg := hGr2.2 g rfl
    have hglt := hG2.lt g rfl
    have hg' := hGr5.2 g' rfl
    rw [World.size_alloc] at hg hg'
    have hgw : g ≠ wp := fun e => by
      rcases hg with h | h
      · exact hxw (by rw [h, e])
      · omega
    have hgw' : g' ≠ wp := fun e => by
      rcases hg' with h | h
      · exact hmw (by rw [h, e])
      · omega
    have hbig : ∀ k, W.heap.size ≤ k → k < W4.heap.size → W6.heap[k]? = W4.heap[k]? := fun k h1 h2 => by
      rw [hk6 k (by omega), hk5 k h2 (fun e => by have := hmlt k e; omega)]
    have e6 : ∀ k, k < W.heap.size → own k ≠ (0, 0) → own k ≠ (1, 0) → own k ≠ (2, 0) → W6.heap[k]? = W.heap[k]? := fun k hk n0 n1 n2 => by
      have hkw : k ≠ wp := fun e => n0 (by rw [e]; exact HI.out.ownw)
      rw [hk6 k hkw, hk5 k (by omega) (fun e => n2 (HI.out.ownm k e)), hold4 k hk hkw (fun e => n1 (HI.out.ownx k e))]
    have a1 : SetAt W6 p a 0 [] none := hS1.of_heap (by rw [hbig p (by omega) (by omega), hk4 p (by omega), hk3 p (by omega), hk2 p hplt (fun e => by have := hxlt p e; omega)]) (fun k hk => by cases hk)
    have a2 : DSetAt W6 W3.heap.size (max a 1) 0 [] none := ⟨none, 0, hq4.of_heap (hbig _ (by omega) (by omega)), Nat.le_refl _, rfl, .inl ⟨rfl, rfl⟩⟩
    have a3 : GBuf 161 1 W6 (.slice (some ⟨g, 0, none⟩) (ps.length + 1) C) (ps.length + 1) (ptrs ps ++ ptrs [p]) := hG2.of_heap (fun k hk => by
      have hkg : k = g := by simp [Value.ownBlock] at hk; omega
      subst hkg
      rw [hk6 k hgw, hk5 k (by omega) (fun e => by
        rcases hg with h | h
        · exact hxm k h e
        · have := hmlt k e; omega), hk4 k (by omega), hk3 k hgw])
    have a4 : GBuf 146 1 W6 (.slice (some ⟨g', 0, none⟩) (qs.length + 1) C') (qs.length + 1) (ptrs qs ++ ptrs [W3.heap.size]) := hG5.of_heap (fun k hk => by
      have hkg : k = g' := by simp [Value.ownBlock] at hk; omega
      subst hkg
      exact hk6 k hgw')
    obtain ⟨own', hI'⟩ := HI.out.push a1 a2 hw6 a3 a4 (by omega) (by omega) (by omega) (fun k hk => by
        have hkg : k = g := by simp [Value.ownBlock] at hk; omega
        subst hkg
        rcases hg with h | h
        · exact .inl h
        · exact .inr ⟨by omega, by omega, by omega⟩) (fun k hk => by
        have hkg : k = g' := by simp [Value.ownBlock] at hk; omega
        subst hkg
        rcases hg' with h | h
        · exact .inl h
        · exact .inr ⟨by omega, by omega, by omega, fun e => by simp [Value.ownBlock] at e; omega⟩) e6 hN
    refine ⟨own', _, _, _, _, _, hI', by simp, ?_, ?_⟩
    · intro t ht
      rcases List.mem_append.1 ht with ht | ht
      · exact (hok t ht).mono (by omega)
      · simp at ht
        subst ht
        exact ⟨trivial, fun r hr => (by cases hr), Nat.zero_le _, (by show 0 < 18446744073709551616; omega)⟩
    · refine ⟨?_, ?_, ?_, by omega, fun k hk => e6 k (by omega) (by rw [HI.out.low k hk]; decide) (by rw [HI.out.low k hk]; decide) (by rw [HI.out.low k hk]; decide)⟩
      · rw [ho6.1, hGr5.1.os]; show W4.os = _; rw [ho4.1, ho3.1, hGr2.1.os]; show W1.os = _; rw [hB1.os, hB0.os]
      · rw [ho6.2.1, hGr5.1.tape]; show W4.tape = _; rw [ho4.2.1, ho3.2.1, hGr2.1.tape]; show W1.tape = _; rw [hB1.tape, hB0.tape]
      · rw [ho6.2.2, hGr5.1.output]; show W4.output = _; rw [ho4.2.2, ho3.2.2, hGr2.1.output]; show W1.output = _; rw [hB1.output, hB0.output]
  clear ho3 ho4 hk4 hq4 hold4 hbm4 hG5 hGr5 hsz5 hk5 hw5 hw4 hplt
  have HF := hid hFIN
  clear hFIN hs4 hW4 hs3 hk3 hw3 hop3 hG2 hGr2 hsz2 hk2 hS1 hp1 hB1 hsz1 hb0 hB0 hs0 hwlt hxlt hmlt hxw hmw hxm hlp hlq hl hN hok hcx hcm
  go_wp2_with (at_builtin; refine Lib.wpList_append_run _ rfl _ _ _ _ rfl _ _ rfl rfl _ _ (run5 _) ?_)
  go_ret
  exact ⟨rfl, HF.out⟩

end Go.Proofs.YtphbledmopchnaaGreatDoor.St

/-
  The document's sets: Add.
-/
namespace Go.Proofs.YtphbledmopchnaaGreatDoor.St
open Go.RowKit Go.Lib Mm

/-- One range more behind a list of the call's own. -/
theorem rpush {B : Nat} {wr : World} {v : Value} {out : List (Nat × Nat)} (h : GBuf 170 2 wr v out.length (rcells out)) (hO : Own B v) (hB : B ≤ wr.heap.size) (hl : out.length ≤ 100000000) (lo hi : Nat) :
    ∃ g c W5, (∀ ty, (Builtin.append_ #[63, 63] ty #[v, .slice (some ⟨wr.heap.size, 0, none⟩) 1 1]).run Tryz.prog (wr.alloc (.cells #[.int .u64 (lo : Int), .int .u64 (hi : Int)] 170)) = .ok (.slice (some ⟨g, 0, none⟩) (out.length + 1) c) W5) ∧
      GBuf 170 2 W5 (.slice (some ⟨g, 0, none⟩) (out.length + 1) c) (out ++ [(lo, hi)]).length (rcells (out ++ [(lo, hi)])) ∧ Own B (.slice (some ⟨g, 0, none⟩) (out.length + 1) c) ∧ Below B wr W5 ∧ ∀ k, k < wr.heap.size → v.ownBlock ≠ some k → W5.heap[k]? = wr.heap[k]? := by
  have hlt := h.lt
  have hbuf2 : GBuf 170 2 (wr.alloc (.cells #[.int .u64 (lo : Int), .int .u64 (hi : Int)] 170)) v out.length (rcells out) := h.of_heap (fun b hb => Below.heap_alloc _ _ _ (hlt b hb))
  obtain ⟨v', W5, run5, hB5, hG5⟩ := run_append_gbuf eltR hbuf2 ⟨wr.heap.size, 0, none⟩ 1 1 [.int .u64 (lo : Int), .int .u64 (hi : Int)] rfl (by decide) (fun v hv => by simp at hv; rcases hv with rfl | rfl <;> rfl)
    (fun j u hu => by
      rw [Addr.add_lit, Nat.zero_add, (Blk.new wr 170 [.int .u64 (lo : Int), .int .u64 (hi : Int)]).cell]
      exact hu) (by omega)
  have hO5 := hG5.own hO (by simp; omega)
  have hbl5 := hG5.below hO (by simp; omega)
  have hba : Below B wr (wr.alloc (.cells #[.int .u64 (lo : Int), .int .u64 (hi : Int)] 170)) := (Below.refl _ wr).alloc hB _
  obtain ⟨g', C', rfl⟩ : ∃ g' C', v' = .slice (some ⟨g', 0, none⟩) (out.length + 1) C' := by
    rcases hB5 with ⟨_, h0, _⟩ | ⟨g', C', _, h0, _⟩
    · omega
    · exact ⟨g', C', h0⟩
  have hrc : rcells out ++ [.int .u64 (lo : Int), .int .u64 (hi : Int)] = rcells (out ++ [(lo, hi)]) := by rw [rcells_append]; rfl
  rw [hrc] at hB5
  exact ⟨g', C', W5, run5, by rw [List.length_append]; exact hB5, hO5, hba.trans hbl5, fun k hk hn => by rw [hG5.1.block k (by simp; omega) (fun e => hn e.symm), Below.heap_alloc _ _ _ hk]⟩

/-- How far Add has come. -/
structure DIn (w : World) (R : List (Nat × Nat)) (rest : List (Nat × Nat)) (wr : World) (v : Value) (n lo hi : Nat) (dn : Bool) (out : List (Nat × Nat)) : Prop where
  buf : GBuf 170 2 wr v out.length (rcells out)
  own : Own w.heap.size v
  bel : Below w.heap.size w wr
  len : n = out.length
  fin : Rg.dFin (Rg.dGo rest lo hi dn out) = R

theorem drop_cons (rs : List (Nat × Nat)) (k : Nat) (hk : k < rs.length) : rs.drop k = rs.getD k (0, 0) :: rs.drop (k + 1) := by
  rw [List.drop_eq_getElem_cons hk, getD_at rs k hk]

/-- What Add comes to. -/
def DPost (q : Nat) (most : Int) (row : Option Nat) (w : World) (x : Nat × List (Nat × Nat)) (w' : World) : Prop :=
  Alone q w w' ∧ ∃ row2, DSetAt w' q most x.1 x.2 row2 ∧ (row2 = row ∨ ∃ b, row2 = some b ∧ w.heap.size ≤ b)

theorem DIn.alloc {w : World} {R rest : List (Nat × Nat)} {wr : World} {v : Value} {n lo hi : Nat} {dn : Bool} {out : List (Nat × Nat)} (h : DIn w R rest wr v n lo hi dn out) (o : Obj) : DIn w R rest (wr.alloc o) v n lo hi dn out :=
  ⟨h.buf.of_heap (fun b hb => Below.heap_alloc _ _ _ (h.buf.lt b hb)), h.own, h.bel.alloc h.bel.size o, h.len, h.fin⟩

/-- One range more. -/
theorem DIn.push {w : World} {R rest : List (Nat × Nat)} {wr : World} {v : Value} {n lo hi : Nat} {dn : Bool} {out : List (Nat × Nat)} (h : DIn w R rest wr v n lo hi dn out) (hl : n ≤ 100000000) (a b : Nat) (rest' : List (Nat × Nat)) (dn' : Bool)
    (hf : Rg.dFin (Rg.dGo rest' lo hi dn' (out ++ [(a, b)])) = R) :
    ∃ g c W5, (∀ ty, (Builtin.append_ #[63, 63] ty #[v, .slice (some ⟨wr.heap.size, 0, none⟩) 1 1]).run Tryz.prog (wr.alloc (.cells #[.int .u64 (a : Int), .int .u64 (b : Int)] 170)) = .ok (.slice (some ⟨g, 0, none⟩) (n + 1) c) W5) ∧
      DIn w R rest' W5 (.slice (some ⟨g, 0, none⟩) (n + 1) c) (n + 1) lo hi dn' (out ++ [(a, b)]) ∧ (∀ k, k < wr.heap.size → v.ownBlock ≠ some k → W5.heap[k]? = wr.heap[k]?) ∧ n + 1 ≤ c := by
  obtain ⟨h1, h2, h3, h4, h5⟩ := h
  subst h4
  obtain ⟨g, c, W5, r, b1, b2, b3, b4⟩ := rpush h1 h2 h3.size hl a b
  obtain ⟨_, _, e, hc⟩ := b1.shape
  simp at e
  simp at hc
  exact ⟨g, c, W5, r, ⟨b1, b2, h3.trans b3, by simp, hf⟩, b4, by omega⟩

/-- What comes behind the loop. -/
structure DEnd (w : World) (R : List (Nat × Nat)) (wr : World) (v : Value) (n : Nat) : Prop where
  buf : GBuf 170 2 wr v R.length (rcells R)
  own : Own w.heap.size v
  bel : Below w.heap.size w wr
  len : n = R.length

theorem Below.alone {q : Nat} {w w' : World} (h : Below w.heap.size w w') : Alone q w w' := ⟨h.os, h.tape, h.output, h.size, fun k hk _ => h.block k hk⟩

theorem rcells_tail' (rs : List (Nat × Nat)) (j : Nat) (v : Value) (h : (rcells rs.tail)[j]? = some v) : (rcells rs)[2 + j]? = some v := by
  cases rs with
  | nil => simp [rcells] at h
  | cons r t =>
    rw [show 2 + j = j + 1 + 1 by omega]
    simpa [rcells] using h

/-- The new list is the set's. -/
theorem DEnd.fin {w : World} {R : List (Nat × Nat)} {wr : World} {g n C q : Nat} {most : Int} {fl : Nat} {row : Option Nat} {v0 : Value} (h : DEnd w R wr (.slice (some ⟨g, 0, none⟩) n C) n) (hB : Blk w q 166 [v0, .int .u64 (fl : Int), .int .i64 most]) (hC : n ≤ C) :
    DPost q most row w (fl, R) (wr.setCell ⟨q, 0, none⟩ (.slice (some ⟨g, 0, none⟩) n C)) := by
  obtain ⟨h1, h2, h3, h4⟩ := h
  subst h4
  have hg : w.heap.size ≤ g := h2 g rfl
  have hlt := hB.lt
  have hq : Blk wr q 166 [v0, .int .u64 (fl : Int), .int .i64 most] := hB.of_heap (h3.block q hlt)
  have hne : g ≠ q := by omega
  refine ⟨⟨h3.os, h3.tape, h3.output, by have := h3.size; simpa using this, fun k hk hn => by rw [Below.heap_setCell _ _ _ _ hn]; exact h3.block k hk⟩, some g, ⟨some ⟨g, 0, none⟩, C, hq.stCell 0 _, hC, rfl, ?_⟩, .inr ⟨g, rfl, hg⟩⟩
  rcases h1 with ⟨h1, _⟩ | ⟨g', cap, cs, e, b1, b2, b3, b4, b5, b6, b7⟩
  · cases h1
  · simp at e
    obtain ⟨rfl, rfl⟩ := e
    refine .inr ⟨g, 0, cs, rfl, b1.stCell_other _ _ hne, fun j v hj => ?_⟩
    rw [Nat.zero_add]
    rw [← b6, List.getElem?_take] at hj
    split at hj
    · exact hj
    · cases hj

/-- .. but for its first range. -/
theorem DEnd.drop {w : World} {R : List (Nat × Nat)} {wr : World} {g n C q x : Nat} {most : Int} {fl : Nat} {row : Option Nat} {v0 : Value} (h : DEnd w R wr (.slice (some ⟨g, 0, none⟩) n C) n) (hB : Blk w q 166 [v0, .int .u64 (fl : Int), .int .i64 most]) (hC : n ≤ C) (hn : 1 ≤ n) (hx : x = (R.getD 0 (0, 0)).2 + 1) :
    DPost q most row w ((R.getD 0 (0, 0)).2 + 1, R.tail) ((wr.setCell ⟨q, 1, none⟩ (.int .u64 (x : Int))).setCell ⟨q, 0, none⟩ (.slice (some ⟨g, 2, none⟩) (n - 1) (C - 1))) := by
  obtain ⟨h1, h2, h3, h4⟩ := h
  subst hx
  have hg : w.heap.size ≤ g := h2 g rfl
  have hlt := hB.lt
  have hq : Blk wr q 166 [v0, .int .u64 (fl : Int), .int .i64 most] := hB.of_heap (h3.block q hlt)
  have hne : g ≠ q := by omega
  refine ⟨⟨h3.os, h3.tape, h3.output, by have := h3.size; simpa using this, fun k hk hn => by rw [Below.heap_setCell _ _ _ _ hn, Below.heap_setCell _ _ _ _ hn]; exact h3.block k hk⟩, some g, ⟨some ⟨g, 2, none⟩, C - 1, ?_, by simp; omega, rfl, ?_⟩, .inr ⟨g, rfl, hg⟩⟩
  · have := (hq.stCell 1 (.int .u64 (((R.getD 0 (0, 0)).2 + 1 : Nat) : Int))).stCell 0 (.slice (some ⟨g, 2, none⟩) (n - 1) (C - 1))
    rw [List.length_tail, ← h4]
    exact this
  · rcases h1 with ⟨h1, _⟩ | ⟨g', cap, cs, e, b1, b2, b3, b4, b5, b6, b7⟩
    · cases h1
    · simp at e
      obtain ⟨rfl, _, rfl⟩ := e
      refine .inr ⟨g, 2, cs, rfl, (b1.stCell_other _ _ hne).stCell_other _ _ hne, fun j v hj => ?_⟩
      have hj2 := rcells_tail' R j v hj
      rw [← b6, List.getElem?_take] at hj2
      split at hj2
      · exact hj2
      · cases hj2

/-- Its first range. -/
theorem DEnd.cell {w : World} {R : List (Nat × Nat)} {wr : World} {g n C : Nat} (h : DEnd w R wr (.slice (some ⟨g, 0, none⟩) n C) n) (hn : 1 ≤ n) : wr.cell? ⟨g, 1, none⟩ = some (.int .u64 ((R.getD 0 (0, 0)).2 : Int)) := by
  obtain ⟨g', e, h1, _⟩ := h.buf.cell (by rw [h.len]) 1 (.int .u64 ((R.getD 0 (0, 0)).2 : Int)) (by have := rcells_hi R 0 (by have := h.len; omega); simpa using this)
  simp at e
  rw [e]
  exact h1

theorem DEnd.shape {w : World} {R : List (Nat × Nat)} {wr : World} {v : Value} {n : Nat} (h : DEnd w R wr v n) (hn : 1 ≤ n) : ∃ g C, v = .slice (some ⟨g, 0, none⟩) n C ∧ n ≤ C := by
  obtain ⟨h1, h2, h3, h4⟩ := h
  rcases h1 with ⟨_, h0, _⟩ | ⟨g, cap, cs, e, b1, b2, b3, _⟩
  · omega
  · exact ⟨g, cap, by rw [e, h4], by omega⟩

end Go.Proofs.YtphbledmopchnaaGreatDoor.St
