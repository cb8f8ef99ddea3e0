/-
  slices.Insert of one element, over this dump, at elements of two cells.
-/
import Derived.Test.YtphbledmopchnaaProg
import Derived.Test.YtphbledmopchnaaMem
import Derived.Shelf.Spec.SlicesInsert
import Derived.Deep.RegionLaw
import Derived.WalkLawsBesides
import Derived.Outline
namespace Go.Proofs.Ytphbledmopchnaa.St
open Go.RowKit Go.Lib Mm

theorem u31 : Try.prog.underlying 31 = some (.slice 40) := by kernel_rfl
theorem size36 : (Try.prog.info? 40).map (·.size) = some 2 := by kernel_rfl
theorem info36 : (Try.prog.info? 40).map (fun i => (i.zero, i.size, i.bytes)) = some (some (.agg #[.int .u64 0, .int .u64 0]), 2, 16) := by kernel_rfl
theorem sizeOf36 (w : World) : (Go.sizeOf 40).run Try.prog w = .ok 2 w := by kernel_rfl

theorem overlaps_no {w : World} {vb b off m vc lb cb : Nat} {vs l : List Value} (hv : Blk w vb 40 vs) (h : Blk w b 40 l) (hl : l.length ≠ 0) (hne : vb ≠ b) :
    (callFunc 24 #[.slice (some ⟨vb, 0, none⟩) m vc, .slice (some ⟨b, off, none⟩) lb cb]).run Try.prog w = .ok (.value (.bool false)) w := by
  rw [run_callFunc_extern Try.func24 (by kernel_rfl) (by kernel_rfl) (by kernel_rfl) (e := Extern.SlicesOverlaps.overlaps #[31, 31] #[4]) (by kernel_rfl),
    Lib.run_overlaps_apart w 31 4 40 u31 2 sizeOf36 ⟨vb, 0, none⟩ ⟨b, off, none⟩ m vc lb cb hne 40 40 vs.length l.length hv.shape h.shape hl (hv.frozen 0) (hv.frozen _)]
  rfl


theorem getElem_seg {l : List Value} {a k j : Nat} {v : Value} (h : ((l.drop a).take k)[j]? = some v) : l[a + j]? = some v := by
  rw [List.getElem?_take] at h
  split at h
  · rwa [List.getElem?_drop] at h
  · cases h

set_option maxHeartbeats 1000000 in
theorem insert_shift (b n c i vb : Nat) (l vs : List Value) (w : World) (hi : i < n) (hroom : n + 1 ≤ c) (hc : c ≤ 9223372036854775807) (hvb : vb ≠ b)
    (h : Blk w b 40 l) (hl : l.length = 2 * c) (hv : Blk w vb 40 vs) (hvl : vs.length = 2) (h1 : ∀ v ∈ l, v.oneCell' = true) (h1v : ∀ v ∈ vs, v.oneCell' = true) :
    Calls Try.prog 23 #[.slice (some ⟨b, 0, none⟩) n c, .int .i64 i, .slice (some ⟨vb, 0, none⟩) 1 1] w fun e w' =>
      e = .returned (.slice (some ⟨b, 0, none⟩) (n + 1) c) ∧ ∃ q, w' = put (put (w.drewN q) b (splice l (2 * (i + 1)) ((l.drop (2 * i)).take (2 * (n - i))))) b (splice (splice l (2 * (i + 1)) ((l.drop (2 * i)).take (2 * (n - i)))) (2 * i) vs) := by
  have hov : ∀ off lb cb, (callFunc 24 #[.slice (some ⟨vb, 0, none⟩) 1 1, .slice (some ⟨b, off, none⟩) lb cb]).run Try.prog w = .ok (.value (.bool false)) w := fun off lb cb =>
    overlaps_no hv h (by omega) hvb
  have hz2 : ¬ ((i : Int) = (n : Int)) := by omega
  have hz3 : (i : Int) ≤ (n : Int) := by omega
  generalize hmid : (l.drop (2 * i)).take (2 * (n - i)) = mid
  have hml : mid.length = (n - i) * 2 := by rw [← hmid]; simp; omega
  have hms : ∀ j v, mid[j]? = some v → w.cell? ⟨b, i * 2 + j, none⟩ = some v := fun j v hj => by
    rw [h.cell, Nat.mul_comm]; rw [← hmid] at hj; exact getElem_seg hj
  have hm1 : ∀ v ∈ mid, v.oneCell' = true := fun v hv => h1 v (by rw [← hmid] at hv; exact List.mem_of_mem_drop (List.mem_of_mem_take hv))
  generalize hl1 : splice l (2 * (i + 1)) mid = l1
  have hl1l : l1.length = 2 * c := by rw [← hl1, splice_length _ _ _ (by omega), hl]
  have hcp1 : ∀ (W : World), W.heap = w.heap → ∀ ty dc sc, (Builtin.copy_ #[31, 31] ty #[.slice (some ⟨b, (i + 1) * 2, none⟩) (n - i) dc, .slice (some ⟨b, i * 2, none⟩) (n + 1 - i) sc]).run Try.prog W = .ok (goInt ((n - i : Nat) : Int)) (put W b l1) := fun W hW ty dc sc => by
    have hB : Blk W b 40 l := h.of_heap (by rw [hW])
    rw [run_copy_blk 31 31 ty 40 hB ⟨b, i * 2, none⟩ (n + 1 - i) sc 2 (n - i) mid u31 size36 (by simp only [Nat.min_def]; split <;> omega) hml (fun j v hj => by rw [Addr.add_lit, hB.cell, ← h.cell]; exact hms j v hj) (by omega) hm1, ← hl1, Nat.mul_comm (i + 1) 2]
  have hcp2 : ∀ (W : World), Blk W b 40 l1 → Blk W vb 40 vs → ∀ ty dc, (Builtin.copy_ #[31, 31] ty #[.slice (some ⟨b, i * 2, none⟩) (n + 1 - i) dc, .slice (some ⟨vb, 0, none⟩) 1 1]).run Try.prog W = .ok (goInt ((1 : Nat) : Int)) (put W b (splice l1 (2 * i) vs)) := fun W hB hV ty dc => by
    rw [run_copy_blk 31 31 ty 40 hB ⟨vb, 0, none⟩ 1 1 2 1 vs u31 size36 (by simp only [Nat.min_def]; split <;> omega) (by omega) (fun j v hj => by rw [Addr.add_lit, hV.cell, Nat.zero_add]; exact hj) (by omega) h1v, Nat.mul_comm i 2]
  clear hmid hl1 hms
  have hw1 : IntKind.i64.wrap ((i : Int) + 1) = (i : Int) + 1 := by rw [IntKind.wrap_i64]; omega
  have hb1 : (0 : Int) ≤ (i : Int) + 1 := by omega
  have htn : ((i : Int) + 1).toNat = i + 1 := by omega
  have hb2 : ¬ (c = i + 1) := by omega
  have hb3 : (i : Int) + 1 ≤ (n : Int) + 1 := by omega
  have hb5 : (i : Int) ≤ (n : Int) + 1 := by omega
  have hb4 : ¬ (c = i) := by omega
  go_enter Try.func23, Try.ntmps23
  go_wp2_with (simp only [hov])
  have hcq := hcp1 w.drew rfl
  clear hcp1
  go_region
  have hcq2 := hcp2 (put w.drew b l1) (h.drew.put l1) (hv.drew.of_heap (put_other _ _ _ _ hvb))
  clear hcp2
  go_wp2
  go_ret
  exact ⟨rfl, 1, rfl⟩

/-- What such a call hands back: a slice of n' elements, whose cells are cs'; all but a block of the slice's own, and what is new, is as it was. -/
def Out (w w' : World) (row : Option Nat) (e : Ending) (n' : Nat) (cs' : List Value) : Prop :=
  ∃ b' c' l', e = .returned (.slice (some ⟨b', 0, none⟩) n' c') ∧ Blk w' b' 40 l' ∧ l'.length = 2 * c' ∧ n' ≤ c' ∧ c' ≤ 9223372036854775807 ∧ l'.take (2 * n') = cs' ∧ (∀ v ∈ l', v.oneCell' = true) ∧ w.grownBy w' row ∧ (some b' = row ∨ w.heap.size ≤ b')

set_option maxHeartbeats 1000000 in
theorem insert_room (b n c vb : Nat) (l vs : List Value) (w : World) (hroom : n + 1 ≤ c) (hc : c ≤ 9223372036854775807)
    (h : Blk w b 40 l) (hl : l.length = 2 * c) (hv : Blk w vb 40 vs) (hvl : vs.length = 2) (h1v : ∀ v ∈ vs, v.oneCell' = true) :
    Calls Try.prog 23 #[.slice (some ⟨b, 0, none⟩) n c, .int .i64 n, .slice (some ⟨vb, 0, none⟩) 1 1] w fun e w' =>
      e = .returned (.slice (some ⟨b, 0, none⟩) (n + 1) c) ∧ w' = put w b (splice l (n * 2) vs) := by
  have hap := fun ty => run_append_room_blk (P := Try.prog) (w := w) 31 31 ty 40 _ 2 16 u31 u31 info36 (n := n) (c := c) (m := 1) (mc := 1) h ⟨vb, 0, none⟩ (vs := vs) (by omega) (fun j v hj => by rw [Addr.add_lit, hv.cell, Nat.zero_add]; exact hj) h1v hroom (by omega)
  go_enter Try.func23, Try.ntmps23
  go_wp2_with (at_builtin; refine Lib.wpList_append_run _ rfl _ _ _ _ rfl _ _ rfl rfl _ _ (hap _) ?_)
  go_ret
  exact ⟨rfl, rfl⟩

set_option maxHeartbeats 1000000 in
theorem insert_end_grow (base : Option Addr) (n c vb : Nat) (cs vs : List Value) (w : World) (hnc : n ≤ c) (hroom : c < n + 1) (hbig : n ≤ 1000000)
    (hold : base = none ∧ cs = [] ∧ n = 0 ∨ ∃ b, base = some ⟨b, 0, none⟩ ∧ cs.length = n * 2 ∧ ∀ j v, cs[j]? = some v → w.cell? ⟨b, j, none⟩ = some v)
    (hv : Blk w vb 40 vs) (hvl : vs.length = 2) (h1v : ∀ v ∈ vs, v.oneCell' = true) :
    Calls Try.prog 23 #[.slice base n c, .int .i64 n, .slice (some ⟨vb, 0, none⟩) 1 1] w fun e w' =>
      e = .returned (.slice (some ⟨w.heap.size, 0, none⟩) (n + 1) (grownCap w (n + 1) c 40)) ∧
      w' = w.drew.alloc (.cells (cs ++ vs ++ (Builtin.zeroCells (Value.agg #[.int .u64 0, .int .u64 0]).cells (grownCap w (n + 1) c 40 - (n + 1))).toList).toArray 40) := by
  have hap := fun ty => run_append_grow_blk (P := Try.prog) (w := w) 31 31 ty 40 _ 2 16 u31 u31 info36 (base := base) (n := n) (c := c) (m := 1) (mc := 1) (cs := cs) (by
      rcases hold with ⟨h1, h2, _⟩ | ⟨b, h1, h2, h3⟩
      · exact .inl ⟨h1, h2⟩
      · exact .inr ⟨_, h1, h2, fun j v hj => by rw [Addr.add_lit, Nat.zero_add]; exact h3 j v hj⟩) ⟨vb, 0, none⟩ (vs := vs) (by omega) (fun j v hj => by rw [Addr.add_lit, hv.cell, Nat.zero_add]; exact hj) h1v hroom (by omega) (by omega)
  generalize hrow : cs ++ vs ++ (Builtin.zeroCells (Value.agg #[.int .u64 0, .int .u64 0]).cells (grownCap w (n + 1) c 40 - (n + 1))).toList = ROW at hap ⊢
  clear hrow
  generalize grownCap w (n + 1) c 40 = G at hap ⊢
  rcases hold with ⟨rfl, _, rfl⟩ | ⟨b, rfl, _, _⟩
  · go_enter Try.func23, Try.ntmps23
    go_wp2_with (at_builtin; refine Lib.wpList_append_run _ rfl _ _ _ _ rfl _ _ rfl rfl _ _ (hap _) ?_)
    go_ret
    exact ⟨rfl, rfl⟩
  · go_enter Try.func23, Try.ntmps23
    go_wp2_with (at_builtin; refine Lib.wpList_append_run _ rfl _ _ _ _ rfl _ _ rfl rfl _ _ (hap _) ?_)
    go_ret
    exact ⟨rfl, rfl⟩


set_option maxHeartbeats 2000000 in
theorem insert_grow (b n c i vb : Nat) (l vs : List Value) (w : World) (hi : i < n) (hnc : n ≤ c) (hroom : c < n + 1) (hbig : n ≤ 1000000)
    (h : Blk w b 40 l) (hl : l.length = 2 * c) (hv : Blk w vb 40 vs) (hvl : vs.length = 2) (h1 : ∀ v ∈ l, v.oneCell' = true) (h1v : ∀ v ∈ vs, v.oneCell' = true) :
    Calls Try.prog 23 #[.slice (some ⟨b, 0, none⟩) n c, .int .i64 i, .slice (some ⟨vb, 0, none⟩) 1 1] w fun e w' =>
      Out w w' none e (n + 1) ((l.take (2 * n)).take (2 * i) ++ vs ++ (l.take (2 * n)).drop (2 * i)) := by
  have hcn : c = n := by omega
  subst hcn
  have hz2 : ¬ ((i : Int) = (c : Int)) := by omega
  have hz3 : (i : Int) ≤ (c : Int) := by omega
  have hlt : l.take (2 * c) = l := List.take_of_length_le (by omega)
  rw [hlt]
  have hap := fun ty => run_append_zeros_blk (P := Try.prog) (w := w) 31 3 ty 40 _ 2 16 .i64 .i64 u31 (by kernel_rfl) info36 (by omega) ⟨b, 0, none⟩ (n := i) (c := c) (m := c + 1 - i) (cs := l.take (2 * i)) (by simp; omega)
    (fun j v hj => by
      rw [Addr.add_lit, Nat.zero_add, h.cell]
      rw [List.getElem?_take] at hj
      split at hj
      · exact hj
      · cases hj) (by omega) (by omega) (by omega) (by omega)
  rw [show i + (c + 1 - i) = c + 1 by omega, show ((c + 1 - i : Nat) : Int) = (c : Int) + 1 - (i : Int) by omega] at hap
  have hGn := grownCap_ge w (c + 1) c 40
  have hG63 := grownCap_le_maxLen w (c + 1) c 40 (by unfold maxLen; omega)
  unfold maxLen at hG63
  generalize hG : grownCap w (c + 1) c 40 = G at hap hGn hG63
  clear hG
  generalize hR : l.take (2 * i) ++ (Builtin.zeroCells (Value.agg #[.int .u64 0, .int .u64 0]).cells (c + 1 - i)).toList ++ (Builtin.zeroCells (Value.agg #[.int .u64 0, .int .u64 0]).cells (G - (c + 1))).toList = R at hap
  have hRl : R.length = 2 * G := by
    rw [← hR, List.length_append, List.length_append, zero2_len, zero2_len, List.length_take]; omega
  have hRt : R.take (2 * i) = l.take (2 * i) := by
    rw [← hR, List.append_assoc, List.take_append_of_le_length (by simp; omega), List.take_of_length_le (by simp; omega)]
  have hR1 : ∀ v ∈ R, v.oneCell' = true := by
    rw [← hR]
    intro v hv
    rcases List.mem_append.1 hv with hv | hv
    · rcases List.mem_append.1 hv with hv | hv
      · exact h1 v (List.mem_of_mem_take hv)
      · exact zero2_one _ v hv
    · exact zero2_one _ v hv
  clear hR
  have hbw : b < w.heap.size := h.lt
  have hvw : vb < w.heap.size := hv.lt
  have hB1 : Blk ((w.alloc (.cells R.toArray 40)).drew) w.heap.size 40 R := Blk.new w 40 R
  have hV1 : Blk ((w.alloc (.cells R.toArray 40)).drew) vb 40 vs := hv.alloc _
  have hO1 : Blk ((w.alloc (.cells R.toArray 40)).drew) b 40 l := h.alloc _
  have hcpA := fun ty dc => run_copy_blk (P := Try.prog) (o := i * 2) (dLen := c + 1 - i) (dCap := dc) 31 31 ty 40 hB1 ⟨vb, 0, none⟩ 1 1 2 1 vs u31 size36 (by simp only [Nat.min_def]; split <;> omega) (by omega) (fun j v hj => by rw [Addr.add_lit, hV1.cell, Nat.zero_add]; exact hj) (by omega) h1v
  have hB2 := (hB1.put (splice R (i * 2) vs)).drew
  have hO2 : Blk (put ((w.alloc (.cells R.toArray 40)).drew) w.heap.size (splice R (i * 2) vs)).drew b 40 l := hO1.of_heap (put_other _ _ _ _ (by omega))
  have htl : (l.drop (2 * i)).length = (c - i) * 2 := by simp; omega
  have hl2 : (splice R (i * 2) vs).length = 2 * G := by rw [splice_length _ _ _ (by omega), hRl]
  have hcpB := fun ty dc sc => run_copy_blk (P := Try.prog) (o := (i + 1) * 2) (dLen := c - i) (dCap := dc) 31 31 ty 40 hB2 ⟨b, i * 2, none⟩ (c - i) sc 2 (c - i) (l.drop (2 * i)) u31 size36 (by simp only [Nat.min_def]; split <;> omega) htl
    (fun j v hj => by rw [Addr.add_lit, hO2.cell]; rwa [List.getElem?_drop, Nat.mul_comm 2 i] at hj) (by omega) (fun v hv => h1 v (List.mem_of_mem_drop hv))
  have hfin : (splice (splice R (i * 2) vs) ((i + 1) * 2) (l.drop (2 * i))).take (2 * (c + 1)) = l.take (2 * i) ++ vs ++ l.drop (2 * i) := by
    have := two_take R vs (l.drop (2 * i)) (i * 2) 2 hvl (by omega)
    rw [show i * 2 + 2 = (i + 1) * 2 by omega, htl, show (i + 1) * 2 + (c - i) * 2 = 2 * (c + 1) by omega, show i * 2 = 2 * i by omega, hRt] at this
    rw [show i * 2 = 2 * i by omega]
    exact this
  have hl3 : (splice (splice R (i * 2) vs) ((i + 1) * 2) (l.drop (2 * i))).length = 2 * G := by rw [splice_length _ _ _ (by omega), hl2]
  have h13 : ∀ v ∈ splice (splice R (i * 2) vs) ((i + 1) * 2) (l.drop (2 * i)), v.oneCell' = true := splice_one (splice_one hR1 h1v) (fun v hv => h1 v (List.mem_of_mem_drop hv))
  have HB2 : Hid _ := hB2
  generalize splice (splice R (i * 2) vs) ((i + 1) * 2) (l.drop (2 * i)) = l3 at hcpB hfin hl3 h13
  generalize l.drop (2 * i) = tl at hcpB hfin htl
  generalize splice R (i * 2) vs = l2 at hcpA hcpB hB2 hO2 hl2 HB2
  have hw1 : IntKind.i64.wrap ((i : Int) + 1) = (i : Int) + 1 := by rw [IntKind.wrap_i64]; omega
  have hb1 : (0 : Int) ≤ (i : Int) + 1 := by omega
  have htn : ((i : Int) + 1).toNat = i + 1 := by omega
  have hb2 : ¬ (G = i + 1) := by omega
  have hb3 : (i : Int) + 1 ≤ (c : Int) + 1 := by omega
  have hb5 : (i : Int) ≤ (c : Int) + 1 := by omega
  have hb4 : ¬ (c = i) := by omega
  have hb6 : ¬ (G = i) := by omega
  have HF : Hid _ := hfin
  have H13 : Hid _ := h13
  have HL3 : Hid _ := hl3
  clear hfin h13 hl3 hlt hRt hR1 hRl hB1 hV1 hO1 hO2 hB2 htl hl2
  go_enter Try.func23, Try.ntmps23
  go_wp2_with (at_builtin; refine Lib.wpList_append_run _ rfl _ _ _ _ rfl _ _ rfl rfl _ _ (hap _) ?_)
  go_region
  go_wp2
  go_ret
  refine ⟨w.heap.size, G, l3, rfl, Blk.put HB2.out l3, HL3.out, by omega, hG63, HF.out, H13.out, ?_, .inr (Nat.le_refl _)⟩
  exact grown_put_new (grown_trans (grown_put_new (grown_trans (World.grownBy_alloc w _ none) (grown_drew _ none)) _ _ (Nat.le_refl _)) (grown_drew _ none)) _ _ (Nat.le_refl _)

/-- slices.Insert of one element at i: all its roads. -/
theorem insert_any (base : Option Addr) (n c i vb : Nat) (cs vs : List Value) (w : World) (hi : i ≤ n) (hnc : n ≤ c) (hc : c ≤ 9223372036854775807) (hbig : n ≤ 1000000)
    (hold : base = none ∧ cs = [] ∧ n = 0 ∧ c = 0 ∨ ∃ b l, base = some ⟨b, 0, none⟩ ∧ Blk w b 40 l ∧ l.length = 2 * c ∧ cs = l.take (2 * n) ∧ vb ≠ b ∧ ∀ v ∈ l, v.oneCell' = true)
    (hv : Blk w vb 40 vs) (hvl : vs.length = 2) (h1v : ∀ v ∈ vs, v.oneCell' = true) :
    Calls Try.prog 23 #[.slice base n c, .int .i64 i, .slice (some ⟨vb, 0, none⟩) 1 1] w fun e w' =>
      Out w w' (base.map (·.block)) e (n + 1) (cs.take (2 * i) ++ vs ++ cs.drop (2 * i)) := by
  rcases hold with ⟨rfl, rfl, rfl, rfl⟩ | ⟨b, l, rfl, h, hl, rfl, hvb, h1⟩
  · obtain rfl : i = 0 := by omega
    refine (insert_end_grow none 0 0 vb [] vs w (by omega) (by omega) (by omega) (.inl ⟨rfl, rfl, rfl⟩) hv hvl h1v).mono ?_
    rintro e w' ⟨rfl, rfl⟩
    have hGn := grownCap_ge w (0 + 1) 0 40
    have hG63 := grownCap_le_maxLen w (0 + 1) 0 40 (by unfold maxLen; omega)
    unfold maxLen at hG63
    refine ⟨w.heap.size, _, _, rfl, Blk.new w 40 _, ?_, hGn, hG63, ?_, ?_, grown_trans (World.grownBy_alloc w _ none) (grown_drew _ none), .inr (Nat.le_refl _)⟩
    · rw [List.nil_append, List.length_append, zero2_len]; omega
    · rw [List.nil_append, List.take_append_of_le_length (by omega), List.take_of_length_le (by omega)]; simp
    · intro v hv
      rw [List.nil_append] at hv
      rcases List.mem_append.1 hv with hv | hv
      · exact h1v v hv
      · exact zero2_one _ v hv
  · by_cases hr : n + 1 ≤ c
    · by_cases hin : i < n
      · refine (insert_shift b n c i vb l vs w hin hr hc hvb h hl hv hvl h1 h1v).mono ?_
        rintro e w' ⟨rfl, q, rfl⟩
        refine ⟨b, c, _, rfl, (Blk.put (w := w.drewN q) h _).put _, ?_, hr, hc, ?_, splice_one (splice_one h1 (fun v hv => h1 v (List.mem_of_mem_drop (List.mem_of_mem_take hv)))) h1v, ?_, .inl rfl⟩
        · rw [splice_length, splice_length, hl]
          · simp; omega
          · rw [splice_length]
            · omega
            · simp; omega
        · have := shift_take l vs (2 * i) (2 * n) 2 (by omega) (by omega) hvl
          rw [show 2 * n - 2 * i = 2 * (n - i) by omega, show 2 * i + 2 = 2 * (i + 1) by omega, show 2 * n + 2 = 2 * (n + 1) by omega] at this
          exact this
        · exact grown_trans (grown_drewN w q _) (grown_trans (put_grown _ b _) (put_grown _ b _))
      · obtain rfl : i = n := by omega
        refine (insert_room b i c vb l vs w hr hc h hl hv hvl h1v).mono ?_
        rintro e w' ⟨rfl, rfl⟩
        refine ⟨b, c, _, rfl, h.put _, ?_, hr, hc, ?_, splice_one h1 h1v, put_grown _ b _, .inl rfl⟩
        · rw [splice_length, hl]; omega
        · have := splice_end l vs (i * 2) (by omega)
          rw [hvl, show i * 2 + 2 = 2 * (i + 1) by omega, Nat.mul_comm i 2] at this
          rw [Nat.mul_comm i 2, this, List.take_of_length_le (l := l.take (2 * i)) (by simp; omega), List.drop_of_length_le (l := l.take (2 * i)) (by simp; omega)]
          simp
    · by_cases hin : i < n
      · refine (insert_grow b n c i vb l vs w hin hnc (by omega) hbig h hl hv hvl h1 h1v).mono ?_
        rintro e w' ⟨b', c', l', a1, a2, a3, a4, a5, a6, a7, a8, a9⟩
        refine ⟨b', c', l', a1, a2, a3, a4, a5, a6, a7, ⟨a8.os, a8.tape, a8.output, a8.size, fun k hk _ => a8.block k hk (by simp)⟩, .inr ?_⟩
        rcases a9 with a9 | a9
        · cases a9
        · exact a9
      · obtain rfl : i = n := by omega
        refine (insert_end_grow (some ⟨b, 0, none⟩) i c vb (l.take (2 * i)) vs w hnc (by omega) hbig (.inr ⟨b, rfl, by simp; omega, fun j v hj => by
          rw [h.cell]
          rw [List.getElem?_take] at hj
          split at hj
          · exact hj
          · cases hj⟩) hv hvl h1v).mono ?_
        rintro e w' ⟨rfl, rfl⟩
        have hGn := grownCap_ge w (i + 1) c 40
        have hG63 := grownCap_le_maxLen w (i + 1) c 40 (by unfold maxLen; omega)
        unfold maxLen at hG63
        refine ⟨w.heap.size, _, _, rfl, Blk.new w 40 _, ?_, hGn, hG63, ?_, ?_, grown_trans (World.grownBy_alloc w _ _) (grown_drew _ _), .inr (Nat.le_refl _)⟩
        · rw [List.length_append, List.length_append, zero2_len, List.length_take]; omega
        · rw [List.take_append_of_le_length (by simp; omega), List.take_of_length_le (by simp; omega), List.take_of_length_le (l := l.take (2 * i)) (by simp; omega), List.drop_of_length_le (l := l.take (2 * i)) (by simp; omega)]
          simp
        · intro v hv
          rcases List.mem_append.1 hv with hv | hv
          · rcases List.mem_append.1 hv with hv | hv
            · exact h1 v (List.mem_of_mem_take hv)
            · exact h1v v hv
          · exact zero2_one _ v hv

end Go.Proofs.Ytphbledmopchnaa.St
