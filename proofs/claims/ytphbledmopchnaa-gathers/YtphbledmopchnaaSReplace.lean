/-
  slices.Replace by one element, over this dump.
-/
import Derived.Test.YtphbledmopchnaaSInsert
namespace Go.Proofs.Ytphbledmopchnaa.St
open Go.RowKit Go.Lib Mm

theorem ret_slice {p : Option Addr} {n n' c c' : Nat} (h : n = n') (hc : c = c') : Ending.returned (.slice p n c) = .returned (.slice p n' c') := by rw [h, hc]

theorem zero36 (w : World) : (zeroValue 40).run Try.prog w = .ok (.agg #[.int .u64 0, .int .u64 0]) w := by kernel_rfl

set_option maxHeartbeats 1000000 in
set_option maxRecDepth 100000 in
theorem replace_same (base : Option Addr) (n c i vb : Nat) (cs vs : List Value) (w : World) (hi : i ≤ n) (hnc : n ≤ c) (hc : c ≤ 9223372036854775807) (hbig : n ≤ 1000000)
    (hold : base = none ∧ cs = [] ∧ n = 0 ∧ c = 0 ∨ ∃ b l, base = some ⟨b, 0, none⟩ ∧ Blk w b 40 l ∧ l.length = 2 * c ∧ cs = l.take (2 * n) ∧ vb ≠ b ∧ ∀ v ∈ l, v.oneCell' = true)
    (hv : Blk w vb 40 vs) (hvl : vs.length = 2) (h1v : ∀ v ∈ vs, v.oneCell' = true) :
    Calls Try.prog 21 #[.slice base n c, .int .i64 i, .int .i64 i, .slice (some ⟨vb, 0, none⟩) 1 1] w fun e w' =>
      Out w w' (base.map (·.block)) e (n + 1) (cs.take (2 * i) ++ vs ++ cs.drop (2 * i)) := by
  have hI := insert_any base n c i vb cs vs w hi hnc hc hbig hold hv hvl h1v
  generalize cs.take (2 * i) ++ vs ++ cs.drop (2 * i) = X at hI ⊢
  generalize base.map (·.block) = row at hI ⊢
  have hii : ((i : Int) == (i : Int)) = true := by simp
  have hi' : (i : Int) ≤ (n : Int) := by omega
  have hic : (i : Int) ≤ (c : Int) := by omega
  rcases hold with ⟨rfl, rfl, rfl, rfl⟩ | ⟨b, l, rfl, h, hl, rfl, hvb, h1⟩
  · obtain rfl : i = 0 := by omega
    go_enter Try.func21, Try.ntmps21
    go_wp2_with (go_at_call 23; refine hI.mono ?_; intro e w' hO; obtain ⟨b', c', l', rfl, a2⟩ := hO)
    go_ret
    exact ⟨b', c', l', rfl, a2⟩
  · by_cases hci : c = i
    · subst hci
      go_enter Try.func21, Try.ntmps21
      go_wp2_with (go_at_call 23; refine hI.mono ?_; intro e w' hO; obtain ⟨b', c', l', rfl, a2⟩ := hO)
      go_ret
      exact ⟨b', c', l', rfl, a2⟩
    · go_enter Try.func21, Try.ntmps21
      go_wp2_with (go_at_call 23; refine hI.mono ?_; intro e w' hO; obtain ⟨b', c', l', rfl, a2⟩ := hO)
      go_ret
      exact ⟨b', c', l', rfl, a2⟩

set_option maxHeartbeats 1000000 in
set_option maxRecDepth 100000 in
theorem replace_end (b n c i vb : Nat) (l vs : List Value) (w : World) (hi : i < n) (hnc : n ≤ c) (hc : c ≤ 9223372036854775807) (hbig : n ≤ 1000000)
    (h : Blk w b 40 l) (hl : l.length = 2 * c) (h1 : ∀ v ∈ l, v.oneCell' = true)
    (hv : Blk w vb 40 vs) (hvl : vs.length = 2) (h1v : ∀ v ∈ vs, v.oneCell' = true) :
    Calls Try.prog 21 #[.slice (some ⟨b, 0, none⟩) n c, .int .i64 i, .int .i64 n, .slice (some ⟨vb, 0, none⟩) 1 1] w fun e w' =>
      Out w w' (some b) e (i + 1) ((l.take (2 * n)).take (2 * i) ++ vs) := by
  have hap := fun ty => run_append_room_blk (P := Try.prog) (w := w) 31 31 ty 40 _ 2 16 u31 u31 info36 (n := i) (c := c) (m := 1) (mc := 1) h ⟨vb, 0, none⟩ (vs := vs) (by omega) (fun j v hj => by rw [Addr.add_lit, hv.cell, Nat.zero_add]; exact hj) h1v (by omega) (by omega)
  have hl1 : (splice l (i * 2) vs).length = 2 * c := by rw [splice_length _ _ _ (by omega), hl]
  have ht1 : (splice l (i * 2) vs).take (2 * (i + 1)) = (l.take (2 * n)).take (2 * i) ++ vs := by
    have := splice_end l vs (i * 2) (by omega)
    rw [hvl, show i * 2 + 2 = 2 * (i + 1) by omega] at this
    rw [this, List.take_take, Nat.mul_comm i 2, show min (2 * i) (2 * n) = 2 * i by omega]
  have h11 : ∀ v ∈ splice l (i * 2) vs, v.oneCell' = true := splice_one h1 h1v
  have hB1 := h.put (splice l (i * 2) vs)
  generalize splice l (i * 2) vs = l1 at hap hl1 ht1 h11 hB1
  have HT1 : Hid _ := ht1
  have H11 : Hid _ := h11
  have HB1 : Hid (Blk (put w b l1) b 40 l1) := hB1
  clear ht1 h11
  have hne : ¬ ((i : Int) = (n : Int)) := by omega
  have hi' : (i : Int) ≤ (n : Int) := by omega
  have hic : (n : Int) ≤ (c : Int) := by omega
  by_cases hlt : i + 1 < n
  · have hcl := fun ty cc => run_clear_blk (P := Try.prog) (o := (i + 1) * 2) (n := n - (i + 1)) (c := cc) 31 40 ty _ u31 zero36 hB1 (by omega) (by rw [zero2_len]; omega) (zero2_one _)
    have ht2 : (splice l1 ((i + 1) * 2) (Builtin.zeroCells (Value.agg #[.int .u64 0, .int .u64 0]).cells (n - (i + 1))).toList).take (2 * (i + 1)) = (l.take (2 * n)).take (2 * i) ++ vs := by
      rw [splice_take_below _ _ _ _ (by rw [zero2_len]; omega) (by omega), HT1.out]
    have hl2 : (splice l1 ((i + 1) * 2) (Builtin.zeroCells (Value.agg #[.int .u64 0, .int .u64 0]).cells (n - (i + 1))).toList).length = 2 * c := by rw [splice_length _ _ _ (by rw [zero2_len]; omega), hl1]
    have h12 : ∀ v ∈ splice l1 ((i + 1) * 2) (Builtin.zeroCells (Value.agg #[.int .u64 0, .int .u64 0]).cells (n - (i + 1))).toList, v.oneCell' = true := splice_one H11.out (zero2_one _)
    generalize splice l1 ((i + 1) * 2) (Builtin.zeroCells (Value.agg #[.int .u64 0, .int .u64 0]).cells (n - (i + 1))).toList = l2 at hcl ht2 hl2 h12
    have HT2 : Hid _ := ht2
    have H12 : Hid _ := h12
    have HL2 : Hid _ := hl2
    clear ht2 h12 hl2 hB1 h hv hl hvl hl1
    have hb2 : (i : Int) + 1 < (n : Int) := by omega
    go_enter Try.func21, Try.ntmps21
    go_wp2_with (at_builtin; refine Lib.wpList_append_run _ rfl _ _ _ _ rfl _ _ rfl rfl _ _ (hap _) ?_)
    go_ret
    exact ⟨b, c, l2, rfl, Blk.put HB1.out l2, HL2.out, by omega, hc, HT2.out, H12.out, grown_trans (put_grown w b l1) (put_grown _ b l2), .inl rfl⟩
  · have hb2 : (n : Int) ≤ (i : Int) + 1 := by omega
    clear hB1 h hv hl hvl
    have HL1 : Hid _ := hl1
    clear hl1
    go_enter Try.func21, Try.ntmps21
    go_wp2_with (at_builtin; refine Lib.wpList_append_run _ rfl _ _ _ _ rfl _ _ rfl rfl _ _ (hap _) ?_)
    go_ret
    exact ⟨b, c, l1, rfl, HB1.out, HL1.out, by omega, hc, HT1.out, H11.out, put_grown w b l1, .inl rfl⟩

theorem run_clear_nothing (w : World) (ty : TypeId) (a : Addr) (c : Nat) : (Builtin.clear_ #[31] ty #[.slice (some a) 0 c]).run Try.prog w = .ok (.tuple #[]) w := by
  simp [Builtin.clear_, run_underlying u31]

set_option maxHeartbeats 2000000 in
set_option maxRecDepth 100000 in
theorem replace_mid (b n c i j vb : Nat) (l vs : List Value) (w : World) (hij : i < j) (hjn : j < n) (hnc : n ≤ c) (hc : c ≤ 9223372036854775807) (hbig : n ≤ 1000000) (_hvb : vb ≠ b)
    (h : Blk w b 40 l) (hl : l.length = 2 * c) (h1 : ∀ v ∈ l, v.oneCell' = true)
    (hv : Blk w vb 40 vs) (hvl : vs.length = 2) (h1v : ∀ v ∈ vs, v.oneCell' = true) :
    Calls Try.prog 21 #[.slice (some ⟨b, 0, none⟩) n c, .int .i64 i, .int .i64 j, .slice (some ⟨vb, 0, none⟩) 1 1] w fun e w' =>
      Out w w' (some b) e (i + 1 + (n - j)) ((l.take (2 * n)).take (2 * i) ++ vs ++ (l.take (2 * n)).drop (2 * j)) := by
  have hne : ((i : Int) == (j : Int)) = false := by simp; omega
  have hne2 : ((j : Int) == (n : Int)) = false := by simp; omega
  have hi' : (i : Int) ≤ (n : Int) := by omega
  have hij' : (i : Int) ≤ (j : Int) := by omega
  have hjn' : (j : Int) ≤ (n : Int) := by omega
  have hic : (n : Int) ≤ (c : Int) := by omega
  have hjc : (j : Int) ≤ (c : Int) := by omega
  have hicc : (i : Int) ≤ (c : Int) := by omega
  have hcj : ¬ (c = j) := by omega
  have hci : ¬ (c = i) := by omega
  have hci1 : ¬ (c = i + 1) := by omega
  have hw1 : IntKind.i64.wrap ((i : Int) + 1) = (i : Int) + 1 := by rw [IntKind.wrap_i64]; omega
  have hw2 : IntKind.i64.wrap ((i : Int) + 1 + ((n - j : Nat) : Int)) = (i : Int) + 1 + ((n - j : Nat) : Int) := by rw [IntKind.wrap_i64]; omega
  have hb1 : (0 : Int) ≤ (i : Int) + 1 := by omega
  have hb2 : (i : Int) + 1 ≤ (i : Int) + 1 + ((n - j : Nat) : Int) := by omega
  have htn : ((i : Int) + 1).toNat = i + 1 := by omega
  -- the first store
  have hcpA : ∀ q ty dc, (Builtin.copy_ #[31, 31] ty #[.slice (some ⟨b, i * 2, none⟩) (i + 1 + (n - j) - i) dc, .slice (some ⟨vb, 0, none⟩) 1 1]).run Try.prog (w.drewN q) = .ok (goInt ((1 : Nat) : Int)) (put (w.drewN q) b (splice l (i * 2) vs)) := fun q ty dc =>
    run_copy_blk (w := w.drewN q) 31 31 ty 40 h ⟨vb, 0, none⟩ 1 1 2 1 vs u31 size36 (by simp only [Nat.min_def]; split <;> omega) (by omega) (fun k v hk => by rw [Addr.add_lit, Nat.zero_add]; rw [← hk]; exact hv.cell k) (by omega) h1v
  have hl1 : (splice l (i * 2) vs).length = 2 * c := by rw [splice_length _ _ _ (by omega), hl]
  have h11 : ∀ v ∈ splice l (i * 2) vs, v.oneCell' = true := splice_one h1 h1v
  have hB1 : ∀ q, Blk (put (w.drewN q) b (splice l (i * 2) vs)).drew b 40 (splice l (i * 2) vs) := fun q => (Blk.put (w := w.drewN q) h _).drew
  have hd1 : ((splice l (i * 2) vs).drop (2 * j)).take (2 * (n - j)) = (l.take (2 * n)).drop (2 * j) := by
    rw [splice_drop_above _ _ _ _ (by omega) (by omega), List.drop_take, show 2 * n - 2 * j = 2 * (n - j) by omega]
  -- the second
  generalize htl : (l.take (2 * n)).drop (2 * j) = tl at hd1 ⊢
  have htll : tl.length = (n - j) * 2 := by rw [← htl]; simp; omega
  have htl1 : ∀ v ∈ tl, v.oneCell' = true := fun v hv => h1 v (by rw [← htl] at hv; exact List.mem_of_mem_take (List.mem_of_mem_drop hv))
  clear htl
  have hfin : (splice (splice l (i * 2) vs) ((i + 1) * 2) tl).take (2 * (i + 1 + (n - j))) = (l.take (2 * n)).take (2 * i) ++ vs ++ tl := by
    have := two_take l vs tl (i * 2) 2 hvl (by omega)
    rw [show i * 2 + 2 = (i + 1) * 2 by omega, htll, show (i + 1) * 2 + (n - j) * 2 = 2 * (i + 1 + (n - j)) by omega, show i * 2 = 2 * i by omega] at this
    rw [show i * 2 = 2 * i by omega, this, List.take_take, show min (2 * i) (2 * n) = 2 * i by omega]
  generalize splice l (i * 2) vs = l1 at hcpA hl1 h11 hB1 hd1 hfin
  have hcpB : ∀ q ty dc sc, (Builtin.copy_ #[31, 31] ty #[.slice (some ⟨b, (i + 1) * 2, none⟩) (i + 1 + (n - j) - (i + 1)) dc, .slice (some ⟨b, j * 2, none⟩) (n - j) sc]).run Try.prog (put (w.drewN q) b l1).drew = .ok (goInt ((n - j : Nat) : Int)) (put (put (w.drewN q) b l1).drew b (splice l1 ((i + 1) * 2) tl)) := fun q ty dc sc =>
    run_copy_blk 31 31 ty 40 (hB1 q) ⟨b, j * 2, none⟩ (n - j) sc 2 (n - j) tl u31 size36 (by simp only [Nat.min_def]; split <;> omega) htll
      (fun k v hk => by rw [Addr.add_lit, (hB1 q).cell, Nat.mul_comm j 2]; rw [← hd1] at hk; exact getElem_seg hk) (by omega) htl1
  have hl2 : (splice l1 ((i + 1) * 2) tl).length = 2 * c := by rw [splice_length _ _ _ (by omega), hl1]
  have h12 : ∀ v ∈ splice l1 ((i + 1) * 2) tl, v.oneCell' = true := splice_one h11 htl1
  have hB2 : ∀ q, Blk (put (put (w.drewN q) b l1).drew b (splice l1 ((i + 1) * 2) tl)) b 40 (splice l1 ((i + 1) * 2) tl) := fun q => (hB1 q).put _
  generalize splice l1 ((i + 1) * 2) tl = l2 at hcpB hl2 h12 hB2 hfin
  generalize hT : i + 1 + (n - j) = T at *
  have hT2 : i + 1 ≤ T ∧ T ≤ n := by omega
  generalize (l.take (2 * n)).take (2 * i) ++ vs ++ tl = X at hfin ⊢
  have HF : Hid _ := hfin
  have H12 : Hid _ := h12
  have HL2 : Hid _ := hl2
  have HB2 : Hid _ := hB2
  clear hfin h12 hd1 hB1 h11 hl1 htll htl1 h hv hl h1 h1v hvl
  by_cases hlt : T < n
  · have hcl : ∀ q ty cc, (Builtin.clear_ #[31] ty #[.slice (some ⟨b, T * 2, none⟩) (n - T) cc]).run Try.prog (put (put (w.drewN q) b l1).drew b l2) = .ok (.tuple #[]) (put (put (put (w.drewN q) b l1).drew b l2) b (splice l2 (T * 2) (Builtin.zeroCells (Value.agg #[.int .u64 0, .int .u64 0]).cells (n - T)).toList)) := fun q ty cc =>
      run_clear_blk (P := Try.prog) 31 40 ty _ u31 zero36 (hB2 q) (by omega) (by rw [zero2_len]; omega) (zero2_one _)
    have hf3 : (splice l2 (T * 2) (Builtin.zeroCells (Value.agg #[.int .u64 0, .int .u64 0]).cells (n - T)).toList).take (2 * T) = X := by
      rw [splice_take_below _ _ _ _ (by rw [zero2_len]; omega) (by omega), HF.out]
    have hl3 : (splice l2 (T * 2) (Builtin.zeroCells (Value.agg #[.int .u64 0, .int .u64 0]).cells (n - T)).toList).length = 2 * c := by rw [splice_length _ _ _ (by rw [zero2_len]; omega), hl2]
    have h13 : ∀ v ∈ splice l2 (T * 2) (Builtin.zeroCells (Value.agg #[.int .u64 0, .int .u64 0]).cells (n - T)).toList, v.oneCell' = true := splice_one H12.out (zero2_one _)
    generalize splice l2 (T * 2) (Builtin.zeroCells (Value.agg #[.int .u64 0, .int .u64 0]).cells (n - T)).toList = l3 at hcl hf3 hl3 h13
    have HF3 : Hid _ := hf3
    have H13 : Hid _ := h13
    have HL3 : Hid _ := hl3
    clear hf3 h13 hl3 hl2 hB2
    go_enter Try.func21, Try.ntmps21
    go_wp2
    go_quiet (fail)
    go_wp2
    go_region
    go_wp2
    go_ret
    exact ⟨b, c, l3, ret_slice (by omega) rfl, Blk.put (HB2.out nq) l3, HL3.out, by omega, hc, HF3.out, H13.out, grown_trans (grown_drewN w nq _) (grown_trans (put_grown _ b _) (grown_trans (grown_drew _ _) (grown_trans (put_grown _ b _) (put_grown _ b _)))), .inl rfl⟩
  · obtain rfl : T = n := by omega
    have hcl : ∀ q ty cc, (Builtin.clear_ #[31] ty #[.slice (some ⟨b, T * 2, none⟩) 0 cc]).run Try.prog (put (put (w.drewN q) b l1).drew b l2) = .ok (.tuple #[]) (put (put (w.drewN q) b l1).drew b l2) := fun q ty cc => run_clear_nothing _ ty _ cc
    have hcl0 : ∀ q ty cc, (Builtin.clear_ #[31] ty #[.slice (some ⟨b, 0, none⟩) 0 cc]).run Try.prog (put (put (w.drewN q) b l1).drew b l2) = .ok (.tuple #[]) (put (put (w.drewN q) b l1).drew b l2) := fun q ty cc => run_clear_nothing _ ty _ cc
    clear hl2 hB2
    by_cases hcT : c = T
    all_goals
      go_enter Try.func21, Try.ntmps21
      go_wp2
      go_quiet (fail)
      go_wp2
      go_region
      go_wp2
      go_ret
      exact ⟨b, c, l2, ret_slice (by omega) (by omega), HB2.out nq, HL2.out, by omega, hc, HF.out, H12.out, grown_trans (grown_drewN w nq _) (grown_trans (put_grown _ b _) (grown_trans (grown_drew _ _) (put_grown _ b _))), .inl rfl⟩

/-- slices.Replace of the elements from i to ahead of j by one: all its roads. -/
theorem replace_any (base : Option Addr) (n c i j vb : Nat) (cs vs : List Value) (w : World) (hij : i ≤ j) (hjn : j ≤ n) (hnc : n ≤ c) (hc : c ≤ 9223372036854775807) (hbig : n ≤ 1000000)
    (hold : base = none ∧ cs = [] ∧ n = 0 ∧ c = 0 ∨ ∃ b l, base = some ⟨b, 0, none⟩ ∧ Blk w b 40 l ∧ l.length = 2 * c ∧ cs = l.take (2 * n) ∧ vb ≠ b ∧ ∀ v ∈ l, v.oneCell' = true)
    (hv : Blk w vb 40 vs) (hvl : vs.length = 2) (h1v : ∀ v ∈ vs, v.oneCell' = true) :
    Calls Try.prog 21 #[.slice base n c, .int .i64 i, .int .i64 j, .slice (some ⟨vb, 0, none⟩) 1 1] w fun e w' =>
      Out w w' (base.map (·.block)) e (i + 1 + (n - j)) (cs.take (2 * i) ++ vs ++ cs.drop (2 * j)) := by
  by_cases h : i = j
  · subst h
    have := replace_same base n c i vb cs vs w hjn hnc hc hbig hold hv hvl h1v
    rwa [show n + 1 = i + 1 + (n - i) by omega] at this
  · rcases hold with ⟨rfl, rfl, rfl, rfl⟩ | ⟨b, l, rfl, hB, hl, rfl, hvb, h1⟩
    · omega
    · by_cases h2 : j = n
      · subst h2
        have := replace_end b j c i vb l vs w (by omega) hnc hc hbig hB hl h1 hv hvl h1v
        rw [show i + 1 + (j - j) = i + 1 by omega, List.drop_of_length_le (by simp; omega), List.append_nil]
        exact this
      · exact replace_mid b n c i j vb l vs w (by omega) (by omega) hnc hc hbig hvb hB hl h1 hv hvl h1v

end Go.Proofs.Ytphbledmopchnaa.St
