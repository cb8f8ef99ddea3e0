/-
  (*Set).join
-/
import Derived.Test.YtphbledmopchnaaSSets
import Derived.Deep.RegionWith
namespace Go.Proofs.Ytphbledmopchnaa.St
open Go.RowKit Go.Lib Mm

theorem hid {p : Prop} (h : p) : Hid p := h

def Small (rs : List (Nat × Nat)) : Prop := ∀ r ∈ rs, r.1 < 18446744073709551616 ∧ r.2 < 18446744073709551616

theorem Small.get {rs : List (Nat × Nat)} (h : Small rs) {i : Nat} (hi : i < rs.length) : (rs.getD i (0, 0)).1 < 18446744073709551616 ∧ (rs.getD i (0, 0)).2 < 18446744073709551616 := by
  apply h
  rw [List.getD_eq_getElem?_getD, List.getElem?_eq_getElem hi]
  exact List.getElem_mem _

theorem sorted_get : ∀ {rs : List (Nat × Nat)}, Rg.Sorted rs → ∀ {a b : Nat}, a ≤ b → b < rs.length → (rs.getD a (0, 0)).1 ≤ (rs.getD b (0, 0)).1 ∧ (rs.getD a (0, 0)).2 ≤ (rs.getD b (0, 0)).2
  | [], _, a, b, _, hb => by simp at hb
  | r :: t, h, 0, 0, _, _ => ⟨Nat.le_refl _, Nat.le_refl _⟩
  | r :: t, h, 0, b + 1, _, hb => by
    have hm : t.getD b (0, 0) ∈ t := by
      rw [List.getD_eq_getElem?_getD, List.getElem?_eq_getElem (by simpa using hb)]
      exact List.getElem_mem _
    have h1 := h.2.1 _ hm
    have h2 := h.2.2.le _ hm
    have h3 := h.1
    simp only [List.getD_cons_zero, List.getD_cons_succ]
    omega
  | r :: t, h, a + 1, b + 1, hab, hb => by
    simp only [List.getD_cons_succ]
    exact sorted_get h.2.2 (by omega) (by simpa using hb)

theorem search1 (bs br sp lo : Nat) (base : Option Addr) (c : Nat) (rs : List (Nat × Nat)) (W : World) (hS : Rg.Sorted rs) (hB : Small rs) (hn : rs.length ≤ 1000000) (hlo : lo < 18446744073709551616)
    (cs : W.cell? ⟨bs, 0, none⟩ = some (.pointer (some ⟨sp, 0, none⟩))) (cr : W.cell? ⟨br, 0, none⟩ = some (.int .u64 (lo : Int)))
    (cl : W.cell? ⟨sp, 2, none⟩ = some (.slice base rs.length c)) (R : RowAt W sp base c rs) :
    Calls Try.prog 16 #[.int .i64 (rs.length : Nat), .func (.func 18) #[] #[.pointer (some ⟨bs, 0, none⟩), .pointer (some ⟨br, 0, none⟩)]] W fun e w' => e = .returned (.int .i64 (Rg.fst' lo rs : Nat)) ∧ ∃ q, w' = W.drewN q := by
  have hc : (List.range rs.length).countP (fun i => !(!decide ((rs.getD i (0, 0)).2 + 1 < lo))) = Rg.fst' lo rs := by
    simp only [Bool.not_not]
    exact countP_range_list rs (fun r => decide (r.2 + 1 < lo))
  rw [← hc]
  refine search_any 18 _ rs.length (fun i => !decide ((rs.getD i (0, 0)).2 + 1 < lo)) W (enters_of Try.func18 (by kernel_rfl) rfl) (by omega) (fun m i hi => ?_) (fun a b hab hb h => ?_)
  · obtain ⟨b, rfl, _, _, h1, h2⟩ := R.cell_hi hi
    exact join1_any bs br sp b c rs.length i lo _ (W.drewN m) hi (by omega) cs cr cl h1 hlo (hB.get hi).2
  · have := (sorted_get hS hab hb).2
    simp only [Bool.not_eq_true', decide_eq_false_iff_not] at h ⊢
    omega

theorem search2 (bs br sp hi : Nat) (base : Option Addr) (c : Nat) (rs : List (Nat × Nat)) (W : World) (hS : Rg.Sorted rs) (hB : Small rs) (hn : rs.length ≤ 1000000) (hhi : hi < 18446744073709551616)
    (cs : W.cell? ⟨bs, 0, none⟩ = some (.pointer (some ⟨sp, 0, none⟩))) (cr : W.cell? ⟨br, 1, none⟩ = some (.int .u64 (hi : Int)))
    (cl : W.cell? ⟨sp, 2, none⟩ = some (.slice base rs.length c)) (R : RowAt W sp base c rs) :
    Calls Try.prog 16 #[.int .i64 (rs.length : Nat), .func (.func 20) #[] #[.pointer (some ⟨br, 0, none⟩), .pointer (some ⟨bs, 0, none⟩)]] W fun e w' => e = .returned (.int .i64 (Rg.end' hi rs : Nat)) ∧ ∃ q, w' = W.drewN q := by
  have hc : (List.range rs.length).countP (fun i => !(decide (hi + 1 < (rs.getD i (0, 0)).1))) = Rg.end' hi rs := by
    rw [countP_range_list rs (fun r => !decide (hi + 1 < r.1))]
    unfold Rg.end'
    apply List.countP_congr
    intro x _
    simp
  rw [← hc]
  refine search_any 20 _ rs.length (fun i => decide (hi + 1 < (rs.getD i (0, 0)).1)) W (enters_of Try.func20 (by kernel_rfl) rfl) (by omega) (fun m i hi' => ?_) (fun a b hab hb h => ?_)
  · obtain ⟨b, rfl, _, _, h1, h2⟩ := R.cell_hi hi'
    exact join2_any bs br sp b c rs.length i hi _ (W.drewN m) hi' (by omega) cs cr cl h2 hhi (hB.get hi').1
  · have := (sorted_get hS hab hb).1
    simp only [decide_eq_true_eq] at h ⊢
    omega

/-- The call of slices.Replace that join makes: in whatever world. -/
theorem join_replace (sp lo hi : Nat) (base : Option Addr) (c : Nat) (most : Int) (fl : Nat) (rs : List (Nat × Nat)) (w W6 : World) (hS : Rg.Sorted rs) (hn : rs.length ≤ 1000000) (hlo : lo ≤ hi)
    (hs : Blk w sp 36 [.int .i64 most, .int .u64 (fl : Int), .slice base rs.length c]) (R : RowAt w sp base c rs) (hc : rs.length ≤ c) (hc63 : c ≤ 9223372036854775807)
    (hE : Below w.heap.size w W6) (W' : World) (hW' : W'.heap = (W6.alloc (.cells #[.int .u64 ((Rg.mgd lo hi rs).1 : Int), .int .u64 ((Rg.mgd lo hi rs).2 : Int)] 40)).heap) (hos : W'.os = W6.os) (htp : W'.tape = W6.tape) (hou : W'.output = W6.output) :
    Calls Try.prog 21 #[.slice base rs.length c, .int .i64 (Rg.fst' lo rs : Nat), .int .i64 (Rg.end' hi rs : Nat), .slice (some ⟨W6.heap.size, 0, none⟩) 1 1] W' fun e w' =>
      ∃ b' c', e = .returned (.slice (some ⟨b', 0, none⟩) (Rg.ins lo hi rs).length c') ∧ (SetAt (w'.setCell ⟨sp, 2, none⟩ (.slice (some ⟨b', 0, none⟩) (Rg.ins lo hi rs).length c')) sp most fl (Rg.ins lo hi rs) (some b') ∧ Kept w (w'.setCell ⟨sp, 2, none⟩ (.slice (some ⟨b', 0, none⟩) (Rg.ins lo hi rs).length c')) sp (base.map (·.block)) ∧ (some b' = base.map (·.block) ∨ w.heap.size ≤ b'))
        ∧ W'.grownBy w' (base.map (·.block)) := by
  have hfe0 := Rg.fst'_le_end' hlo hS
  have hel := Rg.end'_le hi rs
  have hsz := hE.size
  have hlt := hs.lt
  have hvb : Blk W' W6.heap.size 40 [.int .u64 ((Rg.mgd lo hi rs).1 : Int), .int .u64 ((Rg.mgd lo hi rs).2 : Int)] :=
    (Blk.new W6 40 _).of_heap (by rw [hW'])
  have hE' : Below w.heap.size w W' := ⟨hos.trans hE.os, htp.trans hE.tape, hou.trans hE.output, by rw [hW']; simp; omega, fun k hk => by rw [hW', Below.heap_alloc _ _ _ (by omega)]; exact hE.block k hk⟩
  have hlen : Rg.fst' lo rs + 1 + (rs.length - Rg.end' hi rs) = (Rg.ins lo hi rs).length := by
    rw [Rg.ins_eq rs lo hi hlo hS]; simp; omega
  have hcells : rcells (Rg.ins lo hi rs) = (rcells rs).take (2 * Rg.fst' lo rs) ++ [.int .u64 ((Rg.mgd lo hi rs).1 : Int), .int .u64 ((Rg.mgd lo hi rs).2 : Int)] ++ (rcells rs).drop (2 * Rg.end' hi rs) := by
    rw [Rg.ins_eq rs lo hi hlo hS, rcells_append, rcells_take, rcells_drop]
    simp [rcells]
  refine (replace_any base rs.length c (Rg.fst' lo rs) (Rg.end' hi rs) W6.heap.size (rcells rs) [.int .u64 ((Rg.mgd lo hi rs).1 : Int), .int .u64 ((Rg.mgd lo hi rs).2 : Int)] W' hfe0 hel hc hc63 hn ?_ hvb rfl ?_).mono ?_
  · rcases R with ⟨rfl, rfl, rfl⟩ | ⟨b, l, h1, h2, h3, h4, h5, h6⟩
    · exact .inl ⟨rfl, rfl, rfl, rfl⟩
    · have := h3.lt
      exact .inr ⟨b, l, h1, h3.of_heap (hE'.block b h3.lt), h4, h5.symm, by omega, h6⟩
  · intro v hv
    simp at hv
    rcases hv with rfl | rfl <;> rfl
  · rintro e w' ⟨b', c', l', rfl, o1, o2, o3, o4, o5, o6, o7, o8⟩
    rw [hlen] at o3 o5
    rw [hlen]
    exact ⟨b', c', rfl, post_join hs R hE' o1 o2 o3 o4 (by rw [o5, hcells]) o6 o7 o8, o7⟩

end Go.Proofs.Ytphbledmopchnaa.St
