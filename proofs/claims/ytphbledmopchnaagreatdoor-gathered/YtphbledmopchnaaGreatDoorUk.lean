import Derived.Test.YtphbledmopchnaaGreatDoorQi
import Derived.Deep.RegionWith
/-
  (*Set).join: ranges are touched: the walk
-/
namespace Go.Proofs.YtphbledmopchnaaGreatDoor.St
open Go.RowKit Go.Lib Mm

set_option maxHeartbeats 20000000 in
set_option maxRecDepth 100000 in
theorem join_some (sp lo hi : Nat) (base : Option Addr) (c : Nat) (most : Int) (fl : Nat) (rs : List (Nat × Nat)) (w : World) (hS : Rg.Sorted rs) (hB : Small rs) (hn : rs.length ≤ 1000000) (hlo : lo ≤ hi) (hhi : hi < 18446744073709551616)
    (hs : Blk w sp 233 [.int .i64 most, .int .u64 (fl : Int), .slice base rs.length c]) (R : RowAt w sp base c rs) (hc : rs.length ≤ c) (hc63 : c ≤ 9223372036854775807) (hfe : Rg.fst' lo rs < Rg.end' hi rs) :
    Calls Tryz.prog 168 #[.pointer (some ⟨sp, 0, none⟩), .agg #[.int .u64 (lo : Int), .int .u64 (hi : Int)]] w fun e w' => e = .returned (.tuple #[]) ∧
      ∃ b', SetAt w' sp most fl (Rg.ins lo hi rs) (some b') ∧ Kept w w' sp (base.map (·.block)) ∧ (some b' = base.map (·.block) ∨ w.heap.size ≤ b') := by
  obtain ⟨W, hW⟩ : ∃ W, W = (w.alloc (.cells #[.pointer (some ⟨sp, 0, none⟩)] 273)).alloc (.cells #[.int .u64 (lo : Int), .int .u64 (hi : Int)] 170) := ⟨_, rfl⟩
  have hbs : Blk W w.heap.size 273 [.pointer (some ⟨sp, 0, none⟩)] := by rw [hW]; exact (Blk.new w 273 _).alloc _
  have hbr : Blk W (w.heap.size + 1) 170 [.int .u64 (lo : Int), .int .u64 (hi : Int)] := by
    rw [hW]
    have := Blk.new (w.alloc (.cells #[.pointer (some ⟨sp, 0, none⟩)] 273)) 170 [.int .u64 (lo : Int), .int .u64 (hi : Int)]
    rwa [World.size_alloc] at this
  have hE : Below w.heap.size w W := by rw [hW]; exact ((Below.refl _ w).alloc (Nat.le_refl _) _).alloc (by simp) _
  have hsp : Blk W sp 233 [.int .i64 most, .int .u64 (fl : Int), .slice base rs.length c] := hs.of_heap (hE.block sp hs.lt)
  have RW : RowAt W sp base c rs := R.of_heap (fun b hb => hE.block b (row_ne R b (by rw [hb]; rfl)).2)
  have s1 := search1 w.heap.size (w.heap.size + 1) sp lo base c rs W hS hB hn (by omega) (hbs.cell 0) (hbr.cell 0) (hsp.cell 2) RW
  have s2 := fun q => search2 w.heap.size (w.heap.size + 1) sp hi base c rs (W.drewN q) hS hB hn (by omega) (hbs.cell 0) (hbr.cell 1) (hsp.cell 2) RW
  have hw2 : w.cell? ⟨sp, 2, none⟩ = some (.slice base rs.length c) := hs.cell 2
  have hlt : sp < w.heap.size := hs.lt
  have hel := Rg.end'_le hi rs
  have hm : Rg.mgd lo hi rs = (min lo (rs.getD (Rg.fst' lo rs) (0, 0)).1, max hi (rs.getD (Rg.end' hi rs - 1) (0, 0)).2) := by unfold Rg.mgd; rw [if_pos hfe]
  have hm1 : ((Rg.mgd lo hi rs).1 : Int) = min (lo : Int) ((rs.getD (Rg.fst' lo rs) (0, 0)).1 : Int) := by rw [hm]; simp only []; omega
  have hm2 : ((Rg.mgd lo hi rs).2 : Int) = max (hi : Int) ((rs.getD (Rg.end' hi rs - 1) (0, 0)).2 : Int) := by rw [hm]; simp only []; omega
  have hR := fun W6 hE6 W' => join_replace sp lo hi base c most fl rs w W6 hS hn hlo hs R hc hc63 hE6 W'
  have hK := fun W6 hE6 h1 h2 => join_facts (W6 := W6) (a := min (lo : Int) ((rs.getD (Rg.fst' lo rs) (0, 0)).1 : Int)) (b := max (hi : Int) ((rs.getD (Rg.end' hi rs - 1) (0, 0)).2 : Int)) hs (row_ne R) hE6 h1 h2
  rw [hm1, hm2] at hR
  -- what lies where, behind the two searches
  have hQ : ∀ q, ∃ b, base = some ⟨b, 0, none⟩ ∧ b < w.heap.size ∧ (W.drewN q).cell? ⟨b, Rg.fst' lo rs * 2, none⟩ = some (.int .u64 ((rs.getD (Rg.fst' lo rs) (0, 0)).1 : Int)) ∧ (W.drewN q).cell? ⟨b, (Rg.end' hi rs - 1) * 2 + 1, none⟩ = some (.int .u64 ((rs.getD (Rg.end' hi rs - 1) (0, 0)).2 : Int)) := fun q => by
    obtain ⟨b, hb, _, _, _, k4⟩ := RW.cell_hi (i := Rg.fst' lo rs) (by omega)
    obtain ⟨b2, hb2, _, _, k5, _⟩ := RW.cell_hi (i := Rg.end' hi rs - 1) (by omega)
    obtain rfl : b2 = b := by rw [hb] at hb2; simpa using hb2.symm
    exact ⟨b2, hb, (row_ne R b2 (by rw [hb]; rfl)).2, k4, k5⟩
  generalize (rs.getD (Rg.fst' lo rs) (0, 0)).1 = x at hR hK hQ
  generalize (rs.getD (Rg.end' hi rs - 1) (0, 0)).2 = y at hR hK hQ
  generalize Rg.ins lo hi rs = rs' at hR ⊢
  have HS1 := hid s1
  have HS2 := hid s2
  have HR := hid hR
  have HK := hid hK
  have HQ := hid hQ
  have HB := hid (And.intro hbs (And.intro hbr (And.intro hsp hE)))
  clear s1 s2 hbs hbr hsp RW R hs hR hK hQ hE hm hm1 hm2
  subst hW
  go_enter Tryz.func168, Tryz.ntmps168
  go_wp2_with fail
  refine HS1.out.mono ?_
  rintro e w' ⟨rfl, q1, rfl⟩
  go_wp2_with fail
  refine (HS2.out q1).mono ?_
  rintro e w' ⟨rfl, q2, rfl⟩
  clear HS1 HS2
  have hfe' : ((Rg.fst' lo rs : Nat) : Int) < ((Rg.end' hi rs : Nat) : Int) := by omega
  go_wp2_with fail
  obtain ⟨b, hb, hbw, k4, k5⟩ := HQ.out (q1 + q2)
  generalize hWq : ((w.alloc (.cells #[.pointer (some ⟨sp, 0, none⟩)] 273)).alloc (.cells #[.int .u64 (lo : Int), .int .u64 (hi : Int)] 170)).drewN (q1 + q2) = Wq at k4 k5 ⊢
  have HB2 : Hid (Blk Wq w.heap.size 273 [.pointer (some ⟨sp, 0, none⟩)] ∧ Blk Wq (w.heap.size + 1) 170 [.int .u64 (lo : Int), .int .u64 (hi : Int)] ∧ Blk Wq sp 233 [.int .i64 most, .int .u64 (fl : Int), .slice base rs.length c] ∧ Below w.heap.size w Wq) := by
    rw [← hWq]
    obtain ⟨a1, a2, a3, a4⟩ := HB.out
    exact ⟨a1, a2, a3, a4.os, a4.tape, a4.output, a4.size, a4.block⟩
  have k0 : Wq.cell? ⟨w.heap.size, 0, none⟩ = some (.pointer (some ⟨sp, 0, none⟩)) := HB2.out.1.cell 0
  have k1 : Wq.cell? ⟨w.heap.size + 1, 0, none⟩ = some (.int .u64 (lo : Int)) := HB2.out.2.1.cell 0
  have k2 : Wq.cell? ⟨w.heap.size + 1, 1, none⟩ = some (.int .u64 (hi : Int)) := HB2.out.2.1.cell 1
  have k3 : Wq.cell? ⟨sp, 2, none⟩ = some (.slice base rs.length c) := HB2.out.2.2.1.cell 2
  have k6 : Wq.frozen? ⟨w.heap.size + 1, 0, none⟩ = false := HB2.out.2.1.frozen 0
  have k7 : Wq.frozen? ⟨w.heap.size + 1, 1, none⟩ = false := HB2.out.2.1.frozen 1
  clear hWq HB HQ hw2
  subst hb
  have i1 : ((Rg.fst' lo rs : Nat) : Int) < ((rs.length : Nat) : Int) := by omega
  have hwi : IntKind.i64.wrap (((Rg.end' hi rs : Nat) : Int) - 1) = ((Rg.end' hi rs : Nat) : Int) - 1 := by rw [IntKind.wrap_i64]; omega
  have i2 : ((Rg.end' hi rs : Nat) : Int) - 1 < ((rs.length : Nat) : Int) := by omega
  have i3 : 0 ≤ ((Rg.end' hi rs : Nat) : Int) - 1 := by omega
  have i4 : (((Rg.end' hi rs : Nat) : Int) - 1).toNat = Rg.end' hi rs - 1 := by omega
  have n1 : ¬ (b = w.heap.size + 1) := by omega
  have n2 : ¬ (sp = w.heap.size + 1) := by omega
  generalize Rg.fst' lo rs = F at *
  generalize Rg.end' hi rs = E at *
  go_region
  go_wp2_with fail
  go_region
  go_wp2_with fail
  generalize hW6 : ((Wq.setCell ⟨w.heap.size + 1, 0, none⟩ (.int .u64 (min (lo : Int) (x : Int)))).setCell ⟨w.heap.size + 1, 1, none⟩ (.int .u64 (max (hi : Int) (y : Int)))).drew.drew = W6
  have hE6 : Below w.heap.size w W6 := by
    rw [← hW6]
    exact (((HB2.out.2.2.2.setCell (p := ⟨w.heap.size + 1, 0, none⟩) (by simp) _).setCell (p := ⟨w.heap.size + 1, 1, none⟩) (by simp) _).drew).drew
  have g1 : Blk W6 w.heap.size 273 [.pointer (some ⟨sp, 0, none⟩)] := by
    rw [← hW6]
    exact ((HB2.out.1.stCell_other ⟨w.heap.size + 1, 0, none⟩ _ (by simp)).stCell_other ⟨w.heap.size + 1, 1, none⟩ _ (by simp))
  have g2 : Blk W6 (w.heap.size + 1) 170 [.int .u64 (min (lo : Int) (x : Int)), .int .u64 (max (hi : Int) (y : Int))] := by
    rw [← hW6]
    exact ((HB2.out.2.1.stCell 0 (.int .u64 (min (lo : Int) (x : Int)))).stCell 1 (.int .u64 (max (hi : Int) (y : Int))))
  have hR2 := HR.out W6 hE6
  obtain ⟨m0, m1, m2, m3, z1, z2, z3, hK2⟩ := HK.out W6 hE6 g1 g2
  clear HR HK hE6 g1 g2 hW6 HB2 k0 k1 k2 k3 k4 k5 k6 k7 i1 i2 i3 i4 hwi n1 n2 hfe hfe' hel
  have HR2 := hid (hR2 (W6.alloc (.cells #[.int .u64 (min (lo : Int) (x : Int)), .int .u64 (max (hi : Int) (y : Int))] 170)).drew rfl rfl rfl rfl)
  have HK2 := hid (fun w' => hK2 (W6.alloc (.cells #[.int .u64 (min (lo : Int) (x : Int)), .int .u64 (max (hi : Int) (y : Int))] 170)).drew w' _ rfl)
  clear hR2 hK2
  generalize min (lo : Int) (x : Int) = mn at *
  generalize max (hi : Int) (y : Int) = mx at *
  have n5 : ¬ (sp = w.heap.size) := by omega
  have n6 : ¬ (sp = w.heap.size + 1) := by omega
  go_region_with (go_at_call 224; refine HR2.out.mono ?_; rintro e w' ⟨b', c', rfl, hfin, hg⟩; obtain ⟨⟨u0, u3, u4⟩, u1, u2⟩ := HK2.out w' hg; have HFIN := hid hfin; clear hfin hg HR2 HK2)
  all_goals (go_wp2; go_end0; exact ⟨rfl, b', HFIN.out⟩)

end Go.Proofs.YtphbledmopchnaaGreatDoor.St
