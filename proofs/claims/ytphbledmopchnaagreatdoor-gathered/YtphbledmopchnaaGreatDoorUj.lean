import Derived.Test.YtphbledmopchnaaGreatDoorQi
import Derived.Deep.RegionWith
/-
  (*Set).join: nothing is touched: the walk
-/
namespace Go.Proofs.YtphbledmopchnaaGreatDoor.St
open Go.RowKit Go.Lib Mm

set_option maxHeartbeats 20000000 in
set_option maxRecDepth 100000 in
theorem join_none (sp lo hi : Nat) (base : Option Addr) (c : Nat) (most : Int) (fl : Nat) (rs : List (Nat × Nat)) (w : World) (hS : Rg.Sorted rs) (hB : Small rs) (hn : rs.length ≤ 1000000) (hlo : lo ≤ hi) (hhi : hi < 18446744073709551616)
    (hs : Blk w sp 233 [.int .i64 most, .int .u64 (fl : Int), .slice base rs.length c]) (R : RowAt w sp base c rs) (hc : rs.length ≤ c) (hc63 : c ≤ 9223372036854775807) (hfe : ¬ Rg.fst' lo rs < Rg.end' hi rs) :
    Calls Tryz.prog 168 #[.pointer (some ⟨sp, 0, none⟩), .agg #[.int .u64 (lo : Int), .int .u64 (hi : Int)]] w fun e w' => e = .returned (.tuple #[]) ∧
      ∃ b', SetAt w' sp most fl (Rg.ins lo hi rs) (some b') ∧ Kept w w' sp (base.map (·.block)) ∧ (some b' = base.map (·.block) ∨ w.heap.size ≤ b') := by
  obtain ⟨W, hW⟩ : ∃ W, W = (w.alloc (.cells #[.pointer (some ⟨sp, 0, none⟩)] 273)).alloc (.cells #[.int .u64 (lo : Int), .int .u64 (hi : Int)] 170) := ⟨_, rfl⟩
  have hbs : Blk W w.heap.size 273 [.pointer (some ⟨sp, 0, none⟩)] := by rw [hW]; exact (Blk.new w 273 _).alloc _
  have hbr : Blk W (w.heap.size + 1) 170 [.int .u64 (lo : Int), .int .u64 (hi : Int)] := by
    rw [hW]
    have := Blk.new (w.alloc (.cells #[.pointer (some ⟨sp, 0, none⟩)] 273)) 170 [.int .u64 (lo : Int), .int .u64 (hi : Int)]
    rwa [World.size_alloc] at this
  have hE : Below w.heap.size w W := by rw [hW]; exact ((Below.refl _ w).alloc (Nat.le_refl _) _).alloc (by simp) _
  have hsp : Blk W sp 233 [.int .i64 most, .int .u64 (fl : Int), .slice base rs.length c] := hs.of_heap (hE.block sp hs.lt)
  have RW : RowAt W sp base c rs := R.of_heap (fun b hb => hE.block b (row_ne R b (by rw [hb]; rfl)).2)
  have s1 := search1 w.heap.size (w.heap.size + 1) sp lo base c rs W hS hB hn (by omega) (hbs.cell 0) (hbr.cell 0) (hsp.cell 2) RW
  have s2 := fun q => search2 w.heap.size (w.heap.size + 1) sp hi base c rs (W.drewN q) hS hB hn (by omega) (hbs.cell 0) (hbr.cell 1) (hsp.cell 2) RW
  have hw2 : w.cell? ⟨sp, 2, none⟩ = some (.slice base rs.length c) := hs.cell 2
  have hlt : sp < w.heap.size := hs.lt
  have hfe0 := Rg.fst'_le_end' hlo hS
  have hel := Rg.end'_le hi rs
  have hm : Rg.mgd lo hi rs = (lo, hi) := by unfold Rg.mgd; rw [if_neg hfe]
  have hR := fun q W' => join_replace sp lo hi base c most fl rs w (W.drewN q) hS hn hlo hs R hc hc63 ⟨hE.os, hE.tape, hE.output, hE.size, hE.block⟩ W'
  have hK := fun q => join_facts (W6 := W.drewN q) hs (row_ne R) ⟨hE.os, hE.tape, hE.output, hE.size, hE.block⟩ hbs hbr
  have hm1 : (Rg.mgd lo hi rs).1 = lo := by rw [hm]
  have hm2 : (Rg.mgd lo hi rs).2 = hi := by rw [hm]
  rw [hm1, hm2] at hR
  generalize Rg.ins lo hi rs = rs' at hR ⊢
  have HS1 := hid s1
  have HS2 := hid s2
  have HR := hid hR
  have HK := hid hK
  have HX := hid hW
  clear s1 s2 hbs hbr hsp RW R hs hR hK hE hm hm1 hm2
  subst hW
  go_enter Tryz.func168, Tryz.ntmps168
  go_wp2_with fail
  refine HS1.out.mono ?_
  rintro e w' ⟨rfl, q1, rfl⟩
  go_wp2_with fail
  refine (HS2.out q1).mono ?_
  rintro e w' ⟨rfl, q2, rfl⟩
  clear HS1 HS2
  have hfe' : ((Rg.end' hi rs : Nat) : Int) ≤ ((Rg.fst' lo rs : Nat) : Int) := by omega
  go_wp2_with fail
  have hR2 := HR.out (q1 + q2)
  obtain ⟨k0, k1, k2, k3, z1, z2, z3, hK2⟩ := HK.out (q1 + q2)
  clear HR HK
  generalize hWq : ((w.alloc (.cells #[.pointer (some ⟨sp, 0, none⟩)] 273)).alloc (.cells #[.int .u64 (lo : Int), .int .u64 (hi : Int)] 170)).drewN (q1 + q2) = W6 at hR2 k0 k1 k2 k3 z1 z2 z3 hK2 ⊢
  clear hWq hfe hfe0 hfe' hel HX hw2
  generalize Rg.fst' lo rs = F at *
  generalize Rg.end' hi rs = E at *
  have HR2 := hid (hR2 (W6.alloc (.cells #[.int .u64 (lo : Int), .int .u64 (hi : Int)] 170)).drew rfl rfl rfl rfl)
  have HK2 := hid (fun w' => hK2 (W6.alloc (.cells #[.int .u64 (lo : Int), .int .u64 (hi : Int)] 170)).drew w' _ rfl)
  clear hR2 hK2
  have n1 : ¬ (sp = w.heap.size) := by omega
  have n2 : ¬ (sp = w.heap.size + 1) := by omega
  have n3 : ¬ (w.heap.size = sp) := by omega
  have n4 : ¬ (w.heap.size + 1 = sp) := by omega
  go_region_with (go_at_call 224; refine HR2.out.mono ?_; rintro e w' ⟨b', c', rfl, hfin, hg⟩; obtain ⟨⟨u0, u3, u4⟩, u1, u2⟩ := HK2.out w' hg; have HFIN := hid hfin; clear hfin hg HR2 HK2)
  all_goals (go_wp2; go_end0; exact ⟨rfl, b', HFIN.out⟩)

end Go.Proofs.YtphbledmopchnaaGreatDoor.St
