/-
  (*Set).Add, all of it: too many ranges, nothing at all.
-/
import Derived.Test.YtphbledmopchnaaSAddW
import Derived.Test.YtphbledmopchnaaSDel
import Derived.Test.YtphbledmopchnaaSJoinA
import Derived.Test.YtphbledmopchnaaSJoinB
import Derived.Test.YtphbledmopchnaaDPure
namespace Go.Proofs.Ytphbledmopchnaa.St
open Go.RowKit Go.Lib Mm

/-- join, all of it. -/
theorem joins : JoinSaid := fun sp lo hi base c most fl rs w hS hB hn hlo hhi hs R hc hc63 => by
  by_cases h : Rg.fst' lo rs < Rg.end' hi rs
  · exact join_some sp lo hi base c most fl rs w hS hB hn hlo hhi hs R hc hc63 h
  · exact join_none sp lo hi base c most fl rs w hS hB hn hlo hhi hs R hc hc63 h

theorem bound_gen (sp : Nat) (most : Int) (w : World) (h0 : w.cell? ⟨sp, 0, none⟩ = some (.int .i64 most)) :
    Calls Try.prog 14 #[.pointer (some ⟨sp, 0, none⟩)] w fun e w' => e = .returned (.int .i64 (max most 1)) ∧ w' = w := by
  go_enter Try.func14, Try.ntmps14
  go_wp2
  go_ret
  exact ⟨ret_int (by omega), rfl⟩

theorem SetAt.len_le {w : World} {sp : Nat} {most : Int} {fl : Nat} {rs : List (Nat × Nat)} {row : Option Nat} (h : SetAt w sp most fl rs row) : rs.length ≤ 9223372036854775807 := by
  obtain ⟨base, c, _, h2, h3, _⟩ := h
  omega

theorem rcells_tail (rs : List (Nat × Nat)) : (rcells rs).drop 2 = rcells rs.tail := by
  cases rs with
  | nil => rfl
  | cons r t => rfl

set_option maxHeartbeats 2000000 in
set_option maxRecDepth 100000 in
theorem drop_any (sp : Nat) (most : Int) (fl : Nat) (rs : List (Nat × Nat)) (row : Option Nat) (w : World) (hset : SetAt w sp most fl rs row) (hlen : 2 ≤ rs.length) (hn : rs.length ≤ 1000001) (hhi : (rs.getD 0 (0, 0)).2 + 1 < 18446744073709551616) :
    Calls Try.prog 15 #[.pointer (some ⟨sp, 0, none⟩)] w fun e w' => e = .returned (.tuple #[]) ∧ ∃ b', SetAt w' sp most ((rs.getD 0 (0, 0)).2 + 1) rs.tail (some b') ∧ Kept w w' sp row ∧ (some b' = row ∨ w.heap.size ≤ b') := by
  obtain ⟨base, c, h1, h2, h3, h4, h5⟩ := hset
  have hcc := h5.cell_hi (i := 0) (by omega)
  rcases h5 with ⟨_, hnil, _⟩ | ⟨b, l, rfl, hb, hB, hl, ht, hone⟩
  · simp [hnil] at hlen
  obtain ⟨m, hm⟩ : ∃ m, rs.length = m + 1 := ⟨rs.length - 1, by omega⟩
  obtain ⟨b', hb', _, _, hc1, _⟩ := hcc
  simp at hb'
  subst hb'
  have HT : Hid (rs.tail.length = m ∧ (l.take (2 * (m + 1))).drop 2 = rcells rs.tail) := ⟨by simp; omega, by rw [← hm, ht, rcells_tail]⟩
  rw [hm] at h1 h2 hn hlen
  generalize rs.tail = rt at *
  generalize (rs.getD 0 (0, 0)).2 = x at *
  clear ht hm
  have hx : ((x + 1 : Nat) : Int) = (x : Int) + 1 := by omega
  obtain ⟨W1, hW1⟩ : ∃ W1, W1 = w.setCell ⟨sp, 1, none⟩ (.int .u64 ((x : Int) + 1)) := ⟨_, rfl⟩
  have hsp1 : Blk W1 sp 36 [.int .i64 most, .int .u64 ((x + 1 : Nat) : Int), .slice (some ⟨b, 0, none⟩) (m + 1) c] := by rw [hW1, hx]; exact h1.stCell 1 _
  have hB1 : Blk W1 b 40 l := by rw [hW1]; exact hB.stCell_other _ _ hb
  have HD := hid (delete_first b m c l W1 (by omega) (by omega) h3 (by omega) hB1 hl hone)
  have k2 : w.cell? ⟨sp, 2, none⟩ = some (.slice (some ⟨b, 0, none⟩) (m + 1) c) := h1.cell 2
  have k1 : w.cell? ⟨sp, 1, none⟩ = some (.int .u64 (fl : Int)) := h1.cell 1
  have f1 := h1.frozen 1
  have j2 : W1.cell? ⟨sp, 2, none⟩ = some (.slice (some ⟨b, 0, none⟩) (m + 1) c) := hsp1.cell 2
  have hK1 : Kept w W1 sp row := by
    rw [hW1]
    exact ⟨rfl, rfl, rfl, by simp, fun k _ hne _ => Below.heap_setCell _ _ _ _ hne⟩
  have hs1 : W1.heap.size = w.heap.size := by rw [hW1]; simp
  have hlt1 := hsp1.lt
  have HFIN : Hid (∀ (e : Ending) (w' : World), Out W1 w' (some b) e m ((l.take (2 * (m + 1))).drop 2) → ∃ b' c', e = .returned (.slice (some ⟨b', 0, none⟩) m c') ∧ w'.cell? ⟨sp, 2, none⟩ = some (.slice (some ⟨b, 0, none⟩) (m + 1) c) ∧ w'.frozen? ⟨sp, 2, none⟩ = false ∧
      (∃ b'', SetAt (w'.setCell ⟨sp, 2, none⟩ (.slice (some ⟨b', 0, none⟩) m c')) sp most (x + 1) rt (some b'') ∧ Kept w (w'.setCell ⟨sp, 2, none⟩ (.slice (some ⟨b', 0, none⟩) m c')) sp row ∧ (some b'' = row ∨ w.heap.size ≤ b''))) := by
    rintro e w' ⟨b', c', l', rfl, o1, o2, o3, o4, o5, o6, o7, o8⟩
    have hne : b' ≠ sp := by
      rcases o8 with h | h
      · simp at h; rw [h]; exact hb
      · omega
    have hsp2 : Blk w' sp 36 [.int .i64 most, .int .u64 ((x + 1 : Nat) : Int), .slice (some ⟨b, 0, none⟩) (m + 1) c] := hsp1.of_heap (o7.block sp hlt1 (fun e => hb (by simpa using e.symm)))
    refine ⟨b', c', rfl, hsp2.cell 2, hsp2.frozen 2, b', ?_, ?_, ?_⟩
    · refine ⟨some ⟨b', 0, none⟩, c', ?_, by rw [HT.out.1]; exact o3, o4, rfl, .inr ⟨b', l', rfl, hne, o1.stCell_other _ _ hne, o2, by rw [HT.out.1, o5, HT.out.2], o6⟩⟩
      have := hsp2.stCell 2 (.slice (some ⟨b', 0, none⟩) m c')
      rw [HT.out.1]
      exact this
    · refine ⟨o7.os.trans hK1.os, o7.tape.trans hK1.tape, o7.output.trans hK1.output, ?_, ?_⟩
      · have := o7.size
        show w.heap.size ≤ (w'.heap.modify _ _).size
        simp; omega
      · intro k hk hne hr
        rw [Below.heap_setCell _ _ _ _ hne, o7.block k (by omega) (fun e => hr (by rw [e, h4]; rfl)), hK1.block k hk hne hr]
    · rcases o8 with h | h
      · exact .inl (by rw [h, h4]; rfl)
      · exact .inr (by omega)
  clear hsp1 hB1 hK1 hs1 hlt1 h1 hB hl hone HT hx
  go_enter Try.func15, Try.ntmps15
  go_wp2_with fail
  rw [← hW1]
  clear hW1
  go_wp2_with (go_at_call 22; refine HD.out.mono ?_; intro e w' hO; obtain ⟨b', c', rfl, q1, q2, HQ⟩ := HFIN.out e w' hO; clear hO HFIN HD)
  go_end0
  exact ⟨rfl, HQ⟩

end Go.Proofs.Ytphbledmopchnaa.St
