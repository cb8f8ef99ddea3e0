/-
  slices.Delete of the first element, over this dump.
-/
import Derived.Test.YtphbledmopchnaaSReplace
namespace Go.Proofs.Ytphbledmopchnaa.St
open Go.RowKit Go.Lib Mm

set_option maxHeartbeats 2000000 in
set_option maxRecDepth 100000 in
theorem delete_first (b m c : Nat) (l : List Value) (w : World) (hm : 1 ≤ m) (hnc : m + 1 ≤ c) (hc : c ≤ 9223372036854775807) (hbig : m ≤ 1000000)
    (h : Blk w b 40 l) (hl : l.length = 2 * c) (h1 : ∀ v ∈ l, v.oneCell' = true) :
    Calls Try.prog 22 #[.slice (some ⟨b, 0, none⟩) (m + 1) c, .int .i64 0, .int .i64 1] w fun e w' =>
      Out w w' (some b) e m ((l.take (2 * (m + 1))).drop 2) := by
  have hvl : ((l.take (2 * (m + 1))).drop 2).length = 2 * m := by simp; omega
  have h1v : ∀ v ∈ (l.take (2 * (m + 1))).drop 2, v.oneCell' = true := fun v hv => h1 v (List.mem_of_mem_take (List.mem_of_mem_drop hv))
  have hsrc : ∀ j v, ((l.take (2 * (m + 1))).drop 2)[j]? = some v → l[2 + j]? = some v := fun j v hj => by
    rw [List.getElem?_drop, List.getElem?_take] at hj
    split at hj
    · exact hj
    · cases hj
  have hld : (loadCellsFrom ⟨b, 2, none⟩ 0 (m * 2) #[]).run Try.prog w.drew = .ok ((l.take (2 * (m + 1))).drop 2).toArray w.drew := by
    have hf := run_firstCells_some (P := Try.prog) w.drew 2 m ⟨b, 2, none⟩ m (c - 1) ((l.take (2 * (m + 1))).drop 2) (by omega) (fun j v hj => by
      rw [Addr.add_lit]; exact (Blk.cell h (2 + j)).trans (hsrc j v hj))
    simpa [Builtin.firstCells, loadCells] using hf
  have hst : (storeCells ⟨b, 0, none⟩ ((l.take (2 * (m + 1))).drop 2)).run Try.prog w.drew = .ok () (put w.drew b (splice l 0 ((l.take (2 * (m + 1))).drop 2))) :=
    run_storeCells_blk (P := Try.prog) (w := w.drew) (o := 0) h _ (by omega) h1v
  have hl1 : (splice l 0 ((l.take (2 * (m + 1))).drop 2)).length = 2 * c := by rw [splice_length _ _ _ (by omega), hl]
  have ht1 : (splice l 0 ((l.take (2 * (m + 1))).drop 2)).take (2 * m) = (l.take (2 * (m + 1))).drop 2 := by
    have := splice_end l ((l.take (2 * (m + 1))).drop 2) 0 (by omega)
    rw [hvl] at this
    simpa using this
  have h11 : ∀ v ∈ splice l 0 ((l.take (2 * (m + 1))).drop 2), v.oneCell' = true := splice_one h1 h1v
  have hB1 : Blk (put w.drew b (splice l 0 ((l.take (2 * (m + 1))).drop 2))) b 40 (splice l 0 ((l.take (2 * (m + 1))).drop 2)) := Blk.put (w := w.drew) h _
  generalize splice l 0 ((l.take (2 * (m + 1))).drop 2) = l1 at hst hl1 ht1 h11 hB1
  generalize (l.take (2 * (m + 1))).drop 2 = X at ht1 hld hst ⊢
  have hcl : ∀ ty cc, (Builtin.clear_ #[31] ty #[.slice (some ⟨b, m * 2, none⟩) 1 cc]).run Try.prog (put w.drew b l1) = .ok (.tuple #[]) (put (put w.drew b l1) b (splice l1 (m * 2) (Builtin.zeroCells (Value.agg #[.int .u64 0, .int .u64 0]).cells 1).toList)) := fun ty cc =>
    run_clear_blk (P := Try.prog) (o := m * 2) (n := 1) (c := cc) 31 40 ty _ u31 zero36 hB1 (by omega) (by rw [zero2_len]; omega) (zero2_one _)
  have ht2 : (splice l1 (m * 2) (Builtin.zeroCells (Value.agg #[.int .u64 0, .int .u64 0]).cells 1).toList).take (2 * m) = X := by
    rw [splice_take_below _ _ _ _ (by rw [zero2_len]; omega) (by omega), ht1]
  have hl2 : (splice l1 (m * 2) (Builtin.zeroCells (Value.agg #[.int .u64 0, .int .u64 0]).cells 1).toList).length = 2 * c := by rw [splice_length _ _ _ (by rw [zero2_len]; omega), hl1]
  have h12 : ∀ v ∈ splice l1 (m * 2) (Builtin.zeroCells (Value.agg #[.int .u64 0, .int .u64 0]).cells 1).toList, v.oneCell' = true := splice_one h11 (zero2_one _)
  generalize splice l1 (m * 2) (Builtin.zeroCells (Value.agg #[.int .u64 0, .int .u64 0]).cells 1).toList = l2 at hcl ht2 hl2 h12
  have HT2 : Hid _ := ht2
  have H12 : Hid _ := h12
  have HL2 : Hid _ := hl2
  have HB1 : Hid (Blk (put w.drew b l1) b 40 l1) := hB1
  have HG : Hid (w.grownBy (put (put w.drew b l1) b l2) (some b)) := grown_trans (grown_drew w _) (grown_trans (put_grown w.drew b l1) (put_grown _ b l2))
  clear ht1 ht2 h12 hl2 h11 hl1 hB1 h1v hsrc hvl h1 hl h
  have hmc : m ≤ c := by omega
  have hc1 : (1 : Int) ≤ (m : Int) + 1 := by omega
  have hc2 : (m : Int) + 1 ≤ (c : Int) := by omega
  have hcm : ¬ (c = m) := by omega
  have hcm1 : ¬ (c = 1) := by omega
  have e1 : m + 1 - m = 1 := by omega
  go_enter Try.func22, Try.ntmps22
  go_wp2
  go_region
  go_wp2
  go_ret
  exact ⟨b, c, l2, rfl, Blk.put (HB1.out) l2, HL2.out, by omega, hc, HT2.out, H12.out, HG.out, .inl rfl⟩

end Go.Proofs.Ytphbledmopchnaa.St
