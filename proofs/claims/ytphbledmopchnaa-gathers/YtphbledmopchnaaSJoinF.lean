/-
  (*Set).join: what is known where it calls slices.Replace
-/
import Derived.Test.YtphbledmopchnaaSJoin
import Derived.Test.YtphbledmopchnaaSAdd
namespace Go.Proofs.Ytphbledmopchnaa.St
open Go.RowKit Go.Lib Mm

/-- What is known of the world in which join calls slices.Replace. -/
theorem join_facts {w W6 : World} {sp : Nat} {base : Option Addr} {c n : Nat} {most : Int} {fl : Nat} {a b : Int} (hs : Blk w sp 36 [.int .i64 most, .int .u64 (fl : Int), .slice base n c]) (hrow : ∀ k, base.map (·.block) = some k → k ≠ sp ∧ k < w.heap.size)
    (hE : Below w.heap.size w W6) (h1 : Blk W6 w.heap.size 37 [.pointer (some ⟨sp, 0, none⟩)]) (h2 : Blk W6 (w.heap.size + 1) 40 [.int .u64 a, .int .u64 b]) :
    W6.cell? ⟨w.heap.size, 0, none⟩ = some (.pointer (some ⟨sp, 0, none⟩)) ∧ W6.cell? ⟨w.heap.size + 1, 0, none⟩ = some (.int .u64 a) ∧ W6.cell? ⟨w.heap.size + 1, 1, none⟩ = some (.int .u64 b) ∧
    W6.cell? ⟨sp, 2, none⟩ = some (.slice base n c) ∧ sp < W6.heap.size ∧ w.heap.size < W6.heap.size ∧ w.heap.size + 1 < W6.heap.size ∧
    (∀ (W' w' : World) (o : Obj), W'.heap = (W6.alloc o).heap → W'.grownBy w' (base.map (·.block)) → (w'.cell? ⟨w.heap.size, 0, none⟩ = some (.pointer (some ⟨sp, 0, none⟩)) ∧ w'.cell? ⟨w.heap.size + 1, 0, none⟩ = some (.int .u64 a) ∧ w'.cell? ⟨w.heap.size + 1, 1, none⟩ = some (.int .u64 b)) ∧ w'.cell? ⟨sp, 2, none⟩ = some (.slice base n c) ∧ w'.frozen? ⟨sp, 2, none⟩ = false) := by
  have hsp : Blk W6 sp 36 _ := hs.of_heap (hE.block sp hs.lt)
  have l1 := h1.lt
  have l2 := h2.lt
  have l3 := hsp.lt
  have l4 := hs.lt
  refine ⟨h1.cell 0, h2.cell 0, h2.cell 1, hsp.cell 2, l3, l1, l2, ?_⟩
  intro W' w' o hW' hg
  have e : ∀ k, k < W6.heap.size → W'.heap[k]? = W6.heap[k]? := fun k hk => by rw [hW', Below.heap_alloc _ _ _ hk]
  have sz : W6.heap.size ≤ W'.heap.size := by rw [hW']; simp
  have a1 : Blk w' w.heap.size 37 _ := (h1.of_heap (e _ l1)).of_heap (hg.block _ (by omega) (fun h => by have := (hrow _ h.symm).2; omega))
  have a2 : Blk w' sp 36 _ := (hsp.of_heap (e _ l3)).of_heap (hg.block _ (by omega) (fun h => (hrow _ h.symm).1 rfl))
  have a3 : Blk w' (w.heap.size + 1) 40 _ := (h2.of_heap (e _ l2)).of_heap (hg.block _ (by omega) (fun h => by have := (hrow _ h.symm).2; omega))
  exact ⟨⟨a1.cell 0, a3.cell 0, a3.cell 1⟩, a2.cell 2, a2.frozen 2⟩

end Go.Proofs.Ytphbledmopchnaa.St
