/-
  readPacket: what is held from frame to frame.
-/
import Derived.Test.YtphbledmopchnaaDoorCatch
import Derived.Test.YtphbledmopchnaaDoorRdFrame
import Derived.Deep.RegionWith
import Derived.Deep.CutRange
namespace Go.Proofs.YtphbledmopchnaaDoor
open Go.RowKit Go.Lib Go.Shelf Mm

/-- A packet that is being read: k frames are there. -/
structure PK (w : World) (yb yo cap : Nat) (body : List UInt8) (n : Nat) (fs : List Fr) (wr : World) (v9 : Nat → Value) (k : Nat) (s : Value) (p bg : Nat) : Prop where
  box : Blk wr w.heap.size 25 [.int .u64 (n : Int), s]
  err : Blk wr (w.heap.size + 1) 40 [.nilIface]
  rd : RdAt wr (w.heap.size + 2) yb yo cap body p bg
  cp : CpTo (w.heap.size + 3) wr s fs v9 k
  hsz : w.heap.size + 3 ≤ wr.heap.size
  bel : Below w.heap.size w wr
  yl : yb < w.heap.size

theorem PK.frame {w : World} {yb yo cap : Nat} {body : List UInt8} {n : Nat} {fs : List Fr} {wr y : World} {v9 : Nat → Value} {k : Nat} {s : Value} {p bg p' bg' : Nat} (h : PK w yb yo cap body n fs wr v9 k s p bg) (hS : St2 wr.heap.size (w.heap.size + 2) (w.heap.size + 2) wr y) (hR : RdAt y (w.heap.size + 2) yb yo cap body p' bg') : PK w yb yo cap body n fs y v9 k s p' bg' := by
  have hsz := h.hsz
  have hst : ∀ b, b < wr.heap.size → b ≠ w.heap.size + 2 → y.heap[b]? = wr.heap[b]? := fun b h1 h2 => hS.block b h1 h2 h2
  refine ⟨h.box.of_heap (hst _ (by omega) (by omega)), h.err.of_heap (hst _ (by omega) (by omega)), hR, ⟨h.cp.buf.of_heap (fun b hb => hst b (h.cp.buf.lt b hb) (by have := h.cp.own b hb; omega)), h.cp.own, fun j hj => ?_⟩, by have := hS.size; omega, ?_, h.yl⟩
  · obtain ⟨r1, r2, r3⟩ := h.cp.rng j hj
    exact ⟨r1.of_heap (fun b hb => hst b (r1.lt b hb) (by have := r2 b hb; omega)), r2, r3⟩
  · exact h.bel.trans ⟨hS.os, hS.tape, hS.output, hS.size, fun b hb => hst b (by omega) (by omega)⟩

/-- The frame that was read is appended. -/
theorem PK.app {w : World} {yb yo cap : Nat} {body : List UInt8} {n : Nat} {fs : List Fr} {y : World} {v9 : Nat → Value} {k : Nat} {s : Value} {p bg : Nat} (h : PK w yb yo cap body n fs y v9 k s p bg) (hk : k < fs.length) (hl : fs.length ≤ 1000000000) (F : Fr) (hF : fs.getD k fr0 = F) (ra : Option Addr) (rc : Nat)
    (hG : GBuf 50 2 y (.slice ra F.ranges.length rc) F.ranges.length (rcells F.ranges)) (hO : Own (w.heap.size + 3) (.slice ra F.ranges.length rc)) (hne : ∀ b, (Value.slice ra F.ranges.length rc).ownBlock = some b → s.ownBlock ≠ some b) :
    ∃ a' c' W5, (∀ ty, (Builtin.append_ #[23, 23] ty #[s, .slice (some ⟨y.heap.size, 0, none⟩) 1 1]).run Tryd.prog (y.alloc (.cells #[.int .i64 F.kind, .int .i64 F.stream, .int .u64 (F.offset : Int), .int .u64 (F.reliable : Int), .int .u64 (F.limit : Int), .bool F.fin, .int .u64 (F.id : Int), .int .u64 (F.deadline : Int), .string F.data, .slice ra F.ranges.length rc] 28)) = .ok (.slice a' (k + 1) c') W5) ∧
      Blk W5 w.heap.size 25 [.int .u64 (n : Int), s] ∧ PK w yb yo cap body n fs (W5.setCell ⟨w.heap.size, 1, none⟩ (.slice a' (k + 1) c')) (fun j => if j = k then .slice ra F.ranges.length rc else v9 j) (k + 1) (.slice a' (k + 1) c') p bg := by
  have hsz := h.hsz
  have hyl := h.yl
  obtain ⟨W4, hW4⟩ : ∃ W4, W4 = y.alloc (.cells #[.int .i64 F.kind, .int .i64 F.stream, .int .u64 (F.offset : Int), .int .u64 (F.reliable : Int), .int .u64 (F.limit : Int), .bool F.fin, .int .u64 (F.id : Int), .int .u64 (F.deadline : Int), .string F.data, .slice ra F.ranges.length rc] 28) := ⟨_, rfl⟩
  have hs4 : W4.heap.size = y.heap.size + 1 := by rw [hW4]; simp
  have hb4 : Below y.heap.size y W4 := by rw [hW4]; exact (Below.refl _ _).alloc (Nat.le_refl _) _
  have hF4 : Blk W4 y.heap.size 28 (fcells F (.slice ra F.ranges.length rc)) := by rw [hW4]; exact Blk.new y 28 _
  rw [← hW4]
  have hbuf4 : GBuf 28 10 W4 s k (fcsTo fs v9 k) := h.cp.buf.of_heap (fun b hb => hb4.block b (h.cp.buf.lt b hb))
  obtain ⟨v'', W5, hrun, hG5, hGr⟩ := run_append_gbuf eltF hbuf4 ⟨y.heap.size, 0, none⟩ 1 1 (fcells F (.slice ra F.ranges.length rc)) (by simp [fcells]) (by omega) (fcells_one F _ _ _) (fun j u hu => by rw [Addr.add_lit, Nat.zero_add, hF4.cell]; exact hu) (by omega)
  obtain ⟨a', c', hv, _⟩ := hG5.shape
  subst hv
  have hb5 : Below (w.heap.size + 3) W4 W5 := hGr.below h.cp.own (by omega)
  have hO5 := hGr.own h.cp.own (by omega)
  have hst : ∀ b, b < w.heap.size + 3 → W5.heap[b]? = y.heap[b]? := fun b hb => by rw [hb5.block b hb, hb4.block b (by omega)]
  have hbox5 := h.box.of_heap (hst w.heap.size (by omega))
  have hset : ∀ b, b ≠ w.heap.size → (W5.setCell ⟨w.heap.size, 1, none⟩ (.slice a' (k + 1) c')).heap[b]? = W5.heap[b]? := fun b hb => Below.heap_setCell _ _ _ _ hb
  have hss := hb5.size
  refine ⟨a', c', W5, hrun, hbox5, ⟨hbox5.setCell 1 _, h.err.of_heap (by rw [hset _ (by omega), hst _ (by omega)]), h.rd.of (by rw [hset _ (by omega), hst _ (by omega)]) (by rw [hset _ (by omega), hst _ (by omega)]), ⟨?_, hO5, fun j hj => ?_⟩, by simp; omega, ?_, hyl⟩⟩
  · have e : fcsTo fs (fun j => if j = k then .slice ra F.ranges.length rc else v9 j) (k + 1) = fcsTo fs v9 k ++ fcells F (.slice ra F.ranges.length rc) := by
      rw [fcsTo, hF, fcsTo_congr fs _ v9 k (fun j hj => by rw [if_neg (by omega)]), if_pos rfl]
    rw [e]
    exact hG5.of_heap (fun b hb => hset b (by have := hO5 b hb; omega))
  · by_cases e : j = k
    · subst e
      simp only [if_true]
      rw [hF]
      refine ⟨hG.of_heap (fun b hb => ?_), hO, fun b hb e' => ?_⟩
      · have := hO b hb
        have := hG.lt b hb
        rw [hset b (by omega), hGr.1.block b (by omega) (fun e => hne b hb e.symm), hb4.block b this]
      · have := hG.lt b hb
        rcases hGr.2 b e' with e' | e'
        · exact hne b hb e'
        · omega
    · simp only [if_neg e]
      obtain ⟨r1, r2, r3⟩ := h.cp.rng j (by omega)
      refine ⟨r1.of_heap (fun b hb => ?_), r2, fun b hb e' => ?_⟩
      · have := r2 b hb
        have := r1.lt b hb
        rw [hset b (by omega), hGr.1.block b (by omega) (fun e => r3 b hb e.symm), hb4.block b this]
      · have := r1.lt b hb
        rcases hGr.2 b e' with e' | e'
        · exact r3 b hb e'
        · omega
  · have h4 : Below w.heap.size y W4 := hb4.mono (by omega)
    have h5 : Below w.heap.size W4 W5 := hb5.mono (by omega)
    exact h.bel.trans ((h4.trans h5).setCell (p := ⟨w.heap.size, 1, none⟩) (Nat.le_refl _) _)

theorem bodyTo_prefix (n : Nat) (fs : List Fr) (k : Nat) : ∀ N, k ≤ N → ∃ s, bodyTo n fs N = bodyTo n fs k ++ s
  | 0, h => ⟨[], by obtain rfl : k = 0 := by omega
                    simp⟩
  | N + 1, h => by
    by_cases e : k = N + 1
    · exact ⟨[], by rw [e]; simp⟩
    · obtain ⟨s, hs⟩ := bodyTo_prefix n fs k N (by omega)
      exact ⟨s ++ _, by rw [bodyTo, hs, List.append_assoc]⟩
def bodyFrom (n : Nat) (fs : List Fr) (N k : Nat) : List UInt8 := (bodyTo n fs N).drop (bodyTo n fs k).length
theorem bodyFrom_end (n : Nat) (fs : List Fr) (N : Nat) : bodyFrom n fs N N = [] := by unfold bodyFrom; exact List.drop_of_length_le (Nat.le_refl _)
theorem bodyFrom_zero (n : Nat) (fs : List Fr) (N : Nat) : bodyTo n fs N = Num.bytes n ++ bodyFrom n fs N 0 := by
  obtain ⟨s, hs⟩ := bodyTo_prefix n fs 0 N (by omega)
  unfold bodyFrom
  rw [hs, List.drop_left' rfl]
  rfl
theorem bodyFrom_step (n : Nat) (fs : List Fr) (N k : Nat) (h : k < N) : bodyFrom n fs N k = frBytes (fs.getD k fr0) ++ bodyFrom n fs N (k + 1) := by
  obtain ⟨s, hs⟩ := bodyTo_prefix n fs (k + 1) N (by omega)
  have hA : (bodyTo n fs N).drop (bodyTo n fs (k + 1)).length = s := by rw [hs]; exact List.drop_left' rfl
  have hB : bodyTo n fs N = bodyTo n fs k ++ (frBytes (fs.getD k fr0) ++ s) := by
    rw [hs, bodyTo]
    simp only [List.append_assoc]
  unfold bodyFrom
  rw [hA, hB]
  exact List.drop_left' rfl

theorem getD_map (fs : List Fr) (k : Nat) (h : k < fs.length) : (fs.map norm).getD k fr0 = norm (fs.getD k fr0) := by
  rw [List.getD_eq_getElem?_getD, List.getD_eq_getElem?_getD, List.getElem?_map, List.getElem?_eq_getElem h]
  rfl

end Go.Proofs.YtphbledmopchnaaDoor
