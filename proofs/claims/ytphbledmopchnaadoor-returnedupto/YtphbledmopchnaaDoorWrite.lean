/-
  The closures that write parts of frames.
-/
import Derived.Test.YtphbledmopchnaaDoorFrame
import Derived.Shelf.Abstract
namespace Go.Proofs.YtphbledmopchnaaDoor
open Go.RowKit Go.Lib Go.Shelf Mm

/-- The blocks from B0 to ahead of B1 are as in w1. -/
def Keep (B0 B1 : Nat) (w1 w : World) : Prop := B1 ≤ w.heap.size ∧ ∀ k, B0 ≤ k → k < B1 → w.heap[k]? = w1.heap[k]?

/-- What is known where a part of a frame is to be written. -/
structure WPre (B0 B1 : Nat) (w1 w : World) (v : Value) (l : List UInt8) (b off : Nat) (f : Fr) (ra : Option Addr) (rc : Nat) : Prop where
  keep : Keep B0 B1 w1 w
  buf : Buf w v l
  out : ∀ k, v.ownBlock = some k → k < B0 ∨ B1 ≤ k
  frm : FrAt w b off f ra rc
  nb : v.ownBlock ≠ some b
  nr : ∀ x, ra = some x → v.ownBlock ≠ some x.block
  rl : ∀ x, ra = some x → x.block < w.heap.size

theorem cell_of {w w' : World} {a : Addr} {v : Value} (h : w.cell? a = some v) (e : w'.heap[a.block]? = w.heap[a.block]?) : w'.cell? a = some v := by rw [World.cell?_of_block e]; exact h

theorem RngAt.of {w w' : World} {a : Option Addr} {rs : List (Nat × Nat)} (h : RngAt w a rs) (e : ∀ x : Addr, a = some x → x.block < w.heap.size → w'.heap[x.block]? = w.heap[x.block]?) : RngAt w' a rs := fun j hj => by
  obtain ⟨b, off, ha, h1, h2, h3⟩ := h j hj
  have hl := World.block_lt_of_cell? _ _ h1
  have e' := e _ ha hl
  exact ⟨b, off, ha, cell_of h1 e', cell_of h2 e', h3⟩

theorem FrAt.of {w w' : World} {b off : Nat} {f : Fr} {ra : Option Addr} {rc : Nat} (h : FrAt w b off f ra rc) (e : w'.heap[b]? = w.heap[b]?) (er : ∀ x : Addr, ra = some x → x.block < w.heap.size → w'.heap[x.block]? = w.heap[x.block]?) : FrAt w' b off f ra rc :=
  ⟨cell_of h.c0 e, cell_of h.c1 e, cell_of h.c2 e, cell_of h.c3 e, cell_of h.c4 e, cell_of h.c5 e, cell_of h.c6 e, cell_of h.c7 e, cell_of h.c8 e, cell_of h.c9 e, h.rng.of er, h.rlen, h.dlen, h.k0, h.s0, h.u0⟩

/-- Behind a part that was written. -/
theorem WPre.next {B0 B1 : Nat} {w1 w w' : World} {v v' : Value} {l l' : List UInt8} {b off : Nat} {f : Fr} {ra : Option Addr} {rc : Nat} (h : WPre B0 B1 w1 w v l b off f ra rc) (hB : Buf w' v' l') (hG : Gr w w' v v') : WPre B0 B1 w1 w' v' l' b off f ra rc := by
  have hbl := World.block_lt_of_cell? _ _ h.frm.c0
  have hsz := hG.1.size
  have hk := h.keep.1
  refine ⟨⟨Nat.le_trans hk hsz, fun k h0 h1 => (hG.1.block k (by omega) (fun e => by rcases h.out k e.symm with e' | e' <;> omega)).trans (h.keep.2 k h0 h1)⟩, hB, ?_, ?_, ?_, ?_, fun x hx => by have := h.rl x hx; omega⟩
  · intro k hk'
    rcases hG.2 k hk' with e | e
    · exact h.out k e
    · exact .inr (by omega)
  · exact h.frm.of (hG.1.block b hbl (fun e => h.nb e.symm)) (fun x hx hl => hG.1.block _ hl (fun e => h.nr x hx e.symm))
  · intro e
    rcases hG.2 b e with e' | e'
    · exact h.nb e'
    · have hbl' : b < w.heap.size := hbl
      omega
  · intro x hx e
    have hl := h.rl x hx
    rcases hG.2 _ e with e' | e'
    · exact h.nr x hx e'
    · omega

/-- A block is laid: nothing else turns. -/
theorem WPre.alloc {B0 B1 : Nat} {w1 w : World} {v : Value} {l : List UInt8} {b off : Nat} {f : Fr} {ra : Option Addr} {rc : Nat} (h : WPre B0 B1 w1 w v l b off f ra rc) (o : Obj) : WPre B0 B1 w1 (w.alloc o) v l b off f ra rc := by
  have hbl := World.block_lt_of_cell? _ _ h.frm.c0
  have hk := h.keep.1
  exact ⟨⟨by simp; omega, fun k h0 h1 => (Below.heap_alloc w o k (by omega)).trans (h.keep.2 k h0 h1)⟩, h.buf.alloc o, h.out, h.frm.of (Below.heap_alloc w o b hbl) (fun x _ hl => Below.heap_alloc w o _ hl), h.nb, h.nr, fun x hx => by have := h.rl x hx; simp; omega⟩

/-- A function value that writes the bytes sp of f behind what there is. -/
def Wr (B0 B1 : Nat) (w1 : World) (fv : Value) (sp : List UInt8) (b off : Nat) (f : Fr) (ra : Option Addr) (rc : Nat) : Prop :=
  ∃ g cb, fv = .func (.func g) #[] cb ∧ (∀ args w, (callFunc g args).run Tryd.prog w = .ok (.enter g args) w) ∧
    ∀ w v l, WPre B0 B1 w1 w v l b off f ra rc → l.length + sp.length ≤ 35184372088832 →
      Calls Tryd.prog g (#[v, .pointer (some ⟨b, off, none⟩)] ++ cb) w fun e w' => ∃ v', e = .returned v' ∧ Buf w' v' (l ++ sp) ∧ Gr w w' v v'

theorem Keep.cell {B0 B1 : Nat} {w1 w : World} (h : Keep B0 B1 w1 w) {k o : Nat} {v : Value} (h0 : B0 ≤ k) (h1 : k < B1) (hc : w1.cell? ⟨k, o, none⟩ = some v) : w.cell? ⟨k, o, none⟩ = some v := cell_of hc (h.2 k h0 h1)

/-- One byte is appended. -/
theorem run_append_one {w : World} {v : Value} {l : List UInt8} (h : Buf w v l) (x : UInt8) (c : Int) (hc : c = ((x.toNat : Nat) : Int)) (hl : l.length ≤ 35184372088832) :
    ∃ v' w', (∀ ty, (Builtin.append_ #[29, 29] ty #[v, .slice (some ⟨w.heap.size, 0, none⟩) 1 1]).run Tryd.prog (w.alloc (.cells #[.int .u8 c] 5)) = .ok v' w') ∧ Buf w' v' (l ++ [x]) ∧ Gr w w' v v' := by
  obtain ⟨v', w', h1, h2, h3⟩ := run_append_buf (h.alloc (.cells #[.int .u8 c] 5)) ⟨w.heap.size, 0, none⟩ 1 1 [x] rfl (by omega) (fun i u hu => by
    match i, hu with
    | 0, hu =>
      simp [bcells] at hu
      rw [Addr.add_lit, Nat.zero_add, (Blk.new w 5 [.int .u8 c]).cell, ← hu, hc]
      rfl
    | i + 1, hu => simp [bcells] at hu) (by omega)
  exact ⟨v', w', h1, h2, h3.alloc _⟩

set_option maxHeartbeats 1000000 in
theorem first_wr {B0 B1 : Nat} {w1 : World} (xb : Nat) (x : UInt8) (b off : Nat) (f : Fr) (ra : Option Addr) (rc : Nat) (h0 : B0 ≤ xb) (h1 : xb < B1) (hx : w1.cell? ⟨xb, 0, none⟩ = some (.int .u8 ((x.toNat : Nat) : Int))) :
    Wr B0 B1 w1 (.func (.func 55) #[] #[.pointer (some ⟨xb, 0, none⟩)]) [x] b off f ra rc := by
  refine ⟨55, _, rfl, enters_of Tryd.func55 (by kernel_rfl) rfl, fun w v l hp hl => ?_⟩
  have hc := hp.keep.cell h0 h1 hx
  obtain ⟨v', w', hrun, hB, hG⟩ := run_append_one hp.buf x ((x.toNat : Nat) : Int) rfl (by simp at hl; omega)
  have HB := hid hB
  have HG := hid hG
  generalize ((x.toNat : Nat) : Int) = X at hc hrun
  clear hB hG hp hl hx
  go_enter Tryd.func55, Tryd.ntmps55
  go_wp2_with (at_builtin; refine Lib.wpList_append_run _ rfl _ _ _ _ rfl _ _ rfl rfl _ _ (hrun _) ?_)
  go_ret
  exact ⟨v', rfl, HB.out, HG.out⟩

set_option maxHeartbeats 1000000 in
theorem firstData_wr {B0 B1 : Nat} {w1 : World} (b off : Nat) (f : Fr) (ra : Option Addr) (rc : Nat) :
    Wr B0 B1 w1 (.func (.func 66) #[] #[]) [if f.fin then 9 else 8] b off f ra rc := by
  refine ⟨66, _, rfl, enters_of Tryd.func66 (by kernel_rfl) rfl, fun w v l hp hl => ?_⟩
  have c5 := hp.frm.c5
  obtain ⟨v', w', hrun, hB, hG⟩ := run_append_one hp.buf (if f.fin then 9 else 8) (if f.fin then 9 else 8) (by cases f.fin <;> rfl) (by simp at hl; omega)
  have HB := hid hB
  have HG := hid hG
  clear hB hG hp hl
  cases hf : f.fin
  · rw [hf] at c5 hrun
    go_enter Tryd.func66, Tryd.ntmps66
    go_wp2_with (at_builtin; refine Lib.wpList_append_run _ rfl _ _ _ _ rfl _ _ rfl rfl _ _ (hrun _) ?_)
    go_ret
    rw [hf] at HB
    exact ⟨v', rfl, HB.out, HG.out⟩
  · rw [hf] at c5 hrun
    go_enter Tryd.func66, Tryd.ntmps66
    go_wp2_with (at_builtin; refine Lib.wpList_append_run _ rfl _ _ _ _ rfl _ _ rfl rfl _ _ (hrun _) ?_)
    go_ret
    rw [hf] at HB
    exact ⟨v', rfl, HB.out, HG.out⟩

set_option maxHeartbeats 1000000 in
theorem stream_wr {B0 B1 : Nat} {w1 : World} (b off : Nat) (f : Fr) (ra : Option Addr) (rc : Nat) (hs0 : 0 ≤ f.stream) (hs8 : f.stream < 8) :
    Wr B0 B1 w1 (.func (.func 62) #[] #[]) (Num.bytes f.stream.toNat) b off f ra rc := by
  refine ⟨62, _, rfl, enters_of Tryd.func62 (by kernel_rfl) rfl, fun w v l hp hl => ?_⟩
  have c1 := hp.frm.c1
  have hA := appendNumber_any v l f.stream.toNat w hp.buf (by omega) (by omega)
  obtain ⟨s, hs⟩ := Int.eq_ofNat_of_zero_le hs0
  rw [hs] at c1
  rw [hs, Int.toNat_natCast] at hA ⊢
  have hs8' : (s : Int) < 8 := by omega
  have HA := hid hA
  clear hA hp hl hs hs0 hs8
  go_enter Tryd.func62, Tryd.ntmps62
  go_wp2_with fail
  refine HA.out.mono ?_
  rintro e w' ⟨v', rfl, hB, hG⟩
  have HB := hid hB
  have HG := hid hG
  clear hB hG
  go_wp2
  go_ret
  exact ⟨v', rfl, HB.out, HG.out⟩

set_option maxHeartbeats 1000000 in
theorem number_wr {B0 B1 : Nat} {w1 : World} (pb pf i n : Nat) (b off : Nat) (f : Fr) (ra : Option Addr) (rc : Nat) (h0 : B0 ≤ pb) (h1 : pb < B1) (hx : w1.cell? ⟨pb, 0, none⟩ = some (.func (.func pf) #[] #[]))
    (he : ∀ args w, (callFunc pf args).run Tryd.prog w = .ok (.enter pf args) w) (hpf : ∀ w, Calls Tryd.prog pf #[.pointer (some ⟨b, off, none⟩)] w fun e w' => e = .returned (.pointer (some ⟨b, off + i, none⟩)) ∧ w' = w)
    (hc : ∀ w, FrAt w b off f ra rc → w.cell? ⟨b, off + i, none⟩ = some (.int .u64 (n : Int))) (hn : n ≤ M62) :
    Wr B0 B1 w1 (.func (.func 64) #[] #[.pointer (some ⟨pb, 0, none⟩)]) (Num.bytes n) b off f ra rc := by
  refine ⟨64, _, rfl, enters_of Tryd.func64 (by kernel_rfl) rfl, fun w v l hp hl => ?_⟩
  have cc := hp.keep.cell h0 h1 hx
  have cn := hc w hp.frm
  have HA := hid (appendNumber_any v l n w hp.buf (by unfold M62 at hn; omega) (by omega))
  have HP := hid (hpf w)
  clear hpf hp hl hc hn hx
  go_enter Tryd.func64, Tryd.ntmps64
  go_wp2_with fail
  refine HP.out.mono ?_
  rintro e w' ⟨rfl, hw'⟩
  subst hw'
  go_wp2_with fail
  refine HA.out.mono ?_
  rintro e w2 ⟨v', rfl, hB, hG⟩
  have HB := hid hB
  have HG := hid hG
  clear hB hG
  go_wp2
  go_ret
  exact ⟨v', rfl, HB.out, HG.out⟩

/-- 'append(b, s...)', s a string, b not empty. -/
theorem run_append_str {w : World} {v : Value} {l : List UInt8} (h : Buf w v l) (hl0 : 0 < l.length) (s : ByteArray) (hsz : l.length + s.size ≤ 70368744177664) :
    ∃ v' w', (∀ ty, (Builtin.append_ #[29, 9] ty #[v, .string s]).run Tryd.prog w = .ok v' w') ∧ Buf w' v' (l ++ s.data.toList) ∧ Gr w w' v v' := by
  obtain ⟨i, hi, hz, hs, hb⟩ := info_parts info5
  have hS : Src Tryd.prog i.size 9 (.string s) s.size (byteCells s) w := by rw [hs]; exact Src.ofString w u9 s
  have hbl : (byteCells s).length = s.size := byteCells_length s
  have hbc : byteCells s = bcells s.data.toList := rfl
  have hdl : s.data.toList.length = s.size := by rw [Array.length_toList]; rfl
  rcases h with ⟨_, rfl⟩ | ⟨g, cap, cs, rfl, hB, h2, h3, h4, h5, h6⟩
  · simp at hl0
  · by_cases hr : l.length + s.size ≤ cap
    · have hap := fun ty => run_append_room_src (P := Tryd.prog) (w := w) 29 9 ty 5 i u29 hi g 0 l.length cap _ s.size (byteCells s) hS hr (fun j hj => by rw [hB.cell, hs]; simp; omega) (fun j _ => hB.frozen _)
      have hse := splice_end cs (byteCells s) (0 + l.length * i.size) (by rw [hs]; omega)
      rw [setCells_blk hB _ (by rw [hs]; omega) (by rw [hbc]; exact bcells_one _)] at hap
      refine ⟨_, _, hap, .inr ⟨g, cap, _, by rw [List.length_append, hdl], hB.put _, ?_, by rw [List.length_append, hdl]; exact hr, h4, ?_, splice_one h6 (by rw [hbc]; exact bcells_one _)⟩, put_grown w g _, fun k hk => .inl hk⟩
      · rw [splice_length _ _ _ (by rw [hs]; omega), h2]
      · rw [hbl, hs, Nat.mul_one, Nat.zero_add] at hse
        rw [List.length_append, hdl, hs, Nat.mul_one, Nat.zero_add, hse, bcells_append, h5, hbc]
    · have hO : (Builtin.firstCells i.size l.length (.slice (some ⟨g, 0, none⟩) l.length cap)).run Tryd.prog w.drew = .ok (bcells l).toArray w.drew := by
        rw [hs]
        exact run_firstCells_some w.drew 1 l.length ⟨g, 0, none⟩ l.length cap (bcells l) (by rw [bcells_length, Nat.mul_one]) (fun j u hj => by
          rw [Addr.add_lit, Nat.zero_add]
          show w.cell? _ = _
          rw [hB.cell]
          rw [← h5, List.getElem?_take] at hj
          split at hj
          · exact hj
          · cases hj)
      have hap := fun ty => run_append_grow_src (P := Tryd.prog) (w := w) 29 9 ty 5 i (.int .u8 0) u29 hi hz (some ⟨g, 0, none⟩) l.length cap (bcells l) hO _ s.size (byteCells s) hS (by omega) (by omega) (by rw [hb]; exact growslice_fits (by omega) (by omega))
      have hGn := grownCap_ge w (l.length + s.size) cap 5
      have hG63 := grownCap_le_maxLen w (l.length + s.size) cap 5 (by unfold maxLen; omega)
      unfold maxLen at hG63
      have eB : ((bcells l ++ byteCells s).toArray ++ Builtin.zeroCells (Value.int .u8 0).cells (grownCap w (l.length + s.size) cap 5 - (l.length + s.size))) = (bcells l ++ byteCells s ++ (Builtin.zeroCells (Value.int .u8 0).cells (grownCap w (l.length + s.size) cap 5 - (l.length + s.size))).toList).toArray := by
        apply Array.ext'; simp
      rw [eB] at hap
      refine ⟨_, _, hap, .inr ⟨w.heap.size, _, _, by rw [List.length_append, hdl], Blk.new w 5 _, ?_, by rw [List.length_append, hdl]; exact hGn, hG63, ?_, ?_⟩, grown_trans (grown_drew w _) (World.grownBy_alloc w.drew _ _), ?_⟩
      · rw [List.length_append, List.length_append, zero1_len, hbl, bcells_length]; omega
      · rw [List.length_append, hdl, List.take_append_of_le_length (by rw [List.length_append, bcells_length]; omega), List.take_of_length_le (by rw [List.length_append, bcells_length]; omega), bcells_append, hbc]
      · intro u hu
        rcases List.mem_append.1 hu with hu | hu
        · rcases List.mem_append.1 hu with hu | hu
          · exact bcells_one l u hu
          · rw [hbc] at hu; exact bcells_one _ u hu
        · exact zero1_one _ u hu
      · intro k hk
        simp [Value.ownBlock] at hk
        exact .inr (by omega)

set_option maxHeartbeats 1000000 in
theorem text_wr {B0 B1 : Nat} {w1 : World} (b off : Nat) (f : Fr) (ra : Option Addr) (rc : Nat) :
    Wr B0 B1 w1 (.func (.func 68) #[] #[]) (Num.bytes f.data.size ++ f.data.data.toList) b off f ra rc := by
  refine ⟨68, _, rfl, enters_of Tryd.func68 (by kernel_rfl) rfl, fun w v l hp hl => ?_⟩
  have c8 := hp.frm.c8
  have hd := hp.frm.dlen
  have HA := hid (appendNumber_any v l f.data.size w hp.buf (by omega) (by omega))
  have hnl := Num.bytes_length f.data.size
  have hpos : 0 < (Num.bytes f.data.size).length := by rw [hnl]; exact Nat.pow_pos (by decide)
  have hcl : (Num.bytes f.data.size).length ≤ 8 := by
    rw [hnl]
    have := Num.code_le f.data.size
    have : 2 ^ Num.code f.data.size ≤ 2 ^ 3 := Nat.pow_le_pow_right (by decide) this
    omega
  have hdl : f.data.data.toList.length = f.data.size := by rw [Array.length_toList]; rfl
  have hnx := fun w' v' hB hG => (hp.next (w' := w') (v' := v') (l' := l ++ Num.bytes f.data.size) hB hG).frm.c8
  have HNX := hid hnx
  have hst := fun w' v' (hB : Buf w' v' (l ++ Num.bytes f.data.size)) => run_append_str hB (by rw [List.length_append]; omega) f.data (by rw [List.length_append] at hl ⊢; omega)
  have HST := hid hst
  clear hnx hst hp hl hnl hpos hcl hdl
  go_enter Tryd.func68, Tryd.ntmps68
  go_wp2_with fail
  refine HA.out.mono ?_
  rintro e w2 ⟨v', rfl, hB, hG⟩
  have c8' := HNX.out w2 v' hB hG
  obtain ⟨v3, w3, hrun, hB3, hG3⟩ := HST.out w2 v' hB
  rw [List.append_assoc] at hB3
  have HB := hid hB3
  have HG := hid (hG.trans hG3)
  clear hB hG hB3 hG3
  go_wp2_with (at_builtin; refine Lib.wpList_append_run _ rfl _ _ _ _ rfl _ _ rfl rfl _ _ (hrun _) ?_)
  go_ret
  exact ⟨v3, rfl, HB.out, HG.out⟩

end Go.Proofs.YtphbledmopchnaaDoor
