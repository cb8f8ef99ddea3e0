/-
  The reader of several parts; a layout reads a frame.
-/
import Derived.Test.YtphbledmopchnaaDoorRdRng
namespace Go.Proofs.YtphbledmopchnaaDoor
open Go.RowKit Go.Lib Go.Shelf Mm

theorem RP.alloc {B0 B1 rb fb yb yo cap : Nat} {body : List UInt8} {w : World} {p bg : Nat} {cur : Fr} {v9 : Value} (h : RP B0 B1 rb fb yb yo cap body w p bg cur v9) (o : Obj) : RP B0 B1 rb fb yb yo cap body (w.alloc o) p bg cur v9 := by
  have h1 := h.h01
  have h2 := h.hB
  have h3 := h.rbl
  have h4 := h.fbl
  have h5 := h.ybl
  exact ⟨h.rd.of (Below.heap_alloc _ _ _ (by omega)) (Below.heap_alloc _ _ _ (by omega)), h.frm.alloc o, h.rng.of_heap (fun b hb => Below.heap_alloc _ _ _ (h.rng.lt b hb)), h.own, h1, by simp; omega, h3, h4, h5, h.rf, h.fy⟩
theorem St2.alloc (B1 rb fb : Nat) (w : World) (o : Obj) (h : B1 ≤ w.heap.size) : St2 B1 rb fb w (w.alloc o) := ⟨rfl, rfl, rfl, by simp, fun k hk _ _ => Below.heap_alloc _ _ _ (by omega)⟩

def updTo (us : Nat → Fr → Fr) : Nat → Fr → Fr
  | 0, cur => cur
  | k + 1, cur => us k (updTo us k cur)

theorem partsTo_prefix (ps : List (List UInt8)) (k : Nat) : ∀ N, k ≤ N → ∃ s, partsTo ps N = partsTo ps k ++ s
  | 0, h => ⟨[], by obtain rfl : k = 0 := by omega
                    simp⟩
  | N + 1, h => by
    by_cases e : k = N + 1
    · exact ⟨[], by rw [e]; simp⟩
    · obtain ⟨s, hs⟩ := partsTo_prefix ps k N (by omega)
      exact ⟨s ++ _, by rw [partsTo, hs, List.append_assoc]⟩
def partsFrom (ps : List (List UInt8)) (N k : Nat) : List UInt8 := (partsTo ps N).drop (partsTo ps k).length
theorem partsFrom_zero (ps : List (List UInt8)) (N : Nat) : partsFrom ps N 0 = partsTo ps N := rfl
theorem partsFrom_end (ps : List (List UInt8)) (N : Nat) : partsFrom ps N N = [] := by unfold partsFrom; exact List.drop_of_length_le (Nat.le_refl _)
theorem partsFrom_step (ps : List (List UInt8)) (N k : Nat) (h : k < N) : partsFrom ps N k = ps.getD k [] ++ partsFrom ps N (k + 1) := by
  obtain ⟨s, hs⟩ := partsTo_prefix ps (k + 1) N (by omega)
  have hA : (partsTo ps N).drop (partsTo ps (k + 1)).length = s := by rw [hs]; exact List.drop_left' rfl
  have hB : partsTo ps N = partsTo ps k ++ (ps.getD k [] ++ s) := by
    rw [hs, partsTo]
    simp only [List.append_assoc]
  unfold partsFrom
  rw [hA, hB]
  exact List.drop_left' rfl

set_option maxHeartbeats 1000000 in
set_option maxRecDepth 100000 in
theorem inOrder_rd {B0 B1 : Nat} {w1 : World} (pb qb np : Nat) (fw fr : Nat → Value) (ps : List (List UInt8)) (us : Nat → Fr → Fr) (rb fb yb yo cap : Nat) (body : List UInt8) (bg : Nat) (hnp : np ≤ 100) (hp0 : B0 ≤ pb) (hp1 : pb < B1) (hq0 : B0 ≤ qb) (hq1 : qb < B1)
    (hpb : w1.cell? ⟨pb, 0, none⟩ = some (.slice (some ⟨qb, 0, none⟩) np np)) (hcell : ∀ j, j < np → w1.cell? ⟨qb, j * 2, none⟩ = some (fw j) ∧ w1.cell? ⟨qb, j * 2 + 1, none⟩ = some (fr j)) (hfw : ∀ j, j < np → ∃ g cb, fw j = .func (.func g) #[] cb)
    (hus : ∀ cur, cur.ranges = [] → ∀ j, j < np → (updTo us j cur).ranges = [])
    (hrd : ∀ j, j < np → Rd B0 B1 w1 (fr j) (ps.getD j []) (us j) rb fb yb yo cap body bg) :
    Rd B0 B1 w1 (.func (.func 59) #[] #[.pointer (some ⟨pb, 0, none⟩)]) (partsTo ps np) (updTo us np) rb fb yb yo cap body bg := by
  refine ⟨59, _, rfl, enters_of Tryd.func59 (by kernel_rfl) rfl, fun w p cur v9 rest hK hP hc0 hb => ?_⟩
  have cp := hK.cell hp0 hp1 hpb
  have HI0 : Hid (∃ pk v9, Keep B0 B1 w1 w ∧ RP B0 B1 rb fb yb yo cap body w pk bg (updTo us 0 cur) v9 ∧ St2 B1 rb fb w w ∧ body.drop pk = partsFrom ps np 0 ++ rest ∧ pk + (partsFrom ps np 0).length = p + (partsTo ps np).length) := ⟨p, v9, hK, hP, St2.refl _ _ _ _, by rw [partsFrom_zero]; exact hb, by rw [partsFrom_zero]⟩
  have HC := hid hcell
  have HFW := hid hfw
  have HRD := hid hrd
  have HQ := hid (And.intro hq0 hq1)
  have HUS := hid (hus cur hc0)
  have HST := hid (fun k (hk : k < np) => partsFrom_step ps np k hk)
  have HEND := hid (partsFrom_end ps np)
  clear hP hb hcell hfw hrd hpb hp0 hp1 hq0 hq1 hus hc0 hK
  go_enter Tryd.func59, Tryd.ntmps59
  go_wp2_with fail
  go_loopw [9] (fun s9 wr => ∃ k : Nat, k ≤ np ∧ s9 = .int .i64 k ∧ Hid (∃ pk v9, Keep B0 B1 w1 wr ∧ RP B0 B1 rb fb yb yo cap body wr pk bg (updTo us k cur) v9 ∧ St2 B1 rb fb w wr ∧ body.drop pk = partsFrom ps np k ++ rest ∧ pk + (partsFrom ps np k).length = p + (partsTo ps np).length)) (fun s9 _ => np - (intOf s9).toNat)
  case atStart => exact ⟨0, Nat.zero_le _, rfl, HI0.out⟩
  case round =>
    clear HI0
    obtain ⟨k, hk, rfl, HI⟩ := hrel
    by_cases hlt : k < np
    · have hlt' : (k : Int) < (np : Int) := by omega
      obtain ⟨pk, v9, hK, hPk, hSk, hbk, hpe⟩ := HI.out
      rw [HST.out k hlt] at hbk hpe
      rw [List.append_assoc] at hbk
      obtain ⟨q1, q2⟩ := HC.out k hlt
      have t1 := hK.cell HQ.out.1 HQ.out.2 q1
      have t2 := hK.cell HQ.out.1 HQ.out.2 q2
      obtain ⟨g, cb, hfr, eg, hW⟩ := HRD.out k hlt
      obtain ⟨g2, cb2, hfw2⟩ := HFW.out k hlt
      rw [hfr] at t2
      rw [hfw2] at t1
      have hBw := hPk.hB
      have hK2 : Keep B0 B1 w1 (wr.alloc (.cells #[.func (.func g2) #[] cb2, .func (.func g) #[] cb] 64)) := ⟨by simp; omega, fun j h0 h1 => by rw [Below.heap_alloc _ _ _ (by omega)]; exact hK.2 j h0 h1⟩
      have hc := hW _ pk (updTo us k cur) v9 _ hK2 (hPk.alloc _) (HUS.out k hlt) hbk
      have hbk2 := drop_next hbk
      have hn : ∀ w' v9', RP B0 B1 rb fb yb yo cap body w' (pk + (ps.getD k []).length) bg (us k (updTo us k cur)) v9' → St2 B1 rb fb (wr.alloc (.cells #[.func (.func g2) #[] cb2, .func (.func g) #[] cb] 64)) w' →
          ∃ pk v9, Keep B0 B1 w1 w' ∧ RP B0 B1 rb fb yb yo cap body w' pk bg (updTo us (k + 1) cur) v9 ∧ St2 B1 rb fb w w' ∧ body.drop pk = partsFrom ps np (k + 1) ++ rest ∧ pk + (partsFrom ps np (k + 1)).length = p + (partsTo ps np).length := fun w' v9' hP' hS' =>
        ⟨_, v9', hS'.keep hK2 hP'.rbl hP'.fbl, hP', (hSk.trans (St2.alloc B1 rb fb wr _ hBw)).trans hS', hbk2, by rw [List.length_append] at hpe; omega⟩
      have HN := hid hn
      have HC2 := hid hc
      have hbl : qb < wr.heap.size := World.block_lt_of_cell? _ _ t1
      clear hfr hfw2 hc hW q1 q2 hn hK hPk hSk hbk hbk2 hpe hK2 HI
      go_wp2_with fail
      refine HC2.out.mono ?_
      rintro e y ⟨rfl, v9', hP', hS'⟩
      have HI' := hid (HN.out y v9' hP' hS')
      clear hP' hS' HN HC2
      go_wp2_with fail
      go_roundw
      case rel => exact ⟨k + 1, by omega, by go_num, HI'⟩
      case measure => simp [intOf]; omega
    · obtain rfl : k = np := by omega
      obtain ⟨pk, v9, hK, hPk, hSk, hbk, hpe⟩ := HI.out
      rw [HEND.out, List.length_nil, Nat.add_zero] at hpe
      rw [hpe] at hPk
      have HF := hid (And.intro hPk hSk)
      clear hK hPk hSk hbk hpe HI
      go_wp2
      go_end0
      exact ⟨rfl, v9, HF.out⟩

theorem part_rd {B0 : Nat} {w1 : World} {tag : Nat × Nat} {fw fr : Value} (hP : PartIs B0 w1 tag fw fr) (f : Fr) (hf : Fit f) (hok : okTag f tag) (hd : f.data.size ≤ 1000000000) (hrl : f.ranges.length ≤ 1000000000) (rb fb yb yo cap : Nat) (body : List UInt8) (bg : Nat) :
    Rd B0 w1.heap.size w1 fr (partBytes f tag) (setPart f tag) rb fb yb yo cap body bg := by
  unfold partBytes
  rcases hP with ⟨h, xb, hx, _, h2⟩ | ⟨h, _, h2⟩ | ⟨h, _, h2⟩ | ⟨h, xb, hx, _, h2⟩ | ⟨h, _, h2⟩ | ⟨h, _, h2⟩
  · have e : setPart f tag = fun cur => cur := by funext cur; unfold setPart; rw [if_pos h]
    rw [if_pos h, h2, e]
    exact first_rd _ rb fb yb yo cap body bg
  · have e : setPart f tag = fun cur => { cur with fin := f.fin } := by funext cur; unfold setPart; rw [if_neg (by omega), if_pos h]
    rw [if_neg (by omega), if_pos h, h2, e]
    exact firstData_rd f.fin rb fb yb yo cap body bg
  · have e : setPart f tag = fun cur => { cur with stream := f.stream } := by funext cur; unfold setPart; rw [if_neg (by omega), if_neg (by omega), if_pos h]
    rw [if_neg (by omega), if_neg (by omega), if_pos h, h2, e]
    exact stream_rd f.stream hf.s0 hf.s8 rb fb yb yo cap body bg
  · have e0 : ∀ cur, setPart f tag cur = (if tag.2 = 36 then { cur with offset := f.offset } else if tag.2 = 37 then { cur with reliable := f.reliable } else if tag.2 = 40 then { cur with limit := f.limit } else if tag.2 = 41 then { cur with id := f.id } else { cur with deadline := f.deadline }) := fun cur => by
      unfold setPart; rw [if_neg (by omega), if_neg (by omega), if_neg (by omega), if_pos h]
    rw [if_neg (by omega), if_neg (by omega), if_neg (by omega), if_pos h, h2]
    have hpf : tag.2 = 36 ∨ tag.2 = 37 ∨ tag.2 = 40 ∨ tag.2 = 41 ∨ tag.2 = 42 := by
      rcases hok with e | e | e | e | e | e
      · omega
      · omega
      · omega
      · exact e.2
      · omega
      · omega
    have hl := World.block_lt_of_cell? _ _ hx.2
    have hxc := hx.2
    rcases hpf with e | e | e | e | e
    · rw [e] at hxc ⊢
      exact number_rd xb 36 2 f.offset _ rb fb yb yo cap body bg hx.1 hl hxc (enters_of Tryd.func36 (by kernel_rfl) rfl) (fun b w => by have := offset_any b 0 w; simpa using this) (fun cur v9 => ⟨_, rfl⟩) (fun cur v9 => by rw [e0, e]; exact ⟨rfl, rfl⟩) hf.n0
    · rw [e] at hxc ⊢
      exact number_rd xb 37 3 f.reliable _ rb fb yb yo cap body bg hx.1 hl hxc (enters_of Tryd.func37 (by kernel_rfl) rfl) (fun b w => by have := reliable_any b 0 w; simpa using this) (fun cur v9 => ⟨_, rfl⟩) (fun cur v9 => by rw [e0, e]; exact ⟨rfl, rfl⟩) hf.n1
    · rw [e] at hxc ⊢
      exact number_rd xb 40 4 f.limit _ rb fb yb yo cap body bg hx.1 hl hxc (enters_of Tryd.func40 (by kernel_rfl) rfl) (fun b w => by have := limit_any b 0 w; simpa using this) (fun cur v9 => ⟨_, rfl⟩) (fun cur v9 => by rw [e0, e]; exact ⟨rfl, rfl⟩) hf.n2
    · rw [e] at hxc ⊢
      exact number_rd xb 41 6 f.id _ rb fb yb yo cap body bg hx.1 hl hxc (enters_of Tryd.func41 (by kernel_rfl) rfl) (fun b w => by have := id_any b 0 w; simpa using this) (fun cur v9 => ⟨_, rfl⟩) (fun cur v9 => by rw [e0, e]; exact ⟨rfl, rfl⟩) hf.n3
    · rw [e] at hxc ⊢
      exact number_rd xb 42 7 f.deadline _ rb fb yb yo cap body bg hx.1 hl hxc (enters_of Tryd.func42 (by kernel_rfl) rfl) (fun b w => by have := deadline_any b 0 w; simpa using this) (fun cur v9 => ⟨_, rfl⟩) (fun cur v9 => by rw [e0, e]; exact ⟨rfl, rfl⟩) hf.n4
  · have e : setPart f tag = fun cur => { cur with data := f.data } := by funext cur; unfold setPart; rw [if_neg (by omega), if_neg (by omega), if_neg (by omega), if_neg (by omega), if_pos h]
    rw [if_neg (by omega), if_neg (by omega), if_neg (by omega), if_neg (by omega), if_pos h, h2, e]
    exact text_rd f.data hd rb fb yb yo cap body bg
  · have e : setPart f tag = fun cur => { cur with ranges := f.ranges } := by funext cur; unfold setPart; rw [if_neg (by omega), if_neg (by omega), if_neg (by omega), if_neg (by omega), if_neg (by omega)]
    rw [if_neg (by omega), if_neg (by omega), if_neg (by omega), if_neg (by omega), if_neg (by omega), h2, e]
    have hR : sndR f.ranges = true := by
      rcases hok with e | e | e | e | e | e
      · omega
      · omega
      · omega
      · omega
      · omega
      · exact e.2
    exact ranges_rd f.ranges hR hrl rb fb yb yo cap body bg

/-- What is read of a frame's parts. -/
def setAll (f : Fr) (tags : List (Nat × Nat)) (k : Nat) (cur : Fr) : Fr := updTo (fun j => setPart f (tags.getD j (0, 0))) k cur

theorem setPart_rng (f : Fr) (tag : Nat × Nat) (cur : Fr) (h : tag.1 ≤ 4) : (setPart f tag cur).ranges = cur.ranges := by
  unfold setPart
  repeat' split
  all_goals first | rfl | omega

theorem setAll_rng (f : Fr) (tags : List (Nat × Nat)) (cur : Fr) (hc : cur.ranges = []) (h : ∀ j, j + 1 < tags.length → (tags.getD j (0, 0)).1 ≤ 4) : ∀ k, k < tags.length → (setAll f tags k cur).ranges = []
  | 0, _ => hc
  | k + 1, hk => by
    show (setPart f (tags.getD k (0, 0)) (setAll f tags k cur)).ranges = []
    rw [setPart_rng _ _ _ (h k hk)]
    exact setAll_rng f tags cur hc h k (by omega)

theorem tags_last (k : Int) : ∀ j, j + 1 < (tagsOf k).length → ((tagsOf k).getD j (0, 0)).1 ≤ 4 := by
  unfold tagsOf
  repeat' split
  all_goals
    intro j hj
    match j, hj with
    | 0, hj => first | decide | exact absurd hj (by decide)
    | 1, hj => first | decide | exact absurd hj (by decide)
    | 2, hj => first | decide | exact absurd hj (by decide)
    | m + 3, hj => exact absurd hj (by simp)

/-- The layout of a frame's kind reads what it wrote. -/
theorem layK_rd {B0 : Nat} {w1 : World} {fw fr : Value} (f : Fr) (hL : LayK B0 w1 f.kind fw fr) (h : snd f = true) (hd : f.data.size ≤ 1000000000) (hrl : f.ranges.length ≤ 1000000000) (rb fb yb yo cap : Nat) (body : List UInt8) (bg : Nat) :
    Rd B0 w1.heap.size w1 fr (frBytes f) (setAll f (tagsOf f.kind) (tagsOf f.kind).length) rb fb yb yo cap body bg := by
  obtain ⟨hf, _⟩ := fit_of f h
  rcases hL with ⟨e, hP⟩ | ⟨_, hL⟩
  · have := part_rd hP f hf (.inl ⟨rfl, by decide⟩) hd hrl rb fb yb yo cap body bg
    have hb : frBytes f = partBytes f (0, 1) := by
      unfold frBytes
      rw [e, show tagsOf 1 = [(0, 1)] from rfl]
      rfl
    have hs : setAll f (tagsOf f.kind) (tagsOf f.kind).length = setPart f (0, 1) := by
      rw [e, show tagsOf 1 = [(0, 1)] from rfl]
      rfl
    rw [hb, hs]
    exact this
  · obtain ⟨pb, qb, _, rfl, hB, hq, hcell⟩ := hL
    have hpos := (tags_len f.kind).1
    have hfun : ∃ fws frs : Nat → Value, ∀ j, j < (tagsOf f.kind).length → w1.cell? ⟨qb, j * 2, none⟩ = some (fws j) ∧ w1.cell? ⟨qb, j * 2 + 1, none⟩ = some (frs j) ∧ PartIs B0 w1 ((tagsOf f.kind).getD j (0, 0)) (fws j) (frs j) := by
      refine ⟨fun j => (w1.cell? ⟨qb, j * 2, none⟩).getD undef, fun j => (w1.cell? ⟨qb, j * 2 + 1, none⟩).getD undef, fun j hj => ?_⟩
      obtain ⟨a, c, h1, h2, h3⟩ := hcell j hj
      refine ⟨by simp [h1], by simp [h2], ?_⟩
      simpa [h1, h2] using h3
    obtain ⟨fws, frs, hF⟩ := hfun
    have hmem : ∀ j, j < (tagsOf f.kind).length → (tagsOf f.kind).getD j (0, 0) ∈ tagsOf f.kind := fun j hj => by
      rw [List.getD_eq_getElem?_getD, List.getElem?_eq_getElem hj]
      exact List.getElem_mem _
    refine inOrder_rd pb qb (tagsOf f.kind).length fws frs ((tagsOf f.kind).map (partBytes f)) (fun j => setPart f ((tagsOf f.kind).getD j (0, 0))) rb fb yb yo cap body bg (tags_len _).2 hB.1 (World.block_lt_of_cell? _ _ hB.2) hq (World.block_lt_of_cell? _ _ (hF 0 hpos).1) hB.2 (fun j hj => ⟨(hF j hj).1, (hF j hj).2.1⟩) (fun j hj => ?_) (fun cur hc j hj => setAll_rng f _ cur hc (tags_last _) j hj) (fun j hj => ?_)
    · obtain ⟨_, _, _, _, h, _⟩ := (hF j hj).2.2.shape
      exact ⟨_, _, h⟩
    · have := part_rd (hF j hj).2.2 f hf (tags_ok f h _ (hmem j hj)) hd hrl rb fb yb yo cap body bg
      have e : ((tagsOf f.kind).map (partBytes f)).getD j [] = partBytes f ((tagsOf f.kind).getD j (0, 0)) := by
        simp [hj]
      rw [e]
      exact this

end Go.Proofs.YtphbledmopchnaaDoor
