/-
  wire.Decode, mediawire.Decode.
-/
import Derived.Test.YtphbledmopchnaaDoorRdPktW
namespace Go.Proofs.YtphbledmopchnaaDoor
open Go.RowKit Go.Lib Go.Shelf Mm

theorem CpTo.mono {A B : Nat} {w : World} {s : Value} {fs : List Fr} {v9 : Nat → Value} {k : Nat} (h : CpTo B w s fs v9 k) (hA : A ≤ B) : CpTo A w s fs v9 k :=
  ⟨h.buf, h.own.mono hA, fun j hj => by obtain ⟨r1, r2, r3⟩ := h.rng j hj; exact ⟨r1, r2.mono hA, r3⟩⟩
theorem CpTo.of {B : Nat} {w w' : World} {s : Value} {fs : List Fr} {v9 : Nat → Value} {k : Nat} (h : CpTo B w s fs v9 k) (e : ∀ b, B ≤ b → b < w.heap.size → w'.heap[b]? = w.heap[b]?) : CpTo B w' s fs v9 k :=
  ⟨h.buf.of_heap (fun b hb => e b (h.own b hb) (h.buf.lt b hb)), h.own, fun j hj => by obtain ⟨r1, r2, r3⟩ := h.rng j hj; exact ⟨r1.of_heap (fun b hb => e b (r2 b hb) (r1.lt b hb)), r2, r3⟩⟩

/-- What Decode hands back. -/
def DecR (ok : Bool) (n : Nat) (fs : List Fr) (B : Nat) (w : World) (s err : Value) : Prop :=
  if ok then err = .nilIface ∧ ∃ v9, CpTo B w s (fs.map norm) v9 fs.length else n = 0 ∧ s = .slice none 0 0 ∧ err = .iface 30 (.int .i64 7)

theorem DecR.shape {ok : Bool} {n : Nat} {fs : List Fr} {B : Nat} {w : World} {s err : Value} (h : DecR ok n fs B w s err) : ∃ a m c, s = .slice a m c := by
  unfold DecR at h
  cases ok
  · rw [if_neg (by decide)] at h
    exact ⟨_, _, _, h.2.1⟩
  · rw [if_pos rfl] at h
    obtain ⟨_, v9, hC⟩ := h
    obtain ⟨a, c, hs, _⟩ := hC.buf.shape
    exact ⟨_, _, _, hs⟩
theorem DecR.eshape {ok : Bool} {n : Nat} {fs : List Fr} {B : Nat} {w : World} {s err : Value} (h : DecR ok n fs B w s err) : err = .nilIface ∨ err = .iface 30 (.int .i64 7) := by
  unfold DecR at h
  cases ok
  · rw [if_neg (by decide)] at h
    exact .inr h.2.2
  · rw [if_pos rfl] at h
    exact .inl h.1
theorem DecR.of {ok : Bool} {n : Nat} {fs : List Fr} {A B : Nat} {w w' : World} {s err : Value} (h : DecR ok n fs B w s err) (hA : A ≤ B) (e : ∀ b, B ≤ b → b < w.heap.size → w'.heap[b]? = w.heap[b]?) : DecR ok n fs A w' s err := by
  unfold DecR at h ⊢
  cases ok
  · exact h
  · rw [if_pos rfl] at h ⊢
    obtain ⟨h1, v9, hC⟩ := h
    exact ⟨h1, v9, (hC.of e).mono hA⟩

/-- Bytes that are a packet's, or whose sum is wrong. -/
def DecP (ok : Bool) (n : Nat) (fs : List Fr) (l : List UInt8) : Prop :=
  if ok then n < 4611686018427387904 ∧ (∀ j, j < fs.length → snd (fs.getD j fr0) = true ∧ FrOk (fs.getD j fr0)) ∧ 0 < fs.length ∧ fs.length ≤ 1000000000 ∧ l = pktBytes n fs
  else n = 0 ∧ ∃ body tl, l = body ++ tl ∧ tl.length = 4 ∧ Num.val 0 tl ≠ Crc.sum body

theorem val_sumBytes (l : List UInt8) : Num.val 0 (sumBytes l) = Crc.sum l := by
  unfold sumBytes
  rw [Num.val_be, Nat.zero_mul, Nat.zero_add]
  exact Nat.mod_eq_of_lt (Nat.lt_of_lt_of_le (Crc.sum_lt l) (by decide))

set_option maxHeartbeats 1000000 in
set_option maxRecDepth 100000 in
theorem wireDecode_any (ok : Bool) (n : Nat) (fs : List Fr) (yb yo cap : Nat) (l : List UInt8) (w : World) (hD : DecP ok n fs l) (hb : BytesAt w (some ⟨yb, yo, none⟩) l) (hlen : l.length ≤ 1000000000) (hroom : l.length ≤ cap) (hcap : cap ≤ 9223372036854775807) (hyb : yb < w.heap.size) (hT : TabAt w) (h2 : 2 ≤ w.heap.size) :
    Calls Tryd.prog 14 #[.slice (some ⟨yb, yo, none⟩) l.length cap] w fun e w' => ∃ s err, e = .returned (.tuple #[.agg #[.int .u64 (n : Int), s], err]) ∧ DecR ok n fs (w.heap.size + 1) w' s err ∧ Below w.heap.size w w' := by
  have hl4 : ∃ body tl, l = body ++ tl ∧ tl.length = 4 ∧ decide (Num.val 0 tl = Crc.sum body) = ok ∧ (ok = true → body = bodyBytes n fs) := by
    unfold DecP at hD
    cases ok
    · rw [if_neg (by decide)] at hD
      obtain ⟨_, body, tl, h1, h2, h3⟩ := hD
      exact ⟨body, tl, h1, h2, by simp [h3], fun h => by cases h⟩
    · rw [if_pos rfl] at hD
      exact ⟨bodyBytes n fs, sumBytes (bodyBytes n fs), hD.2.2.2.2, Num.be_length 4 _, by rw [val_sumBytes]; simp, fun _ => rfl⟩
  obtain ⟨body, tl, hl, ht4, hok, hbd⟩ := hl4
  have hll : l.length = body.length + 4 := by rw [hl, List.length_append, ht4]
  obtain ⟨W0, hW0⟩ : ∃ W0, W0 = w.alloc (.cells #[.int .u64 0, .slice none 0 0] 25) := ⟨_, rfl⟩
  have hs0 : W0.heap.size = w.heap.size + 1 := by rw [hW0]; simp
  have hb0 : Below w.heap.size w W0 := by rw [hW0]; exact (Below.refl _ w).alloc (Nat.le_refl _) _
  have hA0 : Blk W0 w.heap.size 25 [.int .u64 0, .slice none 0 0] := by rw [hW0]; exact Blk.new w 25 _
  have hb1 : BytesAt W0 (some ⟨yb, yo, none⟩) (body ++ tl) := by rw [← hl]; exact hb.of (fun x hx => by simp at hx; subst hx; exact hb0.block _ hyb)
  have HC := hid (cutSum_any yb yo body tl cap W0 (by omega) ht4 (by omega) hb1 (hT.below hb0 h2))
  rw [hok, ← hll] at HC
  have hbody : BytesAt W0 (some ⟨yb, yo, none⟩) body := by
    have := hb1.cut body.length
    rwa [List.take_left' rfl] at this
  have HRP : Hid (ok = true → ∀ q, Calls Tryd.prog 22 #[.slice (some ⟨yb, yo, none⟩) body.length cap] (W0.drewN q) fun e w' => ∃ s v9, e = .returned (.tuple #[.agg #[.int .u64 (n : Int), s], .nilIface]) ∧ CpTo (w.heap.size + 4) w' s (fs.map norm) v9 fs.length ∧ Below (w.heap.size + 1) W0 w') := fun ho q => by
    unfold DecP at hD
    rw [if_pos ho] at hD
    obtain ⟨d1, d2, d3, d4, _⟩ := hD
    have := readPacket_any n fs d1 d2 d3 d4 yb yo cap body (hbd ho) (W0.drewN q) hbody (by omega) hcap (by show yb < W0.heap.size; omega)
    refine this.mono ?_
    rintro e w' ⟨s, v9, h1, h3, h4⟩
    have e1 : (W0.drewN q).heap.size = w.heap.size + 1 := hs0
    rw [e1] at h3 h4
    exact ⟨s, v9, h1, h3, h4.os, h4.tape, h4.output, h4.size, h4.block⟩
  have HW := hid (And.intro hs0 (And.intro hb0 hA0))
  have HN : Hid (ok = false → n = 0) := fun ho => by
    unfold DecP at hD
    rw [if_neg (by rw [ho]; decide)] at hD
    exact hD.1
  clear hD hb hlen hl hb1 hbody hs0 hb0 hA0 hbd hll hT ht4
  generalize l.length = L at *
  go_enter Tryd.func14, Tryd.ntmps14
  go_wp2_with fail
  rw [← hW0]
  clear hW0
  refine HC.out.mono ?_
  rintro e w1 ⟨rfl, q, rfl⟩
  obtain ⟨hs0, hb0, hA0⟩ := HW.out
  cases ok
  · have hn0 := HN.out rfl
    subst hn0
    have a0 : W0.cell? ⟨w.heap.size, 0, none⟩ = some (.int .u64 0) := hA0.cell 0
    have a1 : W0.cell? ⟨w.heap.size, 1, none⟩ = some (.slice none 0 0) := hA0.cell 1
    have z0 := hA0.frozen 0
    have z1 := hA0.frozen 1
    have HF : Hid (Below w.heap.size w (((W0.drewN q).setCell ⟨w.heap.size, 0, none⟩ (.int .u64 0)).setCell ⟨w.heap.size, 1, none⟩ (.slice none 0 0))) := by
      have h1 : Below w.heap.size w (W0.drewN q) := ⟨hb0.os, hb0.tape, hb0.output, hb0.size, hb0.block⟩
      exact (h1.setCell (p := ⟨w.heap.size, 0, none⟩) (Nat.le_refl _) _).setCell (p := ⟨w.heap.size, 1, none⟩) (Nat.le_refl _) _
    clear hs0 hb0 hA0 HW HRP
    go_wp2
    exact bodyPost_ret (v := .tuple #[.agg #[.int .u64 ((0 : Nat) : Int), .slice none 0 0], .iface 30 (.int .i64 7)]) (by simp [results, Tryd.results14, go_sem, a0, a1]) rfl ⟨_, _, rfl, ⟨rfl, rfl, rfl⟩, HF.out⟩
  · have HR2 := hid (HRP.out rfl q)
    clear hs0 hb0 hA0 HRP
    go_wp2_with fail
    refine HR2.out.mono ?_
    rintro e w2 ⟨s, v9, rfl, hCp, hb2⟩
    obtain ⟨sa, sc, hs, _⟩ := hCp.buf.shape
    subst hs
    obtain ⟨hs0, hb0, hA0⟩ := HW.out
    have hA2 := hA0.of_heap (hb2.block _ (by omega))
    have a0 : w2.cell? ⟨w.heap.size, 0, none⟩ = some (.int .u64 0) := hA2.cell 0
    have a1 : w2.cell? ⟨w.heap.size, 1, none⟩ = some (.slice none 0 0) := hA2.cell 1
    have z0 := hA2.frozen 0
    have z1 := hA2.frozen 1
    have HF : Hid (∀ x y : Value, DecR true n fs (w.heap.size + 1) ((w2.setCell ⟨w.heap.size, 0, none⟩ x).setCell ⟨w.heap.size, 1, none⟩ y) (.slice sa fs.length sc) .nilIface ∧ Below w.heap.size w ((w2.setCell ⟨w.heap.size, 0, none⟩ x).setCell ⟨w.heap.size, 1, none⟩ y)) := fun x y => by
      refine ⟨⟨rfl, v9, (hCp.of (fun b h0 _ => ?_)).mono (by omega)⟩, ((hb0.trans (hb2.mono (by omega))).setCell (p := ⟨w.heap.size, 0, none⟩) (Nat.le_refl _) _).setCell (p := ⟨w.heap.size, 1, none⟩) (Nat.le_refl _) _⟩
      rw [Below.heap_setCell _ _ _ _ (by simp; omega), Below.heap_setCell _ _ _ _ (by simp; omega)]
    clear hs0 hb0 hA0 HW hCp hb2 hA2
    go_wp2
    obtain ⟨f1, f2⟩ := HF.out (.int .u64 (n : Int)) (.slice sa fs.length sc)
    exact bodyPost_ret (v := .tuple #[.agg #[.int .u64 (n : Int), .slice sa fs.length sc], .nilIface]) (by simp [results, Tryd.results14, go_sem, a0, a1]) rfl ⟨_, _, rfl, f1, f2⟩

set_option maxHeartbeats 1000000 in
set_option maxRecDepth 100000 in
theorem mwDecode_any (ok : Bool) (n : Nat) (fs : List Fr) (yb yo cap : Nat) (l : List UInt8) (w : World) (hD : DecP ok n fs l) (hb : BytesAt w (some ⟨yb, yo, none⟩) l) (hlen : l.length ≤ 1000000000) (hroom : l.length ≤ cap) (hcap : cap ≤ 9223372036854775807) (hyb : yb < w.heap.size) (hT : TabAt w) (h2 : 2 ≤ w.heap.size) :
    Calls Tryd.prog 11 #[.slice (some ⟨yb, yo, none⟩) l.length cap] w fun e w' => ∃ s err, e = .returned (.tuple #[.agg #[.int .u64 (n : Int), s], err]) ∧ DecR ok n fs (w.heap.size + 1) w' s err ∧ Below w.heap.size w w' := by
  obtain ⟨W0, hW0⟩ : ∃ W0, W0 = w.alloc (.cells #[.int .u64 0, .slice none 0 0] 25) := ⟨_, rfl⟩
  have hs0 : W0.heap.size = w.heap.size + 1 := by rw [hW0]; simp
  have hb0 : Below w.heap.size w W0 := by rw [hW0]; exact (Below.refl _ w).alloc (Nat.le_refl _) _
  have hA0 : Blk W0 w.heap.size 25 [.int .u64 0, .slice none 0 0] := by rw [hW0]; exact Blk.new w 25 _
  have HC := hid (wireDecode_any ok n fs yb yo cap l W0 hD (hb.of (fun x hx => by simp at hx; subst hx; exact hb0.block _ hyb)) hlen hroom hcap (by omega) (hT.below hb0 h2) (by omega))
  have HW := hid (And.intro hs0 (And.intro hb0 hA0))
  clear hD hb hs0 hb0 hA0 hT
  generalize l.length = L at *
  go_enter Tryd.func11, Tryd.ntmps11
  go_wp2_with fail
  rw [← hW0]
  clear hW0
  refine HC.out.mono ?_
  rintro e w2 ⟨s, err, rfl, hR, hb2⟩
  obtain ⟨sa, sn, sc, hs⟩ := hR.shape
  subst hs
  obtain ⟨hs0, hb0, hA0⟩ := HW.out
  have hA2 := hA0.of_heap (hb2.block _ (by omega))
  have a0 : w2.cell? ⟨w.heap.size, 0, none⟩ = some (.int .u64 0) := hA2.cell 0
  have a1 : w2.cell? ⟨w.heap.size, 1, none⟩ = some (.slice none 0 0) := hA2.cell 1
  have z0 := hA2.frozen 0
  have z1 := hA2.frozen 1
  have HF : Hid (∀ x y : Value, DecR ok n fs (w.heap.size + 1) ((w2.setCell ⟨w.heap.size, 0, none⟩ x).setCell ⟨w.heap.size, 1, none⟩ y) (.slice sa sn sc) err ∧ Below w.heap.size w ((w2.setCell ⟨w.heap.size, 0, none⟩ x).setCell ⟨w.heap.size, 1, none⟩ y)) := fun x y => by
    refine ⟨hR.of (by omega) (fun b h0 _ => ?_), ((hb0.trans (hb2.mono (by omega))).setCell (p := ⟨w.heap.size, 0, none⟩) (Nat.le_refl _) _).setCell (p := ⟨w.heap.size, 1, none⟩) (Nat.le_refl _) _⟩
    rw [Below.heap_setCell _ _ _ _ (by simp; omega), Below.heap_setCell _ _ _ _ (by simp; omega)]
  clear hs0 hb0 hA0 HW hR hb2 hA2
  go_wp2
  obtain ⟨f1, f2⟩ := HF.out (.int .u64 (n : Int)) (.slice sa sn sc)
  exact bodyPost_ret (v := .tuple #[.agg #[.int .u64 (n : Int), .slice sa sn sc], err]) (by simp [results, Tryd.results11, go_sem, a0, a1]) rfl ⟨_, _, rfl, f1, f2⟩

end Go.Proofs.YtphbledmopchnaaDoor
