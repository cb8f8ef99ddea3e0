/-
  The closures that read parts of frames.
-/
import Derived.Test.YtphbledmopchnaaDoorRdNum
import Derived.Laws.IdiomStrings
namespace Go.Proofs.YtphbledmopchnaaDoor
open Go.RowKit Go.Lib Go.Shelf Mm

/-- A frame that is being read: the reader, the frame's cells, its ranges. -/
structure RP (B0 B1 rb fb yb yo cap : Nat) (body : List UInt8) (w : World) (p bg : Nat) (cur : Fr) (v9 : Value) : Prop where
  rd : RdAt w rb yb yo cap body p bg
  frm : Blk w fb 28 (fcells cur v9)
  rng : GBuf 50 2 w v9 cur.ranges.length (rcells cur.ranges)
  own : Own B1 v9
  h01 : B0 ≤ B1
  hB : B1 ≤ w.heap.size
  rbl : rb < B0
  fbl : fb < B0
  ybl : yb < B0
  rf : rb ≠ fb
  fy : fb ≠ yb

/-- Ahead of B1 nothing but rb and fb turns. -/
structure St2 (B1 rb fb : Nat) (w w' : World) : Prop where
  os : w'.os = w.os
  tape : w'.tape = w.tape
  output : w'.output = w.output
  size : w.heap.size ≤ w'.heap.size
  block : ∀ k, k < B1 → k ≠ rb → k ≠ fb → w'.heap[k]? = w.heap[k]?
theorem St2.refl (B1 rb fb : Nat) (w : World) : St2 B1 rb fb w w := ⟨rfl, rfl, rfl, Nat.le_refl _, fun _ _ _ _ => rfl⟩
theorem St2.trans {B1 rb fb : Nat} {a b c : World} (h : St2 B1 rb fb a b) (k : St2 B1 rb fb b c) : St2 B1 rb fb a c :=
  ⟨k.os.trans h.os, k.tape.trans h.tape, k.output.trans h.output, Nat.le_trans h.size k.size, fun i h0 h1 h2 => (k.block i h0 h1 h2).trans (h.block i h0 h1 h2)⟩
theorem St1.two {rb : Nat} {w w' : World} (h : St1 rb w w') (B1 fb : Nat) : St2 B1 rb fb w w' := ⟨h.os, h.tape, h.output, Nat.le_of_eq h.size.symm, fun k _ h1 _ => h.block k h1⟩
theorem St2.setF (B1 rb fb o : Nat) (v : Value) (w : World) : St2 B1 rb fb w (w.setCell ⟨fb, o, none⟩ v) := ⟨rfl, rfl, rfl, by simp, fun k _ _ h => Below.heap_setCell _ _ _ _ h⟩
theorem St2.keep {B0 B1 rb fb : Nat} {w1 w w' : World} (h : St2 B1 rb fb w w') (hk : Keep B0 B1 w1 w) (hr : rb < B0) (hf : fb < B0) : Keep B0 B1 w1 w' :=
  ⟨Nat.le_trans hk.1 h.size, fun k h0 h1 => (h.block k h1 (by omega) (by omega)).trans (hk.2 k h0 h1)⟩

theorem RP.step {B0 B1 rb fb yb yo cap : Nat} {body : List UInt8} {w w' : World} {p p' bg : Nat} {cur : Fr} {v9 : Value} (h : RP B0 B1 rb fb yb yo cap body w p bg cur v9) (hr : RdAt w' rb yb yo cap body p' bg) (hs : St1 rb w w') : RP B0 B1 rb fb yb yo cap body w' p' bg cur v9 :=
  ⟨hr, h.frm.of_heap (hs.block _ (Ne.symm h.rf)), h.rng.of_heap (fun b hb => hs.block b (by have := h.own b hb; have := h.rbl; have := h.h01; omega)), h.own, h.h01, by rw [hs.size]; exact h.hB, h.rbl, h.fbl, h.ybl, h.rf, h.fy⟩
theorem RP.setF {B0 B1 rb fb yb yo cap : Nat} {body : List UInt8} {w : World} {p bg : Nat} {cur cur' : Fr} {v9 : Value} (h : RP B0 B1 rb fb yb yo cap body w p bg cur v9) (o : Nat) (x : Value) (hc : (fcells cur v9).set o x = fcells cur' v9) (hr : cur'.ranges = cur.ranges) : RP B0 B1 rb fb yb yo cap body (w.setCell ⟨fb, o, none⟩ x) p bg cur' v9 :=
  ⟨h.rd.of (Below.heap_setCell _ _ _ _ h.rf) (Below.heap_setCell _ _ _ _ (Ne.symm h.fy)), by rw [← hc]; exact h.frm.setCell o x, by rw [hr]; exact h.rng.of_heap (fun b hb => Below.heap_setCell _ _ _ _ (by have := h.own b hb; have := h.fbl; have := h.h01; simp; omega)), h.own, h.h01, by simp; exact h.hB, h.rbl, h.fbl, h.ybl, h.rf, h.fy⟩

/-- What a part sets. -/
def setPart (f : Fr) (tag : Nat × Nat) (cur : Fr) : Fr :=
  if tag.1 = 0 then cur else if tag.1 = 1 then { cur with fin := f.fin } else if tag.1 = 2 then { cur with stream := f.stream }
  else if tag.1 = 3 then (if tag.2 = 36 then { cur with offset := f.offset } else if tag.2 = 37 then { cur with reliable := f.reliable } else if tag.2 = 40 then { cur with limit := f.limit } else if tag.2 = 41 then { cur with id := f.id } else { cur with deadline := f.deadline })
  else if tag.1 = 4 then { cur with data := f.data } else { cur with ranges := f.ranges }

/-- A function value that reads what sp is the bytes of. -/
def Rd (B0 B1 : Nat) (w1 : World) (fv : Value) (sp : List UInt8) (upd : Fr → Fr) (rb fb yb yo cap : Nat) (body : List UInt8) (bg : Nat) : Prop :=
  ∃ g cb, fv = .func (.func g) #[] cb ∧ (∀ args w, (callFunc g args).run Tryd.prog w = .ok (.enter g args) w) ∧
    ∀ w p cur v9 rest, Keep B0 B1 w1 w → RP B0 B1 rb fb yb yo cap body w p bg cur v9 → cur.ranges = [] → body.drop p = sp ++ rest →
      Calls Tryd.prog g (#[.pointer (some ⟨rb, 0, none⟩), .pointer (some ⟨fb, 0, none⟩)] ++ cb) w fun e w' => e = .returned (.tuple #[]) ∧ ∃ v9', RP B0 B1 rb fb yb yo cap body w' (p + sp.length) bg (upd cur) v9' ∧ St2 B1 rb fb w w'

theorem drop_byte {body rest : List UInt8} {p : Nat} {x : UInt8} (h : body.drop p = [x] ++ rest) : ∃ hp : p < body.length, body[p] = x := by
  have hl : (body.drop p).length = 1 + rest.length := by rw [h]; simp; omega
  rw [List.length_drop] at hl
  have hp : p < body.length := by omega
  refine ⟨hp, ?_⟩
  rw [List.drop_eq_getElem_cons hp] at h
  exact (List.cons.inj h).1
theorem drop_next {body a b : List UInt8} {p : Nat} (h : body.drop p = a ++ b) : body.drop (p + a.length) = b := by
  rw [← List.drop_drop, h, List.drop_left']
  rfl

set_option maxHeartbeats 1000000 in
theorem first_rd {B0 B1 : Nat} {w1 : World} (x : UInt8) (rb fb yb yo cap : Nat) (body : List UInt8) (bg : Nat) :
    Rd B0 B1 w1 (.func (.func 56) #[] #[]) [x] (fun cur => cur) rb fb yb yo cap body bg := by
  refine ⟨56, _, rfl, enters_of Tryd.func56 (by kernel_rfl) rfl, fun w p cur v9 rest _ hP _ hb => ?_⟩
  obtain ⟨hp, hx⟩ := drop_byte hb
  have HB := hid (byte_any rb yb yo cap body p bg w hP.rd hp)
  have HP := hid hP
  clear hP hb
  go_enter Tryd.func56, Tryd.ntmps56
  go_wp2_with fail
  refine HB.out.mono ?_
  rintro e w2 ⟨rfl, hR, hS⟩
  have HF := hid (And.intro (HP.out.step hR hS) (hS.two B1 fb))
  clear hR hS
  go_wp2
  go_end0
  exact ⟨rfl, v9, HF.out⟩

set_option maxHeartbeats 1000000 in
theorem firstData_rd {B0 B1 : Nat} {w1 : World} (fin : Bool) (rb fb yb yo cap : Nat) (body : List UInt8) (bg : Nat) :
    Rd B0 B1 w1 (.func (.func 67) #[] #[]) [if fin then 9 else 8] (fun cur => { cur with fin := fin }) rb fb yb yo cap body bg := by
  refine ⟨67, _, rfl, enters_of Tryd.func67 (by kernel_rfl) rfl, fun w p cur v9 rest _ hP _ hb => ?_⟩
  obtain ⟨hp, hx⟩ := drop_byte hb
  have HB := hid (byte_any rb yb yo cap body p bg w hP.rd hp)
  rw [hx] at HB
  have HP := hid hP
  clear hP hb hx
  cases fin
  · go_enter Tryd.func67, Tryd.ntmps67
    go_wp2_with fail
    refine HB.out.mono ?_
    rintro e w2 ⟨rfl, hR, hS⟩
    have hp2 := HP.out.step hR hS
    have x5 : w2.cell? ⟨fb, 5, none⟩ = some (.bool cur.fin) := hp2.frm.cell 5
    have z5 := hp2.frm.frozen 5
    have HF := hid (And.intro (hp2.setF 5 (.bool false) (cur' := { cur with fin := false }) rfl rfl) ((hS.two B1 fb).trans (St2.setF B1 rb fb 5 (.bool false) w2)))
    clear hR hS hp2
    go_wp2
    go_end0
    exact ⟨rfl, v9, HF.out⟩
  · go_enter Tryd.func67, Tryd.ntmps67
    go_wp2_with fail
    refine HB.out.mono ?_
    rintro e w2 ⟨rfl, hR, hS⟩
    have hp2 := HP.out.step hR hS
    have x5 : w2.cell? ⟨fb, 5, none⟩ = some (.bool cur.fin) := hp2.frm.cell 5
    have z5 := hp2.frm.frozen 5
    have HF := hid (And.intro (hp2.setF 5 (.bool true) (cur' := { cur with fin := true }) rfl rfl) ((hS.two B1 fb).trans (St2.setF B1 rb fb 5 (.bool true) w2)))
    clear hR hS hp2
    go_wp2
    go_end0
    exact ⟨rfl, v9, HF.out⟩

set_option maxHeartbeats 1000000 in
theorem stream_rd {B0 B1 : Nat} {w1 : World} (s : Int) (hs0 : 0 ≤ s) (hs8 : s < 8) (rb fb yb yo cap : Nat) (body : List UInt8) (bg : Nat) :
    Rd B0 B1 w1 (.func (.func 63) #[] #[]) (Num.bytes s.toNat) (fun cur => { cur with stream := s }) rb fb yb yo cap body bg := by
  refine ⟨63, _, rfl, enters_of Tryd.func63 (by kernel_rfl) rfl, fun w p cur v9 rest _ hP _ hb => ?_⟩
  obtain ⟨n, rfl⟩ := Int.eq_ofNat_of_zero_le hs0
  rw [Int.toNat_natCast] at hb ⊢
  have HB := hid (number_read rb yb yo cap body p bg n rest w hP.rd (by omega) hb)
  have HP := hid hP
  have g1 : ¬ ((8 : Int) ≤ (n : Int)) := by omega
  have g2 : (n : Int) < 8 := by omega
  clear hP hb hs0 hs8
  go_enter Tryd.func63, Tryd.ntmps63
  go_wp2_with fail
  refine HB.out.mono ?_
  rintro e w2 ⟨rfl, hR, hS⟩
  have hp2 := HP.out.step hR hS
  have x1 : w2.cell? ⟨fb, 1, none⟩ = some (.int .i64 cur.stream) := hp2.frm.cell 1
  have z1 := hp2.frm.frozen 1
  have HF := hid (And.intro (hp2.setF 1 (.int .i64 (n : Int)) (cur' := { cur with stream := (n : Int) }) rfl rfl) ((hS.two B1 fb).trans (St2.setF B1 rb fb 1 (.int .i64 (n : Int)) w2)))
  clear hR hS hp2
  go_wp2
  go_end0
  exact ⟨rfl, v9, HF.out⟩

set_option maxHeartbeats 1000000 in
theorem number_rd {B0 B1 : Nat} {w1 : World} (pb pf i n : Nat) (upd : Fr → Fr) (rb fb yb yo cap : Nat) (body : List UInt8) (bg : Nat) (h0 : B0 ≤ pb) (h1 : pb < B1) (hx : w1.cell? ⟨pb, 0, none⟩ = some (.func (.func pf) #[] #[]))
    (he : ∀ args w, (callFunc pf args).run Tryd.prog w = .ok (.enter pf args) w) (hpf : ∀ b w, Calls Tryd.prog pf #[.pointer (some ⟨b, 0, none⟩)] w fun e w' => e = .returned (.pointer (some ⟨b, i, none⟩)) ∧ w' = w)
    (hc : ∀ cur v9, ∃ old : Int, (fcells cur v9)[i]? = some (.int .u64 old)) (hu : ∀ cur v9, (fcells cur v9).set i (.int .u64 (n : Int)) = fcells (upd cur) v9 ∧ (upd cur).ranges = cur.ranges) (hn : n ≤ M62) :
    Rd B0 B1 w1 (.func (.func 65) #[] #[.pointer (some ⟨pb, 0, none⟩)]) (Num.bytes n) upd rb fb yb yo cap body bg := by
  refine ⟨65, _, rfl, enters_of Tryd.func65 (by kernel_rfl) rfl, fun w p cur v9 rest hK hP _ hb => ?_⟩
  have cc := hK.cell h0 h1 hx
  have HB := hid (number_read rb yb yo cap body p bg n rest w hP.rd (by unfold M62 at hn; omega) hb)
  have HP := hid hP
  have HPF := hid (hpf fb w)
  have HU := hid (hu cur v9)
  obtain ⟨old, hold⟩ := hc cur v9
  have HOLD := hid hold
  clear hP hb hK hpf hc hu hn hx hold
  go_enter Tryd.func65, Tryd.ntmps65
  go_wp2_with fail
  refine HPF.out.mono ?_
  rintro e w' ⟨rfl, hw'⟩
  subst hw'
  go_wp2_with fail
  refine HB.out.mono ?_
  rintro e w2 ⟨rfl, hR, hS⟩
  have hp2 := HP.out.step hR hS
  have x1 := hp2.frm.cell i
  rw [HOLD.out] at x1
  have z1 := hp2.frm.frozen i
  have HF := hid (And.intro (hp2.setF i (.int .u64 (n : Int)) HU.out.1 HU.out.2) ((hS.two B1 fb).trans (St2.setF B1 rb fb i (.int .u64 (n : Int)) w2)))
  clear hR hS hp2
  go_wp2
  go_end0
  exact ⟨rfl, v9, HF.out⟩

theorem ba_eq (d : ByteArray) : (⟨d.data.toList.toArray⟩ : ByteArray) = d := by
  cases d; simp

set_option maxHeartbeats 1000000 in
theorem text_rd {B0 B1 : Nat} {w1 : World} (d : ByteArray) (hd : d.size ≤ 1000000000) (rb fb yb yo cap : Nat) (body : List UInt8) (bg : Nat) :
    Rd B0 B1 w1 (.func (.func 69) #[] #[]) (Num.bytes d.size ++ d.data.toList) (fun cur => { cur with data := d }) rb fb yb yo cap body bg := by
  refine ⟨69, _, rfl, enters_of Tryd.func69 (by kernel_rfl) rfl, fun w p cur v9 rest _ hP _ hb => ?_⟩
  rw [List.append_assoc] at hb
  have hb2 := drop_next hb
  have hdl : d.data.toList.length = d.size := by rw [Array.length_toList]; rfl
  have hlen : p + (Num.bytes d.size).length + d.size ≤ body.length := by
    have h1 : (body.drop (p + (Num.bytes d.size).length)).length = d.size + rest.length := by rw [hb2, List.length_append, hdl]
    rw [List.length_drop] at h1
    have h2 : (body.drop p).length = (Num.bytes d.size).length + (d.size + rest.length) := by rw [hb, List.length_append, List.length_append, hdl]
    rw [List.length_drop] at h2
    have h3 := hP.rd.le
    have h4 : 0 < (Num.bytes d.size).length := by rw [Num.bytes_length]; exact Nat.pow_pos (by decide)
    omega
  have HB := hid (number_read rb yb yo cap body p bg d.size _ w hP.rd (by omega) hb)
  have HP := hid hP
  have HLEN := hid hlen
  have hby : ∀ j (hj : j < d.size), body[p + (Num.bytes d.size).length + j]? = some (d.data.toList[j]'(by omega)) := fun j hj => by
    have : (body.drop (p + (Num.bytes d.size).length))[j]? = (d.data.toList ++ rest)[j]? := by rw [hb2]
    rw [List.getElem?_drop, List.getElem?_append_left (by omega)] at this
    rw [this]
    exact List.getElem?_eq_getElem _
  have hcv : ∀ w', RdAt w' rb yb yo cap body (p + (Num.bytes d.size).length + d.size) bg → ∀ c, (convert 29 9 (.slice (some ⟨yb, yo + (p + (Num.bytes d.size).length), none⟩) d.size c)).run Tryd.prog w' = .ok (.string d) w' := fun w' h' c => by
    have := run_convert_bytes_back (P := Tryd.prog) w' 29 9 5 ⟨yb, yo + (p + (Num.bytes d.size).length), none⟩ c d.data.toList u29 (by kernel_rfl) u9 (fun j hj => by
      rw [Addr.add_lit, Nat.add_assoc]
      have h1 := hby j (by omega)
      have hjl : p + (Num.bytes d.size).length + j < body.length := by omega
      rw [h'.byte _ hjl]
      rw [List.getElem?_eq_getElem hjl] at h1
      rw [Option.some.inj h1])
    rw [hdl, ba_eq] at this
    exact this
  have HCV := hid hcv
  have HSPL : Hid ((Num.bytes d.size ++ d.data.toList).length = (Num.bytes d.size).length + d.size) := by unfold Hid; rw [List.length_append, hdl]
  have g1 : (d.size : Int) ≤ 1000000000 := by omega
  clear hP hb hb2 hlen hby hcv hdl
  generalize (Num.bytes d.size).length = L at *
  generalize hsz : d.size = n at *
  go_enter Tryd.func69, Tryd.ntmps69
  go_wp2_with fail
  refine HB.out.mono ?_
  rintro e w2 ⟨rfl, hR, hS⟩
  have HT := hid (take_any rb yb yo cap body (p + L) bg n w2 hR HLEN.out)
  have HP2 := hid (HP.out.step hR hS)
  have HS2 := hid (hS.two B1 fb)
  clear hR hS
  go_wp2_with fail
  refine HT.out.mono ?_
  rintro e w3 ⟨rfl, hR, hS⟩
  have hp3 := HP2.out.step hR hS
  have cv := HCV.out w3 hR
  have x8 : w3.cell? ⟨fb, 8, none⟩ = some (.string cur.data) := hp3.frm.cell 8
  have z8 := hp3.frm.frozen 8
  have HF : Hid (RP B0 B1 rb fb yb yo cap body (w3.setCell ⟨fb, 8, none⟩ (.string d)) (p + (L + n)) bg { cur with data := d } v9 ∧ St2 B1 rb fb w (w3.setCell ⟨fb, 8, none⟩ (.string d))) := by
    rw [← Nat.add_assoc]
    exact And.intro (hp3.setF 8 (.string d) rfl rfl) ((HS2.out.trans (hS.two B1 fb)).trans (St2.setF B1 rb fb 8 (.string d) w3))
  clear hR hS hp3
  go_wp2
  go_end0
  rw [HSPL.out]
  exact ⟨rfl, v9, HF.out⟩

end Go.Proofs.YtphbledmopchnaaDoor
