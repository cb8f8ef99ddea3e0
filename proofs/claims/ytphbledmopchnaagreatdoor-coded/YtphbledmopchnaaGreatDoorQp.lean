import Derived.Test.YtphbledmopchnaaGreatDoorQo
import Derived.Test.YtphbledmopchnaaGreatDoorQg
import Derived.Test.YtphbledmopchnaaGreatDoorQh
/-
  The reader: a frame, of any bytes.
-/
namespace Go.Proofs.YtphbledmopchnaaGreatDoor
open Go.RowKit Go.Lib Go.Shelf Mm

set_option maxHeartbeats 1000000 in
theorem kindOf_any (X : Nat) (w : World) : Calls Tryz.prog 215 #[.int .u8 (X : Int)] w fun e w' => e = .returned (.int .i64 (kindB X)) ∧ w' = w := by
  by_cases n1 : X = 1
  · subst n1; exact kindOf_1 w
  by_cases n2 : X = 2
  · subst n2; exact kindOf_2 w
  by_cases n36 : X = 36
  · subst n36; exact kindOf_36 w
  by_cases n8 : X = 8
  · subst n8; exact kindOf_8 w
  by_cases n9 : X = 9
  · subst n9; exact kindOf_9 w
  by_cases n16 : X = 16
  · subst n16; exact kindOf_16 w
  by_cases n17 : X = 17
  · subst n17; exact kindOf_17 w
  by_cases n48 : X = 48
  · subst n48; exact kindOf_48 w
  by_cases n28 : X = 28
  · subst n28; exact kindOf_28 w
  have hk : kindB X = 0 := by
    unfold kindB
    rw [if_neg n1, if_neg n2, if_neg n36, if_neg n8, if_neg n9, if_neg n16, if_neg n17, if_neg n48, if_neg n28]
  rw [hk]
  have e1 : ((X : Int) == 1) = false := by simp; omega
  have e2 : ((X : Int) == 2) = false := by simp; omega
  have e36 : ((X : Int) == 36) = false := by simp; omega
  have e8 : ((X : Int) == 8) = false := by simp; omega
  have e9 : ((X : Int) == 9) = false := by simp; omega
  have e16 : ((X : Int) == 16) = false := by simp; omega
  have e17 : ((X : Int) == 17) = false := by simp; omega
  have e48 : ((X : Int) == 48) = false := by simp; omega
  have e28 : ((X : Int) == 28) = false := by simp; omega
  clear n1 n2 n36 n8 n9 n16 n17 n48 n28 hk
  go_enter Tryz.func215, Tryz.ntmps215
  go_wp2
  go_ret
  exact ⟨rfl, rfl⟩

theorem kindB_in (X : Nat) : kindB X = 0 ∨ 1 ≤ kindB X ∧ kindB X ≤ 8 := by
  unfold kindB
  repeat' split
  all_goals omega

theorem rgGo_len {l : List UInt8} : ∀ (m p lo : Nat) (acc rs : List (Nat × Nat)) (q : Nat), rgGo l m p lo acc = some (rs, q) → acc.length ≤ p → p ≤ l.length → lo < 4611686018427387904 → (∀ j, j < acc.length → (acc.getD j (0, 0)).1 < 18446744073709551616 ∧ (acc.getD j (0, 0)).2 < 18446744073709551616) →
    rs.length ≤ l.length ∧ ∀ j, j < rs.length → (rs.getD j (0, 0)).1 < 18446744073709551616 ∧ (rs.getD j (0, 0)).2 < 18446744073709551616
  | 0, p, lo, acc, rs, q, h, h1, h2, _, h4 => by
    simp only [rgGo, Option.some.injEq, Prod.mk.injEq] at h
    obtain ⟨rfl, rfl⟩ := h
    exact ⟨by omega, h4⟩
  | m + 1, p, lo, acc, rs, q, h, h1, h2, h3, h4 => by
    by_cases hb : rgBad l p lo = true
    · rw [rgGo_bad hb] at h; cases h
    · have hb' : rgBad l p lo = false := by simpa using hb
      rw [rgGo_ok hb'] at h
      obtain ⟨b1, b2, _, _, _⟩ := rgBad_ok hb'
      have p1 := rP_lt l p b1
      have p2 := rP_lt l (rP l p) b2
      have q1 := rP_le l p h2
      have q2 := rP_le l (rP l p) q1.1
      refine rgGo_len m _ _ _ rs q h (by rw [List.length_append]; simp; omega) q2.1 (by omega) (fun j hj => ?_)
      rw [List.length_append] at hj
      by_cases hj' : j < acc.length
      · have : (acc ++ [(lo - 2 - rV l p - rV l (rP l p), lo - 2 - rV l p)]).getD j (0, 0) = acc.getD j (0, 0) := by
          rw [List.getD_eq_getElem?_getD, List.getElem?_append_left hj', ← List.getD_eq_getElem?_getD]
        rw [this]; exact h4 j hj'
      · have hje : j = acc.length := by simp at hj; omega
        have : (acc ++ [(lo - 2 - rV l p - rV l (rP l p), lo - 2 - rV l p)]).getD j (0, 0) = (lo - 2 - rV l p - rV l (rP l p), lo - 2 - rV l p) := by
          rw [List.getD_eq_getElem?_getD, List.getElem?_append_right (by omega), hje, Nat.sub_self]; rfl
        rw [this]
        exact ⟨by show _ < _; simp only; omega, by show _ < _; simp only; omega⟩

theorem rgAll_len {l : List UInt8} {p : Nat} {rs : List (Nat × Nat)} {q : Nat} (h : rgAll l p = some (rs, q)) (hp : p ≤ l.length) : rs.length ≤ l.length ∧ ∀ j, j < rs.length → (rs.getD j (0, 0)).1 < 18446744073709551616 ∧ (rs.getD j (0, 0)).2 < 18446744073709551616 := by
  unfold rgAll at h
  split at h
  · cases h
  · rename_i hc
    have hc' : (rB l p || rB l (rP l p) || rB l (rP l (rP l p)) || decide (rV l p < rV l (rP l (rP l p)))) = false := by simpa using hc
    rw [Bool.or_eq_false_iff, Bool.or_eq_false_iff, Bool.or_eq_false_iff] at hc'
    obtain ⟨⟨⟨b1, b2⟩, b3⟩, _⟩ := hc'
    have q1 := rP_le l p hp
    have q2 := rP_le l _ q1.1
    have q3 := rP_le l _ q2.1
    have p3 := rP_lt l _ b3
    have v1 := rV_lt l p
    refine rgGo_len _ _ _ _ rs q h (by show 1 ≤ _; omega) q3.1 (by omega) (fun j hj => ?_)
    obtain rfl : j = 0 := by simp at hj; omega
    refine ⟨?_, ?_⟩
    · show rV l p - rV l (rP l (rP l p)) < 18446744073709551616; omega
    · show rV l p < 18446744073709551616; omega

theorem tP_in (l : List UInt8) (p : Nat) (h : p ≤ l.length) : tP l p false ≤ l.length := by
  have h1 := rP_le l p h
  unfold tP
  split
  · exact h1.1
  · rename_i hc
    have : tB l p false = false := by simpa using hc
    unfold tB at this
    rw [Bool.or_eq_false_iff] at this
    have := of_decide_eq_false this.2
    omega

/-- A part that is read leaves numbers that fit. -/
theorem rdPart_ok {l : List UInt8} (hl : l.length ≤ 1000000000) {tag : Nat × Nat} {p q : Nat} {cur c : Fr} (hr : rdPart l tag p cur = some (c, q)) (ok : FrOk cur) (hp : p ≤ l.length) (h5 : tag.1 ≤ 4 → q ≤ l.length → True) : FrOk c := by
  obtain ⟨t, x⟩ := tag
  have hv := rV_lt l p
  unfold rdPart at hr
  simp only at hr
  split at hr
  · split at hr
    · simp only [Option.some.injEq, Prod.mk.injEq] at hr; rw [← hr.1]; exact ok
    · cases hr
  split at hr
  · split at hr
    · simp only [Option.some.injEq, Prod.mk.injEq] at hr; rw [← hr.1]; exact ⟨ok.rlen, ok.dlen, ok.k0, ok.s0, ok.u0, ok.r0⟩
    · cases hr
  split at hr
  · split at hr
    · cases hr
    · simp only [Option.some.injEq, Prod.mk.injEq] at hr; rw [← hr.1]
      have hs := sV_lt l p
      exact ⟨ok.rlen, ok.dlen, ok.k0, ⟨by show _ ≤ ((sV l p : Nat) : Int); omega, by show ((sV l p : Nat) : Int) ≤ _; omega⟩, ok.u0, ok.r0⟩
  split at hr
  · split at hr
    · cases hr
    · simp only [Option.some.injEq, Prod.mk.injEq] at hr; rw [← hr.1]
      obtain ⟨u1, u2, u3, u4, u5⟩ := ok.u0
      unfold setNum
      split
      · exact ⟨ok.rlen, ok.dlen, ok.k0, ok.s0, ⟨by show rV l p < _; omega, u2, u3, u4, u5⟩, ok.r0⟩
      split
      · exact ⟨ok.rlen, ok.dlen, ok.k0, ok.s0, ⟨u1, by show rV l p < _; omega, u3, u4, u5⟩, ok.r0⟩
      split
      · exact ⟨ok.rlen, ok.dlen, ok.k0, ok.s0, ⟨u1, u2, by show rV l p < _; omega, u4, u5⟩, ok.r0⟩
      split
      · exact ⟨ok.rlen, ok.dlen, ok.k0, ok.s0, ⟨u1, u2, u3, by show rV l p < _; omega, u5⟩, ok.r0⟩
      · exact ⟨ok.rlen, ok.dlen, ok.k0, ok.s0, ⟨u1, u2, u3, u4, by show rV l p < _; omega⟩, ok.r0⟩
  split at hr
  · split at hr
    · cases hr
    · simp only [Option.some.injEq, Prod.mk.injEq] at hr; rw [← hr.1]
      exact ⟨ok.rlen, txt_le l p false hl, ok.k0, ok.s0, ok.u0, ok.r0⟩
  · split at hr
    · cases hr
    · rename_i rs q' hg
      simp only [Option.some.injEq, Prod.mk.injEq] at hr; rw [← hr.1]
      obtain ⟨g1, g2⟩ := rgAll_len hg hp
      exact ⟨by show rs.length ≤ _; omega, ok.dlen, ok.k0, ok.s0, ok.u0, g2⟩

theorem rdPart_le {l : List UInt8} {tag : Nat × Nat} {p q : Nat} {cur c : Fr} (hr : rdPart l tag p cur = some (c, q)) (hp : p ≤ l.length) (h4 : tag.1 ≤ 4) : q ≤ l.length := by
  obtain ⟨t, x⟩ := tag
  have hv := rP_le l p hp
  have ht := tP_in l p hp
  unfold rdPart at hr
  simp only at hr h4
  repeat' split at hr
  all_goals first
    | (cases hr; done)
    | omega
    | (simp only [Option.some.injEq, Prod.mk.injEq] at hr; omega)

theorem rdParts_ok {l : List UInt8} (hl : l.length ≤ 1000000000) : ∀ (ts : List (Nat × Nat)) (p q : Nat) (cur c : Fr), (∀ j, j + 1 < ts.length → (ts.getD j (0, 0)).1 ≤ 4) → rdParts l ts p cur = some (c, q) → FrOk cur → p ≤ l.length → FrOk c
  | [], p, q, cur, c, _, h, ok, _ => by
    simp only [rdParts, Option.some.injEq, Prod.mk.injEq] at h
    rw [← h.1]; exact ok
  | t :: ts, p, q, cur, c, ht, h, ok, hp => by
    rw [rdParts_cons] at h
    cases hr : rdPart l t p cur with
    | none => rw [hr] at h; cases h
    | some x =>
      obtain ⟨c1, q1⟩ := x
      rw [hr] at h
      have ok1 := rdPart_ok hl hr ok hp (fun _ _ => trivial)
      cases ts with
      | nil =>
        simp only [rdParts, Option.some.injEq, Prod.mk.injEq] at h
        rw [← h.1]; exact ok1
      | cons t2 ts2 =>
        have h4 : t.1 ≤ 4 := ht 0 (by simp)
        exact rdParts_ok hl (t2 :: ts2) q1 q c1 c (fun j hj => by
          have := ht (j + 1) (by simp at hj ⊢; omega)
          simpa using this) h ok1 (rdPart_le hr hp h4)

theorem frKind_ok (K : Int) (h : K = 0 ∨ 1 ≤ K ∧ K ≤ 8) : FrOk (frKind K) := by
  have z : (0 : Nat) < 18446744073709551616 := by decide
  exact ⟨Nat.zero_le _, Nat.zero_le _, ⟨by show _ ≤ K; omega, by show K ≤ _; omega⟩, ⟨(by decide : (-9223372036854775808 : Int) ≤ 0), (by decide : (0 : Int) ≤ 9223372036854775807)⟩, ⟨z, z, z, z, z⟩, fun j hj => absurd hj (Nat.not_lt_zero _)⟩

/-- What frame does. -/
def FrX (rb yb yo cap : Nat) (body : List UInt8) (p : Nat) (w : World) (R : Option (Fr × Nat)) (e : Ending) (w' : World) : Prop :=
  (∃ f q v9, R = some (f, q) ∧ FrOk f ∧ e = .returned (.agg (fcells f v9).toArray) ∧ GBuf 170 2 w' v9 f.ranges.length (rcells f.ranges) ∧ Own (w.heap.size + 1) v9 ∧ RdAt w' rb yb yo cap body q p ∧ St2 w.heap.size rb rb w w') ∨ (R = none ∧ Threw w.heap.size rb rb p w e w')

set_option maxHeartbeats 4000000 in
set_option maxRecDepth 100000 in
theorem frame_x (rb yb yo cap : Nat) (body : List UInt8) (p bg : Nat) (w : World) (h : RdAt w rb yb yo cap body p bg) (hbl : body.length ≤ 1000000000) (hp : p < body.length) (hrb : rb < w.heap.size) (hyb : yb < w.heap.size) :
    Calls Tryz.prog 164 #[.pointer (some ⟨rb, 0, none⟩)] w (FrX rb yb yo cap body p w (rdFrame body p)) := by
  have hg : body.getD p 0 = body[p] := by rw [List.getD_eq_getElem?_getD, List.getElem?_eq_getElem hp]; rfl
  have hby := h.byte p hp
  have HRF : Hid (rdFrame body p = if kindB (body[p]).toNat = 0 then none else sndO (rdParts body (tagsOf (kindB (body[p]).toNat)) p (frKind (kindB (body[p]).toNat)))) := by unfold Hid rdFrame; rw [hg]
  have HBX := hid (fun W (hR : RdAt W rb yb yo cap body p p) => hR.byte p hp)
  clear hg
  generalize (body[p]).toNat = X at hby HRF HBX
  have HK := hid (fun w => kindOf_any X w)
  have hK8 := kindB_in X
  generalize kindB X = K at HK HRF hK8
  have HK8 := hid hK8
  have HBLN := hid hbl
  clear hK8 hbl
  have x0 : w.cell? ⟨rb, 0, none⟩ = some (.slice (some ⟨yb, yo, none⟩) body.length cap) := h.blk.cell 0
  have x1 : w.cell? ⟨rb, 1, none⟩ = some (.int .i64 (p : Int)) := h.blk.cell 1
  have x2 : w.cell? ⟨rb, 2, none⟩ = some (.int .i64 (bg : Int)) := h.blk.cell 2
  have z2 := h.blk.frozen 2
  have hne := h.ne
  have hp' : (p : Int) < (body.length : Int) := by omega
  have HH := hid h
  clear h
  go_enter Tryz.func164, Tryz.ntmps164
  go_upto_region 2 with fail
  generalize hW : (w.setCell ⟨rb, 2, none⟩ (.int .i64 (p : Int))).alloc (.cells #[.int .i64 0, .int .i64 0, .int .u64 0, .int .u64 0, .int .u64 0, .bool false, .int .u64 0, .int .u64 0, .string ⟨#[]⟩, .slice none 0 0] 65) = W
  have hWs : W.heap.size = w.heap.size + 1 := by rw [← hW]; simp
  have hRd : RdAt W rb yb yo cap body p p := by
    have h := HH.out
    rw [← hW]
    have h2 : RdAt (w.setCell ⟨rb, 2, none⟩ (.int .i64 (p : Int))) rb yb yo cap body p p := ⟨h.blk.setCell 2 _, h.bts.of (fun x hx => by simp at hx; subst hx; exact Below.heap_setCell _ _ _ _ (Ne.symm h.ne)), h.le, h.room, h.cap, h.ne⟩
    exact h2.of (Below.heap_alloc _ _ _ (by simpa using hrb)) (Below.heap_alloc _ _ _ (by simpa using hyb))
  have hRes : Blk W w.heap.size 65 [.int .i64 0, .int .i64 0, .int .u64 0, .int .u64 0, .int .u64 0, .bool false, .int .u64 0, .int .u64 0, .string ⟨#[]⟩, .slice none 0 0] := by
    rw [← hW]
    have := Blk.new (w.setCell ⟨rb, 2, none⟩ (.int .i64 (p : Int))) 65 [.int .i64 0, .int .i64 0, .int .u64 0, .int .u64 0, .int .u64 0, .bool false, .int .u64 0, .int .u64 0, .string ⟨#[]⟩, .slice none 0 0]
    simpa using this
  have hSt : St2 w.heap.size rb rb w W := by
    rw [← hW]
    exact ⟨rfl, rfl, rfl, by simp, fun k hk h1 _ => by rw [Below.heap_alloc _ _ _ (by simpa using hk), Below.heap_setCell _ _ _ _ h1]⟩
  have k0 : W.cell? ⟨rb, 0, none⟩ = some (.slice (some ⟨yb, yo, none⟩) body.length cap) := hRd.blk.cell 0
  have k1 : W.cell? ⟨rb, 1, none⟩ = some (.int .i64 (p : Int)) := hRd.blk.cell 1
  have kb := HBX.out W hRd
  have l1 : rb < W.heap.size := by omega
  have l2 : yb < W.heap.size := by omega
  have HW := hid (And.intro hWs (And.intro hRd (And.intro hRes hSt)))
  clear hW hWs hRd hRes hSt x0 x1 x2 z2 hby HH
  go_cut [3] from 11 to 22 (fun s3 wx => s3 = .pointer (some ⟨W.heap.size, 0, none⟩) ∧ wx.heap = (W.alloc (.cells #[.int .i64 K, .int .i64 0, .int .u64 0, .int .u64 0, .int .u64 0, .bool false, .int .u64 0, .int .u64 0, .string ⟨#[]⟩, .slice none 0 0] 65)).heap ∧ wx.os = W.os ∧ wx.tape = W.tape ∧ wx.output = W.output)
  case first =>
    go_region_with (go_at_call 215; refine (HK.out _).mono ?_; rintro e w4 ⟨rfl, hw4⟩; subst hw4)
    all_goals ((try go_wp2_with fail); go_meet; exact ⟨rfl, rfl, rfl, rfl, rfl⟩)
  case rest =>
    obtain ⟨rfl, hh, ho, ht, hout⟩ := hcut
    obtain ⟨hWs, hRd, hRes, hSt⟩ := HW.out
    have hcs : wc.heap.size = W.heap.size + 1 := by rw [hh]; simp
    have hold : ∀ b, b < W.heap.size → wc.heap[b]? = W.heap[b]? := fun b hb => by rw [hh]; exact Below.heap_alloc _ _ _ hb
    have hF : Blk wc W.heap.size 65 (fcells (frKind K) (.slice none 0 0)) := (Blk.new W 65 (fcells (frKind K) (.slice none 0 0))).of_heap (by rw [hh]; rfl)
    have y0 : wc.cell? ⟨W.heap.size, 0, none⟩ = some (.int .i64 K) := hF.cell 0
    have HIK := hid (isKind_any K wc)
    have hRc : RdAt wc rb yb yo cap body p p := hRd.of (hold _ l1) (hold _ l2)
    have hSc : St2 w.heap.size rb rb w wc := hSt.trans ⟨ho, ht, hout, by omega, fun k hk _ _ => hold k (by omega)⟩
    by_cases hk0 : K = 0
    · rw [decide_eq_false (p := 1 ≤ K ∧ K ≤ 8) (by rw [hk0]; decide)] at HIK
      have HFL := hid (fail_any rb yb yo cap body p p wc hRc)
      have HE : Hid (rdFrame body p = none) := by unfold Hid; rw [HRF.out, if_pos hk0]
      have HSC := hid hSc
      have HSZ : Hid (w.heap.size ≤ wc.heap.size) := by unfold Hid; omega
      clear hh ho ht hout hWs hRd hRes hSt hcs hold hF k0 k1 kb hRc hSc HW HK HBX HRF hk0
      go_wp2_with fail
      refine HIK.out.mono ?_
      rintro e w4 ⟨rfl, hw4⟩
      subst hw4
      go_wp2_with fail
      refine HFL.out.mono ?_
      rintro e w5 hT
      obtain ⟨b, rfl, h2⟩ := (hT.low HSZ.out rb).behind HSC.out
      exact ⟨rfl, .inr ⟨HE.out, b, rfl, h2⟩⟩
    obtain ⟨hk1, hk8⟩ : 1 ≤ K ∧ K ≤ 8 := HK8.out.resolve_left hk0
    rw [decide_eq_true (p := 1 ≤ K ∧ K ≤ 8) ⟨hk1, hk8⟩] at HIK
    have HLAY := hid (layoutOf_any K hk1 hk8 wc)
    have HRF2 : Hid (rdFrame body p = sndO (rdParts body (tagsOf K) p (frKind K))) := by unfold Hid; rw [HRF.out, if_neg hk0]
    clear hk0
    have HOK : Hid (∀ f q, rdParts body (tagsOf K) p (frKind K) = some (f, q) → FrOk f) := fun f q hr => rdParts_ok HBLN.out _ p q _ f (tags_last K) hr (frKind_ok K HK8.out) (by omega)
    have hrdC : ∀ (wl : World) (fw fr : Value), LayK (wc.heap.size + 1) wl K fw fr → Below wc.heap.size wc wl →
        ∃ g cb, fr = .func (.func g) #[] cb ∧ (∀ args w, (callFunc g args).run Tryz.prog w = .ok (.enter g args) w) ∧ wc.heap.size + 1 ≤ wl.heap.size ∧
          Calls Tryz.prog g (#[.pointer (some ⟨rb, 0, none⟩), .pointer (some ⟨W.heap.size, 0, none⟩)] ++ cb) wl (RdOut (wc.heap.size + 1) wl.heap.size rb W.heap.size yb yo cap body p wl (rdParts body (tagsOf K) p (frKind K))) := by
      intro wl fw fr hL hbl2
      obtain ⟨g, cb, h1, h2, h3⟩ := layK_x K hL rb W.heap.size yb yo cap body HBLN.out p
      have hsz : wc.heap.size + 1 ≤ wl.heap.size := by
        rcases hL with ⟨_, hP⟩ | ⟨_, pb, qb, _, _, hB, _⟩
        · rcases hP with ⟨_, xb, hx, _⟩ | ⟨h, _⟩ | ⟨h, _⟩ | ⟨h, _⟩ | ⟨h, _⟩ | ⟨h, _⟩
          · have := World.block_lt_of_cell? _ _ hx.2
            have := hx.1
            simp at *
            omega
          all_goals simp at h
        · have := World.block_lt_of_cell? _ _ hB.2
          have := hB.1
          simp at *
          omega
      refine ⟨g, cb, h1, h2, hsz, ?_⟩
      refine h3 wl p (frKind K) (.slice none 0 0) ⟨Nat.le_refl _, fun _ _ _ => rfl⟩ ⟨?_, hF.of_heap (hbl2.block _ (by omega)), GBuf.nil _ _ _, Own.nil _, hsz, Nat.le_refl _, by omega, by omega, by omega, by omega, by omega⟩ rfl
      exact hRc.of (by rw [hbl2.block _ (by omega)]) (by rw [hbl2.block _ (by omega)])
    have HRD := hid hrdC
    have HW2 := hid (And.intro hcs (And.intro hold (And.intro ho (And.intro ht (And.intro hout hSc)))))
    have HTH : Hid (∀ (wl y : World) e, Below wc.heap.size wc wl → wc.heap.size + 1 ≤ wl.heap.size → Threw wl.heap.size rb W.heap.size p wl e y → Threw w.heap.size rb rb p w e y) := fun wl y e hb hz hT => by
      obtain ⟨b, t1, t2, t3, t4⟩ := hT
      refine ⟨b, t1, t2, by omega, hSc.trans ⟨t4.os.trans hb.os, t4.tape.trans hb.tape, t4.output.trans hb.output, by have := t4.size; omega, fun k hk n1 _ => ?_⟩⟩
      rw [t4.block k (by omega) n1 (by omega), hb.block k (by omega)]
    clear hrdC hh ho ht hout hWs hRd hRes hSt hcs hold hF k0 k1 kb hRc hSc HRF HK HBX hk1 hk8
    go_wp2_with fail
    refine HIK.out.mono ?_
    rintro e w4 ⟨rfl, hw4⟩
    subst hw4
    go_wp2_with fail
    refine HLAY.out.mono ?_
    rintro e wl ⟨fw, fr, rfl, hL, hbl⟩
    obtain ⟨g1, cb1, _, _, hfw, _⟩ := hL.shape
    subst hfw
    obtain ⟨g, cb, hfr, eg, hsz, hC⟩ := HRD.out wl _ fr hL hbl
    subst hfr
    have HC := hid hC
    have HBL := hid hbl
    have HSZ := hid hsz
    have hfd := fld1 g1 g cb1 cb
    clear hC hL hbl HRD HLAY HIK y0 hsz
    go_wp2_with fail
    refine HC.out.mono ?_
    rintro e y (⟨F, q, v9, hr, rfl, hP, hS⟩ | ⟨hr, hT⟩)
    rotate_left
    · obtain ⟨b, rfl, h2⟩ := HTH.out wl y _ HBL.out HSZ.out hT
      exact ⟨rfl, .inr ⟨by rw [HRF2.out, hr]; rfl, b, rfl, h2⟩⟩
    have hok := HOK.out F q hr
    obtain ⟨ra, rc, hv, _⟩ := hP.rng.shape
    subst hv
    have hFA := frAt_of hP.frm hP.rng hok
    have HSND := hid (soundFrame_any W.heap.size 0 F ra rc y hFA)
    have HP := hid hP
    have HS := hid hS
    have HR := hid hr
    have HOKF := hid hok
    clear hP hS hFA HC hr hok
    go_wp2_with fail
    refine HSND.out.mono ?_
    rintro e y2 ⟨rfl, hb2⟩
    obtain ⟨hcs, hold, ho, ht, hout, hSc⟩ := HW2.out
    obtain ⟨hWs, hRd, hRes, hSt⟩ := HW.out
    have hbl := HBL.out
    have hls := hbl.size
    have hys := HS.out.size
    have hF2 := HP.out.frm.of_heap (hb2.block _ (by omega))
    have hst : ∀ k, k < W.heap.size → k ≠ rb → y2.heap[k]? = W.heap[k]? := fun k hk h1 => by
      rw [hb2.block k (by omega), HS.out.block k (by omega) h1 (by omega), hbl.block k (by omega), hold k hk]
    cases hsnd : snd F with
    | false =>
      have hR2 : RdAt y2 rb yb yo cap body q p := HP.out.rd.of (hb2.block rb (by omega)) (hb2.block yb (by omega))
      have HFL := hid (fail_any rb yb yo cap body q p y2 hR2)
      have HE : Hid (rdFrame body p = none) := by unfold Hid; rw [HRF2.out, HR.out]; show (if snd F = true then some (F, q) else none) = _; rw [hsnd]; rfl
      have HSC : Hid (St2 w.heap.size rb rb w y2) := by
        refine ⟨?_, ?_, ?_, by have := hb2.size; omega, fun k hk h1 _ => ?_⟩
        · rw [hb2.os, HS.out.os, hbl.os, ho, hSt.os]
        · rw [hb2.tape, HS.out.tape, hbl.tape, ht, hSt.tape]
        · rw [hb2.output, HS.out.output, hbl.output, hout, hSt.output]
        · rw [hst k (by omega) h1, hSt.block k hk h1 h1]
      have HSZ2 : Hid (w.heap.size ≤ y2.heap.size) := by have := hb2.size; unfold Hid; omega
      clear hcs hold ho ht hout hSc hWs hRd hRes hSt hbl hls hys hF2 hst hb2 HP HS HW HW2 HBL HSZ HTH HR HOKF HRF2 hR2 hsnd
      go_wp2_with fail
      refine HFL.out.mono ?_
      rintro e w5 hT
      obtain ⟨b, rfl, h2⟩ := (hT.low HSZ2.out rb).behind HSC.out
      exact ⟨rfl, .inr ⟨HE.out, b, rfl, h2⟩⟩
    | true =>
      have hRes2 := hRes.of_heap (hst w.heap.size (by omega) (by omega))
      have n0 := hF2.cell 0
      have n1 := hF2.cell 1
      have n2 := hF2.cell 2
      have n3 := hF2.cell 3
      have n4 := hF2.cell 4
      have n5 := hF2.cell 5
      have n6 := hF2.cell 6
      have n7 := hF2.cell 7
      have n8 := hF2.cell 8
      have n9 := hF2.cell 9
      have HRW := hid (show ∀ i : Nat, y2.frozen? ⟨w.heap.size, i, none⟩ = false from fun i => hRes2.frozen i)
      have r0 := hRes2.cell 0
      have r1 := hRes2.cell 1
      have r2 := hRes2.cell 2
      have r3 := hRes2.cell 3
      have r4 := hRes2.cell 4
      have r5 := hRes2.cell 5
      have r6 := hRes2.cell 6
      have r7 := hRes2.cell 7
      have r8 := hRes2.cell 8
      have r9 := hRes2.cell 9
      have z0 := HRW.out 0
      have z1 := HRW.out 1
      have z2 := HRW.out 2
      have z3 := HRW.out 3
      have z4 := HRW.out 4
      have z5 := HRW.out 5
      have z6 := HRW.out 6
      have z7 := HRW.out 7
      have z8 := HRW.out 8
      have z9 := HRW.out 9
      simp only [fcells, List.getElem?_cons_zero, List.getElem?_cons_succ] at n0 n1 n2 n3 n4 n5 n6 n7 n8 n9 r0 r1 r2 r3 r4 r5 r6 r7 r8 r9
      have hne2 : ¬ (W.heap.size = w.heap.size) := by omega
      have HE : Hid (rdFrame body p = some (F, q)) := by unfold Hid; rw [HRF2.out, HR.out]; show (if snd F = true then some (F, q) else none) = _; rw [hsnd]; rfl
      have hfin : ∀ y3 : World, y3.os = y2.os → y3.tape = y2.tape → y3.output = y2.output → y3.heap.size = y2.heap.size → (∀ k, k ≠ w.heap.size → y3.heap[k]? = y2.heap[k]?) →
          GBuf 170 2 y3 (.slice ra (F).ranges.length rc) (F).ranges.length (rcells (F).ranges) ∧ Own (w.heap.size + 1) (.slice ra (F).ranges.length rc) ∧ RdAt y3 rb yb yo cap body q p ∧ St2 w.heap.size rb rb w y3 := fun y3 e1 e2 e3 e4 e5 => by
        have hP := HP.out
        refine ⟨hP.rng.of_heap (fun b hb => ?_), hP.own.mono (by omega), hP.rd.of ?_ ?_, ?_⟩
        · have := hP.own b hb
          rw [e5 b (by omega), hb2.block b (hP.rng.lt b hb)]
        · rw [e5 rb (by omega), hb2.block rb (by omega)]
        · rw [e5 yb (by omega), hb2.block yb (by omega)]
        · refine ⟨?_, ?_, ?_, by rw [e4]; have := hb2.size; omega, fun k hk h1 _ => ?_⟩
          · rw [e1, hb2.os, HS.out.os, hbl.os, ho, hSt.os]
          · rw [e2, hb2.tape, HS.out.tape, hbl.tape, ht, hSt.tape]
          · rw [e3, hb2.output, HS.out.output, hbl.output, hout, hSt.output]
          · rw [e5 k (by omega), hst k (by omega) h1, hSt.block k hk h1 h1]
      have HFIN := hid hfin
      clear hfin hcs hold ho ht hout hSc hWs hRd hRes hSt hbl hls hys hF2 hst hRes2 hb2 HRW HP HS HTH HRF2 HR hsnd
      go_wp2_with fail
      exact bodyPost_ret (v := .agg #[.int .i64 (F).kind, .int .i64 (F).stream, .int .u64 ((F).offset : Int), .int .u64 ((F).reliable : Int), .int .u64 ((F).limit : Int), .bool (F).fin, .int .u64 ((F).id : Int), .int .u64 ((F).deadline : Int), .string (F).data, .slice ra (F).ranges.length rc]) (by simp [results, Tryz.results164, go_sem, r0, r1, r2, r3, r4, r5, r6, r7, r8, r9]) rfl (.inl ⟨F, q, .slice ra (F).ranges.length rc, HE.out, HOKF.out, rfl, HFIN.out _ (by simp only [set_os]) (by simp only [set_tape]) (by simp only [set_output]) (by simp only [set_size]) (fun k hk => by rw [Below.heap_setCell _ _ _ _ hk, Below.heap_setCell _ _ _ _ hk, Below.heap_setCell _ _ _ _ hk, Below.heap_setCell _ _ _ _ hk, Below.heap_setCell _ _ _ _ hk, Below.heap_setCell _ _ _ _ hk, Below.heap_setCell _ _ _ _ hk, Below.heap_setCell _ _ _ _ hk, Below.heap_setCell _ _ _ _ hk, Below.heap_setCell _ _ _ _ hk])⟩)

end Go.Proofs.YtphbledmopchnaaGreatDoor

/-
  readPacket's deferred closure, where a fault was thrown.
-/
namespace Go.Proofs.YtphbledmopchnaaGreatDoor
open Go.RowKit Go.Lib Go.Shelf Mm

theorem catch_fault (P E b : Nat) (V : Int) (s : Value) (older : List PanicEntry) (w : World) (hP : Blk w P 56 [.int .u64 V, s]) (hE : Blk w E 94 [.nilIface]) (hne : ¬ (E = P)) :
    CallsD Tryz.prog 160 #[.pointer (some ⟨P, 0, none⟩), .pointer (some ⟨E, 0, none⟩)] (.panicking ({ v := .iface 133 (.pointer (some ⟨b, 0, none⟩)), recovered := false } :: older)) w fun e u' w' =>
      e = .returned (.tuple #[]) ∧ u' = .panicking ({ v := .iface 133 (.pointer (some ⟨b, 0, none⟩)), recovered := true } :: older) ∧ w' = ((w.setCell ⟨P, 0, none⟩ (.int .u64 0)).setCell ⟨P, 1, none⟩ (.slice none 0 0)).setCell ⟨E, 0, none⟩ (.iface 133 (.pointer (some ⟨b, 0, none⟩))) := by
  have hnil : ∀ w : World, (binOp BinOp.eql 20 (.iface 133 (.pointer (some ⟨b, 0, none⟩))) .nilIface).run Tryz.prog w = .ok (.bool false) w := fun _ => by kernel_rfl
  have hta : ∀ (xT : TypeId) (w : World), (Instr.typeAssert (.iface 133 (.pointer (some ⟨b, 0, none⟩))) xT 133 true).run Tryz.prog w = .ok (.tuple #[.pointer (some ⟨b, 0, none⟩), .bool true]) w := fun _ _ => by kernel_rfl
  have p0 : w.cell? ⟨P, 0, none⟩ = some (.int .u64 V) := hP.cell 0
  have p1 : w.cell? ⟨P, 1, none⟩ = some s := hP.cell 1
  have z0 := hP.frozen 0
  have z1 := hP.frozen 1
  have e0 : w.cell? ⟨E, 0, none⟩ = some .nilIface := hE.cell 0
  have hne2 : ¬ (P = E) := fun e => hne e.symm
  have y0 := hE.frozen 0
  refine callsD_of_wpS Tryz.func160 rfl fun c₀ cs hu => ?_
  apply wpS_seq
  apply wpS_region
  simp [wpOpsS, go_sem, recoverD, hu, Tryz.ntmps160, Exit.thenS]
  refine wpS_of_wp ?_
  simp [Array.replicate]
  go_wp2
  cases c₀
  simp_all [bodyPostS, results, Tryz.results160]

/-- The packet's frames, or where the first lies that is none. -/
def pkD (body : List UInt8) : Except Nat (List Fr) :=
  if rB body 0 = true ∨ rP body 0 = body.length then .error 0 else dcGo body (body.length + 1) (rP body 0) []

/-- What readPacket answers. -/
def PkX (body : List UInt8) (w : World) (e : Ending) (w' : World) : Prop :=
  Below w.heap.size w w' ∧
  ((∃ b q : Nat, e = .returned (.tuple #[.agg #[.int .u64 0, .slice none 0 0], .iface 133 (.pointer (some ⟨b, 0, none⟩))]) ∧ Blk w' b 138 [.int .i64 8, .int .i64 (q : Int)] ∧ pkD body = .error q ∧ w.heap.size + 3 ≤ b) ∨
   (∃ fs s v9, e = .returned (.tuple #[.agg #[.int .u64 ((rV body 0 : Nat) : Int), s], .nilIface]) ∧ pkD body = .ok fs ∧ CpTo (w.heap.size + 3) w' s fs v9 fs.length ∧ ∀ j, j < fs.length → FrOk (fs.getD j fr0)))

/-- Where a panic's post hangs on the frame's defers and named results alone. -/
def PanicBy (ds : List Deferred) (i j : Nat) (vi vj : Value) (Pc : List PanicEntry → World → Prop) (Q : Exit → Act → World → Prop) : Exit → Act → World → Prop
  | .panic c, a, w => (a.defers = ds ∧ a.tmps[i]? = some vi ∧ a.tmps[j]? = some vj) ∧ Pc c w
  | e, a, w => Q e a w
theorem PanicBy.normal {ds : List Deferred} {i j : Nat} {vi vj : Value} {Pc : List PanicEntry → World → Prop} {Q : Exit → Act → World → Prop} {a : Act} {w : World} (h : Q .normal a w) : PanicBy ds i j vi vj Pc Q .normal a w := h
theorem wp_region_panicBy {P : Program} {id : Nat} {ops : Array Oper} {b : Bool} {Q : Exit → Act → World → Prop} {a : Act} {w : World} (ds : List Deferred) (i j : Nat) (vi vj : Value) (Pc : List PanicEntry → World → Prop)
    (hQ : ∀ c a w, a.defers = ds → a.tmps[i]? = some vi → a.tmps[j]? = some vj → Pc c w → Q (.panic c) a w) (h : (Code.region id ops b).wp P (PanicBy ds i j vi vj Pc Q) a w) : (Code.region id ops b).wp P Q a w :=
  Code.wp_mono (fun e a w h => by
    cases e with
    | panic c => exact hQ c a w h.1.1 h.1.2.1 h.1.2.2 h.2
    | _ => exact h) h

end Go.Proofs.YtphbledmopchnaaGreatDoor

/-
  readPacket, of any bytes.
-/
namespace Go.Proofs.YtphbledmopchnaaGreatDoor
open Go.RowKit Go.Lib Go.Shelf Mm

/-- A packet that is being read. -/
structure PX (w : World) (yb yo cap : Nat) (body : List UInt8) (V : Nat) (D : Except Nat (List Fr)) (wr : World) (p k bg n : Nat) (fs : List Fr) (s : Value) (v9 : Nat → Value) : Prop where
  box : Blk wr w.heap.size 56 [.int .u64 (V : Int), s]
  err : Blk wr (w.heap.size + 1) 94 [.nilIface]
  rd : RdAt wr (w.heap.size + 2) yb yo cap body p bg
  cp : CpTo (w.heap.size + 3) wr s fs v9 fs.length
  hsz : w.heap.size + 3 ≤ wr.heap.size
  bel : Below w.heap.size w wr
  yl : yb < w.heap.size
  go : dcGo body k p fs = D
  fuel : body.length < k + p
  len : fs.length = n
  le : n ≤ p
  ok : ∀ j, j < fs.length → FrOk (fs.getD j fr0)

theorem PX.same {w : World} {yb yo cap : Nat} {body : List UInt8} {V : Nat} {D : Except Nat (List Fr)} {wr y : World} {p k bg n : Nat} {fs : List Fr} {s : Value} {v9 : Nat → Value} (h : PX w yb yo cap body V D wr p k bg n fs s v9) (e1 : y.heap = wr.heap) (e2 : y.os = wr.os) (e3 : y.tape = wr.tape) (e4 : y.output = wr.output) : PX w yb yo cap body V D y p k bg n fs s v9 :=
  ⟨h.box.of_heap (by rw [e1]), h.err.of_heap (by rw [e1]), h.rd.of (by rw [e1]) (by rw [e1]), h.cp.of_heap (fun _ _ _ => by rw [e1]), by rw [e1]; exact h.hsz, ⟨e2.trans h.bel.os, e3.trans h.bel.tape, e4.trans h.bel.output, by rw [e1]; exact h.bel.size, fun b hb => by rw [e1]; exact h.bel.block b hb⟩, h.yl, h.go, h.fuel, h.len, h.le, h.ok⟩

/-- What a fault that was thrown leaves. -/
structure PXT (w : World) (D : Except Nat (List Fr)) (c : List PanicEntry) (y : World) : Prop where
  th : ∃ b q V s, c = [{ v := .iface 133 (.pointer (some ⟨b, 0, none⟩)), recovered := false }] ∧ Blk y b 138 [.int .i64 8, .int .i64 ((q : Nat) : Int)] ∧ D = .error q ∧ w.heap.size + 3 ≤ b ∧ Blk y w.heap.size 56 [.int .u64 V, s] ∧ Blk y (w.heap.size + 1) 94 [.nilIface]
  bel : Below w.heap.size w y

theorem pxt_of {w wr y : World} {D : Except Nat (List Fr)} {q : Nat} {V : Int} {s : Value} {c : List PanicEntry} (hT : Threw wr.heap.size (w.heap.size + 2) (w.heap.size + 2) q wr (.panicked c) y) (hD : D = .error q) (hsz : w.heap.size + 3 ≤ wr.heap.size) (hb : Blk wr w.heap.size 56 [.int .u64 V, s]) (he : Blk wr (w.heap.size + 1) 94 [.nilIface]) (hbel : Below w.heap.size w wr) : PXT w D c y := by
  obtain ⟨b, h1, h2, h3, h4⟩ := hT
  have e1 : c = [{ v := .iface 133 (.pointer (some ⟨b, 0, none⟩)), recovered := false }] := by simpa using h1
  refine ⟨⟨b, q, V, s, e1, h2, hD, by omega, hb.of_heap (h4.block _ (by omega) (by omega) (by omega)), he.of_heap (h4.block _ (by omega) (by omega) (by omega))⟩, ?_⟩
  exact hbel.trans ⟨h4.os, h4.tape, h4.output, h4.size, fun k hk => h4.block k (by omega) (by omega) (by omega)⟩

/-- The next frame is read, and appended. -/
theorem pkx_some {w : World} {yb yo cap : Nat} {body : List UInt8} {V : Nat} {D : Except Nat (List Fr)} {wr : World} {p k bg n : Nat} {fs : List Fr} {sa : Option Addr} {sc : Nat} {v9 : Nat → Value} (h : PX w yb yo cap body V D wr p (k + 1) bg n fs (.slice sa n sc) v9) (hbl : body.length ≤ 1000000000) (hp : p < body.length) (F : Fr) (q : Nat) (hF : frD body p = some (F, q)) (W : World) (e1 : W.heap = wr.heap) (e2 : W.os = wr.os) (e3 : W.tape = wr.tape) (e4 : W.output = wr.output) :
    Calls Tryz.prog 164 #[.pointer (some ⟨w.heap.size + 2, 0, none⟩)] W fun e y => ∃ ra rc a' c' W5, e = .returned (.agg #[.int .i64 F.kind, .int .i64 F.stream, .int .u64 (F.offset : Int), .int .u64 (F.reliable : Int), .int .u64 (F.limit : Int), .bool F.fin, .int .u64 (F.id : Int), .int .u64 (F.deadline : Int), .string F.data, .slice ra F.ranges.length rc]) ∧
      y.cell? ⟨w.heap.size, 1, none⟩ = some (.slice sa n sc) ∧ w.heap.size < y.heap.size ∧
      (∀ ty, (Builtin.append_ #[54, 54] ty #[.slice sa n sc, .slice (some ⟨y.heap.size, 0, none⟩) 1 1]).run Tryz.prog (y.alloc (.cells #[.int .i64 F.kind, .int .i64 F.stream, .int .u64 (F.offset : Int), .int .u64 (F.reliable : Int), .int .u64 (F.limit : Int), .bool F.fin, .int .u64 (F.id : Int), .int .u64 (F.deadline : Int), .string F.data, .slice ra F.ranges.length rc] 65)) = .ok (.slice a' (n + 1) c') W5) ∧
      W5.cell? ⟨w.heap.size, 1, none⟩ = some (.slice sa n sc) ∧ W5.frozen? ⟨w.heap.size, 1, none⟩ = false ∧
      Hid (∃ v9' bg', PX w yb yo cap body V D (W5.setCell ⟨w.heap.size, 1, none⟩ (.slice a' (n + 1) c')) q k bg' (n + 1) (fs ++ [F]) (.slice a' (n + 1) c') v9') := by
  have hW := h.same e1 e2 e3 e4
  have hsz := hW.hsz
  have hyl := hW.yl
  have hC := frame_x (w.heap.size + 2) yb yo cap body p bg W hW.rd hbl hp (by omega) (by omega)
  rw [rdFrame_eq body p hp, hF] at hC
  refine hC.mono ?_
  rintro e y (⟨f, q', v9k, hr, hok, rfl, hG, hO, hR, hS⟩ | ⟨hr, _⟩)
  rotate_left
  · cases hr
  simp only [Option.some.injEq, Prod.mk.injEq] at hr
  obtain ⟨rfl, rfl⟩ := hr
  obtain ⟨ra, rc, hv, _⟩ := hG.shape
  subst hv
  have hst : ∀ b, b < W.heap.size → b ≠ w.heap.size + 2 → y.heap[b]? = W.heap[b]? := fun b h1 h2 => hS.block b h1 h2 h2
  have hysz := hS.size
  have hcp : CpTo (w.heap.size + 3) y (.slice sa n sc) fs v9 fs.length := hW.cp.of_heap (fun b h1 h2 => hst b h2 (by omega))
  have hbox := hW.box.of_heap (hst w.heap.size (by omega) (by omega))
  have herr := hW.err.of_heap (hst (w.heap.size + 1) (by omega) (by omega))
  have hlen := hW.len
  have hle := hW.le
  obtain ⟨v'', W5, run1, hcp5, hb5⟩ := push hcp (by omega) (by omega) F ra rc hG (fun b hb => by have := hO b hb; omega) (fun b hb e => by have := hO b hb; have := hW.cp.buf.lt b e; omega)
  obtain ⟨a', c', hv, _⟩ := hcp5.buf.shape
  rw [hlen] at hv
  subst hv
  have hy5 : ∀ b, b < w.heap.size + 3 → W5.heap[b]? = y.heap[b]? := hb5.block
  have hbox5 := hbox.of_heap (hy5 w.heap.size (by omega))
  have hset : ∀ b, b ≠ w.heap.size → ∀ v, (W5.setCell ⟨w.heap.size, 1, none⟩ v).heap[b]? = W5.heap[b]? := fun b hb v => Below.heap_setCell _ _ _ _ hb
  obtain ⟨hpq, hql⟩ := frD_pos hp hF
  refine ⟨ra, rc, a', c', W5, rfl, hbox.cell 1, by omega, run1, hbox5.cell 1, hbox5.frozen 1, (fun j => if j = fs.length then .slice ra F.ranges.length rc else v9 j), p, ⟨hbox5.setCell 1 _, ?_, ?_, ?_, ?_, ?_, hyl, ?_, ?_, ?_, ?_, ?_⟩⟩
  · exact (herr.of_heap (hy5 _ (by omega))).of_heap (hset _ (by omega) _)
  · exact (hR.of (hy5 _ (by omega)) (hy5 _ (by omega))).of (hset _ (by omega) _) (hset _ (by omega) _)
  · rw [List.length_append]
    exact hcp5.of_heap (fun b h1 _ => hset b (by omega) _)
  · have := hb5.size; simp; omega
  · have h1 : Below w.heap.size w y := hW.bel.trans ⟨hS.os, hS.tape, hS.output, hS.size, fun b hb => hst b (by omega) (by omega)⟩
    exact (h1.trans (hb5.mono (by omega))).setCell (p := ⟨w.heap.size, 1, none⟩) (Nat.le_refl _) _
  · rw [← dcGo_some hp hF]; exact hW.go
  · have := hW.fuel; omega
  · rw [List.length_append, hlen]; rfl
  · omega
  · intro j hj
    rw [List.length_append] at hj
    by_cases e : j < fs.length
    · rw [getD_snoc fs F j e]; exact hW.ok j e
    · have : j = fs.length := by simp at hj; omega
      rw [this, getD_snoc_last]; exact hok

/-- The next frame is none. -/
theorem pkx_none {w : World} {yb yo cap : Nat} {body : List UInt8} {V : Nat} {D : Except Nat (List Fr)} {wr : World} {p k bg n : Nat} {fs : List Fr} {s : Value} {v9 : Nat → Value} (h : PX w yb yo cap body V D wr p (k + 1) bg n fs s v9) (hbl : body.length ≤ 1000000000) (hp : p < body.length) (hF : frD body p = none) (W : World) (e1 : W.heap = wr.heap) (e2 : W.os = wr.os) (e3 : W.tape = wr.tape) (e4 : W.output = wr.output) :
    Calls Tryz.prog 164 #[.pointer (some ⟨w.heap.size + 2, 0, none⟩)] W fun e y => ∃ c, e = .panicked c ∧ PXT w D c y := by
  have hW := h.same e1 e2 e3 e4
  have hsz := hW.hsz
  have hyl := hW.yl
  have hC := frame_x (w.heap.size + 2) yb yo cap body p bg W hW.rd hbl hp (by omega) (by omega)
  rw [rdFrame_eq body p hp, hF] at hC
  refine hC.mono ?_
  rintro e y (⟨f, q', v9k, hr, _⟩ | ⟨_, hT⟩)
  · cases hr
  obtain ⟨b, rfl, h2⟩ := hT
  refine ⟨_, rfl, pxt_of ⟨b, rfl, h2⟩ ?_ hsz hW.box hW.err hW.bel⟩
  rw [← hW.go]; exact dcGo_none hp hF

/-- A call that throws, as one step of a region that draws. (The value is never seen.) -/
theorem step_call1_throw {P : Program} (w : World) {ops : Array Oper} {o : Oper} {a : Act} {K : Act → World → Prop} {Q : Exit → Act → World → Prop} {E : Prop} (hgd : o.guard = none) (g : Nat) (x : Operand) (t : TypeId)
    (ho : o.op = .call { callee := .value (.func g), args := #[x], argTypes := #[t] }) (vx : Value) (hx : a.eval x = vx) (he : ∀ args w, (callFunc g args).run P w = .ok (.enter g args) w)
    {R : Ending → World → Prop} (hC : Calls P g #[vx] w R) (h : ∀ e y, R e y → ∃ c, e = .panicked c ∧ Q (.panic c) a y) (v : Value) (_ : False → K (a.put o.dst v) w) :
    if Region.wanted o (yielded ops a.tmps) = true then Oper.wp P o a w K Q else E := by
  have hw : Region.wanted o (yielded ops a.tmps) = true := by simp [Region.wanted, hgd]
  rw [if_pos hw]
  have hf : a.eval (.func g) = .func (.func g) #[] #[] := rfl
  have hr : (execOp a.eval o).run P w = .ok (.enter g #[vx]) w := by
    unfold execOp
    simp only [ho, resolve, List.map_toArray, List.map_cons, List.map_nil, hx, hf]
    simp [Deferred.ofValue, invoke, he]
  unfold Oper.wp
  rw [hr, Oper.upon_enter]
  refine hC.mono ?_
  intro e y hR
  obtain ⟨c, rfl, hQ⟩ := h e y hR
  exact hQ

end Go.Proofs.YtphbledmopchnaaGreatDoor

/-
  readPacket, of any bytes: the walk.
-/
namespace Go.Proofs.YtphbledmopchnaaGreatDoor
open Go.RowKit Go.Lib Go.Shelf Mm

/-- What the closure makes of a fault. -/
theorem caught {w y : World} {body : List UInt8} {c : List PanicEntry} (h : PXT w (pkD body) c y) : ∃ b V s, c = [{ v := .iface 133 (.pointer (some ⟨b, 0, none⟩)), recovered := false }] ∧ Blk y w.heap.size 56 [.int .u64 V, s] ∧ Blk y (w.heap.size + 1) 94 [.nilIface] ∧
    ∃ Y, Y = ((y.setCell ⟨w.heap.size, 0, none⟩ (.int .u64 0)).setCell ⟨w.heap.size, 1, none⟩ (.slice none 0 0)).setCell ⟨w.heap.size + 1, 0, none⟩ (.iface 133 (.pointer (some ⟨b, 0, none⟩))) ∧
      Y.cell? ⟨w.heap.size, 0, none⟩ = some (.int .u64 0) ∧ Y.cell? ⟨w.heap.size, 1, none⟩ = some (.slice none 0 0) ∧ Y.cell? ⟨w.heap.size + 1, 0, none⟩ = some (.iface 133 (.pointer (some ⟨b, 0, none⟩))) ∧
      PkX body w (.returned (.tuple #[.agg #[.int .u64 0, .slice none 0 0], .iface 133 (.pointer (some ⟨b, 0, none⟩))])) Y := by
  obtain ⟨⟨b, q, V, s, hc, hB, hD, hb, hbox, herr⟩, hbel⟩ := h
  refine ⟨b, V, s, hc, hbox, herr, _, rfl, ?_⟩
  have h1 : Blk ((y.setCell ⟨w.heap.size, 0, none⟩ (.int .u64 0)).setCell ⟨w.heap.size, 1, none⟩ (.slice none 0 0)) w.heap.size 56 [.int .u64 0, .slice none 0 0] := (hbox.setCell 0 (.int .u64 0)).setCell 1 (.slice none 0 0)
  have h2 : Blk ((y.setCell ⟨w.heap.size, 0, none⟩ (.int .u64 0)).setCell ⟨w.heap.size, 1, none⟩ (.slice none 0 0)) (w.heap.size + 1) 94 [.nilIface] := (herr.of_heap (Below.heap_setCell _ _ _ _ (by simp))).of_heap (Below.heap_setCell _ _ _ _ (by simp))
  have h3 := h2.setCell 0 (.iface 133 (.pointer (some ⟨b, 0, none⟩)))
  have h1' := h1.of_heap (Below.heap_setCell _ ⟨w.heap.size + 1, 0, none⟩ (.iface 133 (.pointer (some ⟨b, 0, none⟩))) w.heap.size (by simp))
  have hB' : Blk (((y.setCell ⟨w.heap.size, 0, none⟩ (.int .u64 0)).setCell ⟨w.heap.size, 1, none⟩ (.slice none 0 0)).setCell ⟨w.heap.size + 1, 0, none⟩ (.iface 133 (.pointer (some ⟨b, 0, none⟩)))) b 138 [.int .i64 8, .int .i64 (q : Int)] :=
    ((hB.of_heap (Below.heap_setCell _ _ _ _ (by simp; omega))).of_heap (Below.heap_setCell _ _ _ _ (by simp; omega))).of_heap (Below.heap_setCell _ _ _ _ (by simp; omega))
  refine ⟨h1'.cell 0, h1'.cell 1, h3.cell 0, ?_, .inl ⟨b, q, rfl, hB', hD, hb⟩⟩
  exact ((hbel.setCell (p := ⟨w.heap.size, 0, none⟩) (Nat.le_refl _) _).setCell (p := ⟨w.heap.size, 1, none⟩) (Nat.le_refl _) _).setCell (p := ⟨w.heap.size + 1, 0, none⟩) (by simp) _

set_option maxHeartbeats 4000000 in
set_option maxRecDepth 100000 in
theorem readPacket_x (yb yo cap : Nat) (body : List UInt8) (w : World) (hbl : body.length ≤ 1000000000) (hb : BytesAt w (some ⟨yb, yo, none⟩) body) (hroom : body.length < cap) (hcap : cap ≤ 9223372036854775807) (hyb : yb < w.heap.size) :
    Calls Tryz.prog 116 #[.slice (some ⟨yb, yo, none⟩) body.length cap] w (PkX body w) := by
  have hmf : ∀ (fn : Fn) (first cap : Array Value) (w : World), (Instr.makeFunc fn first cap).run Tryz.prog w = .ok (.func fn first cap) w := fun _ _ _ _ => rfl
  obtain ⟨W0, hW0⟩ : ∃ W0, W0 = ((w.alloc (.cells #[.int .u64 0, .slice none 0 0] 56)).alloc (.cells #[.nilIface] 94)).alloc (.cells #[.slice (some ⟨yb, yo, none⟩) body.length cap, .int .i64 0, .int .i64 0] 257) := ⟨_, rfl⟩
  have hs0 : W0.heap.size = w.heap.size + 3 := by rw [hW0]; simp
  have hb0 : Below w.heap.size w W0 := by rw [hW0]; exact (((Below.refl _ w).alloc (Nat.le_refl _) _).alloc (by simp) _).alloc (by simp; omega) _
  have hA0 : Blk W0 w.heap.size 56 [.int .u64 0, .slice none 0 0] := by rw [hW0]; exact ((Blk.new w 56 _).alloc _).alloc _
  have hE0 : Blk W0 (w.heap.size + 1) 94 [.nilIface] := by
    rw [hW0]
    have := (Blk.new (w.alloc (.cells #[.int .u64 0, .slice none 0 0] 56)) 94 [.nilIface]).alloc (.cells #[.slice (some ⟨yb, yo, none⟩) body.length cap, .int .i64 0, .int .i64 0] 257)
    simpa using this
  have hR0 : RdAt W0 (w.heap.size + 2) yb yo cap body 0 0 := by
    refine ⟨?_, hb.of (fun x hx => by simp at hx; subst hx; exact hb0.block _ hyb), Nat.zero_le _, hroom, hcap, by omega⟩
    rw [hW0]
    have := Blk.new ((w.alloc (.cells #[.int .u64 0, .slice none 0 0] 56)).alloc (.cells #[.nilIface] 94)) 257 [.slice (some ⟨yb, yo, none⟩) body.length cap, .int .i64 ((0 : Nat) : Int), .int .i64 ((0 : Nat) : Int)]
    simpa using this
  have HN := hid (number_x (w.heap.size + 2) yb yo cap body 0 0 W0 hR0)
  have HTN : Hid (∀ e y, rB body 0 = true → Threw W0.heap.size (w.heap.size + 2) (w.heap.size + 2) 0 W0 e y → ∃ c, e = .panicked c ∧ PXT w (pkD body) c y) := fun e y hB hT => by
    obtain ⟨b, rfl, h2⟩ := hT
    exact ⟨_, rfl, pxt_of ⟨b, rfl, h2⟩ (by unfold pkD; rw [if_pos (.inl hB)]) (by omega) hA0 hE0 hb0⟩
  have hv := rV_lt body 0
  have hPX : ∀ w1, rB body 0 = false → RdAt w1 (w.heap.size + 2) yb yo cap body (rP body 0) 0 → St1 (w.heap.size + 2) W0 w1 → w1.cell? ⟨w.heap.size, 0, none⟩ = some (.int .u64 0) ∧ w1.frozen? ⟨w.heap.size, 0, none⟩ = false ∧
      (rP body 0 = body.length → ∀ q e y, Threw ((w1.setCell ⟨w.heap.size, 0, none⟩ (.int .u64 (rV body 0 : Nat))).drewN q).heap.size (w.heap.size + 2) (w.heap.size + 2) 0 ((w1.setCell ⟨w.heap.size, 0, none⟩ (.int .u64 (rV body 0 : Nat))).drewN q) e y → ∃ c, e = .panicked c ∧ PXT w (pkD body) c y) ∧
      RdAt (w1.setCell ⟨w.heap.size, 0, none⟩ (.int .u64 (rV body 0 : Nat))) (w.heap.size + 2) yb yo cap body (rP body 0) 0 ∧
      (¬ rP body 0 = body.length → PX w yb yo cap body (rV body 0) (pkD body) (w1.setCell ⟨w.heap.size, 0, none⟩ (.int .u64 (rV body 0 : Nat))) (rP body 0) (body.length + 1) 0 0 [] (.slice none 0 0) (fun _ => .bool false)) := fun w1 hB h1 h2 => by
    have hA1 := hA0.of_heap (h2.block _ (by omega))
    have hE1 := hE0.of_heap (h2.block (w.heap.size + 1) (by omega))
    have hset : ∀ b, b ≠ w.heap.size → (w1.setCell ⟨w.heap.size, 0, none⟩ (.int .u64 (rV body 0 : Nat))).heap[b]? = w1.heap[b]? := fun b hb => Below.heap_setCell _ _ _ _ hb
    have hb1 : Below w.heap.size w w1 := hb0.trans ⟨h2.os, h2.tape, h2.output, Nat.le_of_eq h2.size.symm, fun b hb => h2.block b (by omega)⟩
    have hb2 : Below w.heap.size w (w1.setCell ⟨w.heap.size, 0, none⟩ (.int .u64 (rV body 0 : Nat))) := hb1.setCell (p := ⟨w.heap.size, 0, none⟩) (Nat.le_refl _) _
    have hsz := h2.size
    have hE2 := hE1.of_heap (hset _ (by omega))
    have hA2 : Blk (w1.setCell ⟨w.heap.size, 0, none⟩ (.int .u64 (rV body 0 : Nat))) w.heap.size 56 [.int .u64 (rV body 0 : Nat), .slice none 0 0] := hA1.setCell 0 _
    refine ⟨hA1.cell 0, hA1.frozen 0, fun hend q e y hT => ?_, h1.of (hset _ (by omega)) (hset _ (by omega)), fun hne => ?_⟩
    · obtain ⟨b, rfl, h2⟩ := hT
      exact ⟨_, rfl, pxt_of ⟨b, rfl, h2⟩ (by unfold pkD; rw [if_pos (.inr hend)]) (by simp; omega) (hA2.of_heap rfl) (hE2.of_heap rfl) ⟨hb2.os, hb2.tape, hb2.output, hb2.size, hb2.block⟩⟩
    · refine ⟨hA2, hE2, h1.of (hset _ (by omega)) (hset _ (by omega)), ⟨GBuf.nil _ _ _, Own.nil _, fun j hj => absurd hj (Nat.not_lt_zero _)⟩, by simp; omega, hb2, hyb, ?_, by omega, rfl, Nat.zero_le _, fun j hj => absurd hj (Nat.not_lt_zero _)⟩
      unfold pkD
      rw [if_neg (fun h => h.elim (fun e => by rw [hB] at e; cases e) hne)]
  have HPX := hid hPX
  have HEN := hid (fun w' (h' : RdAt w' (w.heap.size + 2) yb yo cap body (rP body 0) 0) => ended_any _ _ _ _ _ _ _ w' h')
  have HFL := hid (fun w' (h' : RdAt w' (w.heap.size + 2) yb yo cap body (rP body 0) 0) => fail_any _ _ _ _ _ _ _ w' h')
  clear hPX hR0 hE0 hA0 hb0 hs0 hb hroom hcap
  unfold NumPost at HN
  generalize hVV : rV body 0 = V at *
  have HVV := hid hVV
  generalize hPP : rP body 0 = P0 at *
  go_enter_defers Tryz.func116, Tryz.ntmps116
  go_wp2_with fail
  rw [← hW0]
  clear hW0
  refine HN.out.mono ?_
  rintro e w1 (⟨hB, rfl, hR1, hS1⟩ | ⟨hB, hT⟩)
  rotate_left
  · obtain ⟨c, rfl, hX⟩ := HTN.out _ _ hB hT
    obtain ⟨b, V1, s, rfl, hbx, her, Y, hY, y0, y1, y2, hfin⟩ := caught hX
    refine leaves_cons (f := 160) (args := #[.pointer (some ⟨w.heap.size, 0, none⟩), .pointer (some ⟨w.heap.size + 1, 0, none⟩)]) (by simp) (by simp [go_sem]) ?_
    refine (catch_fault w.heap.size (w.heap.size + 1) b V1 s [] _ hbx her (by omega)).mono ?_
    rintro e u' w'' ⟨rfl, rfl, rfl⟩
    rw [← hY]
    simp [Leaves, settle, results, Tryz.results116, go_sem, y0, y1, y2]
    exact hfin
  obtain ⟨x0, z0, hEnd, hRd, hPx⟩ := HPX.out w1 hB hR1 hS1
  have HE0 := hid (HEN.out _ hRd)
  clear hR1 hS1 HN HPX HTN hVV hPP hB
  by_cases hend : P0 = body.length
  · rw [decide_eq_true hend] at HE0
    have HFL2 := hid (fun q => HFL.out _ (hRd.drewN q))
    have HEND := hid (hEnd hend)
    clear hend hEnd hRd hPx HFL HEN
    go_wp2_with fail
    refine HE0.out.mono ?_
    rintro e w2 ⟨rfl, q, rfl⟩
    go_wp2_with fail
    refine (HFL2.out q).mono ?_
    rintro e y hT
    obtain ⟨c, rfl, hX⟩ := HEND.out q e y hT
    obtain ⟨b, V1, s, rfl, hbx, her, Y, hY, y0, y1, y2, hfin⟩ := caught hX
    refine leaves_cons (f := 160) (args := #[.pointer (some ⟨w.heap.size, 0, none⟩), .pointer (some ⟨w.heap.size + 1, 0, none⟩)]) (by simp) (by simp [go_sem]) ?_
    refine (catch_fault w.heap.size (w.heap.size + 1) b V1 s [] _ hbx her (by omega)).mono ?_
    rintro e u' w'' ⟨rfl, rfl, rfl⟩
    rw [← hY]
    simp [Leaves, settle, results, Tryz.results116, go_sem, y0, y1, y2]
    exact hfin
  rw [decide_eq_false hend] at HE0
  have HP0 := hid (hPx hend)
  clear hend hEnd hRd hPx HFL HEN
  go_wp2_with fail
  refine HE0.out.mono ?_
  rintro e w2 ⟨rfl, q, rfl⟩
  have HI0 : Hid (∃ p k bg n fs sa sc v9, PX w yb yo cap body V (pkD body) ((w1.setCell ⟨w.heap.size, 0, none⟩ (.int .u64 (V : Nat))).drewN q) p k bg n fs (.slice sa n sc) v9) := ⟨_, _, _, _, _, _, _, _, HP0.out.same rfl rfl rfl rfl⟩
  clear HP0 HE0 x0 z0
  generalize ((w1.setCell ⟨w.heap.size, 0, none⟩ (.int .u64 (V : Nat)))).drewN q = w3 at *
  go_wp2_with fail
  go_loopw [25] (fun _ wr => Hid (∃ p k bg n fs sa sc v9, PX w yb yo cap body V (pkD body) wr p k bg n fs (.slice sa n sc) v9)) (fun _ wr => body.length - posAt (w.heap.size + 2) wr)
  case atStart => exact HI0
  case round =>
    clear HI0
    have HI : Hid (∃ p k bg n fs sa sc v9, PX w yb yo cap body V (pkD body) wr p k bg n fs (.slice sa n sc) v9) := hrel
    clear hrel
    obtain ⟨p, k, bg, n, fs, sa, sc, v9, hP⟩ := HI.out
    have x1 : wr.cell? ⟨w.heap.size, 1, none⟩ = some (.slice sa n sc) := hP.box.cell 1
    have HM : Hid (posAt (w.heap.size + 2) wr = p) := by
      have c1 : wr.cell? ⟨w.heap.size + 2, 1, none⟩ = some (.int .i64 (p : Int)) := hP.rd.blk.cell 1
      unfold Hid posAt
      rw [c1]
      simp
    have HEN := hid (ended_any _ _ _ _ _ _ _ _ hP.rd)
    by_cases hlt : p < body.length
    · rw [decide_eq_false (by omega)] at HEN
      obtain ⟨k, rfl⟩ : ∃ k', k = k' + 1 := ⟨k - 1, by have := hP.fuel; omega⟩
      have h48 : ∀ args w, (callFunc 164 args).run Tryz.prog w = .ok (.enter 164 args) w := enters_of Tryz.func164 (by kernel_rfl) rfl
      cases hfd : frD body p with
      | none =>
        have HC := hid (fun W e1 e2 e3 e4 => pkx_none hP hbl hlt hfd W e1 e2 e3 e4)
        clear hP hfd HI hlt HM
        go_wp2_with fail
        refine HEN.out.mono ?_
        rintro e w4 ⟨rfl, q4, rfl⟩
        go_upto_region 7 with fail
        refine wp_region_panicBy [{ target := .fn (.func 160) #[.pointer (some ⟨w.heap.size, 0, none⟩), .pointer (some ⟨w.heap.size + 1, 0, none⟩)], args := #[] }] 2 3 (.pointer (some ⟨w.heap.size, 0, none⟩)) (.pointer (some ⟨w.heap.size + 1, 0, none⟩)) (PXT w (pkD body)) ?_ ?_
        · intro c a y hd h2 h3 hX
          show Leaves Tryz.prog Tryz.f116 a.tmps (PkX body w) a.defers (.panicking c) y
          rw [hd]
          obtain ⟨b, V1, s, rfl, hbx, her, Y, hY, y0, y1, y2, hfin⟩ := caught hX
          refine leaves_cons (f := 160) (args := #[.pointer (some ⟨w.heap.size, 0, none⟩), .pointer (some ⟨w.heap.size + 1, 0, none⟩)]) (by simp) (by simp [go_sem]) ?_
          refine (catch_fault w.heap.size (w.heap.size + 1) b V1 s [] _ hbx her (by omega)).mono ?_
          rintro e u' w'' ⟨rfl, rfl, rfl⟩
          rw [← hY]
          simp [Leaves, settle, results, Tryz.results116, go_sem, h2, h3, y0, y1, y2]
          exact hfin
        · refine wp_region_any (by kernel_rfl) ?_
          change wpAny _ _ _ _ _ _ _ (World.drew _)
          refine wpAny_ready (rs := [0, 2]) (by kernel_rfl) (by simp) ?_
          refine AllReady.cons rfl (fun K hK => ?_) ?_
          · go_simp
            refine hK _ _ ?_
            clear hK K
            refine wpAny_ready (rs := [1, 2]) (by kernel_rfl) (by simp) ?_
            refine AllReady.cons rfl (fun K hK => ?_) ?_
            · go_simp
              refine hK _ _ ?_
              clear hK K
              refine wpAny_ready (rs := [2]) (by kernel_rfl) (by simp) ?_
              refine AllReady.cons rfl (fun K hK => ?_) ?_
              · go_simp
                refine hK _ _ ?_
                clear hK K
                refine wpAny_ready (rs := [3]) (by kernel_rfl) (by simp) ?_
                refine AllReady.cons rfl (fun K hK => ?_) ?_
                · refine step_call1_throw _ (by rfl) 164 _ _ (by rfl) _ (by rfl) h48 (HC.out _ (by rfl) (by rfl) (by rfl) (by rfl)) (fun e y hR => ?_) undef False.elim
                  obtain ⟨c, rfl, hX⟩ := hR
                  exact ⟨c, rfl, ⟨rfl, rfl, rfl⟩, hX⟩
                exact AllReady.nil
              exact AllReady.nil
            refine AllReady.cons rfl (fun K hK => ?_) ?_
            · go_simp
              refine hK _ _ ?_
              clear hK K
              refine wpAny_ready (rs := [1, 3]) (by kernel_rfl) (by simp) ?_
              refine AllReady.cons rfl (fun K hK => ?_) ?_
              · go_simp
                refine hK _ _ ?_
                clear hK K
                refine wpAny_ready (rs := [3]) (by kernel_rfl) (by simp) ?_
                refine AllReady.cons rfl (fun K hK => ?_) ?_
                · refine step_call1_throw _ (by rfl) 164 _ _ (by rfl) _ (by rfl) h48 (HC.out _ (by rfl) (by rfl) (by rfl) (by rfl)) (fun e y hR => ?_) undef False.elim
                  obtain ⟨c, rfl, hX⟩ := hR
                  exact ⟨c, rfl, ⟨rfl, rfl, rfl⟩, hX⟩
                exact AllReady.nil
              refine AllReady.cons rfl (fun K hK => ?_) ?_
              · refine step_call1_throw _ (by rfl) 164 _ _ (by rfl) _ (by rfl) h48 (HC.out _ (by rfl) (by rfl) (by rfl) (by rfl)) (fun e y hR => ?_) undef False.elim
                obtain ⟨c, rfl, hX⟩ := hR
                exact ⟨c, rfl, ⟨rfl, rfl, rfl⟩, hX⟩
              exact AllReady.nil
            exact AllReady.nil
          refine AllReady.cons rfl (fun K hK => ?_) ?_
          · go_simp
            refine hK _ _ ?_
            clear hK K
            refine wpAny_ready (rs := [0, 3]) (by kernel_rfl) (by simp) ?_
            refine AllReady.cons rfl (fun K hK => ?_) ?_
            · go_simp
              refine hK _ _ ?_
              clear hK K
              refine wpAny_ready (rs := [1, 3]) (by kernel_rfl) (by simp) ?_
              refine AllReady.cons rfl (fun K hK => ?_) ?_
              · go_simp
                refine hK _ _ ?_
                clear hK K
                refine wpAny_ready (rs := [3]) (by kernel_rfl) (by simp) ?_
                refine AllReady.cons rfl (fun K hK => ?_) ?_
                · refine step_call1_throw _ (by rfl) 164 _ _ (by rfl) _ (by rfl) h48 (HC.out _ (by rfl) (by rfl) (by rfl) (by rfl)) (fun e y hR => ?_) undef False.elim
                  obtain ⟨c, rfl, hX⟩ := hR
                  exact ⟨c, rfl, ⟨rfl, rfl, rfl⟩, hX⟩
                exact AllReady.nil
              refine AllReady.cons rfl (fun K hK => ?_) ?_
              · refine step_call1_throw _ (by rfl) 164 _ _ (by rfl) _ (by rfl) h48 (HC.out _ (by rfl) (by rfl) (by rfl) (by rfl)) (fun e y hR => ?_) undef False.elim
                obtain ⟨c, rfl, hX⟩ := hR
                exact ⟨c, rfl, ⟨rfl, rfl, rfl⟩, hX⟩
              exact AllReady.nil
            refine AllReady.cons rfl (fun K hK => ?_) ?_
            · refine step_call1_throw _ (by rfl) 164 _ _ (by rfl) _ (by rfl) h48 (HC.out _ (by rfl) (by rfl) (by rfl) (by rfl)) (fun e y hR => ?_) undef False.elim
              obtain ⟨c, rfl, hX⟩ := hR
              exact ⟨c, rfl, ⟨rfl, rfl, rfl⟩, hX⟩
            exact AllReady.nil
          exact AllReady.nil
      | some x =>
        obtain ⟨F, q⟩ := x
        have HC := hid (fun W e1 e2 e3 e4 => pkx_some hP hbl hlt F q hfd W e1 e2 e3 e4)
        have HQ : Hid (body.length - q < body.length - p) := by have := frD_pos hlt hfd; unfold Hid; omega
        clear hP hfd HI hlt
        go_wp2_with fail
        refine HEN.out.mono ?_
        rintro e w4 ⟨rfl, q4, rfl⟩
        go_upto_region 7 with fail
        refine wp_region_noPanic ?_
        go_region_law (first | (refine step_call1 _ (by rfl) 164 _ _ (by rfl) _ (by rfl) h48 (HC.out _ (by rfl) (by rfl) (by rfl) (by rfl)) ?_; rintro e y ⟨ra, rc, a', c', W5, rfl, t1, t2, run1, t3, t4, HI'⟩; refine ⟨_, rfl, ?_⟩) | (refine step_append_run _ (by rfl) _ _ _ _ (by rfl) _ _ (by rfl) (by rfl) _ _ (run1 _) ?_))
        all_goals (
          refine NoPanic.normal ?_
          obtain ⟨v9', bg', hP'⟩ := HI'.out
          have HM2 : Hid (posAt (w.heap.size + 2) (W5.setCell ⟨w.heap.size, 1, none⟩ (.slice a' (n + 1) c')) = q) := by
            have c1 : (W5.setCell ⟨w.heap.size, 1, none⟩ (.slice a' (n + 1) c')).cell? ⟨w.heap.size + 2, 1, none⟩ = some (.int .i64 (q : Int)) := hP'.rd.blk.cell 1
            unfold Hid posAt
            rw [c1]
            simp
          have HI2 : Hid (∃ p k bg n' fs sa sc v9, PX w yb yo cap body V (pkD body) (W5.setCell ⟨w.heap.size, 1, none⟩ (.slice a' (n + 1) c')) p k bg n' fs (.slice sa n' sc) v9) := ⟨_, _, _, _, _, _, _, _, hP'⟩
          clear hP' HI' run1 t1 t2 t3 t4
          go_wp2_with fail
          go_roundw
          case rel => exact HI2
          case measure => rw [HM.out, HM2.out]; exact HQ.out)
    · have hpe : p = body.length := by have := hP.rd.le; omega
      rw [decide_eq_true hpe] at HEN
      have hA := hP.box
      have hE := hP.err
      have hgo : pkD body = .ok fs := by rw [← hP.go]; exact dcGo_end hlt
      have hlen := hP.len
      have hfin : ∀ q (x y z : Value), PkX body w (.returned (.tuple #[.agg #[.int .u64 (V : Int), .slice sa n sc], .nilIface])) ((((wr.drewN q).setCell ⟨w.heap.size, 0, none⟩ x).setCell ⟨w.heap.size, 1, none⟩ y).setCell ⟨w.heap.size + 1, 0, none⟩ z) := fun q x y z => by
        have hP' := hP.same (y := wr.drewN q) rfl rfl rfl rfl
        have hst : ∀ b, w.heap.size + 3 ≤ b → ((((wr.drewN q).setCell ⟨w.heap.size, 0, none⟩ x).setCell ⟨w.heap.size, 1, none⟩ y).setCell ⟨w.heap.size + 1, 0, none⟩ z).heap[b]? = (wr.drewN q).heap[b]? := fun b hb => by
          rw [Below.heap_setCell _ _ _ _ (by simp; omega), Below.heap_setCell _ _ _ _ (by simp; omega), Below.heap_setCell _ _ _ _ (by simp; omega)]
        refine ⟨((hP'.bel.setCell (p := ⟨w.heap.size, 0, none⟩) (Nat.le_refl _) _).setCell (p := ⟨w.heap.size, 1, none⟩) (Nat.le_refl _) _).setCell (p := ⟨w.heap.size + 1, 0, none⟩) (by simp) _, .inr ⟨fs, .slice sa n sc, v9, by rw [HVV.out], hgo, hP'.cp.of_heap (fun b h1 _ => hst b h1), hP.ok⟩⟩
      have a0 : wr.cell? ⟨w.heap.size, 0, none⟩ = some (.int .u64 (V : Int)) := hA.cell 0
      have b0 : wr.cell? ⟨w.heap.size + 1, 0, none⟩ = some .nilIface := hE.cell 0
      have z0 := hA.frozen 0
      have z1 := hA.frozen 1
      have z2 := hE.frozen 0
      have HFIN := hid hfin
      clear hfin hP hA hE HI HM hgo hlen hpe hlt
      go_wp2_with fail
      refine HEN.out.mono ?_
      rintro e w4 ⟨rfl, q4, rfl⟩
      go_wp2_with fail
      refine leaves_cons (f := 160) (args := #[.pointer (some ⟨w.heap.size, 0, none⟩), .pointer (some ⟨w.heap.size + 1, 0, none⟩)]) (by simp) (by simp [go_sem]) ?_
      refine (catch_idle ⟨w.heap.size, 0, none⟩ ⟨w.heap.size + 1, 0, none⟩ _).mono ?_
      rintro e u' w'' ⟨rfl, rfl, rfl⟩
      have f1 := HFIN.out q4 (.int .u64 (V : Int)) (.slice sa n sc) .nilIface
      simp [Leaves, settle, results, Tryz.results116, go_sem, a0, x1, b0]
      exact f1

end Go.Proofs.YtphbledmopchnaaGreatDoor
