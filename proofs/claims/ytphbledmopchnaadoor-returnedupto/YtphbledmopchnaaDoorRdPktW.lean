/-
  readPacket.
-/
import Derived.Test.YtphbledmopchnaaDoorRdPkt
import Derived.Deep.RegionHeld3
import Derived.Deep.RegionLaw
namespace Go.Proofs.YtphbledmopchnaaDoor
open Go.RowKit Go.Lib Go.Shelf Mm

theorem PK.same {w : World} {yb yo cap : Nat} {body : List UInt8} {n : Nat} {fs : List Fr} {wr W : World} {v9 : Nat → Value} {k : Nat} {s : Value} {p bg : Nat} (h : PK w yb yo cap body n fs wr v9 k s p bg) (e1 : W.heap = wr.heap) (e2 : W.os = wr.os) (e3 : W.tape = wr.tape) (e4 : W.output = wr.output) : PK w yb yo cap body n fs W v9 k s p bg :=
  h.frame ⟨e2, e3, e4, by rw [e1]; exact Nat.le_refl _, fun _ _ _ _ => by rw [e1]⟩ (h.rd.of (by rw [e1]) (by rw [e1]))

/-- The next frame is read, and appended. -/
theorem pkt_round {w : World} {yb yo cap : Nat} {body : List UInt8} {n : Nat} {fs : List Fr} {wr : World} {v9 : Nat → Value} {k : Nat} {sa : Option Addr} {sc p bg : Nat} (h : PK w yb yo cap body n (fs.map norm) wr v9 k (.slice sa k sc) p bg) (hk : k < fs.length) (hl : fs.length ≤ 1000000000) (hs : snd (fs.getD k fr0) = true ∧ FrOk (fs.getD k fr0))
    (hd : body.drop p = bodyFrom n fs fs.length k) (F : Fr) (hF : norm (fs.getD k fr0) = F) (W : World) (e1 : W.heap = wr.heap) (e2 : W.os = wr.os) (e3 : W.tape = wr.tape) (e4 : W.output = wr.output) :
    Calls Tryd.prog 48 #[.pointer (some ⟨w.heap.size + 2, 0, none⟩)] W fun e y => ∃ ra rc a' c' W5, e = .returned (.agg #[.int .i64 F.kind, .int .i64 F.stream, .int .u64 (F.offset : Int), .int .u64 (F.reliable : Int), .int .u64 (F.limit : Int), .bool F.fin, .int .u64 (F.id : Int), .int .u64 (F.deadline : Int), .string F.data, .slice ra F.ranges.length rc]) ∧
      y.cell? ⟨w.heap.size, 1, none⟩ = some (.slice sa k sc) ∧ w.heap.size < y.heap.size ∧
      (∀ ty, (Builtin.append_ #[23, 23] ty #[.slice sa k sc, .slice (some ⟨y.heap.size, 0, none⟩) 1 1]).run Tryd.prog (y.alloc (.cells #[.int .i64 F.kind, .int .i64 F.stream, .int .u64 (F.offset : Int), .int .u64 (F.reliable : Int), .int .u64 (F.limit : Int), .bool F.fin, .int .u64 (F.id : Int), .int .u64 (F.deadline : Int), .string F.data, .slice ra F.ranges.length rc] 28)) = .ok (.slice a' (k + 1) c') W5) ∧
      W5.cell? ⟨w.heap.size, 1, none⟩ = some (.slice sa k sc) ∧ W5.frozen? ⟨w.heap.size, 1, none⟩ = false ∧
      Hid (∃ v9 p bg, PK w yb yo cap body n (fs.map norm) (W5.setCell ⟨w.heap.size, 1, none⟩ (.slice a' (k + 1) c')) v9 (k + 1) (.slice a' (k + 1) c') p bg ∧ body.drop p = bodyFrom n fs fs.length (k + 1)) := by
  have hW := h.same e1 e2 e3 e4
  have hsz := hW.hsz
  have hyl := hW.yl
  rw [bodyFrom_step n fs fs.length k hk] at hd
  have hC := frame_any (fs.getD k fr0) hs.1 hs.2 (w.heap.size + 2) yb yo cap body p bg _ W hW.rd hd (by omega) (by omega)
  rw [hF] at hC
  refine hC.mono ?_
  rintro e y ⟨v9k, rfl, hG, hO, hR, hS⟩
  obtain ⟨ra, rc, hv, _⟩ := hG.shape
  subst hv
  have hy := hW.frame hS hR
  have hFk : (fs.map norm).getD k fr0 = F := by rw [getD_map fs k hk, hF]
  obtain ⟨a', c', W5, run1, hbx, hP⟩ := hy.app (by simpa using hk) (by simpa using hl) F hFk ra rc hG (fun b hb => by have := hO b hb; omega) (fun b hb e => by have := hO b hb; have := hW.cp.buf.lt b e; omega)
  exact ⟨ra, rc, a', c', W5, rfl, hy.box.cell 1, by have := hy.hsz; omega, run1, hbx.cell 1, hbx.frozen 1, _, _, _, hP, drop_next hd⟩

/-- append, its run known, as one step of a region that draws. -/
theorem step_append_run {P : Program} (w : World) {ops : Array Oper} {o : Oper} {a : Act} {K : Act → World → Prop} {Q : Exit → Act → World → Prop} {E : Prop} (hgd : o.guard = none) (s x : Operand) (t tn : TypeId)
    (ho : o.op = .call { callee := .builtin .append, args := #[s, x], argTypes := #[t, tn] }) (vs vx : Value) (hs : a.eval s = vs) (hx : a.eval x = vx)
    (v' : Value) (w' : World) (hr : (Builtin.append_ #[t, tn] o.type #[vs, vx]).run P w = .ok v' w') (h : K (a.put o.dst v') w') :
    if Region.wanted o (yielded ops a.tmps) = true then Oper.wp P o a w K Q else E := by
  have hw : Region.wanted o (yielded ops a.tmps) = true := by simp [Region.wanted, hgd]
  rw [if_pos hw]
  exact Lib.wp_append_run w s x t tn ho vs vx hs hx v' w' hr h

/-- A call, its contract known, as one step of a region that draws. -/
theorem step_call1 {P : Program} (w : World) {ops : Array Oper} {o : Oper} {a : Act} {K : Act → World → Prop} {Q : Exit → Act → World → Prop} {E : Prop} (hgd : o.guard = none) (g : Nat) (x : Operand) (t : TypeId)
    (ho : o.op = .call { callee := .value (.func g), args := #[x], argTypes := #[t] }) (vx : Value) (hx : a.eval x = vx) (he : ∀ args w, (callFunc g args).run P w = .ok (.enter g args) w)
    {R : Ending → World → Prop} (hC : Calls P g #[vx] w R) (h : ∀ e y, R e y → ∃ v, e = .returned v ∧ K (a.put o.dst v) y) :
    if Region.wanted o (yielded ops a.tmps) = true then Oper.wp P o a w K Q else E := by
  have hw : Region.wanted o (yielded ops a.tmps) = true := by simp [Region.wanted, hgd]
  rw [if_pos hw]
  have hf : a.eval (.func g) = .func (.func g) #[] #[] := rfl
  have hr : (execOp a.eval o).run P w = .ok (.enter g #[vx]) w := by
    unfold execOp
    simp only [ho, resolve, List.map_toArray, List.map_cons, List.map_nil, hx, hf]
    simp [Deferred.ofValue, invoke, he]
  unfold Oper.wp
  rw [hr, Oper.upon_enter]
  refine hC.mono ?_
  intro e y hR
  obtain ⟨v, rfl, hK⟩ := h e y hR
  exact hK

def lenAt (P : Nat) (w : World) : Nat := match w.cell? ⟨P, 1, none⟩ with
  | some (.slice _ n _) => n
  | _ => 0

set_option maxHeartbeats 4000000 in
set_option maxRecDepth 100000 in
theorem readPacket_any (n : Nat) (fs : List Fr) (hn : n < 4611686018427387904) (hs : ∀ j, j < fs.length → snd (fs.getD j fr0) = true ∧ FrOk (fs.getD j fr0)) (hpos : 0 < fs.length) (hl : fs.length ≤ 1000000000) (yb yo cap : Nat) (body : List UInt8) (hbody : body = bodyBytes n fs) (w : World) (hb : BytesAt w (some ⟨yb, yo, none⟩) body) (hroom : body.length < cap) (hcap : cap ≤ 9223372036854775807) (hyb : yb < w.heap.size) :
    Calls Tryd.prog 22 #[.slice (some ⟨yb, yo, none⟩) body.length cap] w fun e w' => ∃ s v9, e = .returned (.tuple #[.agg #[.int .u64 (n : Int), s], .nilIface]) ∧ CpTo (w.heap.size + 3) w' s (fs.map norm) v9 fs.length ∧ Below w.heap.size w w' := by
  have hmf : ∀ (fn : Fn) (first cap : Array Value) (w : World), (Instr.makeFunc fn first cap).run Tryd.prog w = .ok (.func fn first cap) w := fun _ _ _ _ => rfl
  obtain ⟨W0, hW0⟩ : ∃ W0, W0 = ((w.alloc (.cells #[.int .u64 0, .slice none 0 0] 25)).alloc (.cells #[.nilIface] 40)).alloc (.cells #[.slice (some ⟨yb, yo, none⟩) body.length cap, .int .i64 0, .int .i64 0] 95) := ⟨_, rfl⟩
  have hs0 : W0.heap.size = w.heap.size + 3 := by rw [hW0]; simp
  have hb0 : Below w.heap.size w W0 := by rw [hW0]; exact (((Below.refl _ w).alloc (Nat.le_refl _) _).alloc (by simp) _).alloc (by simp; omega) _
  have hA0 : Blk W0 w.heap.size 25 [.int .u64 0, .slice none 0 0] := by rw [hW0]; exact ((Blk.new w 25 _).alloc _).alloc _
  have hE0 : Blk W0 (w.heap.size + 1) 40 [.nilIface] := by
    rw [hW0]
    have := (Blk.new (w.alloc (.cells #[.int .u64 0, .slice none 0 0] 25)) 40 [.nilIface]).alloc (.cells #[.slice (some ⟨yb, yo, none⟩) body.length cap, .int .i64 0, .int .i64 0] 95)
    simpa using this
  have hR0 : RdAt W0 (w.heap.size + 2) yb yo cap body 0 0 := by
    refine ⟨?_, hb.of (fun x hx => by simp at hx; subst hx; exact hb0.block _ hyb), Nat.zero_le _, hroom, hcap, by omega⟩
    rw [hW0]
    have := Blk.new ((w.alloc (.cells #[.int .u64 0, .slice none 0 0] 25)).alloc (.cells #[.nilIface] 40)) 95 [.slice (some ⟨yb, yo, none⟩) body.length cap, .int .i64 ((0 : Nat) : Int), .int .i64 ((0 : Nat) : Int)]
    simpa using this
  have hd0 : body.drop 0 = Num.bytes n ++ bodyFrom n fs fs.length 0 := by
    rw [List.drop_zero, hbody]
    exact bodyFrom_zero n fs fs.length
  have HN := hid (number_read (w.heap.size + 2) yb yo cap body 0 0 n _ W0 hR0 hn hd0)
  have hd1 := drop_next hd0
  have hPK : ∀ w1, RdAt w1 (w.heap.size + 2) yb yo cap body (0 + (Num.bytes n).length) 0 → St1 (w.heap.size + 2) W0 w1 → w1.cell? ⟨w.heap.size, 0, none⟩ = some (.int .u64 0) ∧ w1.frozen? ⟨w.heap.size, 0, none⟩ = false ∧ PK w yb yo cap body n (fs.map norm) (w1.setCell ⟨w.heap.size, 0, none⟩ (.int .u64 (n : Int))) (fun _ => .bool false) 0 (.slice none 0 0) (0 + (Num.bytes n).length) 0 := fun w1 h1 h2 => by
    have hA1 := hA0.of_heap (h2.block _ (by omega))
    have hset : ∀ b, b ≠ w.heap.size → (w1.setCell ⟨w.heap.size, 0, none⟩ (.int .u64 (n : Int))).heap[b]? = w1.heap[b]? := fun b hb => Below.heap_setCell _ _ _ _ hb
    have hb1 : Below w.heap.size w w1 := hb0.trans ⟨h2.os, h2.tape, h2.output, Nat.le_of_eq h2.size.symm, fun b hb => h2.block b (by omega)⟩
    refine ⟨hA1.cell 0, hA1.frozen 0, hA1.setCell 0 _, (hE0.of_heap (h2.block _ (by omega))).of_heap (hset _ (by omega)), h1.of (hset _ (by omega)) (hset _ (by omega)), ⟨GBuf.nil _ _ _, Own.nil _, fun j hj => absurd hj (Nat.not_lt_zero _)⟩, ?_, hb1.setCell (p := ⟨w.heap.size, 0, none⟩) (Nat.le_refl _) _, hyb⟩
    have := h2.size
    simp
    omega
  have hpl : ∀ k p, k < fs.length → body.drop p = bodyFrom n fs fs.length k → p < body.length ∧ decide (p = body.length) = false := fun k p hk hd => by
    rw [bodyFrom_step n fs fs.length k hk] at hd
    obtain ⟨x, t, hx, _⟩ := first_byte _ (hs k hk).1
    have h1 : (body.drop p).length = (frBytes (fs.getD k fr0)).length + (bodyFrom n fs fs.length (k + 1)).length := by rw [hd, List.length_append]
    rw [List.length_drop, hx, List.length_cons] at h1
    exact ⟨by omega, by simp; omega⟩
  have hplE : ∀ p, p ≤ body.length → body.drop p = bodyFrom n fs fs.length fs.length → decide (p = body.length) = true := fun p hp hd => by
    rw [bodyFrom_end] at hd
    have h1 : (body.drop p).length = 0 := by rw [hd]; rfl
    rw [List.length_drop] at h1
    simp; omega
  have HPK := hid hPK
  have HD1 := hid hd1
  have HPL := hid hpl
  have HPLE := hid hplE
  have HS := hid hs
  clear hPK hd1 hpl hplE hd0 hR0 hE0 hA0 hb0 hs0 hs hb hbody hroom hcap
  go_enter_defers Tryd.func22, Tryd.ntmps22
  go_wp2_with fail
  rw [← hW0]
  clear hW0
  refine HN.out.mono ?_
  rintro e w1 ⟨rfl, hR1, hS1⟩
  obtain ⟨x0, z0, hP0⟩ := HPK.out w1 hR1 hS1
  have HP0 := hid hP0
  have HE0 := hid (ended_any _ _ _ _ _ _ _ _ hP0.rd)
  rw [(HPL.out 0 _ hpos HD1.out).2] at HE0
  clear hP0 hR1 hS1 HN HPK
  go_wp2_with fail
  refine HE0.out.mono ?_
  rintro e w2 ⟨rfl, q, rfl⟩
  have HI0 : Hid (∃ v9 sa sc p bg, PK w yb yo cap body n (fs.map norm) (((w1.setCell ⟨w.heap.size, 0, none⟩ (.int .u64 (n : Int)))).drewN q) v9 0 (.slice sa 0 sc) p bg ∧ body.drop p = bodyFrom n fs fs.length 0) := ⟨_, _, _, _, _, HP0.out.same rfl rfl rfl rfl, HD1.out⟩
  clear HP0 HD1 HE0 x0 z0
  generalize ((w1.setCell ⟨w.heap.size, 0, none⟩ (.int .u64 (n : Int)))).drewN q = w3 at *
  go_wp2_with fail
  go_loopw [25] (fun _ wr => ∃ k : Nat, k ≤ fs.length ∧ Hid (∃ v9 sa sc p bg, PK w yb yo cap body n (fs.map norm) wr v9 k (.slice sa k sc) p bg ∧ body.drop p = bodyFrom n fs fs.length k)) (fun _ wr => fs.length - lenAt w.heap.size wr)
  case atStart => exact ⟨0, Nat.zero_le _, HI0.out⟩
  case round =>
    clear HI0
    obtain ⟨k, hk, HI⟩ := hrel
    obtain ⟨v9, sa, sc, p, bg, hP, hd⟩ := HI.out
    have x1 : wr.cell? ⟨w.heap.size, 1, none⟩ = some (.slice sa k sc) := hP.box.cell 1
    have HM : Hid (lenAt w.heap.size wr = k) := by unfold Hid lenAt; rw [x1]
    have HEN := hid (ended_any _ _ _ _ _ _ _ _ hP.rd)
    by_cases hlt : k < fs.length
    · rw [(HPL.out k p hlt hd).2] at HEN
      obtain ⟨F, hF⟩ : ∃ F, norm (fs.getD k fr0) = F := ⟨_, rfl⟩
      have HC := hid (fun W e1 e2 e3 e4 => pkt_round hP hlt hl (HS.out k hlt) hd F hF W e1 e2 e3 e4)
      clear hP hd hF HI HPLE HPL HS
      go_wp2_with fail
      refine HEN.out.mono ?_
      rintro e w4 ⟨rfl, q4, rfl⟩
      go_upto_region 7 with fail
      have h48 : ∀ args w, (callFunc 48 args).run Tryd.prog w = .ok (.enter 48 args) w := enters_of Tryd.func48 (by kernel_rfl) rfl
      refine wp_region_noPanic ?_
      go_region_law (first | (refine step_call1 _ (by rfl) 48 _ _ (by rfl) _ (by rfl) h48 (HC.out _ (by rfl) (by rfl) (by rfl) (by rfl)) ?_; rintro e y ⟨ra, rc, a', c', W5, rfl, t1, t2, run1, t3, t4, HI'⟩; refine ⟨_, rfl, ?_⟩) | (refine step_append_run _ (by rfl) _ _ _ _ (by rfl) _ _ (by rfl) (by rfl) _ _ (run1 _) ?_))
      all_goals (
        refine NoPanic.normal ?_
        have HM2 : Hid (lenAt w.heap.size (W5.setCell ⟨w.heap.size, 1, none⟩ (.slice a' (k + 1) c')) = k + 1) := by unfold Hid lenAt; rw [World.cell?_setCell_same' _ _ _ (by rw [t3]; rfl)]
        obtain ⟨v9', p', bg', hP', hd'⟩ := HI'.out
        have HI2 : Hid (∃ v9 sa sc p bg, PK w yb yo cap body n (fs.map norm) (W5.setCell ⟨w.heap.size, 1, none⟩ (.slice a' (k + 1) c')) v9 (k + 1) (.slice sa (k + 1) sc) p bg ∧ body.drop p = bodyFrom n fs fs.length (k + 1)) := ⟨v9', _, _, p', bg', hP', hd'⟩
        clear hP' hd' HI' run1 t1 t2 t3 t4
        go_wp2_with fail
        go_roundw
        case rel => exact ⟨k + 1, by omega, HI2⟩
        case measure => rw [HM.out, HM2.out]; omega)
    · obtain rfl : k = fs.length := by omega
      rw [HPLE.out p hP.rd.le hd] at HEN
      have hA := hP.box
      have hE := hP.err
      have hfin : ∀ q (x y z : Value), CpTo (w.heap.size + 3) ((((wr.drewN q).setCell ⟨w.heap.size, 0, none⟩ x).setCell ⟨w.heap.size, 1, none⟩ y).setCell ⟨w.heap.size + 1, 0, none⟩ z) (.slice sa fs.length sc) (fs.map norm) v9 fs.length ∧ Below w.heap.size w ((((wr.drewN q).setCell ⟨w.heap.size, 0, none⟩ x).setCell ⟨w.heap.size, 1, none⟩ y).setCell ⟨w.heap.size + 1, 0, none⟩ z) := fun q x y z => by
        have hP' := hP.same (W := wr.drewN q) rfl rfl rfl rfl
        have hst : ∀ b, w.heap.size + 3 ≤ b → ((((wr.drewN q).setCell ⟨w.heap.size, 0, none⟩ x).setCell ⟨w.heap.size, 1, none⟩ y).setCell ⟨w.heap.size + 1, 0, none⟩ z).heap[b]? = (wr.drewN q).heap[b]? := fun b hb => by
          rw [Below.heap_setCell _ _ _ _ (by simp; omega), Below.heap_setCell _ _ _ _ (by simp; omega), Below.heap_setCell _ _ _ _ (by simp; omega)]
        refine ⟨⟨hP'.cp.buf.of_heap (fun b hb => hst b (hP'.cp.own b hb)), hP'.cp.own, fun j hj => ?_⟩, ((hP'.bel.setCell (p := ⟨w.heap.size, 0, none⟩) (Nat.le_refl _) _).setCell (p := ⟨w.heap.size, 1, none⟩) (Nat.le_refl _) _).setCell (p := ⟨w.heap.size + 1, 0, none⟩) (by simp) _⟩
        obtain ⟨r1, r2, r3⟩ := hP'.cp.rng j hj
        exact ⟨r1.of_heap (fun b hb => hst b (r2 b hb)), r2, r3⟩
      have a0 : wr.cell? ⟨w.heap.size, 0, none⟩ = some (.int .u64 (n : Int)) := hA.cell 0
      have b0 : wr.cell? ⟨w.heap.size + 1, 0, none⟩ = some .nilIface := hE.cell 0
      have z0 := hA.frozen 0
      have z1 := hA.frozen 1
      have z2 := hE.frozen 0
      have HFIN := hid hfin
      clear hfin hP hd hA hE HI HM
      go_wp2_with fail
      refine HEN.out.mono ?_
      rintro e w4 ⟨rfl, q4, rfl⟩
      go_wp2_with fail
      refine leaves_cons (f := 44) (args := #[.pointer (some ⟨w.heap.size, 0, none⟩), .pointer (some ⟨w.heap.size + 1, 0, none⟩)]) (by simp) (by simp [go_sem]) ?_
      refine (catch_idle ⟨w.heap.size, 0, none⟩ ⟨w.heap.size + 1, 0, none⟩ _).mono ?_
      rintro e u' w'' ⟨rfl, rfl, rfl⟩
      obtain ⟨f1, f2⟩ := HFIN.out q4 (.int .u64 (n : Int)) (.slice sa fs.length sc) .nilIface
      simp [Leaves, settle, results, Tryd.results22, go_sem, a0, x1, b0]
      exact ⟨⟨_, f1⟩, f2⟩

end Go.Proofs.YtphbledmopchnaaDoor
