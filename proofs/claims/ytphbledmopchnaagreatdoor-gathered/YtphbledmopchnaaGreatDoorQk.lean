import Derived.Test.YtphbledmopchnaaGreatDoorQj
import Derived.Test.YtphbledmopchnaaGreatDoorUl
import Derived.Test.YtphbledmopchnaaGreatDoorQh
import Derived.Laws.IdiomStrings
/-
  sets: Add, Has and Floor of one.
-/
namespace Go.Proofs.YtphbledmopchnaaGreatDoor.St
open Go.RowKit Go.Lib Mm

/-- A step of a script, as it lies in the call. -/
def opV (k a b c : Int) (s : ByteArray) (n : Int) (fa : Option Addr) (fl fc : Nat) : Value := .agg #[.int .i64 k, .int .i64 a, .int .i64 b, .int .i64 c, .string s, .int .u64 n, .slice fa fl fc]

theorem ptrs_get {ps : List Nat} {i p : Nat} (h : ps[i]? = some p) : (ptrs ps)[i * 1]? = some (.pointer (some ⟨p, 0, none⟩)) := by
  rw [Nat.mul_one]; simp [ptrs, h]
theorem ptrs_get' {ps : List Nat} {i p : Nat} (h : ps[i]? = some p) : (ptrs ps)[i]? = some (.pointer (some ⟨p, 0, none⟩)) := by
  simp [ptrs, h]

theorem u64_wrap (b : Int) : ∃ nb : Nat, IntKind.u64.wrap b = (nb : Int) ∧ nb < 18446744073709551616 := by
  rw [IntKind.wrap_u64]
  exact ⟨(b % 18446744073709551616).toNat, by omega, by omega⟩

/-- The i-th set, and where it lies. -/
theorem Inv.at {N : Nat} {W : World} {wp : Nat} {own : Nat → Nat × Nat} {vx vm : Value} {ps qs : List Nat} {S : List S1} (h : Inv N W wp own vx vm ps qs S) {i : Nat} (hi : i < S.length) :
    ∃ s p q, S[i]? = some s ∧ ps[i]? = some p ∧ qs[i]? = some q ∧ One W own i s p q := by
  have h1 := h.lp
  have h2 := h.lq
  refine ⟨S[i], ps[i], qs[i], List.getElem?_eq_getElem hi, List.getElem?_eq_getElem (by omega), List.getElem?_eq_getElem (by omega), h.one i _ _ _ (List.getElem?_eq_getElem hi) (List.getElem?_eq_getElem (by omega)) (List.getElem?_eq_getElem (by omega))⟩

theorem getElem?_mem {S : List S1} {i : Nat} {s : S1} (h : S[i]? = some s) : s ∈ S := List.mem_of_getElem? h

/-- Behind the program's Add: what the document's Add is owed, and what both come to. -/
theorem Inv.added {N : Nat} {W W1 : World} {wp : Nat} {own : Nat → Nat × Nat} {vx vm : Value} {ps qs : List Nat} {S : List S1} (h : Inv N W wp own vx vm ps qs S) (hN : N ≤ W.heap.size) {K : Nat} (hok : ∀ s ∈ S, Rg.Ok 18446744073709551616 K s.fl s.rs) {i : Nat} {s : S1} {p q : Nat} (hi : S[i]? = some s) (hp : ps[i]? = some p) (hq : qs[i]? = some q)
    {row row' : Option Nat} (h1 : SetAt W p s.most s.fl s.rs row) (h2 : DSetAt W q (max s.most 1) s.fl s.rs row') (o1 : own p = (3, i)) (o2 : ∀ b, row = some b → own b = (4, i)) (o3 : own q = (5, i)) (o4 : ∀ b, row' = some b → own b = (6, i))
    {lo hi' : Nat} (hhi : hi' < 18446744073709551616) (P : PPost p s.most row W (Rg.add (max s.most 1).toNat s.fl s.rs lo hi') W1) :
    DSetAt W1 q (max s.most 1) s.fl s.rs row' ∧ row' ≠ some q ∧ ∀ W2, DPost q (max s.most 1) row' W1 (Rg.add (max s.most 1).toNat s.fl s.rs lo hi') W2 → SPost N wp S K W W2 := by
  obtain ⟨row1, a1, k1, r1⟩ := P
  have l1 := h1.lt
  have l2 := h2.lt
  have hqp : q ≠ p := fun e => by rw [e, o1] at o3; cases o3
  have hqr : some q ≠ row := fun e => by have := o2 q e.symm; rw [o3] at this; cases this
  have hrp : ∀ k, row' = some k → k ≠ p ∧ some k ≠ row := fun k hk => ⟨fun e => (by have := o4 k hk; rw [e, o1] at this; cases this), fun e => (by have := o4 k hk; rw [o2 k e.symm] at this; cases this)⟩
  refine ⟨h2.of_heap (k1.block q l2.1 hqp hqr) (fun k hk => k1.block k (l2.2 k hk) (hrp k hk).1 (hrp k hk).2), fun e => (by have := o4 q e; rw [o3] at this; cases this), ?_⟩
  rintro W2 ⟨k2, row2, a2, r2⟩
  obtain ⟨own', hI'⟩ := h.set (s' := ⟨s.most, (Rg.add (max s.most 1).toNat s.fl s.rs lo hi').1, (Rg.add (max s.most 1).toNat s.fl s.rs lo hi').2⟩) hi hp hq h1 h2 o1 o2 o3 o4 a1 k1 r1 a2 k2 r2 hN
  refine ⟨own', _, _, _, _, _, hI', by simp, ?_, ?_⟩
  · intro t ht
    rcases List.mem_or_eq_of_mem_set ht with ht | rfl
    · exact (hok t ht).mono (by omega)
    · exact (hok s (getElem?_mem hi)).add (by omega) hhi
  · have hs1 := k1.size
    refine ⟨k2.os.trans k1.os, k2.tape.trans k1.tape, k2.output.trans k1.output, Nat.le_trans k1.size k2.size, fun k hk => ?_⟩
    have hlow := h.low k hk
    rw [k2.block k (by omega) (fun e => by rw [e, o3] at hlow; cases hlow), k1.block k (by omega) (fun e => by rw [e, o1] at hlow; cases hlow) (fun e => by rw [o2 k e.symm] at hlow; cases hlow)]

set_option maxHeartbeats 4000000 in
set_option maxRecDepth 100000 in
theorem sets_add (N : Nat) (W : World) (wp : Nat) (own : Nat → Nat × Nat) (vx vm : Value) (ps qs : List Nat) (S : List S1) (K : Nat) (hI : Inv N W wp own vx vm ps qs S) (hN : N ≤ W.heap.size) (hl : S.length ≤ 1000000) (hK : K ≤ 1000000) (hok : ∀ s ∈ S, Rg.Ok 18446744073709551616 K s.fl s.rs)
    (a b c : Int) (ha : -9223372036854775808 ≤ a ∧ a ≤ 9223372036854775807) (s : ByteArray) (n : Int) (fa : Option Addr) (fl fc : Nat) (h0 : 0 < S.length) :
    Calls Tryz.prog 49 #[.pointer (some ⟨wp, 0, none⟩), .agg #[.int .i64 19, .int .i64 a, .int .i64 b, .int .i64 c, .string s, .int .u64 n, .slice fa fl fc]] W fun e W' => e = .returned (.bool true) ∧ SPost N wp S K W W' := by
  obtain ⟨ax, cx, rfl, hcx⟩ := hI.bx.shape
  obtain ⟨am, cm, rfl, hcm⟩ := hI.bm.shape
  have hlp := hI.lp
  have hlq := hI.lq
  obtain ⟨W0, hW0⟩ : ∃ W0, W0 = W.alloc (.cells #[.int .i64 19, .int .i64 a, .int .i64 b, .int .i64 c, .string s, .int .u64 n, .slice fa fl fc] 74) := ⟨_, rfl⟩
  have hb0 : Blk W0 W.heap.size 74 [.int .i64 19, .int .i64 a, .int .i64 b, .int .i64 c, .string s, .int .u64 n, .slice fa fl fc] := by rw [hW0]; exact Blk.new W 74 _
  have hB0 : Below W.heap.size W W0 := by rw [hW0]; exact (Below.refl _ W).alloc (Nat.le_refl _) _
  have hs0 : W0.heap.size = W.heap.size + 1 := by rw [hW0]; simp
  have hI0 : Inv N W0 wp own (.slice ax ps.length cx) (.slice am qs.length cm) ps qs S := hI.frame (fun k hk _ => hB0.block k hk)
  have hpl := pickN_lt a S.length h0
  obtain ⟨s1, p, q, hs1, hp1, hq1, hone⟩ := hI.at hpl
  obtain ⟨row, row', o1, o2, o3, o4, o5, o6⟩ := hone
  have l1 := o1.lt
  have l2 := o2.lt
  obtain ⟨gx, hgx, x1, _⟩ := hI0.bx.cell rfl (pickN a S.length) _ (ptrs_get' hp1)
  obtain ⟨gm, hgm, x2, _⟩ := hI0.bm.cell rfl (pickN a S.length) _ (ptrs_get' hq1)
  subst hgx
  subst hgm
  obtain ⟨nb, hnb, hnb2⟩ := u64_wrap b
  obtain ⟨nc, hnc, hnc2⟩ := u64_wrap c
  have hok1 := (hok s1 (getElem?_mem hs1)).mono hK
  have HA : Hid (∀ z, Calls Tryz.prog 82 #[.pointer (some ⟨p, 0, none⟩), .int .u64 (nb : Int), .int .u64 (nc : Int)] (W0.drewN z) fun e w' => e = .returned (.tuple #[]) ∧ PPost p s1.most row (W0.drewN z) (Rg.add (max s1.most 1).toNat s1.fl s1.rs nb nc) w') := fun z => padd_any p nb nc s1.most s1.fl s1.rs row (W0.drewN z) (o1.of_heap (hB0.block p l1.1) (fun k hk => hB0.block k (l1.2 k hk))) hok1 hnc2
  have HF : Hid (∀ z W1, PPost p s1.most row (W0.drewN z) (Rg.add (max s1.most 1).toNat s1.fl s1.rs nb nc) W1 → Blk W1 W.heap.size 74 [.int .i64 19, .int .i64 a, .int .i64 b, .int .i64 c, .string s, .int .u64 n, .slice fa fl fc] ∧ Calls Tryz.prog 83 #[.pointer (some ⟨q, 0, none⟩), .int .u64 (nb : Int), .int .u64 (nc : Int)] W1 fun e w' => e = .returned (.tuple #[]) ∧ SPost N wp S K W w') := fun z W1 hP => by
    have hIz : Inv N (W0.drewN z) wp own (.slice (some ⟨gx, 0, none⟩) ps.length cx) (.slice (some ⟨gm, 0, none⟩) qs.length cm) ps qs S := hI0.frame (fun _ _ _ => rfl)
    have hsz : (W0.drewN z).heap.size = W.heap.size + 1 := hs0
    obtain ⟨y1, y2, y3⟩ := hIz.added (by omega) hok hs1 hp1 hq1 (o1.of_heap (hB0.block p l1.1) (fun k hk => hB0.block k (l1.2 k hk))) (o2.of_heap (hB0.block q l2.1) (fun k hk => hB0.block k (l2.2 k hk))) o3 o4 o5 o6 hnc2 hP
    obtain ⟨row1, _, k1, _⟩ := hP
    refine ⟨hb0.of_heap (k1.block W.heap.size (by omega) (by omega) (fun e => by have := l1.2 _ e.symm; omega)), ?_⟩
    refine (dadd_any q nb nc (max s1.most 1) s1.fl s1.rs row' W1 y1 hok1 hnb2 hnc2 (by omega) y2).mono ?_
    rintro e w' ⟨rfl, hD⟩
    obtain ⟨own', vx', vm', ps', qs', S', u1, u2, u3, u4⟩ := y3 w' hD
    exact ⟨rfl, own', vx', vm', ps', qs', S', u1, u2, u3, (hB0.mono hN).trans ⟨u4.os, u4.tape, u4.output, u4.size, u4.block⟩⟩
  have hw0 := hI0.blk
  have d3 : W0.cell? ⟨wp, 3, none⟩ = some (.slice (some ⟨gx, 0, none⟩) ps.length cx) := hw0.cell 3
  have d4 : W0.cell? ⟨wp, 4, none⟩ = some (.slice (some ⟨gm, 0, none⟩) qs.length cm) := hw0.cell 4
  have c0 : W0.cell? ⟨W.heap.size, 0, none⟩ = some (.int .i64 19) := hb0.cell 0
  have c1 : W0.cell? ⟨W.heap.size, 1, none⟩ = some (.int .i64 a) := hb0.cell 1
  have c2 : W0.cell? ⟨W.heap.size, 2, none⟩ = some (.int .i64 b) := hb0.cell 2
  have c3 : W0.cell? ⟨W.heap.size, 3, none⟩ = some (.int .i64 c) := hb0.cell 3
  rw [hlp] at d3
  rw [hlq] at d4
  have hpl' : ((pickN a S.length : Nat) : Int) < (S.length : Int) := by omega
  have hne0 : ¬ ((S.length : Int) = 0) := by omega
  have HPK : Hid (∀ w, Calls Tryz.prog 50 #[.int .i64 a, .int .i64 (S.length : Int)] w fun e w' => e = .returned (.int .i64 (pickN a S.length : Nat)) ∧ w' = w) := fun w => pick_any a S.length ha.1 ha.2 h0 (by omega) w
  generalize pickN a S.length = i at *
  have hLn := hl
  clear hI hI0 hb0 hB0 hs0 o1 o2 o3 o4 o5 o6 l1 l2 hok1 hw0 hs1 hp1 hq1 hlp hlq hcx hcm hok hN ha hl
  subst hW0
  go_enter Tryz.func49, Tryz.ntmps49
  go_wp2_with fail
  go_quiet ((go_at_call 50; exact Calls.quiet_of_same (HPK.out _)))
  go_wp2_with (go_at_call 82; refine (HA.out _).mono ?_; rintro e W1 ⟨rfl, hP⟩; obtain ⟨hop, hD⟩ := HF.out _ W1 hP; have c2' : W1.cell? ⟨W.heap.size, 2, none⟩ = some (.int .i64 b) := hop.cell 2; have c3' : W1.cell? ⟨W.heap.size, 3, none⟩ = some (.int .i64 c) := hop.cell 3; have c0' : W1.cell? ⟨W.heap.size, 0, none⟩ = some (.int .i64 19) := hop.cell 0; have HD := hid hD; clear hop hD hP HF HA)
  refine HD.out.mono ?_
  rintro e W2 ⟨rfl, hS⟩
  clear HD c2' c3' c0'
  go_wp2_with fail
  go_ret
  exact ⟨rfl, hS⟩

end Go.Proofs.YtphbledmopchnaaGreatDoor.St

/-
  sets: Has and Floor of one; none at all.
-/
namespace Go.Proofs.YtphbledmopchnaaGreatDoor.St
open Go.RowKit Go.Lib Mm

/-- Nothing that is somebody's has turned. -/
theorem SPost.same {N : Nat} {W W' : World} {wp : Nat} {own : Nat → Nat × Nat} {vx vm : Value} {ps qs : List Nat} {S : List S1} {K : Nat} (hI : Inv N W wp own vx vm ps qs S) (hN : N ≤ W.heap.size) (hok : ∀ s ∈ S, Rg.Ok 18446744073709551616 K s.fl s.rs) (hB : Below W.heap.size W W') : SPost N wp S K W W' :=
  ⟨own, vx, vm, ps, qs, S, hI.frame (fun k hk _ => hB.block k hk), by omega, fun s hs => (hok s hs).mono (by omega), hB.mono hN⟩

set_option maxHeartbeats 4000000 in
set_option maxRecDepth 100000 in
theorem sets_has (N : Nat) (W : World) (wp : Nat) (own : Nat → Nat × Nat) (vx vm : Value) (ps qs : List Nat) (S : List S1) (K : Nat) (hI : Inv N W wp own vx vm ps qs S) (hN : N ≤ W.heap.size) (hl : S.length ≤ 1000000) (hK : K ≤ 1000000) (hok : ∀ s ∈ S, Rg.Ok 18446744073709551616 K s.fl s.rs)
    (a b c : Int) (ha : -9223372036854775808 ≤ a ∧ a ≤ 9223372036854775807) (s : ByteArray) (n : Int) (fa : Option Addr) (fl fc : Nat) (h0 : 0 < S.length) :
    Calls Tryz.prog 49 #[.pointer (some ⟨wp, 0, none⟩), .agg #[.int .i64 20, .int .i64 a, .int .i64 b, .int .i64 c, .string s, .int .u64 n, .slice fa fl fc]] W fun e W' => e = .returned (.bool true) ∧ SPost N wp S K W W' := by
  obtain ⟨ax, cx, rfl, hcx⟩ := hI.bx.shape
  obtain ⟨am, cm, rfl, hcm⟩ := hI.bm.shape
  have hlp := hI.lp
  have hlq := hI.lq
  obtain ⟨W0, hW0⟩ : ∃ W0, W0 = W.alloc (.cells #[.int .i64 20, .int .i64 a, .int .i64 b, .int .i64 c, .string s, .int .u64 n, .slice fa fl fc] 74) := ⟨_, rfl⟩
  have hb0 : Blk W0 W.heap.size 74 [.int .i64 20, .int .i64 a, .int .i64 b, .int .i64 c, .string s, .int .u64 n, .slice fa fl fc] := by rw [hW0]; exact Blk.new W 74 _
  have hB0 : Below W.heap.size W W0 := by rw [hW0]; exact (Below.refl _ W).alloc (Nat.le_refl _) _
  have hs0 : W0.heap.size = W.heap.size + 1 := by rw [hW0]; simp
  have hI0 : Inv N W0 wp own (.slice ax ps.length cx) (.slice am qs.length cm) ps qs S := hI.frame (fun k hk _ => hB0.block k hk)
  have hpl := pickN_lt a S.length h0
  obtain ⟨s1, p, q, hs1, hp1, hq1, hone⟩ := hI.at hpl
  obtain ⟨row, row', o1, o2, o3, o4, o5, o6⟩ := hone
  have l1 := o1.lt
  have l2 := o2.lt
  obtain ⟨gx, hgx, x1, _⟩ := hI0.bx.cell rfl (pickN a S.length) _ (ptrs_get' hp1)
  obtain ⟨gm, hgm, x2, _⟩ := hI0.bm.cell rfl (pickN a S.length) _ (ptrs_get' hq1)
  subst hgx
  subst hgm
  obtain ⟨nb, hnb, hnb2⟩ := u64_wrap b
  have hok1 := (hok s1 (getElem?_mem hs1)).mono hK
  have HA : Hid (∀ z, Calls Tryz.prog 84 #[.pointer (some ⟨p, 0, none⟩), .int .u64 (nb : Int)] (W0.drewN z) fun e w' => e = .returned (.bool (decide (nb < s1.fl) || Rg.has nb s1.rs)) ∧ Below (W0.drewN z).heap.size (W0.drewN z) w') := fun z => phas_any p nb s1.most s1.fl s1.rs row (W0.drewN z) (o1.of_heap (hB0.block p l1.1) (fun k hk => hB0.block k (l1.2 k hk))) hok1.sorted hok1.len
  have HF : Hid (∀ z W1, Below (W0.drewN z).heap.size (W0.drewN z) W1 → Blk W1 W.heap.size 74 [.int .i64 20, .int .i64 a, .int .i64 b, .int .i64 c, .string s, .int .u64 n, .slice fa fl fc] ∧ W1.cell? ⟨q, 1, none⟩ = some (.int .u64 (s1.fl : Int)) ∧
      Calls Tryz.prog 85 #[.pointer (some ⟨q, 0, none⟩), .int .u64 (nb : Int)] W1 (fun e w' => e = .returned (.bool (decide (nb < s1.fl) || Rg.has nb s1.rs)) ∧ w' = W1) ∧ Calls Tryz.prog 86 #[.pointer (some ⟨p, 0, none⟩)] W1 (fun e w' => e = .returned (.int .u64 (s1.fl : Int)) ∧ w' = W1) ∧ SPost N wp S K W W1) := fun z W1 hB1 => by
    have hsz : (W0.drewN z).heap.size = W.heap.size + 1 := hs0
    have hB01 : Below W.heap.size W W1 := hB0.trans ((⟨hB1.os, hB1.tape, hB1.output, hB1.size, hB1.block⟩ : Below (W0.drewN z).heap.size W0 W1).mono (by omega))
    have hD := o2.of_heap (hB01.block q l2.1) (fun k hk => hB01.block k (l2.2 k hk))
    have hS := o1.of_heap (hB01.block p l1.1) (fun k hk => hB01.block k (l1.2 k hk))
    have hDh := dhas_any q nb (max s1.most 1) s1.fl s1.rs row' W1 hD hok1.len
    rw [Rg.dHas_eq nb s1.rs hok1.sorted] at hDh
    obtain ⟨_, _, y1, _⟩ := hD
    obtain ⟨_, _, y2, _⟩ := hS
    exact ⟨hb0.of_heap (hB1.block W.heap.size (by omega)), y1.cell 1, hDh, pfloor_any p s1.fl W1 (y2.cell 1), SPost.same hI hN hok hB01⟩
  have hw0 := hI0.blk
  have d3 : W0.cell? ⟨wp, 3, none⟩ = some (.slice (some ⟨gx, 0, none⟩) ps.length cx) := hw0.cell 3
  have d4 : W0.cell? ⟨wp, 4, none⟩ = some (.slice (some ⟨gm, 0, none⟩) qs.length cm) := hw0.cell 4
  have c0 : W0.cell? ⟨W.heap.size, 0, none⟩ = some (.int .i64 20) := hb0.cell 0
  have c1 : W0.cell? ⟨W.heap.size, 1, none⟩ = some (.int .i64 a) := hb0.cell 1
  have c2 : W0.cell? ⟨W.heap.size, 2, none⟩ = some (.int .i64 b) := hb0.cell 2
  have c3 : W0.cell? ⟨W.heap.size, 3, none⟩ = some (.int .i64 c) := hb0.cell 3
  rw [hlp] at d3
  rw [hlq] at d4
  have hpl' : ((pickN a S.length : Nat) : Int) < (S.length : Int) := by omega
  have hne0 : ¬ ((S.length : Int) = 0) := by omega
  have HPK : Hid (∀ w, Calls Tryz.prog 50 #[.int .i64 a, .int .i64 (S.length : Int)] w fun e w' => e = .returned (.int .i64 (pickN a S.length : Nat)) ∧ w' = w) := fun w => pick_any a S.length ha.1 ha.2 h0 (by omega) w
  generalize pickN a S.length = i at *
  generalize (decide (nb < s1.fl) || Rg.has nb s1.rs) = B at *
  generalize s1.fl = FL at *
  have hLn := hl
  clear hI hI0 hb0 hB0 hs0 o1 o2 o3 o4 o5 o6 l1 l2 hok1 hw0 hs1 hp1 hq1 hlp hlq hcx hcm hok hN ha hl
  subst hW0
  go_enter Tryz.func49, Tryz.ntmps49
  go_wp2_with fail
  go_quiet ((go_at_call 50; exact Calls.quiet_of_same (HPK.out _)))
  go_wp2_with (go_at_call 84; refine (HA.out _).mono ?_; rintro e W1 ⟨rfl, hP⟩; obtain ⟨hop, cq, hD, hFl, hS⟩ := HF.out _ W1 hP; have c2' : W1.cell? ⟨W.heap.size, 2, none⟩ = some (.int .i64 b) := hop.cell 2; have c3' : W1.cell? ⟨W.heap.size, 3, none⟩ = some (.int .i64 c) := hop.cell 3; have c0' : W1.cell? ⟨W.heap.size, 0, none⟩ = some (.int .i64 20) := hop.cell 0; have HD := hid hD; have HFl := hid hFl; have HS := hid hS; clear hop hD hP HF HA hFl hS)
  refine HD.out.mono ?_
  rintro e W2 ⟨rfl, rfl⟩
  clear HD
  go_wp2_with fail
  refine HFl.out.mono ?_
  rintro e W2' ⟨rfl, rfl⟩
  clear HFl
  cases B <;> (go_wp2_with fail; go_ret; exact ⟨rfl, HS.out⟩)

set_option maxHeartbeats 4000000 in
set_option maxRecDepth 100000 in
theorem sets_none (N : Nat) (W : World) (wp : Nat) (own : Nat → Nat × Nat) (vx vm : Value) (ps qs : List Nat) (S : List S1) (K : Nat) (hI : Inv N W wp own vx vm ps qs S) (hN : N ≤ W.heap.size) (hok : ∀ s ∈ S, Rg.Ok 18446744073709551616 K s.fl s.rs)
    (kd a b c : Int) (hkd : ¬ kd = 18) (s : ByteArray) (n : Int) (fa : Option Addr) (fl fc : Nat) (h0 : S.length = 0) :
    Calls Tryz.prog 49 #[.pointer (some ⟨wp, 0, none⟩), .agg #[.int .i64 kd, .int .i64 a, .int .i64 b, .int .i64 c, .string s, .int .u64 n, .slice fa fl fc]] W fun e W' => e = .returned (.bool true) ∧ SPost N wp S K W W' := by
  obtain ⟨ax, cx, rfl, hcx⟩ := hI.bx.shape
  have hlp := hI.lp
  obtain ⟨W0, hW0⟩ : ∃ W0, W0 = W.alloc (.cells #[.int .i64 kd, .int .i64 a, .int .i64 b, .int .i64 c, .string s, .int .u64 n, .slice fa fl fc] 74) := ⟨_, rfl⟩
  have hB0 : Below W.heap.size W W0 := by rw [hW0]; exact (Below.refl _ W).alloc (Nat.le_refl _) _
  have hw0 : Blk W0 wp 72 _ := (hI.frame (W' := W0) (fun k hk _ => hB0.block k hk)).blk
  have d3 : W0.cell? ⟨wp, 3, none⟩ = some (.slice ax ps.length cx) := hw0.cell 3
  have HS := hid (SPost.same hI hN hok hB0)
  rw [hlp, h0] at d3
  have hkd' : (kd == 18) = false := by simp [hkd]
  clear hI hN hok hB0 hw0 hcx hlp h0
  subst hW0
  go_enter Tryz.func49, Tryz.ntmps49
  go_wp2_with fail
  go_ret
  exact ⟨rfl, HS.out⟩

end Go.Proofs.YtphbledmopchnaaGreatDoor.St

/-
  sameRanges, of lists that are the same.
-/
namespace Go.Proofs.YtphbledmopchnaaGreatDoor.St
open Go.RowKit Go.Lib Mm

set_option maxHeartbeats 2000000 in
set_option maxRecDepth 100000 in
theorem same_true (v1 v2 : Value) (rs : List (Nat × Nat)) (w : World) (h1 : GBuf 170 2 w v1 rs.length (rcells rs)) (h2 : GBuf 170 2 w v2 rs.length (rcells rs)) (hn : rs.length ≤ 1000000) :
    Calls Tryz.prog 88 #[v1, v2] w fun e w' => e = .returned (.bool true) ∧ ∃ q, w' = w.drewN q := by
  obtain ⟨a1, c1, rfl, hc1⟩ := h1.shape
  obtain ⟨a2, c2, rfl, hc2⟩ := h2.shape
  have HC : Hid (∀ k, k < rs.length → ∃ g1 g2 x y, a1 = some ⟨g1, 0, none⟩ ∧ a2 = some ⟨g2, 0, none⟩ ∧ w.cell? ⟨g1, k * 2, none⟩ = some (.int .u64 x) ∧ w.cell? ⟨g1, k * 2 + 1, none⟩ = some (.int .u64 y) ∧ w.cell? ⟨g2, k * 2, none⟩ = some (.int .u64 x) ∧ w.cell? ⟨g2, k * 2 + 1, none⟩ = some (.int .u64 y)) := fun k hk => by
    obtain ⟨g1, e1, m1, _⟩ := h1.cell rfl (k * 2) _ (rcells_lo rs k hk)
    obtain ⟨g1', e1', m1', _⟩ := h1.cell rfl (k * 2 + 1) _ (rcells_hi rs k hk)
    obtain ⟨g2, e2, m2, _⟩ := h2.cell rfl (k * 2) _ (rcells_lo rs k hk)
    obtain ⟨g2', e2', m2', _⟩ := h2.cell rfl (k * 2 + 1) _ (rcells_hi rs k hk)
    have q1 : g1' = g1 := by rw [e1] at e1'; simp at e1'; exact e1'.symm
    have q2 : g2' = g2 := by rw [e2] at e2'; simp at e2'; exact e2'.symm
    subst q1
    subst q2
    exact ⟨_, _, _, _, e1, e2, m1, m1', m2, m2'⟩
  clear h1 h2
  go_enter Tryz.func88, Tryz.ntmps88
  go_wp2
  go_loopw [5] (fun s5 wr => ∃ k q : Nat, k ≤ rs.length ∧ s5 = .int .i64 k ∧ wr = w.drewN q) (fun s5 _ => rs.length - (intOf s5).toNat)
  case atStart => exact ⟨0, 0, Nat.zero_le _, rfl, rfl⟩
  case round =>
    obtain ⟨k, q, hk, rfl, rfl⟩ := hrel
    by_cases hlt : k < rs.length
    · have hlt' : (k : Int) < (rs.length : Int) := by omega
      obtain ⟨g1, g2, x, y, e1, e2, m1, m2, m3, m4⟩ := HC.out k hlt
      subst e1
      subst e2
      clear HC
      go_wp2
      go_quiet (fail)
      go_wp2
      go_roundw
      case rel => exact ⟨k + 1, q + nq, by omega, by go_num, rfl⟩
      case measure => simp [intOf]; omega
    · obtain rfl : k = rs.length := by omega
      go_wp2
      go_ret
      exact ⟨rfl, q, rfl⟩

/-- What plain.Down is owed. -/
def DownSaid : Prop := ∀ (sp : Nat) (most : Int) (fl : Nat) (rs : List (Nat × Nat)) (row : Option Nat) (left : Nat) (w : World), SetAt w sp most fl rs row → rs.length ≤ 1000000 → left ≤ 5 →
  Calls Tryz.prog 87 #[.pointer (some ⟨sp, 0, none⟩), .int .i64 (left : Int)] w fun e w' => ∃ v, e = .returned (.tuple #[v, .bool true]) ∧ GBuf 170 2 w' v (Rg.down rs left).length (rcells (Rg.down rs left)) ∧ Own w.heap.size v ∧ Below w.heap.size w w'

end Go.Proofs.YtphbledmopchnaaGreatDoor.St

/-
  sets: a walk down one.
-/
namespace Go.Proofs.YtphbledmopchnaaGreatDoor.St
open Go.RowKit Go.Lib Mm

theorem rev_take_succ (rs : List (Nat × Nat)) (n m : Nat) (h : m + 1 + n = rs.length) : rs.reverse.take (n + 1) = rs.reverse.take n ++ [rs.getD m (0, 0)] := by
  have hm : m < rs.length := by omega
  rw [List.take_add_one, List.getElem?_reverse (by omega), show rs.length - 1 - n = m by omega, List.getElem?_eq_getElem hm, getD_at rs m hm]
  rfl

theorem down_all (rs : List (Nat × Nat)) (n left : Nat) (h : n = rs.length ∧ (left = 0 ∨ n ≤ left) ∨ (n = left ∧ ¬ left = 0)) : rs.reverse.take n = Rg.down rs left := by
  unfold Rg.down
  rcases h with ⟨h1, h2⟩ | ⟨h1, h2⟩
  · subst h1
    rw [List.take_of_length_le (by simp)]
    rcases h2 with h2 | h2
    · rw [if_pos h2]
    · by_cases h0 : left = 0
      · rw [if_pos h0]
      · rw [if_neg h0, List.take_of_length_le (by simpa using h2)]
  · rw [if_neg h2, h1]

/-- How far the document's walk has come. -/
structure WIn (W1 : World) (rs : List (Nat × Nat)) (wr : World) (v : Value) (n : Nat) : Prop where
  buf : GBuf 170 2 wr v (rs.reverse.take n).length (rcells (rs.reverse.take n))
  own : Own W1.heap.size v
  bel : Below W1.heap.size W1 wr

theorem WIn.push {W1 : World} {rs : List (Nat × Nat)} {wr : World} {v : Value} {n m : Nat} (h : WIn W1 rs wr v n) (hm : m + 1 + n = rs.length) (hl : n ≤ 1000000) {x y : Nat} (hxy : rs.getD m (0, 0) = (x, y)) :
    ∃ g c W5, (∀ ty, (Builtin.append_ #[63, 63] ty #[v, .slice (some ⟨wr.heap.size, 0, none⟩) 1 1]).run Tryz.prog (wr.alloc (.cells #[.int .u64 (x : Int), .int .u64 (y : Int)] 170)) = .ok (.slice (some ⟨g, 0, none⟩) (n + 1) c) W5) ∧ WIn W1 rs W5 (.slice (some ⟨g, 0, none⟩) (n + 1) c) (n + 1) := by
  have hn : (rs.reverse.take n).length = n := by simp; omega
  obtain ⟨g, c, W5, r, b1, b2, b3, _⟩ := rpush h.buf h.own h.bel.size (by omega) x y
  rw [hn] at r b1 b2
  rw [← hxy, ← rev_take_succ rs n m hm] at b1
  exact ⟨g, c, W5, r, b1, b2, h.bel.trans b3⟩

set_option maxHeartbeats 4000000 in
set_option maxRecDepth 100000 in
theorem sets_down (hDown : DownSaid) (N : Nat) (W : World) (wp : Nat) (own : Nat → Nat × Nat) (vx vm : Value) (ps qs : List Nat) (S : List S1) (K : Nat) (hI : Inv N W wp own vx vm ps qs S) (hN : N ≤ W.heap.size) (hl : S.length ≤ 1000000) (hK : K ≤ 1000000) (hok : ∀ s ∈ S, Rg.Ok 18446744073709551616 K s.fl s.rs)
    (a b c : Int) (ha : -9223372036854775808 ≤ a ∧ a ≤ 9223372036854775807) (hb : -9223372036854775808 ≤ b ∧ b ≤ 9223372036854775807) (s : ByteArray) (n : Int) (fa : Option Addr) (fl fc : Nat) (h0 : 0 < S.length) :
    Calls Tryz.prog 49 #[.pointer (some ⟨wp, 0, none⟩), .agg #[.int .i64 21, .int .i64 a, .int .i64 b, .int .i64 c, .string s, .int .u64 n, .slice fa fl fc]] W fun e W' => e = .returned (.bool true) ∧ SPost N wp S K W W' := by
  obtain ⟨ax, cx, rfl, hcx⟩ := hI.bx.shape
  obtain ⟨am, cm, rfl, hcm⟩ := hI.bm.shape
  have hlp := hI.lp
  have hlq := hI.lq
  obtain ⟨W0, hW0⟩ : ∃ W0, W0 = W.alloc (.cells #[.int .i64 21, .int .i64 a, .int .i64 b, .int .i64 c, .string s, .int .u64 n, .slice fa fl fc] 74) := ⟨_, rfl⟩
  have hb0 : Blk W0 W.heap.size 74 [.int .i64 21, .int .i64 a, .int .i64 b, .int .i64 c, .string s, .int .u64 n, .slice fa fl fc] := by rw [hW0]; exact Blk.new W 74 _
  have hB0 : Below W.heap.size W W0 := by rw [hW0]; exact (Below.refl _ W).alloc (Nat.le_refl _) _
  have hs0 : W0.heap.size = W.heap.size + 1 := by rw [hW0]; simp
  have hI0 : Inv N W0 wp own (.slice ax ps.length cx) (.slice am qs.length cm) ps qs S := hI.frame (fun k hk _ => hB0.block k hk)
  have hpl := pickN_lt a S.length h0
  obtain ⟨s1, p, q, hs1, hp1, hq1, hone⟩ := hI.at hpl
  obtain ⟨row, row', o1, o2, o3, o4, o5, o6⟩ := hone
  have l1 := o1.lt
  have l2 := o2.lt
  obtain ⟨gx, hgx, x1, _⟩ := hI0.bx.cell rfl (pickN a S.length) _ (ptrs_get' hp1)
  obtain ⟨gm, hgm, x2, _⟩ := hI0.bm.cell rfl (pickN a S.length) _ (ptrs_get' hq1)
  subst hgx
  subst hgm
  have hok1 := (hok s1 (getElem?_mem hs1)).mono hK
  have hleft := pickN_lt b 6 (by omega)
  have HPL : Hid (∀ w, Calls Tryz.prog 50 #[.int .i64 b, .int .i64 6] w fun e w' => e = .returned (.int .i64 (pickN b 6 : Nat)) ∧ w' = w) := fun w => pick_any b 6 hb.1 hb.2 (by omega) (by omega) w
  generalize pickN b 6 = left at *
  have HA : Hid (∀ z, Calls Tryz.prog 87 #[.pointer (some ⟨p, 0, none⟩), .int .i64 (left : Int)] (W0.drewN z) fun e w' => ∃ v, e = .returned (.tuple #[v, .bool true]) ∧ GBuf 170 2 w' v (Rg.down s1.rs left).length (rcells (Rg.down s1.rs left)) ∧ Own (W0.drewN z).heap.size v ∧ Below (W0.drewN z).heap.size (W0.drewN z) w') := fun z => hDown p s1.most s1.fl s1.rs row left (W0.drewN z) (o1.of_heap (hB0.block p l1.1) (fun k hk => hB0.block k (l1.2 k hk))) hok1.len (by omega)
  have hrl := hok1.len
  have HF : Hid (∀ z W1, Below (W0.drewN z).heap.size (W0.drewN z) W1 → (∃ base C, W1.cell? ⟨q, 0, none⟩ = some (.slice base s1.rs.length C) ∧ DRow W1 base s1.rs) ∧ q < W1.heap.size ∧ ∀ w', Below W1.heap.size W1 w' → SPost N wp S K W w') := fun z W1 hB1 => by
    have hsz : (W0.drewN z).heap.size = W.heap.size + 1 := hs0
    have hB01 : Below W.heap.size W W1 := hB0.trans ((⟨hB1.os, hB1.tape, hB1.output, hB1.size, hB1.block⟩ : Below (W0.drewN z).heap.size W0 W1).mono (by omega))
    obtain ⟨base, C, y1, _, _, y4⟩ := o2.of_heap (hB01.block q l2.1) (fun k hk => hB01.block k (l2.2 k hk))
    exact ⟨⟨base, C, y1.cell 0, y4⟩, y1.lt, fun w' hw => SPost.same hI hN hok (hB01.trans (hw.mono hB01.size))⟩
  have hw0 := hI0.blk
  have d3 : W0.cell? ⟨wp, 3, none⟩ = some (.slice (some ⟨gx, 0, none⟩) ps.length cx) := hw0.cell 3
  have d4 : W0.cell? ⟨wp, 4, none⟩ = some (.slice (some ⟨gm, 0, none⟩) qs.length cm) := hw0.cell 4
  have c0 : W0.cell? ⟨W.heap.size, 0, none⟩ = some (.int .i64 21) := hb0.cell 0
  have c1 : W0.cell? ⟨W.heap.size, 1, none⟩ = some (.int .i64 a) := hb0.cell 1
  have c2 : W0.cell? ⟨W.heap.size, 2, none⟩ = some (.int .i64 b) := hb0.cell 2
  have c3 : W0.cell? ⟨W.heap.size, 3, none⟩ = some (.int .i64 c) := hb0.cell 3
  rw [hlp] at d3
  rw [hlq] at d4
  have hpl' : ((pickN a S.length : Nat) : Int) < (S.length : Int) := by omega
  have hne0 : ¬ ((S.length : Int) = 0) := by omega
  have HPK : Hid (∀ w, Calls Tryz.prog 50 #[.int .i64 a, .int .i64 (S.length : Int)] w fun e w' => e = .returned (.int .i64 (pickN a S.length : Nat)) ∧ w' = w) := fun w => pick_any a S.length ha.1 ha.2 h0 (by omega) w
  generalize pickN a S.length = i at *
  generalize s1.rs = rs at *
  have hLn := hl
  clear hI hI0 hb0 hB0 hs0 o1 o2 o3 o4 o5 o6 l1 l2 hok1 hw0 hs1 hp1 hq1 hlp hlq hcx hcm hok hN ha hl hb hK
  subst hW0
  go_enter Tryz.func49, Tryz.ntmps49
  go_wp2_with fail
  go_quiet ((go_at_call 50; exact Calls.quiet_of_same (HPK.out _)))
  clear HPK
  go_wp2_with fail
  refine (HPL.out _).mono ?_
  rintro e Wq ⟨rfl, rfl⟩
  clear HPL
  go_wp2_with fail
  refine (HA.out _).mono ?_
  rintro e W1 ⟨v1, rfl, hv1, hO1, hB1⟩
  obtain ⟨⟨base, C, cq, hDR⟩, hqlt, hfin⟩ := HF.out _ W1 hB1
  obtain ⟨a1, c1', rfl, _⟩ := hv1.shape
  have HDR := hid hDR
  have HV := hid hv1
  have HFIN := hid hfin
  have HSM : Hid (∀ wr v n, WIn W1 rs wr v n → rs.reverse.take n = Rg.down rs left → Calls Tryz.prog 88 #[.slice a1 (Rg.down rs left).length c1', v] wr fun e w' => e = .returned (.bool true) ∧ SPost N wp S K W w') := fun wr v n hw he => by
    have h2 := hw.buf
    rw [he] at h2
    refine (same_true _ v (Rg.down rs left) wr (hv1.of_heap (fun k hk => hw.bel.block k (hv1.lt k hk))) h2 (by
      unfold Rg.down
      split
      · simpa using hrl
      · simp; omega)).mono ?_
    rintro e w' ⟨rfl, z, rfl⟩
    exact ⟨rfl, hfin _ ⟨hw.bel.os, hw.bel.tape, hw.bel.output, hw.bel.size, hw.bel.block⟩⟩
  have HW0 : Hid (WIn W1 rs W1 (.slice none 0 0) 0) := ⟨GBuf.nil 170 2 W1, fun k hk => by simp [Value.ownBlock] at hk, Below.refl _ _⟩
  clear hv1 hO1 hB1 hDR hfin HF HA c0 c1 c2 c3 d3 d4 x1 x2
  go_wp2_with fail
  clear HV
  go_loopw [16, 17] (fun s16 s17 wr => ∃ (M m : Nat) (base' : Option Addr) (C' : Nat), m + M = rs.length ∧ Hid (left = 0 ∨ M ≤ left) ∧ s16 = .slice base' M C' ∧ s17 = .int .i64 ((m : Int) - 1) ∧ Hid (WIn W1 rs wr (.slice base' M C') M)) (fun _ s17 _ => (intOf s17 + 1).toNat)
  case atStart => exact ⟨0, rs.length, none, 0, by omega, (by unfold Hid; omega), rfl, rfl, HW0⟩
  case round =>
    clear HW0
    obtain ⟨M, m, base', C', hmM, hlM, rfl, rfl, HW⟩ := hrel
    cases m with
    | zero =>
      have e0 : ((0 : Nat) : Int) - 1 = -1 := by omega
      rw [e0]
      have HE := hid (HSM.out wr (.slice base' M C') M HW.out (down_all rs M left (.inl ⟨by omega, hlM.out⟩)))
      clear HSM HFIN
      go_wp2_with fail
      refine HE.out.mono ?_
      rintro e w' ⟨rfl, hS⟩
      clear HE
      go_wp2_with fail
      go_ret
      exact ⟨rfl, hS⟩
    | succ m =>
      have e0 : ((m + 1 : Nat) : Int) - 1 = (m : Int) := by omega
      rw [e0]
      have hml : m < rs.length := by omega
      have hml' : (m : Int) < (rs.length : Int) := by omega
      obtain ⟨b', o', hb', hbl, k0, k1⟩ := HDR.out.cell hml
      subst hb'
      have y0 := cell_of k0 (HW.out.bel.block b' hbl)
      have y1 := cell_of k1 (HW.out.bel.block b' hbl)
      have y2 := cell_of cq (HW.out.bel.block q hqlt)
      clear k0 k1
      obtain ⟨g, C5, W5, run5, hW5⟩ := HW.out.push (x := (rs.getD m (0, 0)).1) (y := (rs.getD m (0, 0)).2) (m := m) (by omega) (by omega) rfl
      have HW5 := hid hW5
      clear hW5
      generalize (rs.getD m (0, 0)).1 = x at *
      generalize (rs.getD m (0, 0)).2 = y at *
      by_cases hl0 : left = 0
      · have HL5 : Hid (left = 0 ∨ M + 1 ≤ left) := .inl hl0
        have hl0' : ((left : Int) == 0) = true := by simp [hl0]
        clear HSM HFIN HW hl0
        go_wp2_with (at_builtin; refine Lib.wpList_append_run _ rfl _ _ _ _ rfl _ _ rfl rfl _ _ (run5 _) ?_)
        go_roundw
        case rel => exact ⟨M + 1, m, some ⟨g, 0, none⟩, C5, by omega, HL5, rfl, by go_num, HW5⟩
        case measure => simp [intOf]
      · have hl0' : ¬ ((left : Int) = 0) := by omega
        by_cases hMl : M < left
        · have hMl' : (M : Int) < (left : Int) := by omega
          have HL5 : Hid (left = 0 ∨ M + 1 ≤ left) := .inr (by omega)
          clear HSM HFIN HW
          go_wp2_with (at_builtin; refine Lib.wpList_append_run _ rfl _ _ _ _ rfl _ _ rfl rfl _ _ (run5 _) ?_)
          go_roundw
          case rel => exact ⟨M + 1, m, some ⟨g, 0, none⟩, C5, by omega, HL5, rfl, by go_num, HW5⟩
          case measure => simp [intOf]
        · have hMl' : ¬ ((M : Int) < (left : Int)) := by omega
          have HE := hid (HSM.out wr (.slice base' M C') M HW.out (down_all rs M left (.inr ⟨(by have := hlM.out; omega), hl0⟩)))
          clear HSM HFIN
          go_wp2_with fail
          refine HE.out.mono ?_
          rintro e w' ⟨rfl, hS⟩
          clear HE
          go_wp2_with fail
          go_ret
          exact ⟨rfl, hS⟩

end Go.Proofs.YtphbledmopchnaaGreatDoor.St

/-
  step, of a step on sets.
-/
namespace Go.Proofs.YtphbledmopchnaaGreatDoor.St
open Go.RowKit Go.Lib Mm

theorem sets_all (hDown : DownSaid) (N : Nat) (W : World) (wp : Nat) (own : Nat → Nat × Nat) (vx vm : Value) (ps qs : List Nat) (S : List S1) (K : Nat) (hI : Inv N W wp own vx vm ps qs S) (hN : N ≤ W.heap.size) (hl : S.length ≤ 1000000) (hK : K ≤ 1000000) (hok : ∀ s ∈ S, Rg.Ok 18446744073709551616 K s.fl s.rs)
    (k a b c : Int) (hk : k = 18 ∨ k = 19 ∨ k = 20 ∨ k = 21) (ha : -9223372036854775808 ≤ a ∧ a ≤ 9223372036854775807) (hb : -9223372036854775808 ≤ b ∧ b ≤ 9223372036854775807) (s : ByteArray) (n : Int) (fa : Option Addr) (fl fc : Nat) :
    Calls Tryz.prog 49 #[.pointer (some ⟨wp, 0, none⟩), .agg #[.int .i64 k, .int .i64 a, .int .i64 b, .int .i64 c, .string s, .int .u64 n, .slice fa fl fc]] W fun e W' => e = .returned (.bool true) ∧ SPost N wp S K W W' := by
  by_cases h18 : k = 18
  · subst h18
    exact sets_new N W wp own vx vm ps qs S K hI hN hl hok a b c s n fa fl fc
  · by_cases h0 : S.length = 0
    · exact sets_none N W wp own vx vm ps qs S K hI hN hok k a b c h18 s n fa fl fc h0
    · rcases hk with rfl | rfl | rfl | rfl
      · exact absurd rfl h18
      · exact sets_add N W wp own vx vm ps qs S K hI hN hl hK hok a b c ha s n fa fl fc (by omega)
      · exact sets_has N W wp own vx vm ps qs S K hI hN hl hK hok a b c ha s n fa fl fc (by omega)
      · exact sets_down hDown N W wp own vx vm ps qs S K hI hN hl hK hok a b c ha hb s n fa fl fc (by omega)

theorem SPost.ahead {N : Nat} {W W0 W' : World} {wp : Nat} {S : List S1} {K : Nat} (h : SPost N wp S K W0 W') (hB : Below N W W0) : SPost N wp S K W W' := by
  obtain ⟨own', vx', vm', ps', qs', S', u1, u2, u3, u4⟩ := h
  exact ⟨own', vx', vm', ps', qs', S', u1, u2, u3, hB.trans u4⟩

set_option maxHeartbeats 4000000 in
set_option maxRecDepth 100000 in
theorem step_sets (hDown : DownSaid) (N : Nat) (W : World) (wp : Nat) (own : Nat → Nat × Nat) (vx vm : Value) (ps qs : List Nat) (S : List S1) (K : Nat) (hI : Inv N W wp own vx vm ps qs S) (hN : N ≤ W.heap.size) (hl : S.length ≤ 1000000) (hK : K ≤ 1000000) (hok : ∀ s ∈ S, Rg.Ok 18446744073709551616 K s.fl s.rs)
    (k a b c : Int) (hk : k = 18 ∨ k = 19 ∨ k = 20 ∨ k = 21) (ha : -9223372036854775808 ≤ a ∧ a ≤ 9223372036854775807) (hb : -9223372036854775808 ≤ b ∧ b ≤ 9223372036854775807) (s : ByteArray) (n : Int) (fa : Option Addr) (fl fc : Nat) :
    Calls Tryz.prog 28 #[.pointer (some ⟨wp, 0, none⟩), .agg #[.int .i64 k, .int .i64 a, .int .i64 b, .int .i64 c, .string s, .int .u64 n, .slice fa fl fc]] W fun e W' => e = .returned (.bool true) ∧ SPost N wp S K W W' := by
  have HS : Hid (Calls Tryz.prog 49 #[.pointer (some ⟨wp, 0, none⟩), .agg #[.int .i64 k, .int .i64 a, .int .i64 b, .int .i64 c, .string s, .int .u64 n, .slice fa fl fc]] (W.alloc (.cells #[.int .i64 k, .int .i64 a, .int .i64 b, .int .i64 c, .string s, .int .u64 n, .slice fa fl fc] 74)) fun e W' => e = .returned (.bool true) ∧ SPost N wp S K W W') := by
    have hB0 : Below W.heap.size W (W.alloc (.cells #[.int .i64 k, .int .i64 a, .int .i64 b, .int .i64 c, .string s, .int .u64 n, .slice fa fl fc] 74)) := (Below.refl _ W).alloc (Nat.le_refl _) _
    refine (sets_all hDown N _ wp own vx vm ps qs S K (hI.frame (fun k hk _ => hB0.block k hk)) (by simp; omega) hl hK hok k a b c hk ha hb s n fa fl fc).mono ?_
    rintro e W' ⟨rfl, h⟩
    exact ⟨rfl, h.ahead (hB0.mono hN)⟩
  clear hI hN hl hK hok ha hb
  rcases hk with rfl | rfl | rfl | rfl
  all_goals
    go_enter Tryz.func28, Tryz.ntmps28
    go_wp2_with fail
    refine HS.out.mono ?_
    rintro e W' ⟨rfl, h⟩
    clear HS
    go_wp2_with fail
    go_ret
    exact ⟨rfl, h⟩

end Go.Proofs.YtphbledmopchnaaGreatDoor.St

/-
  plays, of steps on sets: what lies around the walk.
-/
namespace Go.Proofs.YtphbledmopchnaaGreatDoor
open Go.RowKit Go.Lib Mm

/-- '[]byte(s)'. -/
theorem conv_bytes (w : World) (s : ByteArray) : ∃ c W', (convert 9 60 (.string s)).run Tryz.prog w = .ok (.slice (some ⟨w.heap.size, 0, none⟩) s.size c) W' ∧ s.size ≤ c ∧ Below w.heap.size w W' ∧ BytesAt W' (some ⟨w.heap.size, 0, none⟩) s.data.toList := by
  have h := run_bytes_of_string (P := Tryz.prog) w 9 60 5 s u9 u29 (by kernel_rfl)
  refine ⟨_, _, h, grownCap_ge w s.size 0 5, ((Below.refl _ w).drew).alloc (Nat.le_refl _) _, fun j hj => ⟨_, 0, rfl, ?_⟩⟩
  have hsz : s.data.size = s.size := rfl
  have hj' : j < s.data.size := by simpa using hj
  rw [Nat.zero_add]
  have hnew : (w.drew.alloc (.cells (bytesRow s (grownCap w s.size 0 5)) 5 ((bytesRow s (grownCap w s.size 0 5)).size, (bytesRow s (grownCap w s.size 0 5)).size + 1))).heap[w.heap.size]? = some (.cells (bytesRow s (grownCap w s.size 0 5)) 5 ((bytesRow s (grownCap w s.size 0 5)).size, (bytesRow s (grownCap w s.size 0 5)).size + 1)) := by
    show (w.heap.push _)[w.heap.size]? = _
    simp
  simp only [World.cell?, hnew]
  unfold bytesRow
  rw [Array.getElem?_append_left (by simpa using hj')]
  simp only [Array.getElem?_map, Array.getElem?_eq_getElem hj', Option.map_some, Array.getElem_toList]
  rfl

theorem dcGo_len (l : List UInt8) : ∀ (k p : Nat) (acc fs : List Fr), dcGo l k p acc = .ok fs → p ≤ l.length → fs.length ≤ acc.length + (l.length - p)
  | 0, p, acc, fs, h, hp => by
    rw [dcGo] at h
    cases h
    omega
  | k + 1, p, acc, fs, h, hp => by
    by_cases hlt : p < l.length
    · cases e : frD l p with
      | none => rw [dcGo_none hlt e] at h; cases h
      | some x =>
        obtain ⟨f, q⟩ := x
        rw [dcGo_some hlt e] at h
        have h1 := frD_pos hlt e
        have h2 := dcGo_len l k q (acc ++ [f]) fs h h1.2
        simp at h2
        omega
    · rw [dcGo_end hlt] at h
      cases h
      omega

theorem dcAll_len (l : List UInt8) : (dcAll l).2.1.length ≤ l.length := by
  unfold dcAll
  split
  · simp
  · split
    · simp
    · split
      · simp
      · rename_i h3
        split
        · simp
        · rename_i fs hg
          have hp : rP (l.take (l.length - 4)) 0 ≤ (l.take (l.length - 4)).length := (rP_le _ 0 (Nat.zero_le _)).1
          have := dcGo_len _ _ _ _ _ hg hp
          simp at this ⊢
          omega

/-- What a script of sets has come to. -/
def PIn (wp : Nat) (w wr : World) (i : Nat) : Prop := ∃ own vx vm ps qs S, St.Inv w.heap.size wr wp own vx vm ps qs S ∧ S.length ≤ i ∧ (∀ s ∈ S, St.Rg.Ok 18446744073709551616 i s.fl s.rs) ∧ Below w.heap.size w wr

theorem PIn.later {wp : Nat} {w wr wr' : World} {i : Nat} (h : PIn wp w wr i) (hb : Below wr.heap.size wr wr') : PIn wp w wr' i := by
  obtain ⟨own, vx, vm, ps, qs, S, h1, h2, h3, h4⟩ := h
  exact ⟨own, vx, vm, ps, qs, S, h1.frame (fun k hk _ => hb.block k hk), h2, h3, h4.trans (hb.mono h4.size)⟩
theorem PIn.succ {wp : Nat} {w wr : World} {i : Nat} (h : PIn wp w wr i) : PIn wp w wr (i + 1) := by
  obtain ⟨own, vx, vm, ps, qs, S, h1, h2, h3, h4⟩ := h
  exact ⟨own, vx, vm, ps, qs, S, h1, by omega, fun s hs => St.Rg.Ok.mono (h3 s hs) (by omega), h4⟩
theorem PIn.below {wp : Nat} {w wr : World} {i : Nat} (h : PIn wp w wr i) : Below w.heap.size w wr := by
  obtain ⟨own, vx, vm, ps, qs, S, h1, h2, h3, h4⟩ := h
  exact h4

/-- One step on sets. -/
theorem PIn.step (hDown : St.DownSaid) {wp : Nat} {w wr : World} {i : Nat} (h : PIn wp w wr i) (hi : i ≤ 1000000) (k a b c : Int) (hk : k = 18 ∨ k = 19 ∨ k = 20 ∨ k = 21) (ha : -9223372036854775808 ≤ a ∧ a ≤ 9223372036854775807) (hb : -9223372036854775808 ≤ b ∧ b ≤ 9223372036854775807) (s : ByteArray) (n : Int) (fa : Option Addr) (fl fc : Nat) :
    Calls Tryz.prog 28 #[.pointer (some ⟨wp, 0, none⟩), .agg #[.int .i64 k, .int .i64 a, .int .i64 b, .int .i64 c, .string s, .int .u64 n, .slice fa fl fc]] wr fun e W' => e = .returned (.bool true) ∧ PIn wp w W' (i + 1) := by
  obtain ⟨own, vx, vm, ps, qs, S, h1, h2, h3, h4⟩ := h
  refine (St.step_sets hDown w.heap.size wr wp own vx vm ps qs S i h1 h4.size (by omega) hi h3 k a b c hk ha hb s n fa fl fc).mono ?_
  rintro e W' ⟨rfl, own', vx', vm', ps', qs', S', u1, u2, u3, u4⟩
  exact ⟨rfl, own', vx', vm', ps', qs', S', u1, by omega, u3, h4.trans u4⟩

/-- Is it among the first j kinds? -/
def inK (k : Int) (j : Nat) : Bool := decide (18 ≤ k) && decide (k < 18 + (j : Int))
theorem inK_true {k : Int} {j : Nat} (h : inK k j = true) : inK k (j + 1) = true := by
  simp only [inK, Bool.and_eq_true, decide_eq_true_eq] at h ⊢
  omega
theorem inK_eq {k : Int} {j : Nat} (h : k = 18 + (j : Int)) : inK k (j + 1) = true := by
  simp only [inK, Bool.and_eq_true, decide_eq_true_eq]
  omega
theorem inK_false {k : Int} {j : Nat} (h : inK k j = false) (hne : ¬ k = 18 + (j : Int)) : inK k (j + 1) = false := by
  rw [← Bool.not_eq_true] at h ⊢
  simp only [inK, Bool.and_eq_true, decide_eq_true_eq] at h ⊢
  omega
theorem inK_four {k : Int} (h : inK k 4 = true) : k = 18 ∨ k = 19 ∨ k = 20 ∨ k = 21 := by
  simp only [inK, Bool.and_eq_true, decide_eq_true_eq] at h
  omega

end Go.Proofs.YtphbledmopchnaaGreatDoor

/-
  plays, of steps on sets: the walk.
-/
namespace Go.Proofs.YtphbledmopchnaaGreatDoor
open Go.RowKit Go.Lib Mm

set_option maxHeartbeats 4000000 in
set_option maxRecDepth 100000 in
theorem plays_sets (hDown : St.DownSaid) (oa : Option Addr) (os : List OpR) (oc kb : Nat) (w : World) (hO : OpsW w oa os) (hn : os.length ≤ 1000000) (hK : ∀ j, j < 4 → w.cell? ⟨kb, j, none⟩ = some (.int .i64 (18 + (j : Int)))) :
    Calls Tryz.prog 13 #[.slice oa os.length oc, .slice (some ⟨kb, 0, none⟩) 4 4, .bool false] w fun e w' => e = .returned (.bool true) ∧ Below w.heap.size w w' := by
  have hkb := World.block_lt_of_cell? _ _ (hK 0 (by omega))
  have HS := hid (small_any oa os oc w hO (by omega))
  have HO := hid hO
  have HK := hid hK
  have HD := hid hDown
  clear hO hK hDown
  go_enter Tryz.func13, Tryz.ntmps13
  go_wp2_with fail
  refine HS.out.mono ?_
  rintro e w1 ⟨⟨B, rfl⟩, q0, rfl⟩
  clear HS
  cases B with
  | false =>
    go_wp2_with fail
    go_ret
    exact ⟨rfl, rfl, rfl, rfl, Nat.le_refl _, fun _ _ => rfl⟩
  | true =>
    have HP : Hid (PIn w.heap.size w ((w.drewN q0).alloc (.cells #[.slice none 0 0, .slice none 0 0, .slice none 0 0, .slice none 0 0, .slice none 0 0, .bool false] 72)) 0) := by
      refine ⟨fun k => if k = w.heap.size then (0, 0) else (9, 9), .slice none 0 0, .slice none 0 0, [], [], [], ⟨Blk.new (w.drewN q0) 72 _, if_pos rfl, GBuf.nil _ _ _, GBuf.nil _ _ _, fun k hk => by simp [Value.ownBlock] at hk, fun k hk => by simp [Value.ownBlock] at hk, rfl, rfl, fun i s p q h => by simp at h, fun b hb => if_neg (by omega)⟩, Nat.le_refl _, fun s hs => by simp at hs, ?_⟩
      exact ((⟨rfl, rfl, rfl, Nat.le_refl _, fun _ _ => rfl⟩ : Below w.heap.size w (w.drewN q0)).alloc (Nat.le_refl _) _)
    go_wp2_with fail
    go_loopw [7, 9] (fun s7 s9 wr => ∃ i : Nat, i ≤ os.length ∧ s7 = .bool true ∧ s9 = .int .i64 i ∧ Hid (PIn w.heap.size w wr i)) (fun _ s9 _ => os.length - (intOf s9).toNat)
    case atStart => exact ⟨0, Nat.zero_le _, rfl, rfl, HP⟩
    case round =>
      clear HP
      obtain ⟨i, hi, rfl, rfl, HP⟩ := hrel
      by_cases hlt : i < os.length
      · have hlt' : (i : Int) < (os.length : Int) := by omega
        have hbw := HP.out.below
        obtain ⟨b, off, hoa, hop⟩ := (HO.out.below hbw) i hlt
        subst hoa
        have c0 := hop.c0
        have c1 := hop.c1
        have c2 := hop.c2
        have c3 := hop.c3
        have c4 := hop.c4
        have c5 := hop.c5
        have c6 := hop.c6
        have HF := hid hop.frs
        have ha := hop.ha
        have hb := hop.hb
        have hs := hop.hs
        have hf := hop.hf
        have hkb2 : kb < wr.heap.size := by have := hbw.size; omega
        have kc : ∀ j, j < 4 → wr.cell? ⟨kb, j, none⟩ = some (.int .i64 (18 + (j : Int))) := fun j hj => cell_of (HK.out j hj) (hbw.block kb hkb)
        have HKC := hid kc
        clear hop kc hbw
        generalize (os.getD i op0).k = ok at *
        generalize (os.getD i op0).a = oA at *
        generalize (os.getD i op0).b = oB at *
        generalize (os.getD i op0).c = oC at *
        generalize (os.getD i op0).s = oS at *
        generalize (os.getD i op0).n = oN at *
        generalize (os.getD i op0).fs = fs at *
        generalize (os.getD i op0).fa = fa at *
        generalize (os.getD i op0).fc = fc at *
        generalize (os.getD i op0).ra = ra at *
        generalize (os.getD i op0).rc = rc at *
        obtain ⟨W1, hW1⟩ : ∃ W1, W1 = wr.alloc (.cells #[.int .i64 ok, .int .i64 oA, .int .i64 oB, .int .i64 oC, .string oS, .int .u64 (oN : Int), .slice fa fs.length fc] 74) := ⟨_, rfl⟩
        have hb1 : Blk W1 wr.heap.size 74 [.int .i64 ok, .int .i64 oA, .int .i64 oB, .int .i64 oC, .string oS, .int .u64 (oN : Int), .slice fa fs.length fc] := by rw [hW1]; exact Blk.new wr 74 _
        have hB1 : Below wr.heap.size wr W1 := by rw [hW1]; exact (Below.refl _ wr).alloc (Nat.le_refl _) _
        have hs1 : W1.heap.size = wr.heap.size + 1 := by rw [hW1]; simp
        have HB1 := hid (And.intro hb1 (And.intro hB1 hs1))
        have d0 : W1.cell? ⟨wr.heap.size, 0, none⟩ = some (.int .i64 ok) := hb1.cell 0
        have HKC1 : Hid (∀ j, j < 4 → W1.cell? ⟨kb, j, none⟩ = some (.int .i64 (18 + (j : Int)))) := fun j hj => cell_of (HKC.out j hj) (hB1.block kb hkb2)
        clear hb1 hB1 hs1 HKC
        go_wp2_with fail
        rw [← hW1]
        clear hW1 c0 c1 c2 c3 c4 c5 c6
        go_loopw [11, 12] (fun s11 s12 wq => ∃ (j z : Nat) (B : Bool), j ≤ 4 ∧ s11 = .bool B ∧ s12 = .int .i64 j ∧ Hid (B = inK ok j) ∧ wq = W1.drewN z) (fun _ s12 _ => 4 - (intOf s12).toNat)
        case atStart => exact ⟨0, 0, false, by omega, rfl, rfl, (by unfold Hid inK; simp), rfl⟩
        case round =>
          obtain ⟨j, z, B, hj, rfl, rfl, HB, rfl⟩ := hrel
          by_cases hj4 : j < 4
          · have hj4' : (j : Int) < 4 := by omega
            have kc := HKC1.out j hj4
            cases B with
            | true =>
              have HB2 : Hid (true = inK ok (j + 1)) := (inK_true HB.out.symm).symm
              go_wp2_with fail
              go_quiet (fail)
              go_wp2_with fail
              go_roundw
              case rel => exact ⟨j + 1, z + nq, true, by omega, rfl, by go_num, HB2, rfl⟩
              case measure => simp [intOf]; omega
            | false =>
              by_cases hke : ok = 18 + (j : Int)
              · have HB2 : Hid (true = inK ok (j + 1)) := (inK_eq hke).symm
                have hke' : (ok == 18 + (j : Int)) = true := by simp [hke]
                clear hke
                go_wp2_with fail
                go_quiet (fail)
                go_wp2_with fail
                go_roundw
                case rel => exact ⟨j + 1, z + nq, true, by omega, rfl, by go_num, HB2, rfl⟩
                case measure => simp [intOf]; omega
              · have HB2 : Hid (false = inK ok (j + 1)) := (inK_false HB.out.symm hke).symm
                have hke' : (ok == 18 + (j : Int)) = false := by simp [hke]
                go_wp2_with fail
                go_quiet (fail)
                go_wp2_with fail
                go_roundw
                case rel => exact ⟨j + 1, z + nq, false, by omega, rfl, by go_num, HB2, rfl⟩
                case measure => simp [intOf]; omega
          · obtain rfl : j = 4 := by omega
            obtain ⟨hb1, hB1, hs1⟩ := HB1.out
            have hBz : Below wr.heap.size wr (W1.drewN z) := ⟨hB1.os, hB1.tape, hB1.output, hB1.size, hB1.block⟩
            have hsz : (W1.drewN z).heap.size = wr.heap.size + 1 := hs1
            have HE := hid (early_any (oN : Int) fa fs fc ra rc (W1.drewN z) (by omega) (HF.out.below hBz))
            have d5 : W1.cell? ⟨wr.heap.size, 5, none⟩ = some (.int .u64 (oN : Int)) := hb1.cell 5
            have d6 : W1.cell? ⟨wr.heap.size, 6, none⟩ = some (.slice fa fs.length fc) := hb1.cell 6
            have HBz := hid (And.intro hBz hsz)
            clear hb1 hB1 hs1 hBz hsz
            go_wp2_with fail
            refine HE.out.mono ?_
            rintro e Y1 ⟨⟨B1, rfl⟩, hy1⟩
            clear HE d0 d5 d6
            obtain ⟨hb1, hB1, hs1⟩ := HB1.out
            obtain ⟨hBz, hsz⟩ := HBz.out
            have hy : Below wr.heap.size wr Y1 := hBz.trans (hy1.mono (by omega))
            have hbY : Blk Y1 wr.heap.size 74 [.int .i64 ok, .int .i64 oA, .int .i64 oB, .int .i64 oC, .string oS, .int .u64 (oN : Int), .slice fa fs.length fc] := hb1.of_heap (hy1.block _ (by omega))
            have hsY : wr.heap.size + 1 ≤ Y1.heap.size := by have := hy1.size; omega
            have e0 : Y1.cell? ⟨wr.heap.size, 0, none⟩ = some (.int .i64 ok) := hbY.cell 0
            have e1 : Y1.cell? ⟨wr.heap.size, 1, none⟩ = some (.int .i64 oA) := hbY.cell 1
            have e2 : Y1.cell? ⟨wr.heap.size, 2, none⟩ = some (.int .i64 oB) := hbY.cell 2
            have e3 : Y1.cell? ⟨wr.heap.size, 3, none⟩ = some (.int .i64 oC) := hbY.cell 3
            have e4 : Y1.cell? ⟨wr.heap.size, 4, none⟩ = some (.string oS) := hbY.cell 4
            have e5 : Y1.cell? ⟨wr.heap.size, 5, none⟩ = some (.int .u64 (oN : Int)) := hbY.cell 5
            have e6 : Y1.cell? ⟨wr.heap.size, 6, none⟩ = some (.slice fa fs.length fc) := hbY.cell 6
            have HPY := hid (HP.out.later hy)
            clear hb1 hB1 hs1 hBz hsz hy1 hbY hy HBz HB1 HKC1
            by_cases h9 : ok = 9
            · subst h9
              have hBf : B = false := HB.out
              subst hBf
              obtain ⟨c', W2, hcv, hc', hb2, hby⟩ := conv_bytes Y1 oS
              have hll : oS.data.toList.length = oS.size := Array.length_toList
              have hdc := rdecode_any (some ⟨Y1.heap.size, 0, none⟩) oS.data.toList c' W2 (by omega) (by omega) hby
              rw [hll] at hdc
              have HDC := hid hdc
              have HLN := hid (dcAll_len oS.data.toList)
              have HLL := hid hll
              have HB2 := hid hb2
              clear hdc hby hb2 hll
              go_wp2_with fail
              refine HDC.out.mono ?_
              rintro e Y2 ⟨hy2, s2, v9, rfl, hcp, hokf⟩
              clear HDC hcv
              obtain ⟨fa2, fc2, rfl, hfr⟩ := hcp.frs hokf
              have hyy : Below Y1.heap.size Y1 Y2 := HB2.out.trans (hy2.mono HB2.out.size)
              have hlen2 : (dcAll oS.data.toList).2.1.length ≤ 1000000000 := by have := HLN.out; have := HLL.out; omega
              have HE2 : Hid (∀ o, Calls Tryz.prog 26 #[.agg #[.int .u64 ((dcAll oS.data.toList).1 : Int), .slice fa2 (dcAll oS.data.toList).2.1.length fc2]] (Y2.alloc o) fun e w' => IsBool e ∧ Below Y1.heap.size Y1 w') := fun o => by
                have hba : Below Y2.heap.size Y2 (Y2.alloc o) := (Below.refl _ Y2).alloc (Nat.le_refl _) _
                refine (early_any _ fa2 _ fc2 _ _ (Y2.alloc o) hlen2 (hfr.weak.below hba)).mono ?_
                rintro e w' ⟨h1, h2⟩
                exact ⟨h1, hyy.trans ((hba.trans (h2.mono hba.size)).mono hyy.size)⟩
              clear hcp hokf hfr hyy hlen2 HLN HLL HB2 hy2
              generalize (dcAll oS.data.toList).2.1.length = L2 at *
              generalize (dcAll oS.data.toList).1 = N2 at *
              generalize (dcAll oS.data.toList).2.2.1 = E2 at *
              generalize (dcAll oS.data.toList).2.2.2 = A2 at *
              go_wp2_with fail
              refine (HE2.out _).mono ?_
              rintro e Y3 ⟨⟨B3, rfl⟩, hy3⟩
              have HP3 : Hid (PIn w.heap.size w Y3 (i + 1)) := (HPY.out.later hy3).succ
              clear HE2 hy3
              go_wp2_with fail
              go_roundw
              case rel => exact ⟨i + 1, by omega, rfl, by go_num, HP3⟩
              case measure => simp [intOf]; omega
            · have h9' : (ok == 9) = false := by simp [h9]
              cases B with
              | false =>
                have HP3 : Hid (PIn w.heap.size w Y1 (i + 1)) := HPY.out.succ
                clear h9
                go_wp2_with fail
                go_roundw
                case rel => exact ⟨i + 1, by omega, rfl, by go_num, HP3⟩
                case measure => simp [intOf]; omega
              | true =>
                have HST := hid (HPY.out.step HD.out (by omega) ok oA oB oC (inK_four HB.out.symm) ha hb oS (oN : Int) fa fs.length fc)
                clear h9
                go_wp2_with fail
                refine HST.out.mono ?_
                rintro e Y2 ⟨rfl, hP2⟩
                have HP3 := hid hP2
                clear HST hP2
                go_wp2_with fail
                go_roundw
                case rel => exact ⟨i + 1, by omega, rfl, by go_num, HP3⟩
                case measure => simp [intOf]; omega
      · obtain rfl : i = os.length := by omega
        have HB := hid HP.out.below
        go_wp2_with fail
        go_ret
        exact ⟨rfl, HB.out⟩

end Go.Proofs.YtphbledmopchnaaGreatDoor

/-
  mediawirelaw.Gathered: the walk.
-/
namespace Go.Proofs.YtphbledmopchnaaGreatDoor
open Go.RowKit Go.Lib Mm

set_option maxHeartbeats 1000000 in
theorem gathered_walk (hDown : St.DownSaid) (oa : Option Addr) (os : List OpR) (oc : Nat) (w : World) (hO : OpsW w oa os) (hn : os.length ≤ 1000000) :
    Calls Tryz.prog 4 #[.slice oa os.length oc] w fun e w' => e = .returned (.bool true) ∧ Below w.heap.size w w' := by
  have hB : Below w.heap.size w (w.alloc (.cells #[.int .i64 18, .int .i64 19, .int .i64 20, .int .i64 21] 3)) := (Below.refl _ w).alloc (Nat.le_refl _) _
  have hb : Blk (w.alloc (.cells #[.int .i64 18, .int .i64 19, .int .i64 20, .int .i64 21] 3)) w.heap.size 3 [.int .i64 18, .int .i64 19, .int .i64 20, .int .i64 21] := Blk.new w 3 _
  have HP : Hid (Calls Tryz.prog 13 #[.slice oa os.length oc, .slice (some ⟨w.heap.size, 0, none⟩) 4 4, .bool false] (w.alloc (.cells #[.int .i64 18, .int .i64 19, .int .i64 20, .int .i64 21] 3)) fun e w' => e = .returned (.bool true) ∧ Below w.heap.size w w') := by
    refine (plays_sets hDown oa os oc w.heap.size _ (hO.below hB) hn (fun j hj => ?_)).mono ?_
    · rw [hb.cell]
      match j, hj with
      | 0, _ => rfl
      | 1, _ => rfl
      | 2, _ => rfl
      | 3, _ => rfl
    · rintro e w' ⟨rfl, h⟩
      exact ⟨rfl, hB.trans (h.mono hB.size)⟩
  clear hB hb hO
  go_enter Tryz.func4, Tryz.ntmps4
  go_wp2_with fail
  refine HP.out.mono ?_
  rintro e w' ⟨rfl, h⟩
  clear HP
  go_wp2_with fail
  go_ret
  exact ⟨rfl, h⟩

end Go.Proofs.YtphbledmopchnaaGreatDoor
