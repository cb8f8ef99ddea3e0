import Derived.Test.YtphbledmopchnaaGreatDoorQc
import Derived.Test.YtphbledmopchnaaGreatDoorQf
import Derived.Test.YtphbledmopchnaaGreatDoorQp
import Derived.Test.YtphbledmopchnaaGreatDoorQg
import Derived.Test.YtphbledmopchnaaGreatDoorQn
import Derived.Test.YtphbledmopchnaaGreatDoorQh
import Derived.Laws.IdiomStrings
/-
  errors.As, errors.Is at a *Fault; plain.Told of one.
-/
namespace Go.Proofs.YtphbledmopchnaaGreatDoor
open Go.RowKit Go.Extern.Stop Go.Stop Go.Extern Mm

theorem Tryz.typeOf51 (v : Value) (w : World) : (ReflectliteType.typeOf #[.iface 133 v]).run Tryz.prog w = .ok (.iface 259 (.agg #[.pointer (some ⟨2, 133, none⟩)])) w := by kernel_rfl
theorem Tryz.assignable5151 (w : World) : (ReflectliteType.relation "AssignableTo" ReflectliteType.assignableTo #[.agg #[.pointer (some ⟨2, 133, none⟩)], .iface 259 (.agg #[.pointer (some ⟨2, 133, none⟩)])]).run Tryz.prog w = .ok (.bool true) w := by kernel_rfl
theorem Tryz.valueOf51 (t : Addr) (w : World) : (ReflectliteValue.unpack (.iface 133 (.pointer (some t)))).run Tryz.prog w
    = .ok (.agg #[.pointer (some ⟨2, 133, none⟩), .pointer (some ⟨w.heap.size, 0, none⟩), .int .u64 150]) (w.alloc (.cells #[.pointer (some t)] 133)) := by kernel_rfl
theorem Tryz.elemOf53 (w : World) : (Rtype.elem? 135).run Tryz.prog w = .ok (some 133) w := by kernel_rfl
theorem Tryz.mk51 (p : Addr) (w : World) : (ReflectliteValue.mk 133 p ReflectliteValue.flagAddr).run Tryz.prog w = .ok (.agg #[.pointer (some ⟨2, 133, none⟩), .pointer (some p), .int .u64 406]) w := by kernel_rfl
theorem Tryz.elemV53 (a p : Addr) (W : World) (ha : W.cell? a = some (.pointer (some p))) :
    (ReflectliteValue.method (ReflectliteValue.valueError "reflectlite.Value.Elem" 0) ReflectliteValue.elem #[.agg #[.pointer (some ⟨2, 135, none⟩), .pointer (some a), .int .u64 150]]).run Tryz.prog W
      = .ok (.agg #[.pointer (some ⟨2, 133, none⟩), .pointer (some p), .int .u64 406]) W := by
  rw [rlm]
  simp only [Sem.run_bind, Tryz.parts53, Result.andThen]
  simp [ReflectliteValue.elem, loadVar, isAgg, underlying, Tryz.underlying135, ha, Result.andThen, Tryz.elemOf53, Tryz.mk51]
theorem Tryz.parts51a (a : Addr) (w : World) : (ReflectliteValue.parts (.agg #[.pointer (some ⟨2, 133, none⟩), .pointer (some a), .int .u64 406])).run Tryz.prog w = .ok (some (133, a, 406)) w := by kernel_rfl
theorem Tryz.parts51 (a : Addr) (w : World) : (ReflectliteValue.parts (.agg #[.pointer (some ⟨2, 133, none⟩), .pointer (some a), .int .u64 150])).run Tryz.prog w = .ok (some (133, a, 150)) w := by kernel_rfl
theorem Tryz.direct51 (w : World) : (Rtype.directlyAssignable 133 133).run Tryz.prog w = .ok true w := by kernel_rfl
theorem Tryz.set51 (ta b p : Addr) (old : Value) (W : World) (hb : W.cell? b = some (.pointer (some p))) (ht : W.cell? ta = some old) (hf : W.frozen? ta = false) :
    (ReflectliteValue.set #[.agg #[.pointer (some ⟨2, 133, none⟩), .pointer (some ta), .int .u64 406], .agg #[.pointer (some ⟨2, 133, none⟩), .pointer (some b), .int .u64 150]]).run Tryz.prog W
      = .ok (.tuple #[]) (W.setCell ta (.pointer (some p))) := by
  rw [rls]
  simp only [Sem.run_bind, Tryz.parts51a, Tryz.parts51, Result.andThen]
  simp [ReflectliteValue.flagAddr, loadVar, isAgg, underlying, Tryz.underlying133, hb, Result.andThen, Tryz.direct51, storeVar, Value.cells, storeCells, Addr.add]
  rw [run_store Tryz.prog W ta _ _ (by rfl)]
  simp [ht, hf]

set_option maxHeartbeats 4000000 in
set_option maxRecDepth 100000 in
/-- errors.As(x, &f), x a *Fault, f too. -/
theorem as_fault (p t : Addr) (old : Value) (w : World) (hg : ErrAt w) (ht0 : w.cell? t = some old) (hf0 : w.frozen? t = false) :
    Calls Tryz.prog 70 #[.iface 133 (.pointer (some p)), .iface 135 (.pointer (some t))] w fun ev w' => ev = .returned (.bool true) ∧ w' = ((((w.alloc (.cells #[.pointer (some t)] 135)).alloc (.cells #[.pointer (some ⟨2, 135, none⟩), .pointer (some ⟨w.heap.size, 0, none⟩), .int .u64 150] 217)).alloc (.cells #[.pointer (some ⟨2, 135, none⟩), .pointer (some ⟨w.heap.size, 0, none⟩), .int .u64 150] 217)).alloc (.cells #[.pointer (some p)] 133)).setCell t (.pointer (some p)) := by
  unfold ErrAt at hg
  have h23 := @run_callFunc_extern Tryz.prog 117 _ (fun args => ReflectliteValue.unpack (args.getD 0 (.tuple #[]))) Tryz.func117 (by kernel_rfl) (by kernel_rfl) (by kernel_rfl) (by kernel_rfl)
  have h24 := @run_callFunc_extern Tryz.prog 118 _ (ReflectliteValue.methodAny (ReflectliteValue.valueError "reflectlite.Value.Type" 0) (fun t _ _ _ => ReflectliteType.toType t)) Tryz.func118 (by kernel_rfl) (by kernel_rfl) (by kernel_rfl) (by kernel_rfl)
  have h25 := @run_callFunc_extern Tryz.prog 119 _ (ReflectliteValue.method (ReflectliteValue.valueError "reflectlite.Value.IsNil" 0) ReflectliteValue.isNil) Tryz.func119 (by kernel_rfl) (by kernel_rfl) (by kernel_rfl) (by kernel_rfl)
  have h88 := @run_callFunc_extern Tryz.prog 364 _ (ReflectliteType.abiMethod fun t => do pure (.int .u8 (← Rtype.kind t))) Tryz.func364 (by kernel_rfl) (by kernel_rfl) (by kernel_rfl) (by kernel_rfl)
  have h100 := @run_callFunc_extern Tryz.prog 382 _ (ReflectliteType.method ReflectliteType.elem) Tryz.func382 (by kernel_rfl) (by kernel_rfl) (by kernel_rfl) (by kernel_rfl)
  have h101 := @run_callFunc_extern Tryz.prog 383 _ (ReflectliteType.relation "Implements" ReflectliteType.implements_) Tryz.func383 (by kernel_rfl) (by kernel_rfl) (by kernel_rfl) (by kernel_rfl)
  have h27 := @run_callFunc_extern Tryz.prog 121 _ ReflectliteType.typeOf Tryz.func121 (by kernel_rfl) (by kernel_rfl) (by kernel_rfl) (by kernel_rfl)
  have h98 := @run_callFunc_extern Tryz.prog 380 _ (ReflectliteType.relation "AssignableTo" ReflectliteType.assignableTo) Tryz.func380 (by kernel_rfl) (by kernel_rfl) (by kernel_rfl) (by kernel_rfl)
  have h49 := @run_callFunc_extern Tryz.prog 165 _ (ReflectliteValue.method (ReflectliteValue.valueError "reflectlite.Value.Elem" 0) ReflectliteValue.elem) Tryz.func165 (by kernel_rfl) (by kernel_rfl) (by kernel_rfl) (by kernel_rfl)
  have h50 := @run_callFunc_extern Tryz.prog 166 _ ReflectliteValue.set Tryz.func166 (by kernel_rfl) (by kernel_rfl) (by kernel_rfl) (by kernel_rfl)
  have tO := Tryz.typeOf51
  have mA := Tryz.methodAssignableTo
  have a51 := Tryz.assignable5151
  have v51 := Tryz.valueOf51
  have f23 := Tryz.valueOf53
  have f24 := Tryz.type53
  have mK := Tryz.methodKind
  have mE := Tryz.methodElem
  have mI := Tryz.methodImplements
  have k53 := Tryz.kind53
  have k51 := Tryz.kind51
  have e53 := Tryz.elem53
  have i51 := Tryz.implements51
  have n25 := Tryz.isNil53 ⟨w.heap.size, 0, none⟩ t ((w.alloc (.cells #[.pointer (some t)] 135)).alloc (.cells #[.pointer (some ⟨2, 135, none⟩), .pointer (some ⟨w.heap.size, 0, none⟩), .int .u64 150] 217)) (by simp)
  have hlt : 0 < w.heap.size := World.block_lt_of_cell? _ _ hg
  have hg2 : ((w.alloc (.cells #[.pointer (some t)] 135)).alloc (.cells #[.pointer (some ⟨2, 135, none⟩), .pointer (some ⟨w.heap.size, 0, none⟩), .int .u64 150] 217)).cell? ⟨0, 0, none⟩ = some (.iface 259 (.agg #[.pointer (some ⟨2, 94, none⟩)])) := by
    rw [World.cell?_alloc_lt _ _ ⟨0, 0, none⟩ (by simp), World.cell?_alloc_lt _ _ ⟨0, 0, none⟩ hlt]; exact hg
  have htl : t.block < w.heap.size := World.block_lt_of_cell? _ _ ht0
  have el := Tryz.elemV53 ⟨w.heap.size, 0, none⟩ t (((w.alloc (.cells #[.pointer (some t)] 135)).alloc (.cells #[.pointer (some ⟨2, 135, none⟩), .pointer (some ⟨w.heap.size, 0, none⟩), .int .u64 150] 217)).alloc (.cells #[.pointer (some ⟨2, 135, none⟩), .pointer (some ⟨w.heap.size, 0, none⟩), .int .u64 150] 217)) (by rw [World.cell?_alloc_lt _ _ ⟨w.heap.size, 0, none⟩ (by simp; omega)]; simp)
  have st := Tryz.set51 t ⟨w.heap.size + 1 + 1 + 1, 0, none⟩ p old ((((w.alloc (.cells #[.pointer (some t)] 135)).alloc (.cells #[.pointer (some ⟨2, 135, none⟩), .pointer (some ⟨w.heap.size, 0, none⟩), .int .u64 150] 217)).alloc (.cells #[.pointer (some ⟨2, 135, none⟩), .pointer (some ⟨w.heap.size, 0, none⟩), .int .u64 150] 217)).alloc (.cells #[.pointer (some p)] 133))
    (by rw [World.cell?_alloc_at _ _ _ _ (by simp)]; rfl)
    (by rw [World.cell?_alloc_lt _ _ t (by simp; omega), World.cell?_alloc_lt _ _ t (by simp; omega), World.cell?_alloc_lt _ _ t (by simp; omega), World.cell?_alloc_lt _ _ t htl]; exact ht0)
    (by rw [World.frozen?_alloc_old _ _ t (by simp; omega), World.frozen?_alloc_old _ _ t (by simp; omega), World.frozen?_alloc_old _ _ t (by simp; omega), World.frozen?_alloc_old _ _ t (Nat.ne_of_lt htl)]; exact hf0)
  go_enter Tryz.func70, Tryz.ntmps70
  go_wp2
  refine wp_loop_rounds 1 ?_
  rw [rounds_succ]
  go_wp2
  go_ret
  exact ⟨rfl, rfl⟩

end Go.Proofs.YtphbledmopchnaaGreatDoor

/-
  errors.Is at a *Fault; plain.Told of one.
-/
namespace Go.Proofs.YtphbledmopchnaaGreatDoor
open Go.RowKit Go.Extern.Stop Go.Stop Go.Extern Mm

theorem Tryz.neq174 (v : Value) (x : Int) (w : World) : (binOp .eql 94 (.iface 133 v) (.iface 57 (.int .i64 x))).run Tryz.prog w = .ok (.bool false) w := by kernel_rfl
theorem Tryz.noIs51 (v : Value) (xT : TypeId) (w : World) : (Instr.typeAssert (.iface 133 v) xT 270 true).run Tryz.prog w = .ok (.tuple #[.nilIface, .bool false]) w := run_typeAssert_lacksB Tryz.underlying270 (by kernel_rfl) (by kernel_rfl) v xT w
theorem Tryz.unwrap51 (v : Value) (xT : TypeId) (w : World) : (Instr.typeAssert (.iface 133 v) xT 266 true).run Tryz.prog w = .ok (.tuple #[.iface 133 v, .bool true]) w := by kernel_rfl
theorem Tryz.methodUnwrap (v : Value) (w : World) : (Go.method 518 133 v "Unwrap").run Tryz.prog w = .ok (370, v) w := by kernel_rfl

set_option maxHeartbeats 1000000 in
set_option maxRecDepth 100000 in
/-- errors.Is(x, e), x a *Fault of the Errno e. -/
theorem is_fault (b : Nat) (at_ : Int) (w : World) (hB : Blk w b 138 [.int .i64 8, .int .i64 at_]) :
    Calls Tryz.prog 71 #[.iface 133 (.pointer (some ⟨b, 0, none⟩)), .iface 57 (.int .i64 8)] w fun e w' => e = .returned (.bool true) ∧ w' = w := by
  have h27 := @run_callFunc_extern Tryz.prog 121 _ ReflectliteType.typeOf Tryz.func121 (by kernel_rfl) (by kernel_rfl) (by kernel_rfl) (by kernel_rfl)
  have h99 := @run_callFunc_extern Tryz.prog 381 _ cmpExt Tryz.func381 (by kernel_rfl) (by kernel_rfl) (by kernel_rfl) (by kernel_rfl)
  have tT := Tryz.typeOf30
  have cT := Tryz.comparable30
  have mR := Tryz.methodComparable
  have nq := Tryz.neq174
  have nI := Tryz.noIs51
  have uW := Tryz.unwrap51
  have mU := Tryz.methodUnwrap
  have heq := Tryz.eql8
  have x0 : w.cell? ⟨b, 0, none⟩ = some (.int .i64 8) := hB.cell 0
  go_enter Tryz.func71, Tryz.ntmps71
  go_wp2
  refine wp_loop_rounds 2 ?_
  rw [rounds_succ]
  go_wp2
  rw [rounds_succ]
  go_wp2
  go_ret
  exact ⟨rfl, rfl⟩

end Go.Proofs.YtphbledmopchnaaGreatDoor

/-
  plain.Told of a *Fault.
-/
namespace Go.Proofs.YtphbledmopchnaaGreatDoor
open Go.RowKit Go.Extern.Stop Go.Stop Go.Extern Mm

set_option maxHeartbeats 1000000 in
theorem told_fault (b : Nat) (at_ : Int) (w : World) (hg : ErrAt w) (hB : Blk w b 138 [.int .i64 8, .int .i64 at_]) :
    Calls Tryz.prog 42 #[.iface 133 (.pointer (some ⟨b, 0, none⟩))] w fun e w' => e = .returned (.tuple #[.int .i64 8, .int .i64 at_]) ∧ Below w.heap.size w w' := by
  obtain ⟨W1, hW1⟩ : ∃ W1, W1 = (w.alloc (.cells #[.pointer none] 133)).alloc (.cells #[.int .i64 0] 57) := ⟨_, rfl⟩
  have hs : W1.heap.size = w.heap.size + 2 := by rw [hW1]; simp
  have hb : Below w.heap.size w W1 := by rw [hW1]; exact ((Below.refl _ w).alloc (Nat.le_refl _) _).alloc (by simp) _
  have h0 : 0 < w.heap.size := World.block_lt_of_cell? _ _ hg
  have hg1 : ErrAt W1 := cell_of hg (hb.block 0 h0)
  have hP : Blk W1 w.heap.size 133 [.pointer none] := by rw [hW1]; exact (Blk.new w 133 [.pointer none]).alloc _
  have HM := hid (as_fault ⟨b, 0, none⟩ ⟨w.heap.size, 0, none⟩ (.pointer none) W1 hg1 (hP.cell 0) (hP.frozen 0))
  obtain ⟨W2, hW2⟩ : ∃ W2, W2 = (((W1.alloc (.cells #[.pointer (some ⟨w.heap.size, 0, none⟩)] 135)).alloc (.cells #[.pointer (some ⟨2, 135, none⟩), .pointer (some ⟨W1.heap.size, 0, none⟩), .int .u64 150] 217)).alloc (.cells #[.pointer (some ⟨2, 135, none⟩), .pointer (some ⟨W1.heap.size, 0, none⟩), .int .u64 150] 217)).alloc (.cells #[.pointer (some ⟨b, 0, none⟩)] 133) := ⟨_, rfl⟩
  have hb2 : Below W1.heap.size W1 W2 := by rw [hW2]; exact ((((Below.refl _ W1).alloc (Nat.le_refl _) _).alloc (by simp) _).alloc (by simp; omega) _).alloc (by simp; omega) _
  have hP2 : Blk W2 w.heap.size 133 [.pointer none] := hP.of_heap (hb2.block _ (by omega))
  rw [← hW2] at HM
  obtain ⟨W3, hW3⟩ : ∃ W3, W3 = W2.setCell ⟨w.heap.size, 0, none⟩ (.pointer (some ⟨b, 0, none⟩)) := ⟨_, rfl⟩
  rw [← hW3] at HM
  have hP3 : Blk W3 w.heap.size 133 [.pointer (some ⟨b, 0, none⟩)] := by rw [hW3]; exact hP2.setCell 0 _
  have hbl := hB.lt
  have hB3 : Blk W3 b 138 [.int .i64 8, .int .i64 at_] := by
    rw [hW3]
    exact ((hB.of_heap (hb.block b hbl)).of_heap (hb2.block b (by omega))).of_heap (Below.heap_setCell _ _ _ _ (by simp; omega))
  have HF : Hid (Below w.heap.size w W3) := by rw [hW3]; exact (hb.trans (hb2.mono (by omega))).setCell (p := ⟨w.heap.size, 0, none⟩) (Nat.le_refl _) _
  have HI := hid (is_fault b at_ W3 hB3)
  have f0 : W3.cell? ⟨w.heap.size, 0, none⟩ = some (.pointer (some ⟨b, 0, none⟩)) := hP3.cell 0
  have g0 : W3.cell? ⟨b, 0, none⟩ = some (.int .i64 8) := hB3.cell 0
  have g1 : W3.cell? ⟨b, 1, none⟩ = some (.int .i64 at_) := hB3.cell 1
  have HW1 := hid hW1
  clear hW1 hW2 hW3 hs hb hg hg1 hP hb2 hP2 hP3 hB3 hB
  go_enter Tryz.func42, Tryz.ntmps42
  go_wp2_with fail
  rw [← HW1.out]
  refine HM.out.mono ?_
  rintro e w2 ⟨rfl, hw2⟩
  subst hw2
  go_wp2_with fail
  refine HI.out.mono ?_
  rintro e w4 ⟨rfl, hw4⟩
  subst hw4
  go_wp2_with fail
  go_quiet (fail)
  go_wp2
  go_ret2
  exact ⟨rfl, ⟨HF.out.os, HF.out.tape, HF.out.output, HF.out.size, HF.out.block⟩⟩

end Go.Proofs.YtphbledmopchnaaGreatDoor

/-
  wire.Decode, mediawire.Decode, of any bytes.
-/
namespace Go.Proofs.YtphbledmopchnaaGreatDoor
open Go.RowKit Go.Lib Go.Shelf Mm

theorem val4_inj (tl : List UInt8) (h : tl.length = 4) : Num.be 4 (Num.val 0 tl) = tl := by
  match tl, h with
  | [a, b, c, d], _ =>
    have ha := Crc.u8_lt a
    have hb := Crc.u8_lt b
    have hc := Crc.u8_lt c
    have hd := Crc.u8_lt d
    have hv : Num.val 0 [a, b, c, d] = ((a.toNat * 256 + b.toNat) * 256 + c.toNat) * 256 + d.toNat := by
      simp [Num.val]
    rw [hv]
    have e : ∀ (x : UInt8) (n : Nat), n = x.toNat → UInt8.ofNat n = x := fun x n h => by rw [h]; simp
    show [UInt8.ofNat (_ / 256 ^ 3 % 256), UInt8.ofNat (_ / 256 ^ 2 % 256), UInt8.ofNat (_ / 256 ^ 1 % 256), UInt8.ofNat (_ / 256 ^ 0 % 256)] = _
    rw [e a _ (by omega), e b _ (by omega), e c _ (by omega), e d _ (by omega)]

theorem sum_iff (body tl : List UInt8) (h : tl.length = 4) : Num.val 0 tl = Crc.sum body ↔ body ++ sumBytes body = body ++ tl := by
  constructor
  · intro e
    unfold sumBytes
    rw [← e, val4_inj tl h]
  · intro e
    have : sumBytes body = tl := List.append_cancel_left e
    rw [← this, val_sumBytes]

/-- The error that stands for a number and a place. -/
def ErrIs (B : Nat) (w : World) (er at_ : Int) (err : Value) : Prop :=
  (er = 0 ∧ at_ = -1 ∧ err = .nilIface) ∨ (er = 7 ∧ at_ = -1 ∧ err = .iface 57 (.int .i64 7)) ∨ (er = 8 ∧ ∃ b, err = .iface 133 (.pointer (some ⟨b, 0, none⟩)) ∧ Blk w b 138 [.int .i64 8, .int .i64 at_] ∧ B ≤ b)

/-- What Decode hands back, of any bytes. -/
def DecX (l : List UInt8) (B : Nat) (w : World) (s err : Value) : Prop :=
  ErrIs B w (dcAll l).2.2.1 (dcAll l).2.2.2 err ∧ (∃ v9, CpTo B w s (dcAll l).2.1 v9 (dcAll l).2.1.length) ∧ ∀ j, j < (dcAll l).2.1.length → FrOk ((dcAll l).2.1.getD j fr0)

theorem DecX.shape {l : List UInt8} {B : Nat} {w : World} {s err : Value} (h : DecX l B w s err) : ∃ a m c, s = .slice a m c := by
  obtain ⟨_, ⟨v9, hC⟩, _⟩ := h
  obtain ⟨a, c, hs, _⟩ := hC.buf.shape
  exact ⟨_, _, _, hs⟩
theorem DecX.of {l : List UInt8} {A B : Nat} {w w' : World} {s err : Value} (h : DecX l B w s err) (hA : A ≤ B) (e : ∀ b, B ≤ b → b < w.heap.size → w'.heap[b]? = w.heap[b]?) : DecX l A w' s err := by
  obtain ⟨h1, ⟨v9, hC⟩, h3⟩ := h
  refine ⟨?_, ⟨v9, (hC.of e).mono hA⟩, h3⟩
  rcases h1 with h | h | ⟨h1, b, h2, h3, h4⟩
  · exact .inl h
  · exact .inr (.inl h)
  · exact .inr (.inr ⟨h1, b, h2, h3.of_heap (e b h4 h3.lt), by omega⟩)

/-- What Decode of wire, of mediawire, answers. -/
def DecPost (l : List UInt8) (w : World) (e : Ending) (w' : World) : Prop :=
  ∃ s err, e = .returned (.tuple #[.agg #[.int .u64 ((dcAll l).1 : Int), s], err]) ∧ DecX l (w.heap.size + 1) w' s err ∧ Below w.heap.size w w'

theorem decX_sum {l : List UInt8} (hd : dcAll l = (0, [], 7, -1)) (B : Nat) (w : World) : DecX l B w (.slice none 0 0) (.iface 57 (.int .i64 7)) := by
  unfold DecX
  rw [hd]
  exact ⟨.inr (.inl ⟨rfl, rfl, rfl⟩), ⟨fun _ => .slice none 0 0, cp_nil _ _ _⟩, fun _ hj => absurd hj (Nat.not_lt_zero _)⟩

set_option maxHeartbeats 1000000 in
set_option maxRecDepth 100000 in
theorem wireDecode_short (a : Option Addr) (cap : Nat) (l : List UInt8) (w : World) (hl : l.length < 4) :
    Calls Tryz.prog 69 #[.slice a l.length cap] w (DecPost l w) := by
  obtain ⟨W0, hW0⟩ : ∃ W0, W0 = w.alloc (.cells #[.int .u64 0, .slice none 0 0] 56) := ⟨_, rfl⟩
  have hb0 : Below w.heap.size w W0 := by rw [hW0]; exact (Below.refl _ w).alloc (Nat.le_refl _) _
  have hA0 : Blk W0 w.heap.size 56 [.int .u64 0, .slice none 0 0] := by rw [hW0]; exact Blk.new w 56 _
  have HC := hid (cutSum_short a l cap W0 hl)
  have hd : dcAll l = (0, [], 7, -1) := by unfold dcAll; rw [if_pos hl]
  have HF : Hid (∀ W, Below w.heap.size w W → DecPost l w (.returned (.tuple #[.agg #[.int .u64 0, .slice none 0 0], .iface 57 (.int .i64 7)])) W) := fun W hW => by
    refine ⟨_, _, ?_, decX_sum hd _ _, hW⟩
    rw [hd]; rfl
  have a0 : W0.cell? ⟨w.heap.size, 0, none⟩ = some (.int .u64 0) := hA0.cell 0
  have a1 : W0.cell? ⟨w.heap.size, 1, none⟩ = some (.slice none 0 0) := hA0.cell 1
  have z0 := hA0.frozen 0
  have z1 := hA0.frozen 1
  have HB := hid ((hb0.setCell (p := ⟨w.heap.size, 0, none⟩) (Nat.le_refl _) (.int .u64 0)).setCell (p := ⟨w.heap.size, 1, none⟩) (Nat.le_refl _) (.slice none 0 0))
  clear hb0 hA0 hd hl
  generalize l.length = L at *
  go_enter Tryz.func69, Tryz.ntmps69
  go_wp2_with fail
  rw [← hW0]
  clear hW0
  refine HC.out.mono ?_
  rintro e w1 ⟨rfl, rfl⟩
  go_wp2
  exact bodyPost_ret (v := .tuple #[.agg #[.int .u64 0, .slice none 0 0], .iface 57 (.int .i64 7)]) (by simp [results, Tryz.results69, go_sem, a0, a1]) rfl (HF.out _ HB.out)

set_option maxHeartbeats 1000000 in
set_option maxRecDepth 100000 in
theorem wireDecode_long (yb yo cap : Nat) (l : List UInt8) (w : World) (h4 : ¬ l.length < 4) (hb : BytesAt w (some ⟨yb, yo, none⟩) l) (hlen : l.length ≤ 800000000) (hroom : l.length ≤ cap) (hcap : cap ≤ 9223372036854775807) (hyb : yb < w.heap.size) (hT : TabAt w) (h2 : 2 ≤ w.heap.size) :
    Calls Tryz.prog 69 #[.slice (some ⟨yb, yo, none⟩) l.length cap] w (DecPost l w) := by
  obtain ⟨body, hbd⟩ : ∃ body, body = l.take (l.length - 4) := ⟨_, rfl⟩
  obtain ⟨tl, htl⟩ : ∃ tl, tl = l.drop (l.length - 4) := ⟨_, rfl⟩
  have hl : l = body ++ tl := by rw [hbd, htl, List.take_append_drop]
  have ht4 : tl.length = 4 := by rw [htl, List.length_drop]; omega
  have hll : l.length = body.length + 4 := by rw [hl, List.length_append, ht4]
  obtain ⟨ok, hok⟩ : ∃ ok, ok = decide (Num.val 0 tl = Crc.sum body) := ⟨_, rfl⟩
  obtain ⟨W0, hW0⟩ : ∃ W0, W0 = w.alloc (.cells #[.int .u64 0, .slice none 0 0] 56) := ⟨_, rfl⟩
  have hs0 : W0.heap.size = w.heap.size + 1 := by rw [hW0]; simp
  have hb0 : Below w.heap.size w W0 := by rw [hW0]; exact (Below.refl _ w).alloc (Nat.le_refl _) _
  have hA0 : Blk W0 w.heap.size 56 [.int .u64 0, .slice none 0 0] := by rw [hW0]; exact Blk.new w 56 _
  have hb1 : BytesAt W0 (some ⟨yb, yo, none⟩) (body ++ tl) := by rw [← hl]; exact hb.of (fun x hx => by simp at hx; subst hx; exact hb0.block _ hyb)
  have HC := hid (cutSum_any yb yo body tl cap W0 (by omega) ht4 (by omega) hb1 (hT.below hb0 h2))
  rw [← hok, ← hll] at HC
  have hbody : BytesAt W0 (some ⟨yb, yo, none⟩) body := by
    have := hb1.cut body.length
    rwa [List.take_left' rfl] at this
  have HRP : Hid (∀ q, Calls Tryz.prog 116 #[.slice (some ⟨yb, yo, none⟩) body.length cap] (W0.drewN q) (PkX body (W0.drewN q))) := fun q =>
    readPacket_x yb yo cap body (W0.drewN q) (by omega) hbody (by omega) hcap (by show yb < W0.heap.size; omega)
  have hdF : ok = false → dcAll l = (0, [], 7, -1) := fun ho => by
    have hne : l.take (l.length - 4) ++ sumBytes (l.take (l.length - 4)) ≠ l := fun e => by
      rw [← hbd] at e
      have : Num.val 0 tl = Crc.sum body := (sum_iff body tl ht4).2 (by rw [← hl]; exact e)
      rw [ho] at hok
      exact absurd this (of_decide_eq_false hok.symm)
    unfold dcAll; rw [if_neg h4, if_pos hne]
  have hdT : ok = true → dcAll l = match pkD body with | .error q => (0, [], 8, (q : Int)) | .ok fs => (rV body 0, fs, 0, -1) := fun ho => by
    have he : l.take (l.length - 4) ++ sumBytes (l.take (l.length - 4)) = l := by
      rw [ho] at hok
      rw [← hbd, (sum_iff body tl ht4).1 (of_decide_eq_true hok.symm), ← hl]
    unfold dcAll pkD
    rw [if_neg h4, if_neg (by simpa using he), ← hbd]
    split
    · rfl
    · rfl
  have HDF := hid hdF
  have HDT := hid hdT
  have HW := hid (And.intro hs0 (And.intro hb0 hA0))
  clear hdF hdT hb hlen hl hb1 hbody hs0 hb0 hA0 hbd htl hll hT ht4 hok h4
  generalize l.length = L at *
  go_enter Tryz.func69, Tryz.ntmps69
  go_wp2_with fail
  rw [← hW0]
  clear hW0
  refine HC.out.mono ?_
  rintro e w1 ⟨rfl, q, rfl⟩
  obtain ⟨hs0, hb0, hA0⟩ := HW.out
  cases ok
  · have hd := HDF.out rfl
    have a0 : W0.cell? ⟨w.heap.size, 0, none⟩ = some (.int .u64 0) := hA0.cell 0
    have a1 : W0.cell? ⟨w.heap.size, 1, none⟩ = some (.slice none 0 0) := hA0.cell 1
    have z0 := hA0.frozen 0
    have z1 := hA0.frozen 1
    have HF : Hid (DecPost l w (.returned (.tuple #[.agg #[.int .u64 0, .slice none 0 0], .iface 57 (.int .i64 7)])) (((W0.drewN q).setCell ⟨w.heap.size, 0, none⟩ (.int .u64 0)).setCell ⟨w.heap.size, 1, none⟩ (.slice none 0 0))) := by
      have h1 : Below w.heap.size w (W0.drewN q) := ⟨hb0.os, hb0.tape, hb0.output, hb0.size, hb0.block⟩
      exact ⟨_, _, by rw [hd]; rfl, decX_sum hd _ _, (h1.setCell (p := ⟨w.heap.size, 0, none⟩) (Nat.le_refl _) _).setCell (p := ⟨w.heap.size, 1, none⟩) (Nat.le_refl _) _⟩
    clear hs0 hb0 hA0 HW HRP hd HDF HDT
    go_wp2
    exact bodyPost_ret (v := .tuple #[.agg #[.int .u64 0, .slice none 0 0], .iface 57 (.int .i64 7)]) (by simp [results, Tryz.results69, go_sem, a0, a1]) rfl HF.out
  · have HR2 := hid (HRP.out q)
    have hd := HDT.out rfl
    have HD := hid hd
    clear hs0 hb0 hA0 HRP hd HDF HDT
    go_wp2_with fail
    refine HR2.out.mono ?_
    intro e w2 hPk
    obtain ⟨n, s, err, he, hX, hn, hb2⟩ : ∃ (n : Nat) (s err : Value), e = .returned (.tuple #[.agg #[.int .u64 (n : Int), s], err]) ∧ DecX l (w.heap.size + 1 + 3) w2 s err ∧ (dcAll l).1 = n ∧ Below (w.heap.size + 1) W0 w2 := by
      obtain ⟨hs0, _, _⟩ := HW.out
      obtain ⟨hbel, h⟩ := hPk
      have e1 : (W0.drewN q).heap.size = w.heap.size + 1 := hs0
      rw [e1] at hbel h
      have hbel' : Below (w.heap.size + 1) W0 w2 := ⟨hbel.os, hbel.tape, hbel.output, hbel.size, hbel.block⟩
      rcases h with ⟨b, q', he, hB, hpk, hb3⟩ | ⟨fs, s, v9, he, hpk, hcp, hok⟩
      · have hd : dcAll l = (0, [], 8, (q' : Int)) := by rw [HD.out, hpk]
        refine ⟨0, _, _, he, ?_, by rw [hd], hbel'⟩
        unfold DecX
        rw [hd]
        exact ⟨.inr (.inr ⟨rfl, b, rfl, hB, by omega⟩), ⟨fun _ => .slice none 0 0, cp_nil _ _ _⟩, fun _ hj => absurd hj (Nat.not_lt_zero _)⟩
      · have hd : dcAll l = (rV body 0, fs, 0, -1) := by rw [HD.out, hpk]
        refine ⟨rV body 0, s, _, he, ?_, by rw [hd], hbel'⟩
        unfold DecX
        rw [hd]
        exact ⟨.inl ⟨rfl, rfl, rfl⟩, ⟨v9, hcp⟩, hok⟩
    subst he
    obtain ⟨sa, sn, sc, hs⟩ := hX.shape
    subst hs
    obtain ⟨hs0, hb0, hA0⟩ := HW.out
    have hA2 := hA0.of_heap (hb2.block _ (by omega))
    have a0 : w2.cell? ⟨w.heap.size, 0, none⟩ = some (.int .u64 0) := hA2.cell 0
    have a1 : w2.cell? ⟨w.heap.size, 1, none⟩ = some (.slice none 0 0) := hA2.cell 1
    have z0 := hA2.frozen 0
    have z1 := hA2.frozen 1
    have HF : Hid (∀ x y : Value, DecPost l w (.returned (.tuple #[.agg #[.int .u64 (n : Int), .slice sa sn sc], err])) ((w2.setCell ⟨w.heap.size, 0, none⟩ x).setCell ⟨w.heap.size, 1, none⟩ y)) := fun x y => by
      refine ⟨_, _, by rw [hn], hX.of (by omega) (fun b h0 _ => ?_), ((hb0.trans (hb2.mono (by omega))).setCell (p := ⟨w.heap.size, 0, none⟩) (Nat.le_refl _) _).setCell (p := ⟨w.heap.size, 1, none⟩) (Nat.le_refl _) _⟩
      rw [Below.heap_setCell _ _ _ _ (by simp; omega), Below.heap_setCell _ _ _ _ (by simp; omega)]
    clear hs0 hb0 hA0 HW hX hb2 hA2 hn hPk HD HR2
    go_wp2
    exact bodyPost_ret (v := .tuple #[.agg #[.int .u64 (n : Int), .slice sa sn sc], err]) (by simp [results, Tryz.results69, go_sem, a0, a1]) rfl (HF.out _ _)

set_option maxHeartbeats 1000000 in
set_option maxRecDepth 100000 in
theorem mwDecode_x (a : Option Addr) (cap : Nat) (l : List UInt8) (w : World) (hC : ∀ W, Below w.heap.size w W → W.heap.size = w.heap.size + 1 → Calls Tryz.prog 69 #[.slice a l.length cap] W (DecPost l W)) :
    Calls Tryz.prog 41 #[.slice a l.length cap] w (DecPost l w) := by
  obtain ⟨W0, hW0⟩ : ∃ W0, W0 = w.alloc (.cells #[.int .u64 0, .slice none 0 0] 56) := ⟨_, rfl⟩
  have hs0 : W0.heap.size = w.heap.size + 1 := by rw [hW0]; simp
  have hb0 : Below w.heap.size w W0 := by rw [hW0]; exact (Below.refl _ w).alloc (Nat.le_refl _) _
  have hA0 : Blk W0 w.heap.size 56 [.int .u64 0, .slice none 0 0] := by rw [hW0]; exact Blk.new w 56 _
  have HC := hid (hC W0 hb0 hs0)
  have HW := hid (And.intro hs0 (And.intro hb0 hA0))
  clear hs0 hb0 hA0 hC
  unfold DecPost at HC
  generalize hN : (dcAll l).1 = n at HC
  have HN := hid hN
  clear hN
  generalize hLL : l.length = L at *
  clear hLL
  go_enter Tryz.func41, Tryz.ntmps41
  go_wp2_with fail
  rw [← hW0]
  clear hW0
  refine HC.out.mono ?_
  rintro e w2 ⟨s, err, rfl, hR, hb2⟩
  obtain ⟨sa, sn, sc, hs⟩ := hR.shape
  subst hs
  obtain ⟨hs0, hb0, hA0⟩ := HW.out
  have hA2 := hA0.of_heap (hb2.block _ (by omega))
  have a0 : w2.cell? ⟨w.heap.size, 0, none⟩ = some (.int .u64 0) := hA2.cell 0
  have a1 : w2.cell? ⟨w.heap.size, 1, none⟩ = some (.slice none 0 0) := hA2.cell 1
  have z0 := hA2.frozen 0
  have z1 := hA2.frozen 1
  have HF : Hid (∀ x y : Value, DecPost l w (.returned (.tuple #[.agg #[.int .u64 (n : Int), .slice sa sn sc], err])) ((w2.setCell ⟨w.heap.size, 0, none⟩ x).setCell ⟨w.heap.size, 1, none⟩ y)) := fun x y => by
    refine ⟨_, _, by rw [HN.out], hR.of (by omega) (fun b h0 _ => ?_), ((hb0.trans (hb2.mono (by omega))).setCell (p := ⟨w.heap.size, 0, none⟩) (Nat.le_refl _) _).setCell (p := ⟨w.heap.size, 1, none⟩) (Nat.le_refl _) _⟩
    rw [Below.heap_setCell _ _ _ _ (by simp; omega), Below.heap_setCell _ _ _ _ (by simp; omega)]
  clear hs0 hb0 hA0 HW hR hb2 hA2 HC HN
  go_wp2
  exact bodyPost_ret (v := .tuple #[.agg #[.int .u64 (n : Int), .slice sa sn sc], err]) (by simp [results, Tryz.results41, go_sem, a0, a1]) rfl (HF.out _ _)

end Go.Proofs.YtphbledmopchnaaGreatDoor

/-
  plain.Decode, of any bytes.
-/
namespace Go.Proofs.YtphbledmopchnaaGreatDoor
open Go.RowKit Go.Lib Go.Shelf Mm

theorem told_x {B : Nat} {w : World} {er at_ : Int} {err : Value} (h : ErrIs B w er at_ err) (hE : ErrAt w) : Calls Tryz.prog 42 #[err] w fun e w' => e = .returned (.tuple #[.int .i64 er, .int .i64 at_]) ∧ Below w.heap.size w w' := by
  rcases h with ⟨rfl, rfl, rfl⟩ | ⟨rfl, rfl, rfl⟩ | ⟨rfl, b, rfl, hB, _⟩
  · exact told_nil w
  · exact told_errno 7 Tryz.eql7 w hE
  · exact told_fault b at_ w hE hB

set_option maxHeartbeats 1000000 in
set_option maxRecDepth 100000 in
theorem plainDecode_some (yb yo cap : Nat) (l : List UInt8) (w : World) (hb : BytesAt w (some ⟨yb, yo, none⟩) l) (hlen : l.length ≤ 800000000) (hpos : 0 < l.length) (hyb : yb < w.heap.size) (hT : TabAt w) (hE : ErrAt w) (h2 : 2 ≤ w.heap.size) :
    Calls Tryz.prog 24 #[.slice (some ⟨yb, yo, none⟩) l.length cap] w (DcOut l w) := by
  obtain ⟨W0, hW0⟩ : ∃ W0, W0 = w.alloc (.cells #[.int .u64 0, .slice none 0 0] 56) := ⟨_, rfl⟩
  have hs0 : W0.heap.size = w.heap.size + 1 := by rw [hW0]; simp
  have hb0 : Below w.heap.size w W0 := by rw [hW0]; exact (Below.refl _ w).alloc (Nat.le_refl _) _
  have hA0 : Blk W0 w.heap.size 56 [.int .u64 0, .slice none 0 0] := by rw [hW0]; exact Blk.new w 56 _
  have hby0 : BytesAt W0 (some ⟨yb, yo, none⟩) l := hb.of (fun x hx => by simp at hx; subst hx; exact hb0.block _ hyb)
  obtain ⟨v1, W1, run1, hB1, hG1⟩ := run_append_buf (Buf.nil W0) ⟨yb, yo, none⟩ l.length cap l rfl hpos (fun j u hu => by
    have hj : j < l.length := by
      have := (List.getElem?_eq_some_iff.1 hu).1
      rwa [bcells_length] at this
    obtain ⟨b, off, ha, hc⟩ := hby0 j hj
    simp at ha
    obtain ⟨rfl, rfl⟩ := ha
    rw [Addr.add_lit, hc, ← hu]
    simp [bcells, hj]) (by simp; omega)
  rw [List.nil_append] at hB1
  have hO1 : Own W0.heap.size v1 := hG1.own (Own.nil _) (Nat.le_refl _)
  have hb1 : Below W0.heap.size W0 W1 := hG1.below (Own.nil _) (Nat.le_refl _)
  rcases hB1 with ⟨_, hl0⟩ | ⟨g, c1, cs, rfl, hBl, hcl, hc2, hc3, hc4, hc5⟩
  · rw [hl0] at hpos; simp at hpos
  · have hg0 : W0.heap.size ≤ g := hO1 g rfl
    have hg1 := hBl.lt
    have hbw1 : Below w.heap.size w W1 := hb0.trans (hb1.mono (by omega))
    have hby1 : BytesAt W1 (some ⟨g, 0, none⟩) l := fun j hj => by
      refine ⟨g, 0, rfl, ?_⟩
      rw [hBl.cell, Nat.zero_add]
      have : (cs.take l.length)[j]? = (bcells l)[j]? := by rw [hc4]
      rw [List.getElem?_take, if_pos hj] at this
      rw [this]
      simp [bcells, hj]
    have hs1 : 2 ≤ W1.heap.size := by omega
    have HC := hid (mwDecode_x (some ⟨g, 0, none⟩) c1 l W1 (fun W hW hsz => by
      by_cases h4 : l.length < 4
      · exact wireDecode_short _ c1 l W h4
      · exact wireDecode_long g 0 c1 l W h4 (hby1.of (fun x hx => by simp at hx; subst hx; exact hW.block _ hg1)) hlen hc2 hc3 (by omega) ((hT.below hbw1 h2).below hW hs1) (by omega)))
    have HW := hid (And.intro hs0 (And.intro hbw1 (And.intro (hA0.of_heap (hb1.block _ (by omega))) (And.intro hBl (And.intro hg0 hg1)))))
    have HLE : Hid (l.length ≤ cs.length) := by unfold Hid; omega
    have HE := hid hE
    have HOUT : Hid (∀ (W : World) (s err : Value), DecX l w.heap.size W s err → Below w.heap.size w W → DcOut l w (.returned (.tuple #[.agg #[.int .u64 ((dcAll l).1 : Int), s], .int .i64 (dcAll l).2.2.1, .int .i64 (dcAll l).2.2.2])) W) := fun W s err hX hB => by
      obtain ⟨_, ⟨v9, hC⟩, hok⟩ := hX
      exact ⟨hB, s, v9, rfl, hC, hok⟩
    have HTOLD := hid (fun B W err (h : ErrIs B W (dcAll l).2.2.1 (dcAll l).2.2.2 err) (hE : ErrAt W) => told_x h hE)
    have HEI : Hid (∀ B W s err, DecX l B W s err → ErrIs B W (dcAll l).2.2.1 (dcAll l).2.2.2 err) := fun _ _ _ _ h => h.1
    clear hb hs0 hb0 hA0 hby0 hb1 hbw1 hby1 hO1 hG1 hBl hcl hc2 hc3 hc4 hc5 hT hE hg0 hg1 hs1
    unfold DecPost at HC
    generalize (dcAll l).1 = n at *
    generalize (dcAll l).2.2.1 = ev at *
    generalize (dcAll l).2.2.2 = av at *
    generalize l.length = L at *
    go_enter Tryz.func24, Tryz.ntmps24
    go_wp2_with (at_builtin; rw [← hW0]; refine Lib.wpList_append_run _ rfl _ _ _ _ rfl _ _ rfl rfl _ _ (run1 _) ?_)
    clear hW0
    refine HC.out.mono ?_
    rintro e w2 ⟨s, err, rfl, hR, hb2⟩
    obtain ⟨sa, sn, sc, hs⟩ := hR.shape
    subst hs
    obtain ⟨hs0, hbw1, hA1, hBl, hg0, hg1⟩ := HW.out
    obtain ⟨W3, hW3⟩ : ∃ W3, W3 = w2.alloc (.cells #[.int .u64 (n : Int), .slice sa sn sc] 56) := ⟨_, rfl⟩
    have hs3 : W3.heap.size = w2.heap.size + 1 := by rw [hW3]; simp
    have hb3 : Below w2.heap.size w2 W3 := by rw [hW3]; exact (Below.refl _ _).alloc (Nat.le_refl _) _
    have hP3 : Blk W3 w2.heap.size 56 [.int .u64 (n : Int), .slice sa sn sc] := by rw [hW3]; exact Blk.new w2 56 _
    have hsz2 := hb2.size
    have hB3 : ∀ k, k < W1.heap.size → W3.heap[k]? = W1.heap[k]? := fun k hk => by rw [hb3.block k (by omega), hb2.block k hk]
    have HI0 : Hid (Blk W3 g 5 cs ∧ DecX l (W1.heap.size + 1) W3 (.slice sa sn sc) err ∧ Below w.heap.size w W3 ∧ Blk W3 w.heap.size 56 [.int .u64 0, .slice none 0 0] ∧ Blk W3 w2.heap.size 56 [.int .u64 (n : Int), .slice sa sn sc]) := by
      refine ⟨hBl.of_heap (hB3 g hg1), hR.of (Nat.le_refl _) (fun b _ hb => hb3.block b hb), (hbw1.trans (hb2.mono (by omega))).trans (hb3.mono (by omega)), hA1.of_heap (hB3 _ (by omega)), hP3⟩
    have hes : err = .nilIface ∨ err = .iface 57 (.int .i64 7) ∨ ∃ b, err = .iface 133 (.pointer (some ⟨b, 0, none⟩)) := by
      rcases HEI.out _ _ _ _ hR with ⟨_, _, h⟩ | ⟨_, _, h⟩ | ⟨_, b, h, _⟩
      · exact .inl h
      · exact .inr (.inl h)
      · exact .inr (.inr ⟨b, h⟩)
    have HSZ := hid (And.intro hs3 (And.intro hsz2 (And.intro hs0 (And.intro hg0 hg1))))
    have HES := hid hes
    clear hR hb2 hs0 hbw1 hA1 hBl hg0 hg1 hs3 hb3 hP3 hsz2 hB3 HW HC run1 hes
    go_wp2_with fail
    rw [← hW3]
    clear hW3
    go_loopw [20] (fun s20 wr => ∃ k : Nat, k ≤ L ∧ s20 = .int .i64 k ∧ Hid (∃ cs', cs'.length = cs.length ∧ Blk wr g 5 cs' ∧ DecX l (W1.heap.size + 1) wr (.slice sa sn sc) err ∧ Below w.heap.size w wr ∧ Blk wr w.heap.size 56 [.int .u64 0, .slice none 0 0] ∧ Blk wr w2.heap.size 56 [.int .u64 (n : Int), .slice sa sn sc])) (fun s20 _ => L - (intOf s20).toNat)
    case atStart => exact ⟨0, Nat.zero_le _, rfl, cs, rfl, HI0.out⟩
    case round =>
      clear HI0
      obtain ⟨k, hk, rfl, HI⟩ := hrel
      obtain ⟨cs', hl', hBl, hR, hbw, hA, hP⟩ := HI.out
      obtain ⟨hs3, hsz2, hs0, hg0, hg1⟩ := HSZ.out
      have hle := HLE.out
      by_cases hlt : k < L
      · have hlt' : (k : Int) < (L : Int) := by omega
        have t1 := hBl.cell k
        rw [List.getElem?_eq_getElem (by omega)] at t1
        generalize cs'[k]'(by omega) = old at t1
        have z1 := hBl.frozen k
        have hset : ∀ b, b ≠ g → ∀ v, (wr.setCell ⟨g, k, none⟩ v).heap[b]? = wr.heap[b]? := fun b hb v => Below.heap_setCell _ _ _ _ hb
        have HN : Hid (∀ v, ∃ cs', cs'.length = cs.length ∧ Blk (wr.setCell ⟨g, k, none⟩ v) g 5 cs' ∧ DecX l (W1.heap.size + 1) (wr.setCell ⟨g, k, none⟩ v) (.slice sa sn sc) err ∧ Below w.heap.size w (wr.setCell ⟨g, k, none⟩ v) ∧ Blk (wr.setCell ⟨g, k, none⟩ v) w.heap.size 56 [.int .u64 0, .slice none 0 0] ∧ Blk (wr.setCell ⟨g, k, none⟩ v) w2.heap.size 56 [.int .u64 (n : Int), .slice sa sn sc]) := fun v =>
          ⟨_, by rw [List.length_set]; exact hl', hBl.setCell k v, hR.of (Nat.le_refl _) (fun b h0 _ => hset b (by omega) v), hbw.setCell (p := ⟨g, k, none⟩) (by simp; omega) v, hA.of_heap (hset _ (by omega) v), hP.of_heap (hset _ (by omega) v)⟩
        clear hl' hBl hR hbw hA hP hs3 hsz2 hs0 hg0 hg1 hset HI hle
        go_wp2_with fail
        go_roundw
        case rel => exact ⟨k + 1, by omega, by go_num, HN.out _⟩
        case measure => simp [intOf]; omega
      · obtain rfl : k = L := by omega
        have hErr : ErrAt wr := cell_of HE.out (hbw.block 0 (by omega))
        have HT2 := hid (HTOLD.out _ wr err (HEI.out _ _ _ _ hR) hErr)
        have HR := hid (And.intro hBl (And.intro hR (And.intro hbw (And.intro hA hP))))
        clear hErr hl' hBl hR hbw hA hP hs3 hsz2 hs0 hg0 hg1 HI hle HTOLD
        go_wp2_with fail
        refine HT2.out.mono ?_
        rintro e w5 ⟨rfl, hb5⟩
        obtain ⟨hBl, hR, hbw, hA, hP⟩ := HR.out
        obtain ⟨hs3, hsz2, hs0, hg0, hg1⟩ := HSZ.out
        have hA5 := hA.of_heap (hb5.block _ hA.lt)
        have hP5 := hP.of_heap (hb5.block _ hP.lt)
        have a0 : w5.cell? ⟨w.heap.size, 0, none⟩ = some (.int .u64 0) := hA5.cell 0
        have a1 : w5.cell? ⟨w.heap.size, 1, none⟩ = some (.slice none 0 0) := hA5.cell 1
        have p0 : w5.cell? ⟨w2.heap.size, 0, none⟩ = some (.int .u64 (n : Int)) := hP5.cell 0
        have p1 : w5.cell? ⟨w2.heap.size, 1, none⟩ = some (.slice sa sn sc) := hP5.cell 1
        have z0 := hA5.frozen 0
        have z1 := hA5.frozen 1
        have hne : ¬ (w2.heap.size = w.heap.size) := by omega
        have HF : Hid (∀ x y : Value, DcOut l w (.returned (.tuple #[.agg #[.int .u64 (n : Int), .slice sa sn sc], .int .i64 ev, .int .i64 av])) ((w5.setCell ⟨w.heap.size, 0, none⟩ x).setCell ⟨w.heap.size, 1, none⟩ y)) := fun x y => by
          refine HOUT.out _ _ err (hR.of (by omega) (fun b h0 hb => ?_)) (((hbw.trans (hb5.mono hbw.size)).setCell (p := ⟨w.heap.size, 0, none⟩) (Nat.le_refl _) _).setCell (p := ⟨w.heap.size, 1, none⟩) (Nat.le_refl _) _)
          rw [Below.heap_setCell _ _ _ _ (by simp; omega), Below.heap_setCell _ _ _ _ (by simp; omega), hb5.block b hb]
        clear hBl hR hbw hA hP hs3 hsz2 hs0 hg0 hg1 hA5 hP5 hb5 HOUT
        go_wp2_with fail
        have f1 := HF.out (.int .u64 (n : Int)) (.slice sa sn sc)
        exact bodyPost_ret (v := .tuple #[.agg #[.int .u64 (n : Int), .slice sa sn sc], .int .i64 ev, .int .i64 av]) (by simp [results, Tryz.results24, go_sem, a0, a1]) rfl f1

end Go.Proofs.YtphbledmopchnaaGreatDoor

/-
  plain.Decode of any bytes; the law's decoded.
-/
namespace Go.Proofs.YtphbledmopchnaaGreatDoor
open Go.RowKit Go.Lib Go.Shelf Mm

theorem dcAll_nil : dcAll [] = (0, [], 7, -1) := by unfold dcAll; rw [if_pos (by decide)]

set_option maxHeartbeats 1000000 in
set_option maxRecDepth 100000 in
theorem plainDecode_none (a : Option Addr) (cap : Nat) (w : World) (hE : ErrAt w) (h2 : 2 ≤ w.heap.size) :
    Calls Tryz.prog 24 #[.slice a 0 cap] w (DcOut [] w) := by
  obtain ⟨W0, hW0⟩ : ∃ W0, W0 = w.alloc (.cells #[.int .u64 0, .slice none 0 0] 56) := ⟨_, rfl⟩
  have hs0 : W0.heap.size = w.heap.size + 1 := by rw [hW0]; simp
  have hb0 : Below w.heap.size w W0 := by rw [hW0]; exact (Below.refl _ w).alloc (Nat.le_refl _) _
  have hA0 : Blk W0 w.heap.size 56 [.int .u64 0, .slice none 0 0] := by rw [hW0]; exact Blk.new w 56 _
  have run1 := fun ty => run_append_none eltB W0 a cap ty
  have HC : Hid (Calls Tryz.prog 41 #[.slice none 0 0] W0 fun e w' => ∃ sa sc, e = .returned (.tuple #[.agg #[.int .u64 0, .slice sa 0 sc], .iface 57 (.int .i64 7)]) ∧ Below W0.heap.size W0 w' ∧ ∃ v9, CpTo (W0.heap.size + 1) w' (.slice sa 0 sc) [] v9 0) := by
    refine (mwDecode_x none 0 [] W0 (fun W _ _ => wireDecode_short none 0 [] W (by decide))).mono ?_
    rintro e w' ⟨s, err, rfl, ⟨h1, ⟨v9, hC⟩, _⟩, hb⟩
    rw [dcAll_nil] at h1 hC ⊢
    obtain ⟨sa, sc, hs, _⟩ := hC.buf.shape
    subst hs
    have he : err = .iface 57 (.int .i64 7) := by
      rcases h1 with ⟨h, _⟩ | ⟨_, _, h⟩ | ⟨h, _⟩
      · exact absurd h (by decide)
      · exact h
      · exact absurd h (by decide)
    subst he
    exact ⟨sa, sc, rfl, hb, v9, hC⟩
  have HW := hid (And.intro hs0 (And.intro hb0 hA0))
  have HE := hid hE
  clear hs0 hb0 hA0 hE
  go_enter Tryz.func24, Tryz.ntmps24
  go_wp2_with (at_builtin; rw [← hW0]; refine Lib.wpList_append_run _ rfl _ _ _ _ rfl _ _ rfl rfl _ _ (run1 _) ?_)
  rw [← hW0]
  clear hW0
  refine HC.out.mono ?_
  rintro e w2 ⟨sa, sc, rfl, hb2, hcp⟩
  obtain ⟨hs0, hb0, hA0⟩ := HW.out
  obtain ⟨W3, hW3⟩ : ∃ W3, W3 = w2.alloc (.cells #[.int .u64 0, .slice sa 0 sc] 56) := ⟨_, rfl⟩
  have hs3 : W3.heap.size = w2.heap.size + 1 := by rw [hW3]; simp
  have hb3 : Below w2.heap.size w2 W3 := by rw [hW3]; exact (Below.refl _ _).alloc (Nat.le_refl _) _
  have hP3 : Blk W3 w2.heap.size 56 [.int .u64 0, .slice sa 0 sc] := by rw [hW3]; exact Blk.new w2 56 _
  have hsz2 := hb2.size
  have hbw3 : Below w.heap.size w W3 := (hb0.trans (hb2.mono (by omega))).trans (hb3.mono (by omega))
  have hA3 : Blk W3 w.heap.size 56 [.int .u64 0, .slice none 0 0] := hA0.of_heap (by rw [hb3.block _ (by omega), hb2.block _ (by omega)])
  have HT : Hid (Calls Tryz.prog 42 #[.iface 57 (.int .i64 7)] W3 fun e w' => e = .returned (.tuple #[.int .i64 7, .int .i64 (-1)]) ∧ Below W3.heap.size W3 w') := told_errno 7 Tryz.eql7 W3 (cell_of HE.out (hbw3.block 0 (by omega)))
  have HX := hid (And.intro hs3 (And.intro hsz2 (And.intro hs0 (And.intro hbw3 (And.intro hA3 (And.intro hP3 (And.intro hb3 hcp)))))))
  clear HC hb2 hcp hs0 hb0 hA0 hs3 hb3 hP3 hsz2 hbw3 hA3 HW
  go_wp2_with fail
  rw [← hW3]
  clear hW3
  go_loopw [20] (fun s20 wr => s20 = .int .i64 0 ∧ wr = W3) (fun _ _ => 0)
  case atStart => exact ⟨rfl, rfl⟩
  case round =>
    obtain ⟨rfl, rfl⟩ := hrel
    go_wp2_with fail
    refine HT.out.mono ?_
    rintro e w5 ⟨rfl, hb5⟩
    obtain ⟨hs3, hsz2, hs0, hbw, hA, hP, hb3, v9, hcp⟩ := HX.out
    have hA5 := hA.of_heap (hb5.block _ hA.lt)
    have hP5 := hP.of_heap (hb5.block _ hP.lt)
    have a0 : w5.cell? ⟨w.heap.size, 0, none⟩ = some (.int .u64 0) := hA5.cell 0
    have a1 : w5.cell? ⟨w.heap.size, 1, none⟩ = some (.slice none 0 0) := hA5.cell 1
    have p0 : w5.cell? ⟨w2.heap.size, 0, none⟩ = some (.int .u64 0) := hP5.cell 0
    have p1 : w5.cell? ⟨w2.heap.size, 1, none⟩ = some (.slice sa 0 sc) := hP5.cell 1
    have z0 := hA5.frozen 0
    have z1 := hA5.frozen 1
    have hne : ¬ (w2.heap.size = w.heap.size) := by omega
    have HF : Hid (∀ x y : Value, DcOut [] w (.returned (.tuple #[.agg #[.int .u64 0, .slice sa 0 sc], .int .i64 7, .int .i64 (-1)])) ((w5.setCell ⟨w.heap.size, 0, none⟩ x).setCell ⟨w.heap.size, 1, none⟩ y)) := fun x y => by
      have hB : Below w.heap.size w ((w5.setCell ⟨w.heap.size, 0, none⟩ x).setCell ⟨w.heap.size, 1, none⟩ y) := ((hbw.trans (hb5.mono hbw.size)).setCell (p := ⟨w.heap.size, 0, none⟩) (Nat.le_refl _) _).setCell (p := ⟨w.heap.size, 1, none⟩) (Nat.le_refl _) _
      unfold DcOut
      rw [dcAll_nil]
      refine ⟨hB, .slice sa 0 sc, v9, rfl, ?_, fun _ hj => absurd hj (Nat.not_lt_zero _)⟩
      refine (hcp.of_heap (w' := (w5.setCell ⟨w.heap.size, 0, none⟩ x).setCell ⟨w.heap.size, 1, none⟩ y) (fun b h0 hb => ?_)).low (by omega)
      rw [Below.heap_setCell _ _ _ _ (by simp; omega), Below.heap_setCell _ _ _ _ (by simp; omega), hb5.block b (by omega), hb3.block b hb]
    clear hA hP hs3 hsz2 hs0 hbw hA5 hP5 hb5 hcp hb3 HX HT
    go_wp2_with fail
    have f1 := HF.out (.int .u64 0) (.slice sa 0 sc)
    exact bodyPost_ret (v := .tuple #[.agg #[.int .u64 0, .slice sa 0 sc], .int .i64 7, .int .i64 (-1)]) (by simp [results, Tryz.results24, go_sem, a0, a1]) rfl f1

/-- plain.Decode. -/
theorem plainDecode_x (a : Option Addr) (cap : Nat) (l : List UInt8) (w : World) (hb : BytesAt w a l) (hlen : l.length ≤ 800000000) (hT : TabAt w) (hE : ErrAt w) (h2 : 2 ≤ w.heap.size) :
    Calls Tryz.prog 24 #[.slice a l.length cap] w (DcOut l w) := by
  by_cases h0 : 0 < l.length
  · obtain ⟨b, off, ha, hc⟩ := hb 0 h0
    subst ha
    exact plainDecode_some b off cap l w hb hlen h0 (World.block_lt_of_cell? _ _ hc) hT hE h2
  · have e : l = [] := List.eq_nil_of_length_eq_zero (by omega)
    subst e
    exact plainDecode_none a cap w hE h2

set_option maxHeartbeats 2000000 in
set_option maxRecDepth 100000 in
theorem decoded_any (a : Option Addr) (c : Nat) (l : List UInt8) (w : World) (hb : BytesAt w a l) (hlen : l.length ≤ 800000000) (hc : l.length ≤ c) (hT : TabAt w) (hE : ErrAt w) (h2 : 2 ≤ w.heap.size) (hfl : (dcAll l).2.1.length ≤ 1000000000) :
    Calls Tryz.prog 48 #[.slice a l.length c] w fun e w' => e = .returned (.bool true) ∧ Below w.heap.size w w' := by
  have HP := hid (plainDecode_x a c l w hb hlen hT hE h2)
  have HR : Hid (∀ W, Below w.heap.size w W → Calls Tryz.prog 27 #[.slice a l.length c] W (DcOut l W)) := fun W hW => rdecode_any a l c W hlen hc (hb.of_below hW)
  unfold DcOut at HP HR
  clear hb hT hE hlen hc
  generalize (dcAll l).1 = n at *
  generalize (dcAll l).2.1 = fs at *
  generalize (dcAll l).2.2.1 = er at *
  generalize (dcAll l).2.2.2 = pl at *
  generalize l.length = L at *
  go_enter Tryz.func48, Tryz.ntmps48
  go_wp2_with fail
  refine HP.out.mono ?_
  rintro e w1 ⟨hb1, s1, v1, rfl, hcp1, hok1⟩
  obtain ⟨fa1, fc1, hs1, hF1⟩ := hcp1.frs hok1
  subst hs1
  obtain ⟨W1, hW1⟩ : ∃ W1, W1 = w1.alloc (.cells #[.int .u64 (n : Int), .slice fa1 fs.length fc1] 56) := ⟨_, rfl⟩
  have hbW1 : Below w1.heap.size w1 W1 := by rw [hW1]; exact (Below.refl _ _).alloc (Nat.le_refl _) _
  have hsW1 : W1.heap.size = w1.heap.size + 1 := by rw [hW1]; simp
  have hP1 : Blk W1 w1.heap.size 56 [.int .u64 (n : Int), .slice fa1 fs.length fc1] := by rw [hW1]; exact Blk.new w1 56 _
  have hb1W : Below w.heap.size w W1 := hb1.trans (hbW1.mono hb1.size)
  have HC := hid (HR.out W1 hb1W)
  have HX := hid (And.intro hb1W (And.intro hsW1 (And.intro hP1 (hF1.weak.below hbW1))))
  clear HP HR hb1 hcp1 hok1 hF1 hbW1 hsW1 hP1 hb1W
  go_wp2_with fail
  rw [← hW1]
  clear hW1
  refine HC.out.mono ?_
  rintro e w2 ⟨hb2, s2, v2, rfl, hcp2, hok2⟩
  obtain ⟨fa2, fc2, hs2, hF2⟩ := hcp2.frs hok2
  subst hs2
  obtain ⟨hb1W, hsW1, hP1, hF1⟩ := HX.out
  obtain ⟨W2, hW2⟩ : ∃ W2, W2 = w2.alloc (.cells #[.int .u64 (n : Int), .slice fa2 fs.length fc2] 56) := ⟨_, rfl⟩
  have hbW2 : Below w2.heap.size w2 W2 := by rw [hW2]; exact (Below.refl _ _).alloc (Nat.le_refl _) _
  have hP2 : Blk W2 w2.heap.size 56 [.int .u64 (n : Int), .slice fa2 fs.length fc2] := by rw [hW2]; exact Blk.new w2 56 _
  have hb12 : Below W1.heap.size W1 W2 := hb2.trans (hbW2.mono hb2.size)
  have hP1' := hP1.of_heap (hb12.block _ hP1.lt)
  have HS := hid (samePackets_true (n : Int) fs fa1 fa2 fc1 fc2 _ _ _ _ W2 hfl (hF1.below hb12) (hF2.weak.below hbW2))
  have HB := hid (hb1W.trans (hb12.mono hb1W.size))
  have hP1w := hP1.of_heap (hb2.block _ hP1.lt)
  have x0 : w2.cell? ⟨w1.heap.size, 0, none⟩ = some (.int .u64 (n : Int)) := hP1w.cell 0
  have x1 : w2.cell? ⟨w1.heap.size, 1, none⟩ = some (.slice fa1 fs.length fc1) := hP1w.cell 1
  have hlt : w1.heap.size < w2.heap.size := hP1w.lt
  have hne : ¬ (w1.heap.size = w2.heap.size) := by omega
  clear HC HX hb2 hcp2 hok2 hF2 hb1W hsW1 hP1 hF1 hbW2 hP2 hb12 hP1' hP1w
  go_wp2_with fail
  rw [← hW2]
  clear hW2
  refine HS.out.mono ?_
  rintro e w3 ⟨rfl, hb3⟩
  have HB3 := hid (HB.out.trans (hb3.mono HB.out.size))
  clear HS hb3 x0 x1
  go_wp2_with fail
  go_ret
  exact ⟨rfl, HB3.out⟩

end Go.Proofs.YtphbledmopchnaaGreatDoor

/-
  step, of Encode and Decode.
-/
namespace Go.Proofs.YtphbledmopchnaaGreatDoor
open Go.RowKit Go.Lib Mm

/-- '[]byte(s)'. -/
theorem conv_bytes (w : World) (s : ByteArray) : ∃ c W', (convert 9 60 (.string s)).run Tryz.prog w = .ok (.slice (some ⟨w.heap.size, 0, none⟩) s.size c) W' ∧ s.size ≤ c ∧ Below w.heap.size w W' ∧ BytesAt W' (some ⟨w.heap.size, 0, none⟩) s.data.toList := by
  have h := run_bytes_of_string (P := Tryz.prog) w 9 60 5 s u9 u29 (by kernel_rfl)
  refine ⟨_, _, h, grownCap_ge w s.size 0 5, ((Below.refl _ w).drew).alloc (Nat.le_refl _) _, fun j hj => ⟨_, 0, rfl, ?_⟩⟩
  have hsz : s.data.size = s.size := rfl
  have hj' : j < s.data.size := by simpa using hj
  rw [Nat.zero_add]
  have hnew : (w.drew.alloc (.cells (bytesRow s (grownCap w s.size 0 5)) 5 ((bytesRow s (grownCap w s.size 0 5)).size, (bytesRow s (grownCap w s.size 0 5)).size + 1))).heap[w.heap.size]? = some (.cells (bytesRow s (grownCap w s.size 0 5)) 5 ((bytesRow s (grownCap w s.size 0 5)).size, (bytesRow s (grownCap w s.size 0 5)).size + 1)) := by
    show (w.heap.push _)[w.heap.size]? = _
    simp
  simp only [World.cell?, hnew]
  unfold bytesRow
  rw [Array.getElem?_append_left (by simpa using hj')]
  simp only [Array.getElem?_map, Array.getElem?_eq_getElem hj', Option.map_some, Array.getElem_toList]
  rfl

theorem dcGo_len (l : List UInt8) : ∀ (k p : Nat) (acc fs : List Fr), dcGo l k p acc = .ok fs → p ≤ l.length → fs.length ≤ acc.length + (l.length - p)
  | 0, p, acc, fs, h, hp => by
    rw [dcGo] at h
    cases h
    omega
  | k + 1, p, acc, fs, h, hp => by
    by_cases hlt : p < l.length
    · cases e : frD l p with
      | none => rw [dcGo_none hlt e] at h; cases h
      | some x =>
        obtain ⟨f, q⟩ := x
        rw [dcGo_some hlt e] at h
        have h1 := frD_pos hlt e
        have h2 := dcGo_len l k q (acc ++ [f]) fs h h1.2
        simp at h2
        omega
    · rw [dcGo_end hlt] at h
      cases h
      omega

theorem dcAll_len (l : List UInt8) : (dcAll l).2.1.length ≤ l.length := by
  unfold dcAll
  split
  · simp
  · split
    · simp
    · split
      · simp
      · rename_i h3
        split
        · simp
        · rename_i fs hg
          have hp : rP (l.take (l.length - 4)) 0 ≤ (l.take (l.length - 4)).length := (rP_le _ 0 (Nat.zero_le _)).1
          have := dcGo_len _ _ _ _ _ hg hp
          simp at this ⊢
          omega

/-- What Encode and Decode lean on. -/
structure Ground2 (w : World) : Prop where
  tab : TabAt w
  err : ErrAt w
  two : 2 ≤ w.heap.size
theorem Ground2.below {w w' : World} (h : Ground2 w) (hb : Below w.heap.size w w') : Ground2 w' :=
  ⟨h.tab.below hb h.two, cell_of h.err (hb.block 0 (by have := h.two; omega)), Nat.le_trans h.two hb.size⟩

set_option maxHeartbeats 1000000 in
set_option maxRecDepth 100000 in
theorem step_enc (wp : Nat) (a b c : Int) (s : ByteArray) (n : Nat) (fa : Option Addr) (fs : List Fr) (fc : Nat) (ra : Nat → Option Addr) (rc : Nat → Nat) (w : World) (hl : fs.length ≤ 1000000000) (hn : n < 18446744073709551616) (hF : FrsW w fa fs ra rc) (hL : Ground2 w) (hlen : (bodyBytes n fs).length ≤ 500000000) :
    Calls Tryz.prog 28 #[.pointer (some ⟨wp, 0, none⟩), .agg #[.int .i64 16, .int .i64 a, .int .i64 b, .int .i64 c, .string s, .int .u64 (n : Int), .slice fa fs.length fc]] w fun e w' => e = .returned (.bool true) ∧ Below w.heap.size w w' := by
  have HS : Hid (Calls Tryz.prog 47 #[.agg #[.int .u64 (n : Int), .slice fa fs.length fc]] (w.alloc (.cells #[.int .i64 16, .int .i64 a, .int .i64 b, .int .i64 c, .string s, .int .u64 (n : Int), .slice fa fs.length fc] 74)) fun e w' => e = .returned (.bool true) ∧ Below w.heap.size w w') := by
    have hB0 : Below w.heap.size w (w.alloc (.cells #[.int .i64 16, .int .i64 a, .int .i64 b, .int .i64 c, .string s, .int .u64 (n : Int), .slice fa fs.length fc] 74)) := (Below.refl _ w).alloc (Nat.le_refl _) _
    have hL0 := hL.below hB0
    refine (encoded_any n fa fs fc ra rc _ hl hn (hF.below hB0) hL0.tab hL0.err hL0.two hlen).mono ?_
    rintro e w' ⟨rfl, h⟩
    exact ⟨rfl, hB0.trans (h.mono hB0.size)⟩
  clear hF hL hlen
  go_enter Tryz.func28, Tryz.ntmps28
  go_wp2_with fail
  refine HS.out.mono ?_
  rintro e w' ⟨rfl, h⟩
  clear HS
  go_wp2_with fail
  go_ret
  exact ⟨rfl, h⟩

set_option maxHeartbeats 1000000 in
set_option maxRecDepth 100000 in
theorem step_dec (wp : Nat) (a b c : Int) (s : ByteArray) (n : Int) (fa : Option Addr) (fl fc : Nat) (w : World) (hL : Ground2 w) (hs : s.size ≤ 1048576) :
    Calls Tryz.prog 28 #[.pointer (some ⟨wp, 0, none⟩), .agg #[.int .i64 17, .int .i64 a, .int .i64 b, .int .i64 c, .string s, .int .u64 n, .slice fa fl fc]] w fun e w' => e = .returned (.bool true) ∧ Below w.heap.size w w' := by
  obtain ⟨W0, hW0⟩ : ∃ W0, W0 = w.alloc (.cells #[.int .i64 17, .int .i64 a, .int .i64 b, .int .i64 c, .string s, .int .u64 n, .slice fa fl fc] 74) := ⟨_, rfl⟩
  have hB0 : Below w.heap.size w W0 := by rw [hW0]; exact (Below.refl _ w).alloc (Nat.le_refl _) _
  have hs0 : W0.heap.size = w.heap.size + 1 := by rw [hW0]; simp
  have hP0 : Blk W0 w.heap.size 74 [.int .i64 17, .int .i64 a, .int .i64 b, .int .i64 c, .string s, .int .u64 n, .slice fa fl fc] := by rw [hW0]; exact Blk.new w 74 _
  obtain ⟨c', W2, hcv, hc', hb2, hby⟩ := conv_bytes W0 s
  have hll : s.data.toList.length = s.size := Array.length_toList
  have hbw2 : Below w.heap.size w W2 := hB0.trans (hb2.mono hB0.size)
  have hP2 := hP0.of_heap (hb2.block _ hP0.lt)
  have x1 : W2.cell? ⟨w.heap.size, 1, none⟩ = some (.int .i64 a) := hP2.cell 1
  have hDEC : ∀ (av : Option Addr) (cv : Nat) (l : List UInt8) (W : World), Below w.heap.size w W → BytesAt W av l → l.length ≤ 2000000 → l.length ≤ cv → Calls Tryz.prog 48 #[.slice av l.length cv] W fun e w' => e = .returned (.bool true) ∧ Below w.heap.size w w' := fun av cv l W hW hb h1 h2 => by
    have hLW := hL.below hW
    refine (decoded_any av cv l W hb (by omega) h2 hLW.tab hLW.err hLW.two (by have := dcAll_len l; omega)).mono ?_
    rintro e w' ⟨rfl, h⟩
    exact ⟨rfl, hW.trans (h.mono hW.size)⟩
  have HDEC := hid hDEC
  have HD := hid (hDEC (some ⟨W0.heap.size, 0, none⟩) c' s.data.toList W2 hbw2 hby (by omega) (by omega))
  have HSE := hid (rsealed_any (some ⟨W0.heap.size, 0, none⟩) s.data.toList c' W2 (by omega) hby)
  rw [hll] at HD HSE
  have HB := hid (And.intro hbw2 hll)
  clear hDEC hL hP0 hP2 hb2 hby hbw2 hB0 hll hs0
  rw [hW0] at hcv
  have hszA : W0.heap.size = (w.alloc (.cells #[.int .i64 17, .int .i64 a, .int .i64 b, .int .i64 c, .string s, .int .u64 n, .slice fa fl fc] 74)).heap.size := by rw [hW0]
  rw [hszA, World.size_alloc] at HD HSE
  rw [World.size_alloc] at hcv
  clear hW0 hszA
  by_cases ha : a = 0
  · subst ha
    go_enter Tryz.func28, Tryz.ntmps28
    go_wp2_with fail
    refine HD.out.mono ?_
    rintro e w' ⟨rfl, h⟩
    clear HD HSE HDEC HB
    go_wp2_with fail
    go_ret
    exact ⟨rfl, h⟩
  · have ha' : (a == 0) = false := by simp [ha]
    have ha2 : (a != 0) = true := by simp [ha]
    clear ha HD
    go_enter Tryz.func28, Tryz.ntmps28
    go_wp2_with fail
    refine HSE.out.mono ?_
    rintro e w3 ⟨v3, rfl, hB3, _, hb3⟩
    obtain ⟨a3, c3, hv3, hby3⟩ := hB3.bytes
    have hlc : (s.data.toList ++ sumBytes s.data.toList).length ≤ c3 := by
      rcases hB3 with ⟨_, h0⟩ | ⟨g, cap, cs, h1, _, _, h4, _⟩
      · rw [h0]; simp
      · rw [h1] at hv3
        simp at hv3
        omega
    subst hv3
    obtain ⟨hbw2, hll⟩ := HB.out
    have HD := hid (HDEC.out a3 c3 _ w3 (hbw2.trans (hb3.mono hbw2.size)) hby3 (by rw [List.length_append, sumBytes_len, hll]; omega) hlc)
    clear HDEC HSE HB hB3 hb3 hby3 hlc hbw2 hll
    generalize (s.data.toList ++ sumBytes s.data.toList).length = LL at *
    go_wp2_with fail
    refine HD.out.mono ?_
    rintro e w' ⟨rfl, h⟩
    clear HD
    go_wp2_with fail
    go_ret
    exact ⟨rfl, h⟩

end Go.Proofs.YtphbledmopchnaaGreatDoor

/-
  plays, of Encode and Decode; mediawirelaw.Coded.
-/
namespace Go.Proofs.YtphbledmopchnaaGreatDoor
open Go.RowKit Go.Lib Mm

/-- Is it among the first j kinds? -/
def inK (k : Int) (j : Nat) : Bool := decide (16 ≤ k) && decide (k < 16 + (j : Int))
theorem inK_true {k : Int} {j : Nat} (h : inK k j = true) : inK k (j + 1) = true := by
  simp only [inK, Bool.and_eq_true, decide_eq_true_eq] at h ⊢
  omega
theorem inK_eq {k : Int} {j : Nat} (h : k = 16 + (j : Int)) : inK k (j + 1) = true := by
  simp only [inK, Bool.and_eq_true, decide_eq_true_eq]
  omega
theorem inK_false {k : Int} {j : Nat} (h : inK k j = false) (hne : ¬ k = 16 + (j : Int)) : inK k (j + 1) = false := by
  rw [← Bool.not_eq_true] at h ⊢
  simp only [inK, Bool.and_eq_true, decide_eq_true_eq] at h ⊢
  omega
theorem inK_two {k : Int} (h : inK k 2 = true) : k = 16 ∨ k = 17 := by
  simp only [inK, Bool.and_eq_true, decide_eq_true_eq] at h
  omega


set_option maxHeartbeats 4000000 in
set_option maxRecDepth 100000 in
theorem plays_coded (oa : Option Addr) (os : List OpR) (oc kb : Nat) (w : World) (hO : OpsW w oa os) (hn : os.length ≤ 1000000) (hK : ∀ j, j < 2 → w.cell? ⟨kb, j, none⟩ = some (.int .i64 (16 + (j : Int)))) (hL : Ground2 w) :
    Calls Tryz.prog 13 #[.slice oa os.length oc, .slice (some ⟨kb, 0, none⟩) 2 2, .bool false] w fun e w' => e = .returned (.bool true) ∧ Below w.heap.size w w' := by
  have hkb := World.block_lt_of_cell? _ _ (hK 0 (by omega))
  have HS := hid (small_any oa os oc w hO (by omega))
  have HO := hid hO
  have HK := hid hK
  have HL := hid hL
  clear hO hK hL
  go_enter Tryz.func13, Tryz.ntmps13
  go_wp2_with fail
  refine HS.out.mono ?_
  rintro e w1 ⟨⟨B, rfl⟩, q0, rfl⟩
  clear HS
  cases B with
  | false =>
    go_wp2_with fail
    go_ret
    exact ⟨rfl, rfl, rfl, rfl, Nat.le_refl _, fun _ _ => rfl⟩
  | true =>
    have HP : Hid (Below w.heap.size w ((w.drewN q0).alloc (.cells #[.slice none 0 0, .slice none 0 0, .slice none 0 0, .slice none 0 0, .slice none 0 0, .bool false] 72))) :=
      ((⟨rfl, rfl, rfl, Nat.le_refl _, fun _ _ => rfl⟩ : Below w.heap.size w (w.drewN q0)).alloc (Nat.le_refl _) _)
    go_wp2_with fail
    go_loopw [7, 9] (fun s7 s9 wr => ∃ i : Nat, i ≤ os.length ∧ s7 = .bool true ∧ s9 = .int .i64 i ∧ Hid (Below w.heap.size w wr)) (fun _ s9 _ => os.length - (intOf s9).toNat)
    case atStart => exact ⟨0, Nat.zero_le _, rfl, rfl, HP⟩
    case round =>
      clear HP
      obtain ⟨i, hi, rfl, rfl, HP⟩ := hrel
      by_cases hlt : i < os.length
      · have hlt' : (i : Int) < (os.length : Int) := by omega
        have hbw := HP.out
        obtain ⟨b, off, hoa, hop⟩ := (HO.out.below hbw) i hlt
        subst hoa
        have c0 := hop.c0
        have c1 := hop.c1
        have c2 := hop.c2
        have c3 := hop.c3
        have c4 := hop.c4
        have c5 := hop.c5
        have c6 := hop.c6
        have HF := hid hop.frs
        have ha := hop.ha
        have hb := hop.hb
        have hs := hop.hs
        have hf := hop.hf
        have hnn := hop.hn
        have hld := hop.ld
        have hkb2 : kb < wr.heap.size := by have := hbw.size; omega
        have kc : ∀ j, j < 2 → wr.cell? ⟨kb, j, none⟩ = some (.int .i64 (16 + (j : Int))) := fun j hj => cell_of (HK.out j hj) (hbw.block kb hkb)
        have HKC := hid kc
        clear hop kc hbw
        generalize (os.getD i op0).k = ok at *
        generalize (os.getD i op0).a = oA at *
        generalize (os.getD i op0).b = oB at *
        generalize (os.getD i op0).c = oC at *
        generalize (os.getD i op0).s = oS at *
        generalize (os.getD i op0).n = oN at *
        generalize (os.getD i op0).fs = fs at *
        generalize (os.getD i op0).fa = fa at *
        generalize (os.getD i op0).fc = fc at *
        generalize (os.getD i op0).ra = ra at *
        generalize (os.getD i op0).rc = rc at *
        obtain ⟨W1, hW1⟩ : ∃ W1, W1 = wr.alloc (.cells #[.int .i64 ok, .int .i64 oA, .int .i64 oB, .int .i64 oC, .string oS, .int .u64 (oN : Int), .slice fa fs.length fc] 74) := ⟨_, rfl⟩
        have hb1 : Blk W1 wr.heap.size 74 [.int .i64 ok, .int .i64 oA, .int .i64 oB, .int .i64 oC, .string oS, .int .u64 (oN : Int), .slice fa fs.length fc] := by rw [hW1]; exact Blk.new wr 74 _
        have hB1 : Below wr.heap.size wr W1 := by rw [hW1]; exact (Below.refl _ wr).alloc (Nat.le_refl _) _
        have hs1 : W1.heap.size = wr.heap.size + 1 := by rw [hW1]; simp
        have HB1 := hid (And.intro hb1 (And.intro hB1 hs1))
        have d0 : W1.cell? ⟨wr.heap.size, 0, none⟩ = some (.int .i64 ok) := hb1.cell 0
        have HKC1 : Hid (∀ j, j < 2 → W1.cell? ⟨kb, j, none⟩ = some (.int .i64 (16 + (j : Int)))) := fun j hj => cell_of (HKC.out j hj) (hB1.block kb hkb2)
        clear hb1 hB1 hs1 HKC
        go_wp2_with fail
        rw [← hW1]
        clear hW1 c0 c1 c2 c3 c4 c5 c6
        go_loopw [11, 12] (fun s11 s12 wq => ∃ (j z : Nat) (B : Bool), j ≤ 2 ∧ s11 = .bool B ∧ s12 = .int .i64 j ∧ Hid (B = inK ok j) ∧ wq = W1.drewN z) (fun _ s12 _ => 2 - (intOf s12).toNat)
        case atStart => exact ⟨0, 0, false, by omega, rfl, rfl, (by unfold Hid inK; simp), rfl⟩
        case round =>
          obtain ⟨j, z, B, hj, rfl, rfl, HB, rfl⟩ := hrel
          by_cases hj4 : j < 2
          · have hj4' : (j : Int) < 2 := by omega
            have kc := HKC1.out j hj4
            cases B with
            | true =>
              have HB2 : Hid (true = inK ok (j + 1)) := (inK_true HB.out.symm).symm
              go_wp2_with fail
              go_quiet (fail)
              go_wp2_with fail
              go_roundw
              case rel => exact ⟨j + 1, z + nq, true, by omega, rfl, by go_num, HB2, rfl⟩
              case measure => simp [intOf]; omega
            | false =>
              by_cases hke : ok = 16 + (j : Int)
              · have HB2 : Hid (true = inK ok (j + 1)) := (inK_eq hke).symm
                have hke' : (ok == 16 + (j : Int)) = true := by simp [hke]
                clear hke
                go_wp2_with fail
                go_quiet (fail)
                go_wp2_with fail
                go_roundw
                case rel => exact ⟨j + 1, z + nq, true, by omega, rfl, by go_num, HB2, rfl⟩
                case measure => simp [intOf]; omega
              · have HB2 : Hid (false = inK ok (j + 1)) := (inK_false HB.out.symm hke).symm
                have hke' : (ok == 16 + (j : Int)) = false := by simp [hke]
                go_wp2_with fail
                go_quiet (fail)
                go_wp2_with fail
                go_roundw
                case rel => exact ⟨j + 1, z + nq, false, by omega, rfl, by go_num, HB2, rfl⟩
                case measure => simp [intOf]; omega
          · obtain rfl : j = 2 := by omega
            obtain ⟨hb1, hB1, hs1⟩ := HB1.out
            have hBz : Below wr.heap.size wr (W1.drewN z) := ⟨hB1.os, hB1.tape, hB1.output, hB1.size, hB1.block⟩
            have hsz : (W1.drewN z).heap.size = wr.heap.size + 1 := hs1
            have HE := hid (early_any (oN : Int) fa fs fc ra rc (W1.drewN z) (by omega) (HF.out.below hBz))
            have d5 : W1.cell? ⟨wr.heap.size, 5, none⟩ = some (.int .u64 (oN : Int)) := hb1.cell 5
            have d6 : W1.cell? ⟨wr.heap.size, 6, none⟩ = some (.slice fa fs.length fc) := hb1.cell 6
            have HBz := hid (And.intro hBz hsz)
            clear hb1 hB1 hs1 hBz hsz
            go_wp2_with fail
            refine HE.out.mono ?_
            rintro e Y1 ⟨⟨B1, rfl⟩, hy1⟩
            clear HE d0 d5 d6
            obtain ⟨hb1, hB1, hs1⟩ := HB1.out
            obtain ⟨hBz, hsz⟩ := HBz.out
            have hy : Below wr.heap.size wr Y1 := hBz.trans (hy1.mono (by omega))
            have hbY : Blk Y1 wr.heap.size 74 [.int .i64 ok, .int .i64 oA, .int .i64 oB, .int .i64 oC, .string oS, .int .u64 (oN : Int), .slice fa fs.length fc] := hb1.of_heap (hy1.block _ (by omega))
            have hsY : wr.heap.size + 1 ≤ Y1.heap.size := by have := hy1.size; omega
            have e0 : Y1.cell? ⟨wr.heap.size, 0, none⟩ = some (.int .i64 ok) := hbY.cell 0
            have e1 : Y1.cell? ⟨wr.heap.size, 1, none⟩ = some (.int .i64 oA) := hbY.cell 1
            have e2 : Y1.cell? ⟨wr.heap.size, 2, none⟩ = some (.int .i64 oB) := hbY.cell 2
            have e3 : Y1.cell? ⟨wr.heap.size, 3, none⟩ = some (.int .i64 oC) := hbY.cell 3
            have e4 : Y1.cell? ⟨wr.heap.size, 4, none⟩ = some (.string oS) := hbY.cell 4
            have e5 : Y1.cell? ⟨wr.heap.size, 5, none⟩ = some (.int .u64 (oN : Int)) := hbY.cell 5
            have e6 : Y1.cell? ⟨wr.heap.size, 6, none⟩ = some (.slice fa fs.length fc) := hbY.cell 6
            have HPY : Hid (Below w.heap.size w Y1) := HP.out.trans (hy.mono HP.out.size)
            have HFY := hid (HF.out.below hy)
            clear hb1 hB1 hs1 hBz hsz hy1 hbY hy HBz HB1 HKC1
            by_cases h9 : ok = 9
            · subst h9
              have hBf : B = false := HB.out
              subst hBf
              obtain ⟨c', W2, hcv, hc', hb2, hby⟩ := conv_bytes Y1 oS
              have hll : oS.data.toList.length = oS.size := Array.length_toList
              have hdc := rdecode_any (some ⟨Y1.heap.size, 0, none⟩) oS.data.toList c' W2 (by omega) (by omega) hby
              rw [hll] at hdc
              have HDC := hid hdc
              have HLN := hid (dcAll_len oS.data.toList)
              have HLL := hid hll
              have HB2 := hid hb2
              clear hdc hby hb2 hll
              go_wp2_with fail
              refine HDC.out.mono ?_
              rintro e Y2 ⟨hy2, s2, v9, rfl, hcp, hokf⟩
              clear HDC hcv
              obtain ⟨fa2, fc2, rfl, hfr⟩ := hcp.frs hokf
              have hyy : Below Y1.heap.size Y1 Y2 := HB2.out.trans (hy2.mono HB2.out.size)
              have hlen2 : (dcAll oS.data.toList).2.1.length ≤ 1000000000 := by have := HLN.out; have := HLL.out; omega
              have HE2 : Hid (∀ o, Calls Tryz.prog 26 #[.agg #[.int .u64 ((dcAll oS.data.toList).1 : Int), .slice fa2 (dcAll oS.data.toList).2.1.length fc2]] (Y2.alloc o) fun e w' => IsBool e ∧ Below Y1.heap.size Y1 w') := fun o => by
                have hba : Below Y2.heap.size Y2 (Y2.alloc o) := (Below.refl _ Y2).alloc (Nat.le_refl _) _
                refine (early_any _ fa2 _ fc2 _ _ (Y2.alloc o) hlen2 (hfr.weak.below hba)).mono ?_
                rintro e w' ⟨h1, h2⟩
                exact ⟨h1, hyy.trans ((hba.trans (h2.mono hba.size)).mono hyy.size)⟩
              clear hcp hokf hfr hyy hlen2 HLN HLL HB2 hy2
              generalize (dcAll oS.data.toList).2.1.length = L2 at *
              generalize (dcAll oS.data.toList).1 = N2 at *
              generalize (dcAll oS.data.toList).2.2.1 = E2 at *
              generalize (dcAll oS.data.toList).2.2.2 = A2 at *
              go_wp2_with fail
              refine (HE2.out _).mono ?_
              rintro e Y3 ⟨⟨B3, rfl⟩, hy3⟩
              have HP3 : Hid (Below w.heap.size w Y3) := HPY.out.trans (hy3.mono HPY.out.size)
              clear HE2 hy3
              go_wp2_with fail
              go_roundw
              case rel => exact ⟨i + 1, by omega, rfl, by go_num, HP3⟩
              case measure => simp [intOf]; omega
            · have h9' : (ok == 9) = false := by simp [h9]
              cases B with
              | false =>
                have HP3 : Hid (Below w.heap.size w Y1) := HPY.out
                clear h9
                go_wp2_with fail
                go_roundw
                case rel => exact ⟨i + 1, by omega, rfl, by go_num, HP3⟩
                case measure => simp [intOf]; omega
              | true =>
                have HST : Hid (Calls Tryz.prog 28 #[.pointer (some ⟨w.heap.size, 0, none⟩), .agg #[.int .i64 ok, .int .i64 oA, .int .i64 oB, .int .i64 oC, .string oS, .int .u64 (oN : Int), .slice fa fs.length fc]] Y1 fun e w' => e = .returned (.bool true) ∧ Below w.heap.size w w') := by
                  have hLY := HL.out.below HPY.out
                  rcases inK_two HB.out.symm with rfl | rfl
                  · refine (step_enc w.heap.size oA oB oC oS oN fa fs fc ra rc Y1 (by omega) hnn HFY.out hLY (by have := bodyTo_le oN fs fs.length; unfold bodyBytes; omega)).mono ?_
                    rintro e w' ⟨rfl, h⟩
                    exact ⟨rfl, HPY.out.trans (h.mono HPY.out.size)⟩
                  · refine (step_dec w.heap.size oA oB oC oS (oN : Int) fa fs.length fc Y1 hLY hs).mono ?_
                    rintro e w' ⟨rfl, h⟩
                    exact ⟨rfl, HPY.out.trans (h.mono HPY.out.size)⟩
                clear h9
                go_wp2_with fail
                refine HST.out.mono ?_
                rintro e Y2 ⟨rfl, hP2⟩
                have HP3 := hid hP2
                clear HST hP2
                go_wp2_with fail
                go_roundw
                case rel => exact ⟨i + 1, by omega, rfl, by go_num, HP3⟩
                case measure => simp [intOf]; omega
      · obtain rfl : i = os.length := by omega
        go_wp2_with fail
        go_ret
        exact ⟨rfl, HP.out⟩

set_option maxHeartbeats 1000000 in
theorem coded_walk (oa : Option Addr) (os : List OpR) (oc : Nat) (w : World) (hO : OpsW w oa os) (hn : os.length ≤ 1000000) (hL : Ground2 w) :
    Calls Tryz.prog 3 #[.slice oa os.length oc] w fun e w' => e = .returned (.bool true) ∧ Below w.heap.size w w' := by
  have hB : Below w.heap.size w (w.alloc (.cells #[.int .i64 16, .int .i64 17] 3)) := (Below.refl _ w).alloc (Nat.le_refl _) _
  have hb : Blk (w.alloc (.cells #[.int .i64 16, .int .i64 17] 3)) w.heap.size 3 [.int .i64 16, .int .i64 17] := Blk.new w 3 _
  have HP : Hid (Calls Tryz.prog 13 #[.slice oa os.length oc, .slice (some ⟨w.heap.size, 0, none⟩) 2 2, .bool false] (w.alloc (.cells #[.int .i64 16, .int .i64 17] 3)) fun e w' => e = .returned (.bool true) ∧ Below w.heap.size w w') := by
    refine (plays_coded oa os oc w.heap.size _ (hO.below hB) hn (fun j hj => ?_) (hL.below hB)).mono ?_
    · rw [hb.cell]
      match j, hj with
      | 0, _ => rfl
      | 1, _ => rfl
    · rintro e w' ⟨rfl, h⟩
      exact ⟨rfl, hB.trans (h.mono hB.size)⟩
  clear hB hb hO hL
  go_enter Tryz.func3, Tryz.ntmps3
  go_wp2_with fail
  refine HP.out.mono ?_
  rintro e w' ⟨rfl, h⟩
  clear HP
  go_wp2_with fail
  go_ret
  exact ⟨rfl, h⟩

end Go.Proofs.YtphbledmopchnaaGreatDoor
