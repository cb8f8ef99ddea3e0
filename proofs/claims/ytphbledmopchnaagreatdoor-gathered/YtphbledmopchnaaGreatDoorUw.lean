import Derived.Test.YtphbledmopchnaaGreatDoorQh
/-
  The steps of a script in memory, whatever their size; small, and what it says.
-/
namespace Go.Proofs.YtphbledmopchnaaGreatDoor
open Go.RowKit Go.Lib Mm

/-- A frame, however long its bytes and ranges are. -/
structure FrAt0 (w : World) (b off : Nat) (f : Fr) (ra : Option Addr) (rc : Nat) : Prop where
  c0 : w.cell? ⟨b, off, none⟩ = some (.int .i64 f.kind)
  c1 : w.cell? ⟨b, off + 1, none⟩ = some (.int .i64 f.stream)
  c2 : w.cell? ⟨b, off + 2, none⟩ = some (.int .u64 (f.offset : Int))
  c3 : w.cell? ⟨b, off + 3, none⟩ = some (.int .u64 (f.reliable : Int))
  c4 : w.cell? ⟨b, off + 4, none⟩ = some (.int .u64 (f.limit : Int))
  c5 : w.cell? ⟨b, off + 5, none⟩ = some (.bool f.fin)
  c6 : w.cell? ⟨b, off + 6, none⟩ = some (.int .u64 (f.id : Int))
  c7 : w.cell? ⟨b, off + 7, none⟩ = some (.int .u64 (f.deadline : Int))
  c8 : w.cell? ⟨b, off + 8, none⟩ = some (.string f.data)
  c9 : w.cell? ⟨b, off + 9, none⟩ = some (.slice ra f.ranges.length rc)
  rng : RngAt w ra f.ranges
  rlen : f.ranges.length ≤ 140737488351232
  dlen : f.data.size ≤ 140737488351232
  k0 : -9223372036854775808 ≤ f.kind ∧ f.kind ≤ 9223372036854775807
  s0 : -9223372036854775808 ≤ f.stream ∧ f.stream ≤ 9223372036854775807
  u0 : f.offset < 18446744073709551616 ∧ f.reliable < 18446744073709551616 ∧ f.limit < 18446744073709551616 ∧ f.id < 18446744073709551616 ∧ f.deadline < 18446744073709551616

theorem FrAt0.strong {w : World} {b off : Nat} {f : Fr} {ra : Option Addr} {rc : Nat} (h : FrAt0 w b off f ra rc) (h1 : f.ranges.length ≤ 1000000000) (h2 : f.data.size ≤ 1000000000) : FrAt w b off f ra rc :=
  ⟨h.c0, h.c1, h.c2, h.c3, h.c4, h.c5, h.c6, h.c7, h.c8, h.c9, h.rng, h1, h2, h.k0, h.s0, h.u0⟩

def FrsW0 (w : World) (fa : Option Addr) (fs : List Fr) (ra : Nat → Option Addr) (rc : Nat → Nat) : Prop :=
  ∀ j, j < fs.length → ∃ b off, fa = some ⟨b, off, none⟩ ∧ FrAt0 w b (off + j * 10) (fs.getD j fr0) (ra j) (rc j)

structure OpAt0 (w : World) (b off : Nat) (o : OpR) : Prop where
  c0 : w.cell? ⟨b, off, none⟩ = some (.int .i64 o.k)
  c1 : w.cell? ⟨b, off + 1, none⟩ = some (.int .i64 o.a)
  c2 : w.cell? ⟨b, off + 2, none⟩ = some (.int .i64 o.b)
  c3 : w.cell? ⟨b, off + 3, none⟩ = some (.int .i64 o.c)
  c4 : w.cell? ⟨b, off + 4, none⟩ = some (.string o.s)
  c5 : w.cell? ⟨b, off + 5, none⟩ = some (.int .u64 (o.n : Int))
  c6 : w.cell? ⟨b, off + 6, none⟩ = some (.slice o.fa o.fs.length o.fc)
  frs : FrsW0 w o.fa o.fs o.ra o.rc
  ha : -9223372036854775808 ≤ o.a ∧ o.a ≤ 9223372036854775807
  hb : -9223372036854775808 ≤ o.b ∧ o.b ≤ 9223372036854775807
  hs : o.s.size ≤ 140737488351232
  hf : o.fs.length ≤ 140737488351232
  hn : o.n < 18446744073709551616

def OpsW0 (w : World) (oa : Option Addr) (os : List OpR) : Prop := ∀ j, j < os.length → ∃ b off, oa = some ⟨b, off, none⟩ ∧ OpAt0 w b (off + j * 7) (os.getD j op0)

theorem FrAt0.below {w w' : World} {b off : Nat} {f : Fr} {ra : Option Addr} {rc : Nat} (h : FrAt0 w b off f ra rc) (hb : Below w.heap.size w w') : FrAt0 w' b off f ra rc := by
  have hl := World.block_lt_of_cell? _ _ h.c0
  have e : ∀ o, w'.cell? ⟨b, o, none⟩ = w.cell? ⟨b, o, none⟩ := fun o => hb.cell (p := ⟨b, o, none⟩) hl
  exact ⟨by rw [e, h.c0], by rw [e, h.c1], by rw [e, h.c2], by rw [e, h.c3], by rw [e, h.c4], by rw [e, h.c5], by rw [e, h.c6], by rw [e, h.c7], by rw [e, h.c8], by rw [e, h.c9], h.rng.below hb, h.rlen, h.dlen, h.k0, h.s0, h.u0⟩
theorem OpsW0.below {w w' : World} {oa : Option Addr} {os : List OpR} (h : OpsW0 w oa os) (hb : Below w.heap.size w w') : OpsW0 w' oa os := fun j hj => by
  obtain ⟨b, off, ha, h1⟩ := h j hj
  have hl := World.block_lt_of_cell? _ _ h1.c0
  have e : ∀ o, w'.cell? ⟨b, o, none⟩ = w.cell? ⟨b, o, none⟩ := fun o => hb.cell (p := ⟨b, o, none⟩) hl
  refine ⟨b, off, ha, by rw [e, h1.c0], by rw [e, h1.c1], by rw [e, h1.c2], by rw [e, h1.c3], by rw [e, h1.c4], by rw [e, h1.c5], by rw [e, h1.c6], fun k hk => ?_, h1.ha, h1.hb, h1.hs, h1.hf, h1.hn⟩
  obtain ⟨b', off', ha', h2⟩ := h1.frs k hk
  exact ⟨b', off', ha', h2.below hb⟩

/-- What the frames weigh. -/
def dl (fs : List Fr) : Nat → Nat
  | 0 => 0
  | k + 1 => dl fs k + ((fs.getD k fr0).data.size + (fs.getD k fr0).ranges.length)
/-- What the steps weigh. -/
def tot (os : List OpR) : Nat → Nat
  | 0 => os.length
  | i + 1 => tot os i + ((os.getD i op0).s.size + (os.getD i op0).fs.length + dl (os.getD i op0).fs (os.getD i op0).fs.length)

theorem dl_at (fs : List Fr) : ∀ n k, k < n → (fs.getD k fr0).data.size + (fs.getD k fr0).ranges.length ≤ dl fs n
  | 0, k, h => absurd h (Nat.not_lt_zero _)
  | n + 1, k, h => by
    rw [dl]
    by_cases e : k = n
    · subst e; omega
    · have := dl_at fs n k (by omega)
      omega
theorem dl_load (fs : List Fr) : ∀ k, loadTo fs k = dl fs k + k
  | 0 => rfl
  | k + 1 => by
    have h := dl_load fs k
    rw [loadTo, dl]
    omega
theorem tot_len (os : List OpR) : ∀ n, os.length ≤ tot os n
  | 0 => Nat.le_refl _
  | n + 1 => by
    have := tot_len os n
    rw [tot]
    omega
theorem tot_at (os : List OpR) : ∀ n i, i < n → (os.getD i op0).s.size + (os.getD i op0).fs.length + dl (os.getD i op0).fs (os.getD i op0).fs.length ≤ tot os n
  | 0, i, h => absurd h (Nat.not_lt_zero _)
  | n + 1, i, h => by
    rw [tot]
    by_cases e : i = n
    · subst e; omega
    · have := tot_at os n i (by omega)
      omega

/-- Of steps that are small. -/
theorem OpsW0.strong {w : World} {oa : Option Addr} {os : List OpR} (h : OpsW0 w oa os) (ht : tot os os.length ≤ 65536) : OpsW w oa os ∧ os.length ≤ 65536 := by
  refine ⟨fun j hj => ?_, Nat.le_trans (tot_len os os.length) ht⟩
  obtain ⟨b, off, ha, h1⟩ := h j hj
  have hj2 := tot_at os os.length j hj
  refine ⟨b, off, ha, h1.c0, h1.c1, h1.c2, h1.c3, h1.c4, h1.c5, h1.c6, fun k hk => ?_, h1.ha, h1.hb, by omega, by omega, h1.hn, by rw [dl_load]; omega⟩
  obtain ⟨b', off', ha', h2⟩ := h1.frs k hk
  have hk2 := dl_at (os.getD j op0).fs _ k hk
  exact ⟨b', off', ha', h2.strong (by omega) (by omega)⟩

/-- What small answers. -/
def SmallOut (os : List OpR) (e : Ending) : Prop := ∃ B : Bool, e = .returned (.bool B) ∧ (B = true → tot os os.length ≤ 65536)

set_option maxHeartbeats 4000000 in
set_option maxRecDepth 100000 in
theorem small_tot (oa : Option Addr) (os : List OpR) (oc : Nat) (w : World) (hO : OpsW0 w oa os) (hn : os.length ≤ 140737488351232) :
    Calls Tryz.prog 25 #[.slice oa os.length oc] w fun e w' => SmallOut os e ∧ ∃ q, w' = w.drewN q := by
  have HO := hid hO
  have HT0 : Hid (tot os 0 = os.length) := rfl
  clear hO
  go_enter Tryz.func25, Tryz.ntmps25
  go_wp2_with fail
  go_loopw [3, 4] (fun s3 s4 wr => ∃ (i q : Nat) (M : Int), i ≤ os.length ∧ 0 ≤ M ∧ M ≤ 1125899906842624 ∧ Hid (M = (tot os i : Int) ∨ 65536 < M) ∧ s4 = .int .i64 i ∧ s3 = .int .i64 M ∧ wr = w.drewN q) (fun _ s4 _ => os.length - (intOf s4).toNat)
  case atStart => exact ⟨0, 0, os.length, Nat.zero_le _, by omega, by omega, .inl (by rw [HT0.out]), rfl, rfl, rfl⟩
  case round =>
    obtain ⟨i, q, M, hi, hM0, hM1, HM, rfl, rfl, rfl⟩ := hrel
    by_cases hlt : i < os.length
    · have hlt' : (i : Int) < (os.length : Int) := by omega
      by_cases hM : M ≤ 65536
      · obtain ⟨b, off, hoa, hop⟩ := HO.out i hlt
        subst hoa
        have c4 := hop.c4
        have c6 := hop.c6
        have hs := hop.hs
        have hf := hop.hf
        have HF := hid hop.frs
        have HT : Hid (tot os (i + 1) = tot os i + ((os.getD i op0).s.size + (os.getD i op0).fs.length + dl (os.getD i op0).fs (os.getD i op0).fs.length)) := rfl
        have HME : Hid (M = (tot os i : Int)) := by
          rcases HM.out with h | h
          · exact h
          · omega
        clear hop HM
        generalize (os.getD i op0).s = S at *
        generalize (os.getD i op0).fs = fs at *
        generalize (os.getD i op0).fa = fa at *
        generalize (os.getD i op0).fc = fc at *
        generalize (os.getD i op0).ra = ra at *
        generalize (os.getD i op0).rc = rc at *
        have HD0 : Hid (dl fs 0 = 0) := rfl
        go_wp2_with fail
        go_quiet (fail)
        go_wp2_with fail
        go_loopw [3, 5] (fun s3 s5 wr => ∃ (k q' : Nat) (M' : Int), k ≤ fs.length ∧ 0 ≤ M' ∧ M' ≤ 1125899906842624 ∧ Hid (M' = M + S.size + fs.length + dl fs k ∨ 65536 < M') ∧ s5 = .int .i64 k ∧ s3 = .int .i64 M' ∧ wr = w.drewN q') (fun _ s5 _ => fs.length - (intOf s5).toNat)
        case atStart => exact ⟨0, q + nq, M + S.size + fs.length, Nat.zero_le _, by omega, by omega, .inl (by rw [HD0.out]; omega), rfl, by go_num, by simp [World.drewN_drewN]⟩
        case round =>
          obtain ⟨k, q', M', hk, hM0', hM1', HM', rfl, rfl, rfl⟩ := hrel
          by_cases hkl : k < fs.length
          · have hkl' : (k : Int) < (fs.length : Int) := by omega
            by_cases hM' : M' ≤ 65536
            · obtain ⟨b2, off2, hfa, hFr⟩ := HF.out k hkl
              subst hfa
              have c8 := hFr.c8
              have c9 := hFr.c9
              have hd := hFr.dlen
              have hr := hFr.rlen
              have HDK : Hid (dl fs (k + 1) = dl fs k + ((fs.getD k fr0).data.size + (fs.getD k fr0).ranges.length)) := rfl
              have HMK : Hid (M' = M + S.size + fs.length + dl fs k) := by
                rcases HM'.out with h | h
                · exact h
                · omega
              clear hFr HM'
              generalize (fs.getD k fr0).data = D at *
              generalize (fs.getD k fr0).ranges.length = rl at *
              generalize ra k = rak at *
              generalize rc k = rck at *
              have HN : Hid (M' + D.size + rl = M + S.size + fs.length + dl fs (k + 1) ∨ 65536 < M' + D.size + rl) := .inl (by rw [HDK.out, HMK.out]; omega)
              clear HDK HMK
              go_wp2_with fail
              go_quiet (fail)
              go_wp2_with fail
              go_roundw
              case rel => exact ⟨k + 1, q' + nq, M' + D.size + rl, by omega, by omega, by omega, HN, by go_num, by go_num, rfl⟩
              case measure => simp [intOf]; omega
            · have hM'' : ¬ (M' ≤ 65536) := hM'
              have HN : Hid (M' = (tot os (i + 1) : Int) ∨ 65536 < M') := .inr (by omega)
              go_wp2_with fail
              go_roundw
              case rel => exact ⟨i + 1, q', M', by omega, hM0', hM1', HN, by go_num, rfl, rfl⟩
              case measure => simp [intOf]; omega
          · obtain rfl : k = fs.length := by omega
            have HN : Hid (M' = (tot os (i + 1) : Int) ∨ 65536 < M') := by
              rcases HM'.out with h | h
              · exact .inl (by rw [h, HME.out, HT.out]; omega)
              · exact .inr h
            clear HM'
            go_wp2_with fail
            go_roundw
            case rel => exact ⟨i + 1, q', M', by omega, hM0', hM1', HN, by go_num, rfl, rfl⟩
            case measure => simp [intOf]; omega
      · have hM' : ¬ (M ≤ 65536) := hM
        have hM2 : decide (M ≤ 65536) = false := by simp; omega
        go_wp2_with fail
        go_ret
        exact ⟨⟨false, rfl, fun h => by cases h⟩, q, rfl⟩
    · obtain rfl : i = os.length := by omega
      have HE : Hid (M ≤ 65536 → tot os os.length ≤ 65536) := fun h => by
        rcases HM.out with h1 | h1
        · omega
        · omega
      clear HM
      by_cases hM : M ≤ 65536
      · go_wp2_with fail
        go_ret
        exact ⟨⟨true, rfl, fun _ => HE.out hM⟩, q, rfl⟩
      · have hM' : ¬ (M ≤ 65536) := hM
        have hM2 : decide (M ≤ 65536) = false := by simp; omega
        go_wp2_with fail
        go_ret
        exact ⟨⟨false, rfl, fun h => by cases h⟩, q, rfl⟩

end Go.Proofs.YtphbledmopchnaaGreatDoor
