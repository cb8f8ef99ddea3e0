/-
  appendRanges.
-/
import Derived.Test.YtphbledmopchnaaDoorWrite
namespace Go.Proofs.YtphbledmopchnaaDoor
open Go.RowKit Go.Lib Go.Shelf Mm

/-- The ranges behind the first, up to the k-th. -/
def rngTo (rs : List (Nat × Nat)) : Nat → List UInt8
  | 0 => []
  | k + 1 => rngTo rs k ++ (Num.bytes ((rs.getD k (0, 0)).1 - (rs.getD (k + 1) (0, 0)).2 - 2) ++ Num.bytes ((rs.getD (k + 1) (0, 0)).2 - (rs.getD (k + 1) (0, 0)).1))
def rngHead (rs : List (Nat × Nat)) : List UInt8 :=
  Num.bytes (rs.getD 0 (0, 0)).2 ++ (Num.bytes (rs.length - 1) ++ Num.bytes ((rs.getD 0 (0, 0)).2 - (rs.getD 0 (0, 0)).1))
def rngBytes (rs : List (Nat × Nat)) : List UInt8 := rngHead rs ++ rngTo rs (rs.length - 1)

theorem bytes_le (n : Nat) : (Num.bytes n).length ≤ 8 := by
  rw [Num.bytes_length]
  have : 2 ^ Num.code n ≤ 2 ^ 3 := Nat.pow_le_pow_right (by decide) (Num.code_le n)
  omega
theorem rngTo_le (rs : List (Nat × Nat)) : ∀ k, (rngTo rs k).length ≤ 16 * k
  | 0 => by simp [rngTo]
  | k + 1 => by
    have h := rngTo_le rs k
    have h1 := bytes_le ((rs.getD k (0, 0)).1 - (rs.getD (k + 1) (0, 0)).2 - 2)
    have h2 := bytes_le ((rs.getD (k + 1) (0, 0)).2 - (rs.getD (k + 1) (0, 0)).1)
    rw [rngTo, List.length_append, List.length_append]
    omega
theorem rngHead_le (rs : List (Nat × Nat)) : (rngHead rs).length ≤ 24 := by
  have h1 := bytes_le (rs.getD 0 (0, 0)).2
  have h2 := bytes_le (rs.length - 1)
  have h3 := bytes_le ((rs.getD 0 (0, 0)).2 - (rs.getD 0 (0, 0)).1)
  unfold rngHead
  rw [List.length_append, List.length_append]
  omega

theorem Gr.cell {w w' : World} {v v' : Value} (h : Gr w w' v v') {k o : Nat} {x : Value} (hc : w.cell? ⟨k, o, none⟩ = some x) (hne : v.ownBlock ≠ some k) : w'.cell? ⟨k, o, none⟩ = some x :=
  cell_of hc (h.1.block k (World.block_lt_of_cell? _ _ hc) (fun e => hne e.symm))

/-- What an Ack's ranges say of one another. -/
theorem sndR_at {rs : List (Nat × Nat)} (h : sndR rs = true) : 0 < rs.length ∧ ∀ k, k < rs.length → (rs.getD k (0, 0)).1 ≤ (rs.getD k (0, 0)).2 ∧ (rs.getD k (0, 0)).2 ≤ M62 ∧ (0 < k → (rs.getD k (0, 0)).2 + 1 < (rs.getD (k - 1) (0, 0)).1) := by
  unfold sndR at h
  rw [Bool.and_eq_true, List.all_eq_true] at h
  refine ⟨of_decide_eq_true h.2, fun k hk => ?_⟩
  have := h.1 k (by simpa using hk)
  unfold okAt at this
  rw [Bool.and_eq_true, Bool.and_eq_true, Bool.or_eq_true] at this
  refine ⟨of_decide_eq_true this.1.1, of_decide_eq_true this.1.2, fun h0 => ?_⟩
  rcases this.2 with e | e
  · have := of_decide_eq_true e; omega
  · exact of_decide_eq_true e

theorem rngTo_mono (rs : List (Nat × Nat)) : ∀ (m k : Nat), k ≤ m → (rngTo rs k).length ≤ (rngTo rs m).length
  | 0, k, h => by obtain rfl : k = 0 := by omega
                  exact Nat.le_refl _
  | m + 1, k, h => by
    by_cases e : k = m + 1
    · rw [e]; exact Nat.le_refl _
    · have := rngTo_mono rs m k (by omega)
      rw [rngTo, List.length_append]
      omega

theorem rng_nums {rs : List (Nat × Nat)} (hat : ∀ k, k < rs.length → (rs.getD k (0, 0)).1 ≤ (rs.getD k (0, 0)).2 ∧ (rs.getD k (0, 0)).2 ≤ M62 ∧ (0 < k → (rs.getD k (0, 0)).2 + 1 < (rs.getD (k - 1) (0, 0)).1)) (k : Nat) (hk : k + 1 < rs.length) :
    ∃ ga gb : Nat, ga = (rs.getD k (0, 0)).1 - (rs.getD (k + 1) (0, 0)).2 - 2 ∧ gb = (rs.getD (k + 1) (0, 0)).2 - (rs.getD (k + 1) (0, 0)).1 ∧
      (((rs.getD k (0, 0)).1 : Nat) : Int) - (((rs.getD (k + 1) (0, 0)).2 : Nat) : Int) = (((rs.getD k (0, 0)).1 - (rs.getD (k + 1) (0, 0)).2 : Nat) : Int) ∧
      (((rs.getD k (0, 0)).1 - (rs.getD (k + 1) (0, 0)).2 : Nat) : Int) - 2 = (ga : Int) ∧
      (((rs.getD (k + 1) (0, 0)).2 : Nat) : Int) - (((rs.getD (k + 1) (0, 0)).1 : Nat) : Int) = (gb : Int) ∧ ga < 4611686018427387904 ∧ gb < 4611686018427387904 ∧ IntKind.u64.wrap ((((rs.getD k (0, 0)).1 - (rs.getD (k + 1) (0, 0)).2 : Nat)) : Int) = ((((rs.getD k (0, 0)).1 - (rs.getD (k + 1) (0, 0)).2 : Nat)) : Int) ∧ IntKind.u64.wrap (ga : Int) = (ga : Int) ∧ IntKind.u64.wrap (gb : Int) = (gb : Int) := by
  obtain ⟨o1, o2, o3⟩ := hat (k + 1) (by omega)
  have o4 := o3 (by omega)
  rw [Nat.add_sub_cancel] at o4
  obtain ⟨o5, o6, _⟩ := hat k (by omega)
  unfold M62 at o2 o6
  exact ⟨_, _, rfl, rfl, by omega, by omega, by omega, by omega, by omega, by rw [IntKind.wrap_u64]; omega, by rw [IntKind.wrap_u64]; omega, by rw [IntKind.wrap_u64]; omega⟩

set_option maxHeartbeats 400000 in
set_option maxRecDepth 100000 in
theorem ranges_wr {B0 B1 : Nat} {w1 : World} (b off : Nat) (f : Fr) (ra : Option Addr) (rc : Nat) (hR : sndR f.ranges = true) (hrc : f.ranges.length ≤ rc) :
    Wr B0 B1 w1 (.func (.func 60) #[] #[]) (rngBytes f.ranges) b off f ra rc := by
  refine ⟨60, _, rfl, enters_of Tryd.func60 (by kernel_rfl) rfl, fun w v l hp hl => ?_⟩
  obtain ⟨hpos, hat⟩ := sndR_at hR
  have hrl := hp.frm.rlen
  have hmono := rngTo_mono f.ranges (f.ranges.length - 1)
  have hl2 : l.length + ((rngHead f.ranges).length + (rngTo f.ranges (f.ranges.length - 1)).length) ≤ 35184372088832 := by
    unfold rngBytes at hl; rw [List.length_append] at hl; exact hl
  obtain ⟨rb, ro, hra, r1, r2, _, _⟩ := hp.frm.rng 0 hpos
  rw [Nat.zero_mul, Nat.add_zero] at r1 r2
  have hrbl : rb < w.heap.size := World.block_lt_of_cell? _ _ r1
  have hnr := hp.nr _ hra
  have c9 := hp.frm.c9
  rw [hra] at c9
  obtain ⟨q1, q2, _⟩ := hat 0 hpos
  have hvl := hp.buf.lt
  -- the head
  have hp1 := hp.alloc (.cells #[.int .u64 ((f.ranges.getD 0 (0, 0)).1 : Int), .int .u64 ((f.ranges.getD 0 (0, 0)).2 : Int)] 50)
  have hk0 : (w.alloc (.cells #[.int .u64 ((f.ranges.getD 0 (0, 0)).1 : Int), .int .u64 ((f.ranges.getD 0 (0, 0)).2 : Int)] 50)).cell? ⟨w.heap.size, 0, none⟩ = some (.int .u64 ((f.ranges.getD 0 (0, 0)).1 : Int)) := (Blk.new w 50 [.int .u64 ((f.ranges.getD 0 (0, 0)).1 : Int), .int .u64 ((f.ranges.getD 0 (0, 0)).2 : Int)]).cell 0
  have hk1 : (w.alloc (.cells #[.int .u64 ((f.ranges.getD 0 (0, 0)).1 : Int), .int .u64 ((f.ranges.getD 0 (0, 0)).2 : Int)] 50)).cell? ⟨w.heap.size, 1, none⟩ = some (.int .u64 ((f.ranges.getD 0 (0, 0)).2 : Int)) := (Blk.new w 50 [.int .u64 ((f.ranges.getD 0 (0, 0)).1 : Int), .int .u64 ((f.ranges.getD 0 (0, 0)).2 : Int)]).cell 1
  have hhead : Hid (rngHead f.ranges = Num.bytes (f.ranges.getD 0 (0, 0)).2 ++ (Num.bytes (f.ranges.length - 1) ++ Num.bytes ((f.ranges.getD 0 (0, 0)).2 - (f.ranges.getD 0 (0, 0)).1))) := rfl
  have hhl : l.length + 24 ≤ 35184372088832 + 24 := by omega
  have HP1 := hid hp1
  have HK := hid (And.intro hk0 hk1)
  have HVL := hid hvl
  have HL2 := hid hl2
  have HMONO := hid hmono
  have HAT := hid hat
  have HRA := hid hra
  have HHD := hhead
  have HBYTES : Hid (rngBytes f.ranges = rngHead f.ranges ++ rngTo f.ranges (f.ranges.length - 1)) := rfl
  have HNR := hid hnr
  have HP := hid hp
  generalize hlo : (f.ranges.getD 0 (0, 0)).1 = lo0 at *
  generalize hhi : (f.ranges.getD 0 (0, 0)).2 = hi0 at *
  have HLO := hid hlo
  have g1 : (1 : Int) ≤ ((f.ranges.length : Nat) : Int) := by omega
  have g2 : ((f.ranges.length : Nat) : Int) ≤ (rc : Int) := by omega
  clear hp hp1 hk0 hk1 hvl hl2 hl hmono hat hhead hR hra hnr hlo hhi hhl
  have hbl : b < w.heap.size := World.block_lt_of_cell? _ _ c9
  obtain ⟨d0, hd0⟩ : ∃ d0, d0 = hi0 - lo0 := ⟨_, rfl⟩
  have ed : (hi0 : Int) - (lo0 : Int) = (d0 : Int) := by omega
  have hd0l : d0 ≤ hi0 := by omega
  have HD0 := hid hd0
  have HA1 := hid (appendNumber_any v l hi0 _ HP1.out.buf (by unfold M62 at q2; omega) (by have := HL2.out; omega))
  have hS1 : ∀ (x1 : World) (v1 : Value), Buf x1 v1 (l ++ Num.bytes hi0) → Gr (w.alloc (.cells #[.int .u64 (lo0 : Int), .int .u64 (hi0 : Int)] 50)) x1 v v1 →
      WPre B0 B1 w1 x1 v1 (l ++ Num.bytes hi0) b off f ra rc ∧ x1.cell? ⟨w.heap.size, 0, none⟩ = some (.int .u64 (lo0 : Int)) ∧ x1.cell? ⟨w.heap.size, 1, none⟩ = some (.int .u64 (hi0 : Int)) ∧ v1.ownBlock ≠ some w.heap.size := fun x1 v1 hB hG => by
    have hne : v.ownBlock ≠ some w.heap.size := fun e => by have := HVL.out _ e; omega
    refine ⟨HP1.out.next hB hG, hG.cell HK.out.1 hne, hG.cell HK.out.2 hne, fun e => ?_⟩
    rcases hG.2 _ e with e' | e'
    · exact hne e'
    · simp at e'; omega
  have HS1 := hid hS1
  clear hS1 hd0 HK HP1 HVL HNR
  by_cases hc1 : rc = 1
  · have hn1 : f.ranges.length = 1 := by omega
    subst hc1
    have HHD2 : Hid (rngHead f.ranges = Num.bytes hi0 ++ (Num.bytes 0 ++ Num.bytes (hi0 - lo0))) := by rw [HHD.out, hn1]; rfl
    have HBYTES2 : Hid (rngBytes f.ranges = rngHead f.ranges) := by rw [HBYTES.out, hn1]; exact List.append_nil _
    rw [hn1] at c9
    clear HHD HBYTES g1 g2 hrl hpos hrc hn1 HMONO HAT HRA
    go_enter Tryd.func60, Tryd.ntmps60
    go_wp2_with fail
    refine HA1.out.mono ?_
    rintro e x1 ⟨v1, rfl, hB1, hG1⟩
    obtain ⟨hp2, a0, a1, hn2⟩ := HS1.out x1 v1 hB1 hG1
    have HA2 := hid (appendNumber_any v1 _ 0 x1 hB1 (by omega) (by have := HL2.out; rw [HHD2.out] at this; simp only [List.length_append] at this ⊢; omega))
    have HG1 := hid hG1
    have HP2 := hid hp2
    have HN2 := hid hn2
    clear hB1 hG1 hp2 hn2 HA1 HS1
    go_wp2_with fail
    refine HA2.out.mono ?_
    rintro e x2 ⟨v2, rfl, hB2, hG2⟩
    have b0 := hG2.cell a0 HN2.out
    have b1 := hG2.cell a1 HN2.out
    have hp3 := HP2.out.next hB2 hG2
    have hn3 : v2.ownBlock ≠ some w.heap.size := fun e => by
      rcases hG2.2 _ e with e' | e'
      · exact HN2.out e'
      · have := World.block_lt_of_cell? _ _ a0
        simp at this
        omega
    have HA3 := hid (appendNumber_any v2 _ d0 x2 hB2 (by unfold M62 at q2; omega) (by have := HL2.out; rw [HHD2.out] at this; simp only [List.length_append] at this ⊢; omega))
    have HG2 := hid (HG1.out.trans hG2)
    have HP3 := hid hp3
    have HN3 := hid hn3
    clear hB2 hG2 hp3 hn3 HA2 HG1 HP2 HN2 a0 a1
    go_wp2_with fail
    refine HA3.out.mono ?_
    rintro e x3 ⟨v3, rfl, hB3, hG3⟩
    have d1 := hG3.cell b0 HN3.out
    have hp4 := HP3.out.next hB3 hG3
    rw [List.append_assoc, List.append_assoc, HD0.out, ← HHD2.out] at hp4
    have HG3 := hid (HG2.out.trans hG3)
    have HP4 := hid hp4
    clear hB3 hG3 hp4 HA3 HG2 HP3 HN3 b0 b1
    go_wp2_with fail
    go_loopw [0, 7, 41] (fun s0 s7 s41 wr => s41 = .int .i64 0 ∧ s0 = v3 ∧ wr = x3) (fun _ _ _ _ => 0)
    case atStart => exact ⟨rfl, rfl, rfl⟩
    case round =>
      obtain ⟨rfl, rfl, rfl⟩ := hrel
      have hfin := HP4.out.buf
      rw [← HBYTES2.out] at hfin
      have HF := hid hfin
      clear hfin HP4
      go_wp2
      go_ret
      exact ⟨_, rfl, HF.out, HG3.out.alloc _⟩
  · have g3 : ¬ (rc = 1) := hc1
    go_enter Tryd.func60, Tryd.ntmps60
    go_wp2_with fail
    refine HA1.out.mono ?_
    rintro e x1 ⟨v1, rfl, hB1, hG1⟩
    obtain ⟨hp2, a0, a1, hn2⟩ := HS1.out x1 v1 hB1 hG1
    have HA2 := hid (appendNumber_any v1 _ (f.ranges.length - 1) x1 hB1 (by omega) (by have := HL2.out; rw [HHD.out] at this; simp only [List.length_append] at this ⊢; omega))
    have HG1 := hid hG1
    have HP2 := hid hp2
    have HN2 := hid hn2
    clear hB1 hG1 hp2 hn2 HA1 HS1
    go_wp2_with fail
    refine HA2.out.mono ?_
    rintro e x2 ⟨v2, rfl, hB2, hG2⟩
    have b0 := hG2.cell a0 HN2.out
    have b1 := hG2.cell a1 HN2.out
    have hp3 := HP2.out.next hB2 hG2
    have hn3 : v2.ownBlock ≠ some w.heap.size := fun e => by
      rcases hG2.2 _ e with e' | e'
      · exact HN2.out e'
      · have := World.block_lt_of_cell? _ _ a0
        simp at this
        omega
    have HA3 := hid (appendNumber_any v2 _ d0 x2 hB2 (by unfold M62 at q2; omega) (by have := HL2.out; rw [HHD.out] at this; simp only [List.length_append] at this ⊢; omega))
    have HG2 := hid (HG1.out.trans hG2)
    have HP3 := hid hp3
    have HN3 := hid hn3
    clear hB2 hG2 hp3 hn3 HA2 HG1 HP2 HN2 a0 a1
    go_wp2_with fail
    refine HA3.out.mono ?_
    rintro e x3 ⟨v3, rfl, hB3, hG3⟩
    have d1 := hG3.cell b0 HN3.out
    have hp4 := HP3.out.next hB3 hG3
    rw [List.append_assoc, List.append_assoc, HD0.out, ← HHD.out] at hp4
    have HG3 := hid (HG2.out.trans hG3)
    have HP4 := hid hp4
    clear hB3 hG3 hp4 HA3 HG2 HP3 HN3 b0 b1
    go_wp2_with fail
    go_loopw [0, 7, 41] (fun s0 s7 s41 wr => ∃ k : Nat, k ≤ f.ranges.length - 1 ∧ s41 = .int .i64 k ∧ s7 = .int .u64 ((f.ranges.getD k (0, 0)).1 : Nat) ∧ Hid (WPre B0 B1 w1 wr s0 ((l ++ rngHead f.ranges) ++ rngTo f.ranges k) b off f ra rc) ∧ Hid (Gr (w.alloc (.cells #[.int .u64 (lo0 : Int), .int .u64 (hi0 : Int)] 50)) wr v s0)) (fun _ _ s41 _ => f.ranges.length - 1 - (intOf s41).toNat)
    case atStart => exact ⟨0, Nat.zero_le _, rfl, by rw [HLO.out], by rw [rngTo, List.append_nil]; exact HP4.out, HG3.out⟩
    case round =>
      obtain ⟨k, hk, rfl, rfl, HPk, HGk⟩ := hrel
      by_cases hlt : k < f.ranges.length - 1
      · obtain ⟨rb', ro', hra', t1, t2, z1, z2⟩ := HPk.out.frm.rng (k + 1) (by omega)
        rw [HRA.out] at hra'
        simp at hra'
        obtain ⟨rfl, rfl⟩ := hra'
        rw [show ro + (k + 1) * 2 = ro + 2 + k * 2 by omega] at t1 t2
        obtain ⟨ga, gb, hga, hgb, e1, e2, e3, hgal, hgbl, e4, e5, e6⟩ := rng_nums HAT.out k (by omega)
        have hstep : Hid (rngTo f.ranges (k + 1) = rngTo f.ranges k ++ (Num.bytes ((f.ranges.getD k (0, 0)).1 - (f.ranges.getD (k + 1) (0, 0)).2 - 2) ++ Num.bytes ((f.ranges.getD (k + 1) (0, 0)).2 - (f.ranges.getD (k + 1) (0, 0)).1))) := rfl
        rw [← hga, ← hgb] at hstep
        have hlen := HMONO.out (k + 1) (by omega)
        rw [hstep.out] at hlen
        simp only [List.length_append] at hlen
        have hl3 := HL2.out
        clear hga hgb
        generalize (f.ranges.getD k (0, 0)).1 = lok at e1 e2 e4 ⊢
        generalize (f.ranges.getD (k + 1) (0, 0)).2 = hi' at t2 z2 e1 e2 e3 e4
        generalize hZ : (f.ranges.getD (k + 1) (0, 0)).1 = lo' at t1 z1 e3
        clear z1 z2
        have hw := HPk.out.alloc (.cells #[.int .u64 (lo' : Int), .int .u64 (hi' : Int)] 50)
        have n0 : (wr.alloc (.cells #[.int .u64 (lo' : Int), .int .u64 (hi' : Int)] 50)).cell? ⟨wr.heap.size, 0, none⟩ = some (.int .u64 (lo' : Int)) := (Blk.new wr 50 [.int .u64 (lo' : Int), .int .u64 (hi' : Int)]).cell 0
        have n1 : (wr.alloc (.cells #[.int .u64 (lo' : Int), .int .u64 (hi' : Int)] 50)).cell? ⟨wr.heap.size, 1, none⟩ = some (.int .u64 (hi' : Int)) := (Blk.new wr 50 [.int .u64 (lo' : Int), .int .u64 (hi' : Int)]).cell 1
        have hne : u0.ownBlock ≠ some wr.heap.size := fun e => by have := HPk.out.buf.lt _ e; omega
        have HA1 := hid (appendNumber_any u0 _ ga _ hw.buf hgal (by simp only [List.length_append]; omega))
        have hlb : (((l ++ rngHead f.ranges) ++ rngTo f.ranges k) ++ Num.bytes ga).length ≤ 35184372088832 := by simp only [List.length_append]; omega
        have HLB := hid hlb
        have HGBL := hid hgbl
        have HW := hid hw
        have HN01 := hid (And.intro n0 (And.intro n1 hne))
        have HZ := hid hZ
        have glt : (k : Int) < ((f.ranges.length - 1 : Nat) : Int) := by omega
        have hrl2 : rb < wr.heap.size := World.block_lt_of_cell? _ _ t1
        clear hZ hw n0 n1 hne hlb hgbl hgal hlen hl3
        go_wp2_with fail
        refine HA1.out.mono ?_
        rintro e y1 ⟨s1, rfl, hB1, hG1⟩
        obtain ⟨m0, m1, mne⟩ := HN01.out
        have p0 := hG1.cell m0 mne
        have p1 := hG1.cell m1 mne
        have hp2 := HW.out.next hB1 hG1
        have HA2 := hid (appendNumber_any s1 _ gb y1 hB1 HGBL.out HLB.out)
        have HG1 := hid (HGk.out.trans (hG1.alloc _))
        have HP2 := hid hp2
        have mne1 : s1.ownBlock ≠ some wr.heap.size := fun e => by
          rcases hG1.2 _ e with e' | e'
          · exact mne e'
          · simp at e'; omega
        have HMNE := hid mne1
        clear m0 m1 mne hB1 hG1 hp2 HA1 HW HN01 mne1
        go_wp2_with fail
        refine HA2.out.mono ?_
        rintro e y2 ⟨s2, rfl, hB2, hG2⟩
        have p2 := hG2.cell p0 HMNE.out
        have hp3 := HP2.out.next hB2 hG2
        rw [List.append_assoc, List.append_assoc, ← hstep.out] at hp3
        have HG2 := hid (HG1.out.trans hG2)
        have HP3 := hid hp3
        clear hB2 hG2 hp3 HA2 HG1 HP2 p0 p1
        go_wp2_with fail
        go_roundw
        case rel => exact ⟨k + 1, by omega, by go_num, by rw [HZ.out], HP3, HG2⟩
        case measure => simp [intOf]; omega
      · obtain rfl : k = f.ranges.length - 1 := by omega
        have hfin := HPk.out.buf
        rw [List.append_assoc, ← HBYTES.out] at hfin
        have HF := hid hfin
        clear hfin HPk
        go_wp2
        go_ret
        exact ⟨_, rfl, HF.out, HGk.out.alloc _⟩

end Go.Proofs.YtphbledmopchnaaDoor
