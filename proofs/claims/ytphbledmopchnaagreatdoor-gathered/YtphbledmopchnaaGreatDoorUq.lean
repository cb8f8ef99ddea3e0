/-
  plays, of steps on sets, whatever the script's size; mediawirelaw.Gathered: the walk.
-/
import Derived.Test.YtphbledmopchnaaGreatDoorQk
import Derived.Test.YtphbledmopchnaaGreatDoorUw
namespace Go.Proofs.YtphbledmopchnaaGreatDoor
open Go.RowKit Go.Lib Mm

set_option maxHeartbeats 4000000 in
set_option maxRecDepth 100000 in
theorem plays_setsW (hDown : St.DownSaid) (oa : Option Addr) (os : List OpR) (oc kb : Nat) (w : World) (hO : OpsW0 w oa os) (hn : os.length ≤ 140737488351232) (hK : ∀ j, j < 4 → w.cell? ⟨kb, j, none⟩ = some (.int .i64 (18 + (j : Int)))) :
    Calls Tryz.prog 13 #[.slice oa os.length oc, .slice (some ⟨kb, 0, none⟩) 4 4, .bool false] w fun e w' => e = .returned (.bool true) ∧ Below w.heap.size w w' := by
  have hkb := World.block_lt_of_cell? _ _ (hK 0 (by omega))
  have HS := hid (small_tot oa os oc w hO (by omega))
  have HO0 := hid hO
  have HK := hid hK
  have HD := hid hDown
  clear hO hK hDown
  go_enter Tryz.func13, Tryz.ntmps13
  go_wp2_with fail
  refine HS.out.mono ?_
  rintro e w1 ⟨⟨B, rfl, hBt⟩, q0, rfl⟩
  have HBT := hid hBt
  clear hBt
  clear HS
  cases B with
  | false =>
    go_wp2_with fail
    go_ret
    exact ⟨rfl, rfl, rfl, rfl, Nat.le_refl _, fun _ _ => rfl⟩
  | true =>
    obtain ⟨hOs, hn2⟩ := HO0.out.strong (HBT.out rfl)
    have HO := hid hOs
    clear hOs HO0 HBT
    have HP : Hid (PIn w.heap.size w ((w.drewN q0).alloc (.cells #[.slice none 0 0, .slice none 0 0, .slice none 0 0, .slice none 0 0, .slice none 0 0, .bool false] 72)) 0) := by
      refine ⟨fun k => if k = w.heap.size then (0, 0) else (9, 9), .slice none 0 0, .slice none 0 0, [], [], [], ⟨Blk.new (w.drewN q0) 72 _, if_pos rfl, GBuf.nil _ _ _, GBuf.nil _ _ _, fun k hk => by simp [Value.ownBlock] at hk, fun k hk => by simp [Value.ownBlock] at hk, rfl, rfl, fun i s p q h => by simp at h, fun b hb => if_neg (by omega)⟩, Nat.le_refl _, fun s hs => by simp at hs, ?_⟩
      exact ((⟨rfl, rfl, rfl, Nat.le_refl _, fun _ _ => rfl⟩ : Below w.heap.size w (w.drewN q0)).alloc (Nat.le_refl _) _)
    go_wp2_with fail
    go_loopw [7, 9] (fun s7 s9 wr => ∃ i : Nat, i ≤ os.length ∧ s7 = .bool true ∧ s9 = .int .i64 i ∧ Hid (PIn w.heap.size w wr i)) (fun _ s9 _ => os.length - (intOf s9).toNat)
    case atStart => exact ⟨0, Nat.zero_le _, rfl, rfl, HP⟩
    case round =>
      clear HP
      obtain ⟨i, hi, rfl, rfl, HP⟩ := hrel
      by_cases hlt : i < os.length
      · have hlt' : (i : Int) < (os.length : Int) := by omega
        have hbw := HP.out.below
        obtain ⟨b, off, hoa, hop⟩ := (HO.out.below hbw) i hlt
        subst hoa
        have c0 := hop.c0
        have c1 := hop.c1
        have c2 := hop.c2
        have c3 := hop.c3
        have c4 := hop.c4
        have c5 := hop.c5
        have c6 := hop.c6
        have HF := hid hop.frs
        have ha := hop.ha
        have hb := hop.hb
        have hs := hop.hs
        have hf := hop.hf
        have hkb2 : kb < wr.heap.size := by have := hbw.size; omega
        have kc : ∀ j, j < 4 → wr.cell? ⟨kb, j, none⟩ = some (.int .i64 (18 + (j : Int))) := fun j hj => cell_of (HK.out j hj) (hbw.block kb hkb)
        have HKC := hid kc
        clear hop kc hbw
        generalize (os.getD i op0).k = ok at *
        generalize (os.getD i op0).a = oA at *
        generalize (os.getD i op0).b = oB at *
        generalize (os.getD i op0).c = oC at *
        generalize (os.getD i op0).s = oS at *
        generalize (os.getD i op0).n = oN at *
        generalize (os.getD i op0).fs = fs at *
        generalize (os.getD i op0).fa = fa at *
        generalize (os.getD i op0).fc = fc at *
        generalize (os.getD i op0).ra = ra at *
        generalize (os.getD i op0).rc = rc at *
        obtain ⟨W1, hW1⟩ : ∃ W1, W1 = wr.alloc (.cells #[.int .i64 ok, .int .i64 oA, .int .i64 oB, .int .i64 oC, .string oS, .int .u64 (oN : Int), .slice fa fs.length fc] 74) := ⟨_, rfl⟩
        have hb1 : Blk W1 wr.heap.size 74 [.int .i64 ok, .int .i64 oA, .int .i64 oB, .int .i64 oC, .string oS, .int .u64 (oN : Int), .slice fa fs.length fc] := by rw [hW1]; exact Blk.new wr 74 _
        have hB1 : Below wr.heap.size wr W1 := by rw [hW1]; exact (Below.refl _ wr).alloc (Nat.le_refl _) _
        have hs1 : W1.heap.size = wr.heap.size + 1 := by rw [hW1]; simp
        have HB1 := hid (And.intro hb1 (And.intro hB1 hs1))
        have d0 : W1.cell? ⟨wr.heap.size, 0, none⟩ = some (.int .i64 ok) := hb1.cell 0
        have HKC1 : Hid (∀ j, j < 4 → W1.cell? ⟨kb, j, none⟩ = some (.int .i64 (18 + (j : Int)))) := fun j hj => cell_of (HKC.out j hj) (hB1.block kb hkb2)
        clear hb1 hB1 hs1 HKC
        go_wp2_with fail
        rw [← hW1]
        clear hW1 c0 c1 c2 c3 c4 c5 c6
        go_loopw [11, 12] (fun s11 s12 wq => ∃ (j z : Nat) (B : Bool), j ≤ 4 ∧ s11 = .bool B ∧ s12 = .int .i64 j ∧ Hid (B = inK ok j) ∧ wq = W1.drewN z) (fun _ s12 _ => 4 - (intOf s12).toNat)
        case atStart => exact ⟨0, 0, false, by omega, rfl, rfl, (by unfold Hid inK; simp), rfl⟩
        case round =>
          obtain ⟨j, z, B, hj, rfl, rfl, HB, rfl⟩ := hrel
          by_cases hj4 : j < 4
          · have hj4' : (j : Int) < 4 := by omega
            have kc := HKC1.out j hj4
            cases B with
            | true =>
              have HB2 : Hid (true = inK ok (j + 1)) := (inK_true HB.out.symm).symm
              go_wp2_with fail
              go_quiet (fail)
              go_wp2_with fail
              go_roundw
              case rel => exact ⟨j + 1, z + nq, true, by omega, rfl, by go_num, HB2, rfl⟩
              case measure => simp [intOf]; omega
            | false =>
              by_cases hke : ok = 18 + (j : Int)
              · have HB2 : Hid (true = inK ok (j + 1)) := (inK_eq hke).symm
                have hke' : (ok == 18 + (j : Int)) = true := by simp [hke]
                clear hke
                go_wp2_with fail
                go_quiet (fail)
                go_wp2_with fail
                go_roundw
                case rel => exact ⟨j + 1, z + nq, true, by omega, rfl, by go_num, HB2, rfl⟩
                case measure => simp [intOf]; omega
              · have HB2 : Hid (false = inK ok (j + 1)) := (inK_false HB.out.symm hke).symm
                have hke' : (ok == 18 + (j : Int)) = false := by simp [hke]
                go_wp2_with fail
                go_quiet (fail)
                go_wp2_with fail
                go_roundw
                case rel => exact ⟨j + 1, z + nq, false, by omega, rfl, by go_num, HB2, rfl⟩
                case measure => simp [intOf]; omega
          · obtain rfl : j = 4 := by omega
            obtain ⟨hb1, hB1, hs1⟩ := HB1.out
            have hBz : Below wr.heap.size wr (W1.drewN z) := ⟨hB1.os, hB1.tape, hB1.output, hB1.size, hB1.block⟩
            have hsz : (W1.drewN z).heap.size = wr.heap.size + 1 := hs1
            have HE := hid (early_any (oN : Int) fa fs fc ra rc (W1.drewN z) (by omega) (HF.out.below hBz))
            have d5 : W1.cell? ⟨wr.heap.size, 5, none⟩ = some (.int .u64 (oN : Int)) := hb1.cell 5
            have d6 : W1.cell? ⟨wr.heap.size, 6, none⟩ = some (.slice fa fs.length fc) := hb1.cell 6
            have HBz := hid (And.intro hBz hsz)
            clear hb1 hB1 hs1 hBz hsz
            go_wp2_with fail
            refine HE.out.mono ?_
            rintro e Y1 ⟨⟨B1, rfl⟩, hy1⟩
            clear HE d0 d5 d6
            obtain ⟨hb1, hB1, hs1⟩ := HB1.out
            obtain ⟨hBz, hsz⟩ := HBz.out
            have hy : Below wr.heap.size wr Y1 := hBz.trans (hy1.mono (by omega))
            have hbY : Blk Y1 wr.heap.size 74 [.int .i64 ok, .int .i64 oA, .int .i64 oB, .int .i64 oC, .string oS, .int .u64 (oN : Int), .slice fa fs.length fc] := hb1.of_heap (hy1.block _ (by omega))
            have hsY : wr.heap.size + 1 ≤ Y1.heap.size := by have := hy1.size; omega
            have e0 : Y1.cell? ⟨wr.heap.size, 0, none⟩ = some (.int .i64 ok) := hbY.cell 0
            have e1 : Y1.cell? ⟨wr.heap.size, 1, none⟩ = some (.int .i64 oA) := hbY.cell 1
            have e2 : Y1.cell? ⟨wr.heap.size, 2, none⟩ = some (.int .i64 oB) := hbY.cell 2
            have e3 : Y1.cell? ⟨wr.heap.size, 3, none⟩ = some (.int .i64 oC) := hbY.cell 3
            have e4 : Y1.cell? ⟨wr.heap.size, 4, none⟩ = some (.string oS) := hbY.cell 4
            have e5 : Y1.cell? ⟨wr.heap.size, 5, none⟩ = some (.int .u64 (oN : Int)) := hbY.cell 5
            have e6 : Y1.cell? ⟨wr.heap.size, 6, none⟩ = some (.slice fa fs.length fc) := hbY.cell 6
            have HPY := hid (HP.out.later hy)
            clear hb1 hB1 hs1 hBz hsz hy1 hbY hy HBz HB1 HKC1
            by_cases h9 : ok = 9
            · subst h9
              have hBf : B = false := HB.out
              subst hBf
              obtain ⟨c', W2, hcv, hc', hb2, hby⟩ := conv_bytes Y1 oS
              have hll : oS.data.toList.length = oS.size := Array.length_toList
              have hdc := rdecode_any (some ⟨Y1.heap.size, 0, none⟩) oS.data.toList c' W2 (by omega) (by omega) hby
              rw [hll] at hdc
              have HDC := hid hdc
              have HLN := hid (dcAll_len oS.data.toList)
              have HLL := hid hll
              have HB2 := hid hb2
              clear hdc hby hb2 hll
              go_wp2_with fail
              refine HDC.out.mono ?_
              rintro e Y2 ⟨hy2, s2, v9, rfl, hcp, hokf⟩
              clear HDC hcv
              obtain ⟨fa2, fc2, rfl, hfr⟩ := hcp.frs hokf
              have hyy : Below Y1.heap.size Y1 Y2 := HB2.out.trans (hy2.mono HB2.out.size)
              have hlen2 : (dcAll oS.data.toList).2.1.length ≤ 1000000000 := by have := HLN.out; have := HLL.out; omega
              have HE2 : Hid (∀ o, Calls Tryz.prog 26 #[.agg #[.int .u64 ((dcAll oS.data.toList).1 : Int), .slice fa2 (dcAll oS.data.toList).2.1.length fc2]] (Y2.alloc o) fun e w' => IsBool e ∧ Below Y1.heap.size Y1 w') := fun o => by
                have hba : Below Y2.heap.size Y2 (Y2.alloc o) := (Below.refl _ Y2).alloc (Nat.le_refl _) _
                refine (early_any _ fa2 _ fc2 _ _ (Y2.alloc o) hlen2 (hfr.weak.below hba)).mono ?_
                rintro e w' ⟨h1, h2⟩
                exact ⟨h1, hyy.trans ((hba.trans (h2.mono hba.size)).mono hyy.size)⟩
              clear hcp hokf hfr hyy hlen2 HLN HLL HB2 hy2
              generalize (dcAll oS.data.toList).2.1.length = L2 at *
              generalize (dcAll oS.data.toList).1 = N2 at *
              generalize (dcAll oS.data.toList).2.2.1 = E2 at *
              generalize (dcAll oS.data.toList).2.2.2 = A2 at *
              go_wp2_with fail
              refine (HE2.out _).mono ?_
              rintro e Y3 ⟨⟨B3, rfl⟩, hy3⟩
              have HP3 : Hid (PIn w.heap.size w Y3 (i + 1)) := (HPY.out.later hy3).succ
              clear HE2 hy3
              go_wp2_with fail
              go_roundw
              case rel => exact ⟨i + 1, by omega, rfl, by go_num, HP3⟩
              case measure => simp [intOf]; omega
            · have h9' : (ok == 9) = false := by simp [h9]
              cases B with
              | false =>
                have HP3 : Hid (PIn w.heap.size w Y1 (i + 1)) := HPY.out.succ
                clear h9
                go_wp2_with fail
                go_roundw
                case rel => exact ⟨i + 1, by omega, rfl, by go_num, HP3⟩
                case measure => simp [intOf]; omega
              | true =>
                have HST := hid (HPY.out.step HD.out (by omega) ok oA oB oC (inK_four HB.out.symm) ha hb oS (oN : Int) fa fs.length fc)
                clear h9
                go_wp2_with fail
                refine HST.out.mono ?_
                rintro e Y2 ⟨rfl, hP2⟩
                have HP3 := hid hP2
                clear HST hP2
                go_wp2_with fail
                go_roundw
                case rel => exact ⟨i + 1, by omega, rfl, by go_num, HP3⟩
                case measure => simp [intOf]; omega
      · obtain rfl : i = os.length := by omega
        have HB := hid HP.out.below
        go_wp2_with fail
        go_ret
        exact ⟨rfl, HB.out⟩

set_option maxHeartbeats 1000000 in
theorem gathered_walkW (hDown : St.DownSaid) (oa : Option Addr) (os : List OpR) (oc : Nat) (w : World) (hO : OpsW0 w oa os) (hn : os.length ≤ 140737488351232) :
    Calls Tryz.prog 4 #[.slice oa os.length oc] w fun e w' => e = .returned (.bool true) ∧ Below w.heap.size w w' := by
  have hB : Below w.heap.size w (w.alloc (.cells #[.int .i64 18, .int .i64 19, .int .i64 20, .int .i64 21] 3)) := (Below.refl _ w).alloc (Nat.le_refl _) _
  have hb : Blk (w.alloc (.cells #[.int .i64 18, .int .i64 19, .int .i64 20, .int .i64 21] 3)) w.heap.size 3 [.int .i64 18, .int .i64 19, .int .i64 20, .int .i64 21] := Blk.new w 3 _
  have HP : Hid (Calls Tryz.prog 13 #[.slice oa os.length oc, .slice (some ⟨w.heap.size, 0, none⟩) 4 4, .bool false] (w.alloc (.cells #[.int .i64 18, .int .i64 19, .int .i64 20, .int .i64 21] 3)) fun e w' => e = .returned (.bool true) ∧ Below w.heap.size w w') := by
    refine (plays_setsW hDown oa os oc w.heap.size _ (hO.below hB) hn (fun j hj => ?_)).mono ?_
    · rw [hb.cell]
      match j, hj with
      | 0, _ => rfl
      | 1, _ => rfl
      | 2, _ => rfl
      | 3, _ => rfl
    · rintro e w' ⟨rfl, h⟩
      exact ⟨rfl, hB.trans (h.mono hB.size)⟩
  clear hB hb hO
  go_enter Tryz.func4, Tryz.ntmps4
  go_wp2_with fail
  refine HP.out.mono ?_
  rintro e w' ⟨rfl, h⟩
  clear HP
  go_wp2_with fail
  go_ret
  exact ⟨rfl, h⟩

end Go.Proofs.YtphbledmopchnaaGreatDoor
