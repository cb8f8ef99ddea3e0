import Derived.Test.YtphbledmopchnaaGreatDoorQj
/-
  The document's sets: Add, the walk.
-/
namespace Go.Proofs.YtphbledmopchnaaGreatDoor.St
open Go.RowKit Go.Lib Mm

set_option maxHeartbeats 8000000 in
set_option maxRecDepth 100000 in
theorem dadd_any (q lo hi : Nat) (most : Int) (fl : Nat) (rs : List (Nat × Nat)) (row : Option Nat) (w : World) (hset : DSetAt w q most fl rs row) (hok : Rg.Ok 18446744073709551616 1000000 fl rs) (hlo : lo < 18446744073709551616) (hhi : hi < 18446744073709551616) (hm : 1 ≤ most) (_hne : row ≠ some q) :
    Calls Tryz.prog 83 #[.pointer (some ⟨q, 0, none⟩), .int .u64 (lo : Int), .int .u64 (hi : Int)] w fun e w' => e = .returned (.tuple #[]) ∧ DPost q most row w (Rg.add most.toNat fl rs lo hi) w' := by
  have hset' := hset
  obtain ⟨base, c, h1, h2, h3, h4⟩ := hset
  have k0 : w.cell? ⟨q, 0, none⟩ = some (.slice base rs.length c) := h1.cell 0
  have k1 : w.cell? ⟨q, 1, none⟩ = some (.int .u64 (fl : Int)) := h1.cell 1
  have HR := hid h4
  have HB := hid h1
  have HS := hid hset'
  have hlen := hok.len
  have hfl := hok.fl
  have HOK := hid hok
  have k2 : w.cell? ⟨q, 2, none⟩ = some (.int .i64 most) := h1.cell 2
  have fz0 := h1.frozen 0
  have fz1 := h1.frozen 1
  have hqlt := h1.lt
  clear h1 h4 hset' hok h3
  obtain ⟨L0, hL0⟩ : ∃ L0, L0 = max lo fl := ⟨_, rfl⟩
  by_cases hgt : hi < L0
  · have HADD : Hid (Rg.add most.toNat fl rs lo hi = (fl, rs)) := by unfold Hid Rg.add; rw [if_pos (by omega)]
    have HF : Hid (DPost q most row w (Rg.add most.toNat fl rs lo hi) w) := by
      unfold Hid
      rw [HADD.out]
      exact ⟨⟨rfl, rfl, rfl, Nat.le_refl _, fun _ _ _ => rfl⟩, row, HS.out, .inl rfl⟩
    clear HADD
    by_cases hf : lo < fl
    · have hf' : (lo : Int) < (fl : Int) := by omega
      have hg' : (hi : Int) < (fl : Int) := by omega
      go_enter Tryz.func83, Tryz.ntmps83
      go_wp2_with fail
      refine bodyPost_ret (results_none rfl _ _ _) rfl ?_
      exact ⟨rfl, HF.out⟩
    · have hf' : ¬ ((lo : Int) < (fl : Int)) := by omega
      have hg' : (hi : Int) < (lo : Int) := by omega
      go_enter Tryz.func83, Tryz.ntmps83
      go_wp2_with fail
      refine bodyPost_ret (results_none rfl _ _ _) rfl ?_
      exact ⟨rfl, HF.out⟩
  · have HADD : Hid (Rg.add most.toNat fl rs lo hi = if most.toNat < (Rg.ins L0 hi rs).length then (((Rg.ins L0 hi rs).getD 0 (0, 0)).2 + 1, (Rg.ins L0 hi rs).tail) else (fl, Rg.ins L0 hi rs)) := by
      unfold Hid Rg.add; rw [if_neg (by omega), hL0]
    have HI0 : Hid (DIn w (Rg.ins L0 hi rs) rs w (.slice none 0 0) 0 L0 hi false []) := by
      refine ⟨GBuf.nil 170 2 w, ?_, Below.refl _ _, rfl, ?_⟩
      · intro k hk; simp [Value.ownBlock] at hk
      · rw [Rg.dGo_ins rs L0 hi [] (by omega) HOK.out.sorted]; rfl
    have HPOS := hid (Rg.ins_pos rs L0 hi)
    have HSRT := hid (Rg.sorted_ins rs L0 hi (by omega) HOK.out.sorted)
    have HHI : Hid (∀ r ∈ Rg.ins L0 hi rs, r.2 < 18446744073709551616) := fun r hr => by
      have := Rg.ins_hi rs L0 hi 18446744073709551615 (by omega) (fun x hx => by have := HOK.out.hi x hx; omega) r hr
      omega
    have hRl := Rg.ins_length rs L0 hi
    have hL0b : L0 < 18446744073709551616 := by omega
    generalize Rg.ins L0 hi rs = R at *
    have hLh : L0 ≤ hi := by omega
    have hmn : (most.toNat : Int) = most := by omega
    generalize Rg.add most.toNat fl rs lo hi = A at *
    have hcase : (lo < fl ∧ fl = L0) ∨ (¬ lo < fl ∧ L0 = lo) := by omega
    clear hgt hL0 HS
    rcases hcase with ⟨hf, hLe⟩ | ⟨hf, hLe⟩
    have hf' : (lo : Int) < (L0 : Int) := by omega
    have hg' : ¬ ((hi : Int) < (L0 : Int)) := by omega
    rw [hLe] at k1
    clear hLe hf
    go_enter Tryz.func83, Tryz.ntmps83
    go_wp2_with fail
    rotate_left
    subst hLe
    have hf' : ¬ ((L0 : Int) < (fl : Int)) := by omega
    have hg' : ¬ ((hi : Int) < (L0 : Int)) := by omega
    clear hf
    go_enter Tryz.func83, Tryz.ntmps83
    go_wp2_with fail
    all_goals
      clear hf' hg' k1
      go_loopw [1, 2, 6, 7, 8] (fun s1 s2 s6 s7 s8 wr => ∃ (k lo' hi' n C : Nat) (base' : Option Addr) (dn : Bool), k ≤ rs.length ∧ s8 = .int .i64 k ∧ s1 = .int .u64 (lo' : Int) ∧ s2 = .int .u64 (hi' : Int) ∧ s6 = .slice base' n C ∧ s7 = .bool dn ∧ n ≤ 2 * k ∧ lo' < 18446744073709551616 ∧ hi' < 18446744073709551616 ∧ lo' ≤ hi' ∧ Hid (∃ out, DIn w R (rs.drop k) wr (.slice base' n C) n lo' hi' dn out)) (fun _ _ _ _ s8 _ => rs.length - (intOf s8).toNat)
      case atStart => exact ⟨0, L0, hi, 0, 0, none, false, Nat.zero_le _, rfl, rfl, rfl, rfl, rfl, Nat.le_refl _, hL0b, hhi, hLh, [], HI0.out⟩
      case round =>
        clear HI0 hL0b hLh
        obtain ⟨k, lo', hi', n, C, base', dn, hk, rfl, rfl, rfl, rfl, rfl, hnk, hlo', hhi', hlh, HI⟩ := hrel
        by_cases hlt : k < rs.length
        · have hlt' : (k : Int) < (rs.length : Int) := by omega
          obtain ⟨out, hI⟩ := HI.out
          obtain ⟨b, o, hb, hbl, c0, c1⟩ := HR.out.cell hlt
          subst hb
          have d0 := cell_of c0 (hI.bel.block b hbl)
          have d1 := cell_of c1 (hI.bel.block b hbl)
          have e0 := cell_of k0 (hI.bel.block q hqlt)
          have hxy : (rs.getD k (0, 0)).1 ≤ (rs.getD k (0, 0)).2 ∧ (rs.getD k (0, 0)).2 < 18446744073709551616 := by
            have hm := getD_at rs k hlt
            rw [hm]
            exact ⟨HOK.out.sorted.le _ (List.getElem_mem hlt), HOK.out.hi _ (List.getElem_mem hlt)⟩
          have HDC := hid (drop_cons rs k hlt)
          clear c0 c1
          generalize hr : rs.getD k (0, 0) = r at *
          obtain ⟨x, y⟩ := r
          dsimp only at d0 d1 hxy
          obtain ⟨hxy1, hy⟩ := hxy
          have HII := hid hI
          clear hI HI hr
          by_cases hA : y + 1 < lo'
          · have hA1 : (y : Int) < (lo' : Int) := by omega
            obtain ⟨d, hd⟩ : ∃ d, d = lo' - y := ⟨_, rfl⟩
            have eqd : (lo' : Int) - (y : Int) = (d : Int) := by omega
            have hdb : d < 18446744073709551616 := by omega
            have hd1 : (1 : Int) < (d : Int) := by omega
            have hI1 := HII.out.alloc (.cells #[.int .u64 (x : Int), .int .u64 (y : Int)] 170)
            obtain ⟨g, C', W5, run5, hI5, _, _⟩ := hI1.push (by omega) x y (rs.drop (k + 1)) dn (by have := HII.out.fin; rw [HDC.out, Rg.dGo, if_pos hA] at this; exact this)
            simp only [World.size_alloc] at run5
            have HI5 := hid hI5
            clear hI5 hI1 HII
            go_wp2_with (at_builtin; refine Lib.wpList_append_run _ rfl _ _ _ _ rfl _ _ rfl rfl _ _ (run5 _) ?_)
            go_roundw
            case rel => exact ⟨k + 1, lo', hi', n + 1, C', some ⟨g, 0, none⟩, dn, by omega, by go_num, rfl, rfl, rfl, rfl, by omega, hlo', hhi', hlh, _, HI5.out⟩
            case measure => simp [intOf]; omega
          · by_cases hB : hi' + 1 < x
            · have hA2 : ¬ ((y : Int) < (lo' : Int)) := by omega
              have hB1 : (hi' : Int) < (x : Int) := by omega
              obtain ⟨d, hd⟩ : ∃ d, d = x - hi' := ⟨_, rfl⟩
              have eqd : (x : Int) - (hi' : Int) = (d : Int) := by omega
              have hdb : d < 18446744073709551616 := by omega
              have hd1 : (1 : Int) < (d : Int) := by omega
              have hI1 := HII.out.alloc (.cells #[.int .u64 (x : Int), .int .u64 (y : Int)] 170)
              cases dn with
              | true =>
                obtain ⟨g, C', W5, run5, hI5, _, _⟩ := hI1.push (by omega) x y (rs.drop (k + 1)) true (by have := HII.out.fin; rw [HDC.out, Rg.dGo, if_neg hA, if_pos hB, if_pos rfl] at this; exact this)
                simp only [World.size_alloc] at run5
                have HI5 := hid hI5
                clear hI5 hI1 HII HDC
                go_wp2_with (at_builtin; refine Lib.wpList_append_run _ rfl _ _ _ _ rfl _ _ rfl rfl _ _ (run5 _) ?_)
                go_roundw
                case rel => exact ⟨k + 1, lo', hi', n + 1, C', some ⟨g, 0, none⟩, true, by omega, by go_num, rfl, rfl, rfl, rfl, by omega, by omega, by omega, by omega, _, HI5.out⟩
                case measure => simp [intOf]; omega
              | false =>
                obtain ⟨g1, C1, W4, run4, hI4, hk4, _⟩ := hI1.push (by omega) lo' hi' ((x, y) :: rs.drop (k + 1)) true (by have := HII.out.fin; rw [HDC.out, Rg.dGo, if_neg hA, if_pos hB] at this; rw [Rg.dGo, if_neg hA, if_pos hB]; exact this)
                have hlt1 := HII.out.buf.lt
                have hne1 : (Value.slice base' n C).ownBlock ≠ some wr.heap.size := fun e => by have := hlt1 _ e; omega
                have hb4 : Blk W4 wr.heap.size 170 [.int .u64 (x : Int), .int .u64 (y : Int)] := (Blk.new wr 170 [.int .u64 (x : Int), .int .u64 (y : Int)]).of_heap (hk4 _ (by simp) hne1)
                have m0 : W4.cell? ⟨wr.heap.size, 0, none⟩ = some (.int .u64 (x : Int)) := hb4.cell 0
                have m1 : W4.cell? ⟨wr.heap.size, 1, none⟩ = some (.int .u64 (y : Int)) := hb4.cell 1
                obtain ⟨g, C', W5, run5, hI5, _, _⟩ := hI4.push (by omega) x y (rs.drop (k + 1)) true (by have := hI4.fin; rw [Rg.dGo, if_neg hA, if_pos hB, if_pos rfl] at this; exact this)
                simp only [World.size_alloc] at run4
                have HI5 := hid hI5
                clear hI5 hI1 HII HDC hI4 hk4 hb4 hlt1 hne1
                have run := run4
                clear run4
                go_wp2_with (at_builtin; refine Lib.wpList_append_run _ rfl _ _ _ _ rfl _ _ rfl rfl _ _ (run _) ?_; clear run; have run := run5)
                go_roundw
                case rel => exact ⟨k + 1, lo', hi', n + 1 + 1, C', some ⟨g, 0, none⟩, true, by omega, by go_num, rfl, rfl, rfl, rfl, by omega, by omega, by omega, by omega, _, HI5.out⟩
                case measure => simp [intOf]; omega
            · have HMRG : Hid (Rg.dFin (Rg.dGo (rs.drop (k + 1)) (min lo' x) (max hi' y) dn out) = R) := by
                have := HII.out.fin
                rw [HDC.out, Rg.dGo, if_neg hA, if_neg hB] at this
                exact this
              by_cases hC1 : y < lo'
              · have hC1' : (y : Int) < (lo' : Int) := by omega
                have eqd : (lo' : Int) - (y : Int) = 1 := by omega
                have g2 : ¬ ((hi' : Int) < (x : Int)) := by omega
                have g3 : (x : Int) < (lo' : Int) := by omega
                have g4 : ¬ ((hi' : Int) < (y : Int)) := by omega
                have HI6 : Hid (DIn w R (rs.drop (k + 1)) (wr.alloc (.cells #[.int .u64 (x : Int), .int .u64 (y : Int)] 170)) (.slice base' n C) n x hi' dn out) := by
                  have h := HII.out.alloc (.cells #[.int .u64 (x : Int), .int .u64 (y : Int)] 170)
                  refine ⟨h.buf, h.own, h.bel, h.len, ?_⟩
                  have hf := HMRG.out
                  rw [show min lo' x = x by omega, show max hi' y = hi' by omega] at hf
                  exact hf
                clear HII HMRG HDC
                go_wp2_with fail
                go_roundw
                case rel => exact ⟨k + 1, x, hi', n, C, base', dn, by omega, by go_num, rfl, rfl, rfl, rfl, by omega, by omega, by omega, by omega, _, HI6.out⟩
                case measure => simp [intOf]; omega
              · have hC1' : ¬ ((y : Int) < (lo' : Int)) := by omega
                by_cases hC2 : hi' < x
                · have hC2' : (hi' : Int) < (x : Int) := by omega
                  have eqd : (x : Int) - (hi' : Int) = 1 := by omega
                  have g3 : ¬ ((x : Int) < (lo' : Int)) := by omega
                  have g4 : (hi' : Int) < (y : Int) := by omega
                  have HI6 : Hid (DIn w R (rs.drop (k + 1)) (wr.alloc (.cells #[.int .u64 (x : Int), .int .u64 (y : Int)] 170)) (.slice base' n C) n lo' y dn out) := by
                    have h := HII.out.alloc (.cells #[.int .u64 (x : Int), .int .u64 (y : Int)] 170)
                    refine ⟨h.buf, h.own, h.bel, h.len, ?_⟩
                    have hf := HMRG.out
                    rw [show min lo' x = lo' by omega, show max hi' y = y by omega] at hf
                    exact hf
                  clear HII HMRG HDC
                  go_wp2_with fail
                  go_roundw
                  case rel => exact ⟨k + 1, lo', y, n, C, base', dn, by omega, by go_num, rfl, rfl, rfl, rfl, by omega, by omega, by omega, by omega, _, HI6.out⟩
                  case measure => simp [intOf]; omega
                · have hC2' : ¬ ((hi' : Int) < (x : Int)) := by omega
                  by_cases hC3 : x < lo'
                  · have hC3' : (x : Int) < (lo' : Int) := by omega
                    by_cases hC4 : hi' < y
                    · have hC4' : (hi' : Int) < (y : Int) := by omega
                      have HI6 : Hid (DIn w R (rs.drop (k + 1)) (wr.alloc (.cells #[.int .u64 (x : Int), .int .u64 (y : Int)] 170)) (.slice base' n C) n x y dn out) := by
                        have h := HII.out.alloc (.cells #[.int .u64 (x : Int), .int .u64 (y : Int)] 170)
                        refine ⟨h.buf, h.own, h.bel, h.len, ?_⟩
                        have hf := HMRG.out
                        rw [show min lo' x = x by omega, show max hi' y = y by omega] at hf
                        exact hf
                      clear HII HMRG HDC
                      go_wp2_with fail
                      go_roundw
                      case rel => exact ⟨k + 1, x, y, n, C, base', dn, by omega, by go_num, rfl, rfl, rfl, rfl, by omega, by omega, by omega, by omega, _, HI6.out⟩
                      case measure => simp [intOf]; omega
                    · have hC4' : ¬ ((hi' : Int) < (y : Int)) := by omega
                      have HI6 : Hid (DIn w R (rs.drop (k + 1)) (wr.alloc (.cells #[.int .u64 (x : Int), .int .u64 (y : Int)] 170)) (.slice base' n C) n x hi' dn out) := by
                        have h := HII.out.alloc (.cells #[.int .u64 (x : Int), .int .u64 (y : Int)] 170)
                        refine ⟨h.buf, h.own, h.bel, h.len, ?_⟩
                        have hf := HMRG.out
                        rw [show min lo' x = x by omega, show max hi' y = hi' by omega] at hf
                        exact hf
                      clear HII HMRG HDC
                      go_wp2_with fail
                      go_roundw
                      case rel => exact ⟨k + 1, x, hi', n, C, base', dn, by omega, by go_num, rfl, rfl, rfl, rfl, by omega, by omega, by omega, by omega, _, HI6.out⟩
                      case measure => simp [intOf]; omega
                  · have hC3' : ¬ ((x : Int) < (lo' : Int)) := by omega
                    by_cases hC4 : hi' < y
                    · have hC4' : (hi' : Int) < (y : Int) := by omega
                      have HI6 : Hid (DIn w R (rs.drop (k + 1)) (wr.alloc (.cells #[.int .u64 (x : Int), .int .u64 (y : Int)] 170)) (.slice base' n C) n lo' y dn out) := by
                        have h := HII.out.alloc (.cells #[.int .u64 (x : Int), .int .u64 (y : Int)] 170)
                        refine ⟨h.buf, h.own, h.bel, h.len, ?_⟩
                        have hf := HMRG.out
                        rw [show min lo' x = lo' by omega, show max hi' y = y by omega] at hf
                        exact hf
                      clear HII HMRG HDC
                      go_wp2_with fail
                      go_roundw
                      case rel => exact ⟨k + 1, lo', y, n, C, base', dn, by omega, by go_num, rfl, rfl, rfl, rfl, by omega, by omega, by omega, by omega, _, HI6.out⟩
                      case measure => simp [intOf]; omega
                    · have hC4' : ¬ ((hi' : Int) < (y : Int)) := by omega
                      have HI6 : Hid (DIn w R (rs.drop (k + 1)) (wr.alloc (.cells #[.int .u64 (x : Int), .int .u64 (y : Int)] 170)) (.slice base' n C) n lo' hi' dn out) := by
                        have h := HII.out.alloc (.cells #[.int .u64 (x : Int), .int .u64 (y : Int)] 170)
                        refine ⟨h.buf, h.own, h.bel, h.len, ?_⟩
                        have hf := HMRG.out
                        rw [show min lo' x = lo' by omega, show max hi' y = hi' by omega] at hf
                        exact hf
                      clear HII HMRG HDC
                      go_wp2_with fail
                      go_roundw
                      case rel => exact ⟨k + 1, lo', hi', n, C, base', dn, by omega, by go_num, rfl, rfl, rfl, rfl, by omega, by omega, by omega, by omega, _, HI6.out⟩
                      case measure => simp [intOf]; omega
        · obtain rfl : k = rs.length := by omega
          obtain ⟨out, hI⟩ := HI.out
          have hend : rs.drop rs.length = [] := List.drop_length
          have hfin := hI.fin
          rw [hend] at hfin
          have hq : Blk wr q 166 [.slice base rs.length c, .int .u64 (fl : Int), .int .i64 most] := HB.out.of_heap (hI.bel.block q hqlt)
          have e0 : wr.cell? ⟨q, 0, none⟩ = some (.slice base rs.length c) := hq.cell 0
          clear hlt
          cases dn with
          | true =>
            have hE : DEnd w R wr (.slice base' n C) n := by
              have h1 : out = R := by simpa [Rg.dGo, Rg.dFin] using hfin
              subst h1
              exact ⟨hI.buf, hI.own, hI.bel, hI.len⟩
            obtain ⟨g, C', hv, hC⟩ := hE.shape (by have := HPOS.out; have := hE.len; omega)
            simp only [Value.slice.injEq] at hv
            obtain ⟨rfl, _, rfl⟩ := hv
            have e1 : wr.cell? ⟨q, 1, none⟩ = some (.int .u64 (fl : Int)) := hq.cell 1
            have e2 : wr.cell? ⟨q, 2, none⟩ = some (.int .i64 most) := hq.cell 2
            have f0 := hq.frozen 0
            have f1 := hq.frozen 1
            have hn1 : 1 ≤ n := by have := HPOS.out; have := hE.len; omega
            have c1 := hE.cell hn1
            have HE := hid hE
            have hRn : n = R.length := hE.len
            clear hI HI hq hfin hend hE
            by_cases hdr : most < (n : Int)
            · have hx : (R.getD 0 (0, 0)).2 + 1 < 18446744073709551616 := Rg.ins_two HSRT.out HHI.out (by omega)
              have HP := hid (HE.out.drop (row := row) HB.out hC hn1 (x := (R.getD 0 (0, 0)).2 + 1) rfl)
              have HA : Hid (A = ((R.getD 0 (0, 0)).2 + 1, R.tail)) := by unfold Hid; rw [HADD.out, if_pos (by omega)]
              rw [← HA.out] at HP
              have hxx : (((R.getD 0 (0, 0)).2 + 1 : Nat) : Int) = ((R.getD 0 (0, 0)).2 : Int) + 1 := by omega
              rw [hxx] at HP
              clear hxx HA HE HADD HPOS HSRT HHI hRn hRl
              generalize (R.getD 0 (0, 0)).2 = z at *
              have hnc : (1 : Int) ≤ (n : Int) := by omega
              go_wp2_with fail
              go_end0
              exact ⟨rfl, HP.out⟩
            · have HP := hid (HE.out.fin (row := row) HB.out hC)
              have HA : Hid (A = (fl, R)) := by unfold Hid; rw [HADD.out, if_neg (by omega)]
              rw [← HA.out] at HP
              clear HA HE HADD HPOS HSRT HHI hRn hRl c1
              go_wp2_with fail
              go_end0
              exact ⟨rfl, HP.out⟩
          | false =>
            obtain ⟨g, C', W5, run5, hI5, _, hC⟩ := hI.push (by omega) lo' hi' [] true (by simpa [Rg.dGo, Rg.dFin] using hfin)
            have hE : DEnd w R W5 (.slice (some ⟨g, 0, none⟩) (n + 1) C') (n + 1) := by
              have h1 : out ++ [(lo', hi')] = R := by simpa [Rg.dGo, Rg.dFin] using hfin
              rw [h1] at hI5
              exact ⟨hI5.buf, hI5.own, hI5.bel, hI5.len⟩
            have hq5 : Blk W5 q 166 [.slice base rs.length c, .int .u64 (fl : Int), .int .i64 most] := HB.out.of_heap (hE.bel.block q hqlt)
            have e0' : W5.cell? ⟨q, 0, none⟩ = some (.slice base rs.length c) := hq5.cell 0
            have e1 : W5.cell? ⟨q, 1, none⟩ = some (.int .u64 (fl : Int)) := hq5.cell 1
            have e2 : W5.cell? ⟨q, 2, none⟩ = some (.int .i64 most) := hq5.cell 2
            have f0 := hq5.frozen 0
            have f1 := hq5.frozen 1
            have c1 := hE.cell (by omega)
            have HE := hid hE
            have hRn : n + 1 = R.length := hE.len
            clear hI HI hq hfin hend hE hI5 hq5
            by_cases hdr : most < (n : Int) + 1
            · have hx : (R.getD 0 (0, 0)).2 + 1 < 18446744073709551616 := Rg.ins_two HSRT.out HHI.out (by omega)
              have HP := hid (HE.out.drop (row := row) HB.out hC (by omega) (x := (R.getD 0 (0, 0)).2 + 1) rfl)
              have HA : Hid (A = ((R.getD 0 (0, 0)).2 + 1, R.tail)) := by unfold Hid; rw [HADD.out, if_pos (by omega)]
              rw [← HA.out] at HP
              have hxx : (((R.getD 0 (0, 0)).2 + 1 : Nat) : Int) = ((R.getD 0 (0, 0)).2 : Int) + 1 := by omega
              rw [hxx] at HP
              clear hxx HA HE HADD HPOS HSRT HHI hRn hRl
              generalize (R.getD 0 (0, 0)).2 = z at *
              go_wp2_with (at_builtin; refine Lib.wpList_append_run _ rfl _ _ _ _ rfl _ _ rfl rfl _ _ (run5 _) ?_)
              go_end0
              exact ⟨rfl, HP.out⟩
            · have HP := hid (HE.out.fin (row := row) HB.out hC)
              have HA : Hid (A = (fl, R)) := by unfold Hid; rw [HADD.out, if_neg (by omega)]
              rw [← HA.out] at HP
              clear HA HE HADD HPOS HSRT HHI hRn hRl c1
              go_wp2_with (at_builtin; refine Lib.wpList_append_run _ rfl _ _ _ _ rfl _ _ rfl rfl _ _ (run5 _) ?_)
              go_end0
              exact ⟨rfl, HP.out⟩

end Go.Proofs.YtphbledmopchnaaGreatDoor.St
