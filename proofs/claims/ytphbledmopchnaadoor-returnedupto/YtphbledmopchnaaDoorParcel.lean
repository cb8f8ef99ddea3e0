/-
  plain.Encode and plain.Decode, as Returned meets them.
-/
import Derived.Test.YtphbledmopchnaaDoorBits
namespace Go.Proofs.YtphbledmopchnaaDoor
open Go.RowKit Go.Lib Go.Shelf Mm

/-- Bytes at the beginning of a block. -/
def Own0 (w : World) (g : Nat) (l : List UInt8) : Prop := ∃ cs, Blk w g 5 cs ∧ l.length ≤ cs.length ∧ cs.take l.length = bcells l

theorem Own0.lt {w : World} {g : Nat} {l : List UInt8} (h : Own0 w g l) : g < w.heap.size := by
  obtain ⟨cs, h1, _⟩ := h
  exact h1.lt
theorem Own0.cell {w : World} {g : Nat} {l : List UInt8} (h : Own0 w g l) (j : Nat) (hj : j < l.length) : w.cell? ⟨g, j, none⟩ = some (.int .u8 (l[j].toNat : Int)) := by
  obtain ⟨cs, h1, h2, h3⟩ := h
  rw [h1.cell]
  have : (cs.take l.length)[j]? = (bcells l)[j]? := by rw [h3]
  rw [List.getElem?_take, if_pos hj] at this
  rw [this]
  simp [bcells, hj]
theorem Own0.frozen {w : World} {g : Nat} {l : List UInt8} (h : Own0 w g l) (j : Nat) : w.frozen? ⟨g, j, none⟩ = false := by
  obtain ⟨cs, h1, _⟩ := h
  exact h1.frozen j
theorem Own0.bytes {w : World} {g : Nat} {l : List UInt8} (h : Own0 w g l) : BytesAt w (some ⟨g, 0, none⟩) l := fun j hj => ⟨g, 0, rfl, by rw [Nat.zero_add]; exact h.cell j hj⟩
theorem Own0.of_heap {w w' : World} {g : Nat} {l : List UInt8} (h : Own0 w g l) (e : w'.heap[g]? = w.heap[g]?) : Own0 w' g l := by
  obtain ⟨cs, h1, h2⟩ := h
  exact ⟨cs, h1.of_heap e, h2⟩
theorem Own0.set {w : World} {g : Nat} {l : List UInt8} (h : Own0 w g l) (j : Nat) (y : UInt8) : Own0 (w.setCell ⟨g, j, none⟩ (.int .u8 ((y.toNat : Nat) : Int))) g (l.set j y) := by
  obtain ⟨cs, h1, h2, h3⟩ := h
  refine ⟨cs.set j (.int .u8 ((y.toNat : Nat) : Int)), h1.setCell j _, by simpa using h2, ?_⟩
  rw [List.length_set, List.take_set, h3]
  unfold bcells
  rw [List.map_set]
theorem Own0.str {w : World} {g : Nat} {l : List UInt8} (h : Own0 w g l) (c : Nat) : (convert 29 9 (.slice (some ⟨g, 0, none⟩) l.length c)).run Tryd.prog w = .ok (.string ⟨l.toArray⟩) w :=
  run_convert_bytes_back (P := Tryd.prog) w 29 9 5 ⟨g, 0, none⟩ c l u29 (by kernel_rfl) u9 (fun j hj => by rw [Addr.add_lit, Nat.zero_add]; exact h.cell j hj)

theorem frs_ok {w : World} {fa : Option Addr} {fs : List Fr} {ra : Nat → Option Addr} {rc : Nat → Nat} (h : FrsW w fa fs ra rc) : ∀ j, j < fs.length → FrOk (fs.getD j fr0) := fun j hj => by
  obtain ⟨_, _, _, h1⟩ := h j hj
  exact h1.ok

theorem sndP_parts {n : Nat} {fs : List Fr} (h : sndP n fs = true) : (∀ i, i < fs.length → snd (fs.getD i fr0) = true) ∧ n ≤ M62 ∧ 0 < fs.length := by
  unfold sndP at h
  rw [Bool.and_eq_true, Bool.and_eq_true] at h
  exact ⟨(all_getD fs).1 h.1.1, of_decide_eq_true h.1.2, of_decide_eq_true h.2⟩

theorem norm_body (n : Nat) (fs : List Fr) (hs : ∀ i, i < fs.length → snd (fs.getD i fr0) = true) : ∀ k, k ≤ fs.length → bodyTo n (fs.map norm) k = bodyTo n fs k
  | 0, _ => rfl
  | k + 1, h => by
    rw [bodyTo, bodyTo, norm_body n fs hs k (by omega), getD_map fs k (by omega), norm_bytes _ (hs k (by omega))]

theorem norm_pkt (n : Nat) (fs : List Fr) (hs : sndP n fs = true) : sndP n (fs.map norm) = true ∧ bodyBytes n (fs.map norm) = bodyBytes n fs ∧ pktBytes n (fs.map norm) = pktBytes n fs := by
  obtain ⟨h1, h2, h3⟩ := sndP_parts hs
  have hb : bodyBytes n (fs.map norm) = bodyBytes n fs := by
    unfold bodyBytes
    rw [List.length_map]
    exact norm_body n fs h1 _ (Nat.le_refl _)
  refine ⟨?_, hb, by unfold pktBytes; rw [hb]⟩
  unfold sndP
  rw [Bool.and_eq_true, Bool.and_eq_true]
  refine ⟨⟨(all_getD _).2 (fun i hi => ?_), decide_eq_true h2⟩, decide_eq_true (by rw [List.length_map]; exact h3)⟩
  rw [List.length_map] at hi
  rw [getD_map fs i hi]
  exact norm_snd _ (h1 i hi)

theorem enc_good (n : Nat) (fa : Option Addr) (fs : List Fr) (fc : Nat) (ra : Nat → Option Addr) (rc : Nat → Nat) (w : World) (hl : fs.length ≤ 1000000000) (hn : n < 18446744073709551616) (hF : FrsW w fa fs ra rc) (hT : TabAt w) (hE : ErrAt w) (h2 : 2 ≤ w.heap.size) (hlen : (bodyBytes n fs).length ≤ 1000000000)
    (hs : sndP n fs = true) (N : Nat) (hN : fs.length = N) (l : List UInt8) (hpl : pktBytes n fs = l) :
    Calls Tryd.prog 4 #[.agg #[.int .u64 (n : Int), .slice fa N fc]] w fun e w' => ∃ g c, e = .returned (.tuple #[.slice (some ⟨g, 0, none⟩) l.length c, .int .i64 0]) ∧ Below w.heap.size w w' ∧ Own0 w' g l ∧ w.heap.size ≤ g := by
  subst hN
  refine (plainEncode_any n fa fs fc ra rc w hl hn hF hT hE h2 (fun _ => hlen)).mono ?_
  rintro e w' ⟨v, rfl, hb, ⟨h, _⟩ | ⟨_, hB, hO⟩⟩
  · rw [hs] at h; cases h
  · rw [hpl] at hB
    rcases hB with ⟨_, h0⟩ | ⟨g, cap, cs, rfl, hBl, hc1, hc2, _, hc4, _⟩
    · have := pktBytes_len n fs
      rw [hpl, h0] at this
      simp at this
    · exact ⟨g, cap, by rw [encErr, if_pos hs], hb, ⟨cs, hBl, by omega, hc4⟩, hO g rfl⟩

theorem enc_bad (n : Nat) (fa : Option Addr) (fs : List Fr) (fc : Nat) (ra : Nat → Option Addr) (rc : Nat → Nat) (w : World) (hl : fs.length ≤ 1000000000) (hn : n < 18446744073709551616) (hF : FrsW w fa fs ra rc) (hT : TabAt w) (hE : ErrAt w) (h2 : 2 ≤ w.heap.size)
    (hs : sndP n fs = false) :
    Calls Tryd.prog 4 #[.agg #[.int .u64 (n : Int), .slice fa fs.length fc]] w fun e w' => e = .returned (.tuple #[.slice none 0 0, .int .i64 8]) ∧ Below w.heap.size w w' := by
  refine (plainEncode_any n fa fs fc ra rc w hl hn hF hT hE h2 (fun h => by rw [hs] at h; cases h)).mono ?_
  rintro e w' ⟨v, rfl, hb, ⟨_, rfl⟩ | ⟨h, _⟩⟩
  · exact ⟨by rw [encErr, if_neg (by rw [hs]; decide)], hb⟩
  · rw [hs] at h; cases h

theorem dec_good (n : Nat) (fs : List Fr) (g cap : Nat) (l : List UInt8) (w : World) (hs : sndP n fs = true) (hok : ∀ j, j < fs.length → FrOk (fs.getD j fr0)) (hl : fs.length ≤ 1000000000) (hpl : pktBytes n fs = l) (hO : Own0 w g l) (hlen : l.length ≤ 1000000000) (hT : TabAt w) (hE : ErrAt w) (h2 : 2 ≤ w.heap.size) :
    Calls Tryd.prog 5 #[.slice (some ⟨g, 0, none⟩) l.length cap] w fun e w' => ∃ sa sc ra rc, e = .returned (.tuple #[.agg #[.int .u64 (n : Int), .slice sa fs.length sc], .int .i64 0, .int .i64 (-1)]) ∧ Below w.heap.size w w' ∧ FrsW w' sa (fs.map norm) ra rc := by
  obtain ⟨h1, h3, h4⟩ := sndP_parts hs
  have hpos : 0 < l.length := by rw [← hpl, pktBytes_len]; omega
  have hD : DecP true n fs l := by
    unfold DecP
    rw [if_pos rfl]
    exact ⟨by unfold M62 at h3; omega, fun j hj => ⟨h1 j hj, hok j hj⟩, h4, hl, hpl.symm⟩
  refine (plainDecode_any true n fs g 0 cap l w hD hO.bytes hlen hpos hO.lt hT hE h2 0 rfl).mono ?_
  rintro e w' ⟨s, err, rfl, hR, hb⟩
  unfold DecR at hR
  rw [if_pos rfl] at hR
  obtain ⟨_, v9, hC⟩ := hR
  have hC' : CpTo w.heap.size w' s (fs.map norm) v9 (fs.map norm).length := by rw [List.length_map]; exact hC
  obtain ⟨sa, sc, hsh, hF⟩ := hC'.frs (fun j hj => by
    rw [List.length_map] at hj
    rw [getD_map fs j hj]
    exact norm_ok _ (h1 j hj) (hok j hj))
  rw [List.length_map] at hsh
  subst hsh
  exact ⟨sa, sc, _, _, rfl, hb, hF.weak⟩

theorem dec_bad (g cap : Nat) (l : List UInt8) (w : World) (hD : DecP false 0 [] l) (hO : Own0 w g l) (hlen : l.length ≤ 1000000000) (hpos : 0 < l.length) (hT : TabAt w) (hE : ErrAt w) (h2 : 2 ≤ w.heap.size) (N : Nat) (hN : l.length = N) :
    Calls Tryd.prog 5 #[.slice (some ⟨g, 0, none⟩) N cap] w fun e w' => e = .returned (.tuple #[.agg #[.int .u64 0, .slice none 0 0], .int .i64 7, .int .i64 (-1)]) ∧ Below w.heap.size w w' := by
  subst hN
  refine (plainDecode_any false 0 [] g 0 cap l w hD hO.bytes hlen hpos hO.lt hT hE h2 7 rfl).mono ?_
  rintro e w' ⟨s, err, rfl, hR, hb⟩
  unfold DecR at hR
  rw [if_neg (by decide)] at hR
  obtain ⟨_, rfl, _⟩ := hR
  exact ⟨rfl, hb⟩

/-- The packet of the law's own. -/
def oneF : Fr := ⟨4, 1, 5, 0, 0, true, 0, 0, ⟨#[97, 98]⟩, []⟩
def oneCells : List Value := [.int .i64 4, .int .i64 1, .int .u64 5, .int .u64 0, .int .u64 0, .bool true, .int .u64 0, .int .u64 0, .string ⟨#[97, 98]⟩, .slice none 0 0]

theorem one_enc (b : Nat) (w : World) (hB : Blk w b 28 oneCells) (hT : TabAt w) (hE : ErrAt w) (h2 : 2 ≤ w.heap.size) :
    Calls Tryd.prog 4 #[.agg #[.int .u64 70, .slice (some ⟨b, 0, none⟩) 1 1]] w fun e w' => ∃ g c, e = .returned (.tuple #[.slice (some ⟨g, 0, none⟩) 12 c, .int .i64 0]) ∧ Below w.heap.size w w' := by
  have hF : FrsW w (some ⟨b, 0, none⟩) [oneF] (fun _ => none) (fun _ => 0) := fun j hj => by
    obtain rfl : j = 0 := by simp at hj; omega
    refine ⟨b, 0, rfl, hB.cell 0, hB.cell 1, hB.cell 2, hB.cell 3, hB.cell 4, hB.cell 5, hB.cell 6, hB.cell 7, hB.cell 8, hB.cell 9, fun j hj => absurd hj (Nat.not_lt_zero _), ?_, ?_, ?_, ?_, ?_⟩ <;> decide
  have hs : sndP 70 [oneF] = true := by decide
  have hlen : (pktBytes 70 [oneF]).length = 12 := by decide
  have hbl : (bodyBytes 70 [oneF]).length = 8 := by decide
  refine (enc_good 70 _ [oneF] 1 _ _ w (by decide) (by decide) hF hT hE h2 (by rw [hbl]; decide) hs 1 rfl _ rfl).mono ?_
  rintro e w' ⟨g, c, rfl, hb, _⟩
  exact ⟨g, c, by rw [hlen], hb⟩

end Go.Proofs.YtphbledmopchnaaDoor
