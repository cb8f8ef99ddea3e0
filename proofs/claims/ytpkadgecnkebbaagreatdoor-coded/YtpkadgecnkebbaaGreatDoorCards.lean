/-
  DERIVED. GIVEN WITH THE SEED: THE CARDS: each row of YtpkadgecnkebbaaGreatDoorRows.lean that lists a variable, with what it lists TIED to the program's text (the seventh form; the later family's looks); each row that meets fmt, with fmt's text TOLD by the authors' own Lean function (tested against real Go, not proved from fmt's source: count such statements apart). THE CARD IS WHAT COUNTS. Prove the row's statement (the work); the ties are given (YtpkadgecnkebbaaGreatDoorTie.lean); close each card by the builder's one call (the guide's Derived/Test/ToyasCard.lean, 'card_holds'). Laid BY PROGRAM, IN A SANDBOX (cutbox-door.mjs). By AI agents, Wed Nov 11 2026. No macro, syntax, notation, axiom, sorry.
-/
import Derived.Test.YtpkadgecnkebbaaGreatDoorRows
import GoSem.ClaimSeven
namespace Go.Proofs.YtpkadgecnkebbaaGreatDoor
namespace Rows

/-- THE TIED CARD OF 'mediawirelaw.Coded'. -/
def codedCard : Claim7 := { stood := { row := codedRow, standIns := [], harness := (true, "8bd0bfe8ff1ec09581a787a679f4b62528ce66433894460c1bc864412daef9fe"), looks := true }, kinds := [], alts := [], laidByText := true, laidKinds := [.handle, .data], laidTests := true, laidLooks := .later }
def CodedCardSaid : Prop := Claim7.holds Tryz.pinned (.plain (OpenSpec.ofChange codedSpec)) codedCard

/-- THE TIED CARD OF 'mediawirelaw.Gathered'. -/
def gatheredCard : Claim7 := { stood := { row := gatheredRow, standIns := [], harness := (true, "8bd0bfe8ff1ec09581a787a679f4b62528ce66433894460c1bc864412daef9fe"), looks := true }, kinds := [], alts := [], laidByText := true, laidKinds := [.handle, .data], laidTests := true, laidLooks := .later }
def GatheredCardSaid : Prop := Claim7.holds Tryz.pinned (.plain (OpenSpec.ofChange gatheredSpec)) gatheredCard

/-- THE TIED CARD OF 'mediawirelaw.Streamed'. -/
def streamedCard : Claim7 := { stood := { row := streamedRow, standIns := [], harness := (true, "8bd0bfe8ff1ec09581a787a679f4b62528ce66433894460c1bc864412daef9fe"), looks := true }, kinds := [], alts := [], laidByText := true, laidKinds := [.handle, .data], laidTests := true, laidLooks := .later }
def StreamedCardSaid : Prop := Claim7.holds Tryz.pinned (.plain (OpenSpec.ofChange streamedSpec)) streamedCard

/-- THE TIED CARD OF 'mediawirelaw.Sided'. -/
def sidedCard : Claim7 := { stood := { row := sidedRow, standIns := [], harness := (true, "8bd0bfe8ff1ec09581a787a679f4b62528ce66433894460c1bc864412daef9fe"), looks := true }, kinds := [], alts := [], laidByText := true, laidKinds := [.handle, .data], laidTests := true, laidLooks := .later }
def SidedCardSaid : Prop := Claim7.holds Tryz.pinned (.plain (OpenSpec.ofChange sidedSpec)) sidedCard

/-- THE TIED CARD OF 'mediawirelaw.All'. -/
def allCard : Claim7 := { stood := { row := allRow, standIns := [], harness := (true, "8bd0bfe8ff1ec09581a787a679f4b62528ce66433894460c1bc864412daef9fe"), looks := true }, kinds := [], alts := [], laidByText := true, laidKinds := [.handle, .data], laidTests := true, laidLooks := .later }
def AllCardSaid : Prop := Claim7.holds Tryz.pinned (.plain (OpenSpec.ofChange allSpec)) allCard

/-- THE TIED CARD OF 'mediawirekeep.Carried'. -/
def carriedCard : Claim7 := { stood := { row := carriedRow, standIns := [], harness := (true, "8bd0bfe8ff1ec09581a787a679f4b62528ce66433894460c1bc864412daef9fe"), looks := true }, kinds := [], alts := [], laidByText := true, laidKinds := [.handle, .data], laidTests := true, laidLooks := .later }
def CarriedCardSaid : Prop := Claim7.holds Tryz.pinned (.plain (OpenSpec.ofChange carriedSpec)) carriedCard

/-- THE TIED CARD OF 'mediawirekeep.Live'. -/
def liveCard : Claim7 := { stood := { row := liveRow, standIns := [], harness := (true, "8bd0bfe8ff1ec09581a787a679f4b62528ce66433894460c1bc864412daef9fe"), looks := true }, kinds := [], alts := [], laidByText := true, laidKinds := [.handle, .data], laidTests := true, laidLooks := .later }
def LiveCardSaid : Prop := Claim7.holds Tryz.pinned (.plain (OpenSpec.ofChange liveSpec)) liveCard

/-- THE SECOND FORM's CARD OF 'mediawirelaw.Coded'. -/
def codedUptoCard : Claim7 := { stood := { row := codedUptoRow, standIns := [], harness := (true, "8bd0bfe8ff1ec09581a787a679f4b62528ce66433894460c1bc864412daef9fe"), looks := true }, kinds := [], alts := [], laidByText := true, laidKinds := [.handle, .data], laidTests := true, laidLooks := .later }
def CodedUptoCardSaid : Prop := Claim7.holds Tryz.pinned (.plain (OpenSpec.upto codedSpec)) codedUptoCard

/-- THE SECOND FORM's CARD OF 'mediawirelaw.Gathered'. -/
def gatheredUptoCard : Claim7 := { stood := { row := gatheredUptoRow, standIns := [], harness := (true, "8bd0bfe8ff1ec09581a787a679f4b62528ce66433894460c1bc864412daef9fe"), looks := true }, kinds := [], alts := [], laidByText := true, laidKinds := [.handle, .data], laidTests := true, laidLooks := .later }
def GatheredUptoCardSaid : Prop := Claim7.holds Tryz.pinned (.plain (OpenSpec.upto gatheredSpec)) gatheredUptoCard

/-- THE SECOND FORM's CARD OF 'mediawirelaw.Streamed'. -/
def streamedUptoCard : Claim7 := { stood := { row := streamedUptoRow, standIns := [], harness := (true, "8bd0bfe8ff1ec09581a787a679f4b62528ce66433894460c1bc864412daef9fe"), looks := true }, kinds := [], alts := [], laidByText := true, laidKinds := [.handle, .data], laidTests := true, laidLooks := .later }
def StreamedUptoCardSaid : Prop := Claim7.holds Tryz.pinned (.plain (OpenSpec.upto streamedSpec)) streamedUptoCard

/-- THE SECOND FORM's CARD OF 'mediawirelaw.Sided'. -/
def sidedUptoCard : Claim7 := { stood := { row := sidedUptoRow, standIns := [], harness := (true, "8bd0bfe8ff1ec09581a787a679f4b62528ce66433894460c1bc864412daef9fe"), looks := true }, kinds := [], alts := [], laidByText := true, laidKinds := [.handle, .data], laidTests := true, laidLooks := .later }
def SidedUptoCardSaid : Prop := Claim7.holds Tryz.pinned (.plain (OpenSpec.upto sidedSpec)) sidedUptoCard

/-- THE SECOND FORM's CARD OF 'mediawirelaw.All'. -/
def allUptoCard : Claim7 := { stood := { row := allUptoRow, standIns := [], harness := (true, "8bd0bfe8ff1ec09581a787a679f4b62528ce66433894460c1bc864412daef9fe"), looks := true }, kinds := [], alts := [], laidByText := true, laidKinds := [.handle, .data], laidTests := true, laidLooks := .later }
def AllUptoCardSaid : Prop := Claim7.holds Tryz.pinned (.plain (OpenSpec.upto allSpec)) allUptoCard

/-- THE SECOND FORM's CARD OF 'mediawirekeep.Carried'. -/
def carriedUptoCard : Claim7 := { stood := { row := carriedUptoRow, standIns := [], harness := (true, "8bd0bfe8ff1ec09581a787a679f4b62528ce66433894460c1bc864412daef9fe"), looks := true }, kinds := [], alts := [], laidByText := true, laidKinds := [.handle, .data], laidTests := true, laidLooks := .later }
def CarriedUptoCardSaid : Prop := Claim7.holds Tryz.pinned (.plain (OpenSpec.upto carriedSpec)) carriedUptoCard

/-- THE SECOND FORM's CARD OF 'mediawirekeep.Live'. -/
def liveUptoCard : Claim7 := { stood := { row := liveUptoRow, standIns := [], harness := (true, "8bd0bfe8ff1ec09581a787a679f4b62528ce66433894460c1bc864412daef9fe"), looks := true }, kinds := [], alts := [], laidByText := true, laidKinds := [.handle, .data], laidTests := true, laidLooks := .later }
def LiveUptoCardSaid : Prop := Claim7.holds Tryz.pinned (.plain (OpenSpec.upto liveSpec)) liveUptoCard
end Rows
end Go.Proofs.YtpkadgecnkebbaaGreatDoor
