/-
  NARROWER THAN 'FOR EVERY INPUT', by the rows' own cells (each row's printed sentence says how): Coded: laid · Gathered: laid · Streamed: laid · Sided: laid · All: laid · Carried: laid · Live: laid · Given: laid · Once: laid · Urgent: laid.
  DERIVED. THE GIVEN ROWS OF THIS SEAT. 10 by the template 'for every input the law returns true; each argument reads behind the call as it read before'; 0 by the template 'total and deterministic' (their statements: YtphbledmopchnaaGreatDoorTotals.lean).
  GIVEN WITH THE SEED: the statements are not yours to turn. If you find one false, say at which input.
  Laid BY PROGRAM, IN A SANDBOX (cutbox-rows.mjs): the forced cells as the released guide's own fill.sh prints them over the translation f4a2ca0f922c57d0… (all of the seat's roots in one cut). By AI agents, Wed Nov 11 2026. No macro, syntax, notation, axiom, sorry.
-/
import Derived.Test.YtphbledmopchnaaGreatDoorChecked
import GoSem.Claim
import GoSem.ClaimJoined
import GoSem.ClaimMapViews
import Derived.JoinedTies
import Derived.KernelRfl
namespace Go.Proofs.YtphbledmopchnaaGreatDoor
/- THE CELL 'sum', in the pinned program and in every row, IS THE sha256 OF THE DUMP (.gsa) THAT YtphbledmopchnaaGreatDoorProg.lean LOADS. Nothing in Lean hashes anything: it is a label: what it is worth is what the hold of that sum in a sandbox is worth. -/
noncomputable def Tryz.pinned : Pinned := { name := "ytphbledmopchnaagreatdoor", sum := "f4a2ca0f922c57d0769ee803bf616b691c3fb23560da4e670da697a9661453d5", checked := Tryz.checked }
namespace Rows
def none {H : Type} : Left H := { results := [], args := [] }

/- WHAT THE LISTED PACKAGE-LEVEL VARIABLES READ AS WHEN THE CALL BEGINS. Each datum BY PROGRAM (the guide's laid-datum.mjs) off the statement by which the dump's own 'gosem.cut.vars' lays the variable. In a bare row this is a premise. The card (YtphbledmopchnaaGreatDoorCards.lean) ties it to the program's text. -/
def laid_errors_errorType {H : Type} : DataW H := .iface "internal/reflectlite.rtype" (.agg [.ptr (.lit (.string [101, 114, 114, 111, 114]))])
def laid_mediawire_wire_nibbleSums {H : Type} : DataW H := .agg [.lit (.int .u32 0), .lit (.int .u32 498536548), .lit (.int .u32 997073096), .lit (.int .u32 651767980), .lit (.int .u32 1994146192), .lit (.int .u32 1802195444), .lit (.int .u32 1303535960), .lit (.int .u32 1342533948), .lit (.int .u32 3988292384), .lit (.int .u32 4027552580), .lit (.int .u32 3604390888), .lit (.int .u32 3412177804), .lit (.int .u32 2607071920), .lit (.int .u32 2262029012), .lit (.int .u32 2685067896), .lit (.int .u32 3183342108)]

/-- 'mediawirelaw.Coded': WHATEVER THE INPUT: true; the input reads as it did. -/
def codedSpec : ChangeSpec := { name := "coded", fn := fun _ => fun
  | [d] => { results := [.lit (.bool true)], args := [d] }
  | _ => none }
def codedRow : OpenClaim := { program := "ytphbledmopchnaagreatdoor", sum := "f4a2ca0f922c57d0769ee803bf616b691c3fb23560da4e670da697a9661453d5", func := "mediawire/mediawirelaw.Coded", spec := "coded", inPlace := ["internal/reflectlite.ValueOf", "(internal/reflectlite.Value).Type", "(internal/reflectlite.Value).IsNil", "internal/reflectlite.TypeOf", "(internal/reflectlite.Value).Elem", "(internal/reflectlite.Value).Set", "slices.overlaps[mediawire/api.Range]"], unfollowed := true, recurses := true, named := ["errors.errorType", "mediawire/wire.nibbleSums"], apart := false, laid := [("errors.errorType", laid_errors_errorType), ("mediawire/wire.nibbleSums", laid_mediawire_wire_nibbleSums)] }
def CodedSaid : Prop := codedRow.holds Tryz.pinned (OpenSpec.ofChange codedSpec)

/-- ITS FALSE NEIGHBOUR: 'it returns false'. Refute it at one input. -/
def codedWrong : ChangeSpec := { name := "coded", fn := fun _ => fun
  | [d] => { results := [.lit (.bool false)], args := [d] }
  | _ => none }
def CodedWrongFalsely : Prop := codedRow.holds Tryz.pinned (OpenSpec.ofChange codedWrong)

/-- 'mediawirelaw.Gathered': WHATEVER THE INPUT: true; the input reads as it did. -/
def gatheredSpec : ChangeSpec := { name := "gathered", fn := fun _ => fun
  | [d] => { results := [.lit (.bool true)], args := [d] }
  | _ => none }
def gatheredRow : OpenClaim := { program := "ytphbledmopchnaagreatdoor", sum := "f4a2ca0f922c57d0769ee803bf616b691c3fb23560da4e670da697a9661453d5", func := "mediawire/mediawirelaw.Gathered", spec := "gathered", inPlace := ["internal/reflectlite.ValueOf", "(internal/reflectlite.Value).Type", "(internal/reflectlite.Value).IsNil", "internal/reflectlite.TypeOf", "(internal/reflectlite.Value).Elem", "(internal/reflectlite.Value).Set", "slices.overlaps[mediawire/api.Range]"], unfollowed := true, recurses := true, named := ["errors.errorType", "mediawire/wire.nibbleSums"], apart := false, laid := [("errors.errorType", laid_errors_errorType), ("mediawire/wire.nibbleSums", laid_mediawire_wire_nibbleSums)] }
def GatheredSaid : Prop := gatheredRow.holds Tryz.pinned (OpenSpec.ofChange gatheredSpec)

/-- ITS FALSE NEIGHBOUR: 'it returns false'. Refute it at one input. -/
def gatheredWrong : ChangeSpec := { name := "gathered", fn := fun _ => fun
  | [d] => { results := [.lit (.bool false)], args := [d] }
  | _ => none }
def GatheredWrongFalsely : Prop := gatheredRow.holds Tryz.pinned (OpenSpec.ofChange gatheredWrong)

/-- 'mediawirelaw.Streamed': WHATEVER THE INPUT: true; the input reads as it did. -/
def streamedSpec : ChangeSpec := { name := "streamed", fn := fun _ => fun
  | [d] => { results := [.lit (.bool true)], args := [d] }
  | _ => none }
def streamedRow : OpenClaim := { program := "ytphbledmopchnaagreatdoor", sum := "f4a2ca0f922c57d0769ee803bf616b691c3fb23560da4e670da697a9661453d5", func := "mediawire/mediawirelaw.Streamed", spec := "streamed", inPlace := ["internal/reflectlite.ValueOf", "(internal/reflectlite.Value).Type", "(internal/reflectlite.Value).IsNil", "internal/reflectlite.TypeOf", "(internal/reflectlite.Value).Elem", "(internal/reflectlite.Value).Set", "slices.overlaps[mediawire/api.Range]"], unfollowed := true, recurses := true, named := ["errors.errorType", "mediawire/wire.nibbleSums"], apart := false, laid := [("errors.errorType", laid_errors_errorType), ("mediawire/wire.nibbleSums", laid_mediawire_wire_nibbleSums)] }
def StreamedSaid : Prop := streamedRow.holds Tryz.pinned (OpenSpec.ofChange streamedSpec)

/-- ITS FALSE NEIGHBOUR: 'it returns false'. Refute it at one input. -/
def streamedWrong : ChangeSpec := { name := "streamed", fn := fun _ => fun
  | [d] => { results := [.lit (.bool false)], args := [d] }
  | _ => none }
def StreamedWrongFalsely : Prop := streamedRow.holds Tryz.pinned (OpenSpec.ofChange streamedWrong)

/-- 'mediawirelaw.Sided': WHATEVER THE INPUT: true; the input reads as it did. -/
def sidedSpec : ChangeSpec := { name := "sided", fn := fun _ => fun
  | [d] => { results := [.lit (.bool true)], args := [d] }
  | _ => none }
def sidedRow : OpenClaim := { program := "ytphbledmopchnaagreatdoor", sum := "f4a2ca0f922c57d0769ee803bf616b691c3fb23560da4e670da697a9661453d5", func := "mediawire/mediawirelaw.Sided", spec := "sided", inPlace := ["internal/reflectlite.ValueOf", "(internal/reflectlite.Value).Type", "(internal/reflectlite.Value).IsNil", "internal/reflectlite.TypeOf", "(internal/reflectlite.Value).Elem", "(internal/reflectlite.Value).Set", "slices.overlaps[mediawire/api.Range]"], unfollowed := true, recurses := true, named := ["errors.errorType", "mediawire/wire.nibbleSums"], apart := false, laid := [("errors.errorType", laid_errors_errorType), ("mediawire/wire.nibbleSums", laid_mediawire_wire_nibbleSums)] }
def SidedSaid : Prop := sidedRow.holds Tryz.pinned (OpenSpec.ofChange sidedSpec)

/-- ITS FALSE NEIGHBOUR: 'it returns false'. Refute it at one input. -/
def sidedWrong : ChangeSpec := { name := "sided", fn := fun _ => fun
  | [d] => { results := [.lit (.bool false)], args := [d] }
  | _ => none }
def SidedWrongFalsely : Prop := sidedRow.holds Tryz.pinned (OpenSpec.ofChange sidedWrong)

/-- 'mediawirelaw.All': WHATEVER THE INPUT: true; the input reads as it did. -/
def allSpec : ChangeSpec := { name := "all", fn := fun _ => fun
  | [d] => { results := [.lit (.bool true)], args := [d] }
  | _ => none }
def allRow : OpenClaim := { program := "ytphbledmopchnaagreatdoor", sum := "f4a2ca0f922c57d0769ee803bf616b691c3fb23560da4e670da697a9661453d5", func := "mediawire/mediawirelaw.All", spec := "all", inPlace := ["internal/reflectlite.ValueOf", "(internal/reflectlite.Value).Type", "(internal/reflectlite.Value).IsNil", "internal/reflectlite.TypeOf", "(internal/reflectlite.Value).Elem", "(internal/reflectlite.Value).Set", "slices.overlaps[mediawire/api.Range]"], unfollowed := true, recurses := true, named := ["errors.errorType", "mediawire/wire.nibbleSums"], apart := false, laid := [("errors.errorType", laid_errors_errorType), ("mediawire/wire.nibbleSums", laid_mediawire_wire_nibbleSums)] }
def AllSaid : Prop := allRow.holds Tryz.pinned (OpenSpec.ofChange allSpec)

/-- ITS FALSE NEIGHBOUR: 'it returns false'. Refute it at one input. -/
def allWrong : ChangeSpec := { name := "all", fn := fun _ => fun
  | [d] => { results := [.lit (.bool false)], args := [d] }
  | _ => none }
def AllWrongFalsely : Prop := allRow.holds Tryz.pinned (OpenSpec.ofChange allWrong)

/-- 'mediawirekeep.Carried': WHATEVER THE INPUT: true; the input reads as it did. -/
def carriedSpec : ChangeSpec := { name := "carried", fn := fun _ => fun
  | [d1, d2, d3, d4] => { results := [.lit (.bool true)], args := [d1, d2, d3, d4] }
  | _ => none }
def carriedRow : OpenClaim := { program := "ytphbledmopchnaagreatdoor", sum := "f4a2ca0f922c57d0769ee803bf616b691c3fb23560da4e670da697a9661453d5", func := "mediawire/mediawirekeep.Carried", spec := "carried", inPlace := ["internal/reflectlite.ValueOf", "(internal/reflectlite.Value).Type", "(internal/reflectlite.Value).IsNil", "internal/reflectlite.TypeOf", "(internal/reflectlite.Value).Elem", "(internal/reflectlite.Value).Set", "slices.overlaps[mediawire/api.Range]"], unfollowed := true, recurses := true, named := ["errors.errorType", "mediawire/wire.nibbleSums"], apart := false, laid := [("errors.errorType", laid_errors_errorType), ("mediawire/wire.nibbleSums", laid_mediawire_wire_nibbleSums)] }
def CarriedSaid : Prop := carriedRow.holds Tryz.pinned (OpenSpec.ofChange carriedSpec)

/-- ITS FALSE NEIGHBOUR: 'it returns false'. Refute it at one input. -/
def carriedWrong : ChangeSpec := { name := "carried", fn := fun _ => fun
  | [d1, d2, d3, d4] => { results := [.lit (.bool false)], args := [d1, d2, d3, d4] }
  | _ => none }
def CarriedWrongFalsely : Prop := carriedRow.holds Tryz.pinned (OpenSpec.ofChange carriedWrong)

/-- 'mediawirekeep.Live': WHATEVER THE INPUT: true; the input reads as it did. -/
def liveSpec : ChangeSpec := { name := "live", fn := fun _ => fun
  | [d1, d2, d3, d4] => { results := [.lit (.bool true)], args := [d1, d2, d3, d4] }
  | _ => none }
def liveRow : OpenClaim := { program := "ytphbledmopchnaagreatdoor", sum := "f4a2ca0f922c57d0769ee803bf616b691c3fb23560da4e670da697a9661453d5", func := "mediawire/mediawirekeep.Live", spec := "live", inPlace := ["internal/reflectlite.ValueOf", "(internal/reflectlite.Value).Type", "(internal/reflectlite.Value).IsNil", "internal/reflectlite.TypeOf", "(internal/reflectlite.Value).Elem", "(internal/reflectlite.Value).Set", "slices.overlaps[mediawire/api.Range]"], unfollowed := true, recurses := true, named := ["errors.errorType", "mediawire/wire.nibbleSums"], apart := false, laid := [("errors.errorType", laid_errors_errorType), ("mediawire/wire.nibbleSums", laid_mediawire_wire_nibbleSums)] }
def LiveSaid : Prop := liveRow.holds Tryz.pinned (OpenSpec.ofChange liveSpec)

/-- ITS FALSE NEIGHBOUR: 'it returns false'. Refute it at one input. -/
def liveWrong : ChangeSpec := { name := "live", fn := fun _ => fun
  | [d1, d2, d3, d4] => { results := [.lit (.bool false)], args := [d1, d2, d3, d4] }
  | _ => none }
def LiveWrongFalsely : Prop := liveRow.holds Tryz.pinned (OpenSpec.ofChange liveWrong)

/-- 'mediawirekeep.Given': WHATEVER THE INPUT: true; the input reads as it did. -/
def givenSpec : ChangeSpec := { name := "given", fn := fun _ => fun
  | [d1, d2, d3, d4] => { results := [.lit (.bool true)], args := [d1, d2, d3, d4] }
  | _ => none }
def givenRow : OpenClaim := { program := "ytphbledmopchnaagreatdoor", sum := "f4a2ca0f922c57d0769ee803bf616b691c3fb23560da4e670da697a9661453d5", func := "mediawire/mediawirekeep.Given", spec := "given", inPlace := ["internal/reflectlite.ValueOf", "(internal/reflectlite.Value).Type", "(internal/reflectlite.Value).IsNil", "internal/reflectlite.TypeOf", "(internal/reflectlite.Value).Elem", "(internal/reflectlite.Value).Set", "slices.overlaps[mediawire/api.Range]"], unfollowed := true, recurses := true, named := ["errors.errorType", "mediawire/wire.nibbleSums"], apart := false, laid := [("errors.errorType", laid_errors_errorType), ("mediawire/wire.nibbleSums", laid_mediawire_wire_nibbleSums)] }
def GivenSaid : Prop := givenRow.holds Tryz.pinned (OpenSpec.ofChange givenSpec)

/-- ITS FALSE NEIGHBOUR: 'it returns false'. Refute it at one input. -/
def givenWrong : ChangeSpec := { name := "given", fn := fun _ => fun
  | [d1, d2, d3, d4] => { results := [.lit (.bool false)], args := [d1, d2, d3, d4] }
  | _ => none }
def GivenWrongFalsely : Prop := givenRow.holds Tryz.pinned (OpenSpec.ofChange givenWrong)

/-- 'mediawirekeep.Once': WHATEVER THE INPUT: true; the input reads as it did. -/
def onceSpec : ChangeSpec := { name := "once", fn := fun _ => fun
  | [d1, d2, d3, d4] => { results := [.lit (.bool true)], args := [d1, d2, d3, d4] }
  | _ => none }
def onceRow : OpenClaim := { program := "ytphbledmopchnaagreatdoor", sum := "f4a2ca0f922c57d0769ee803bf616b691c3fb23560da4e670da697a9661453d5", func := "mediawire/mediawirekeep.Once", spec := "once", inPlace := ["internal/reflectlite.ValueOf", "(internal/reflectlite.Value).Type", "(internal/reflectlite.Value).IsNil", "internal/reflectlite.TypeOf", "(internal/reflectlite.Value).Elem", "(internal/reflectlite.Value).Set", "slices.overlaps[mediawire/api.Range]"], unfollowed := true, recurses := true, named := ["errors.errorType", "mediawire/wire.nibbleSums"], apart := false, laid := [("errors.errorType", laid_errors_errorType), ("mediawire/wire.nibbleSums", laid_mediawire_wire_nibbleSums)] }
def OnceSaid : Prop := onceRow.holds Tryz.pinned (OpenSpec.ofChange onceSpec)

/-- ITS FALSE NEIGHBOUR: 'it returns false'. Refute it at one input. -/
def onceWrong : ChangeSpec := { name := "once", fn := fun _ => fun
  | [d1, d2, d3, d4] => { results := [.lit (.bool false)], args := [d1, d2, d3, d4] }
  | _ => none }
def OnceWrongFalsely : Prop := onceRow.holds Tryz.pinned (OpenSpec.ofChange onceWrong)

/-- 'mediawirekeep.Urgent': WHATEVER THE INPUT: true; the input reads as it did. -/
def urgentSpec : ChangeSpec := { name := "urgent", fn := fun _ => fun
  | [d1, d2, d3] => { results := [.lit (.bool true)], args := [d1, d2, d3] }
  | _ => none }
def urgentRow : OpenClaim := { program := "ytphbledmopchnaagreatdoor", sum := "f4a2ca0f922c57d0769ee803bf616b691c3fb23560da4e670da697a9661453d5", func := "mediawire/mediawirekeep.Urgent", spec := "urgent", inPlace := ["internal/reflectlite.ValueOf", "(internal/reflectlite.Value).Type", "(internal/reflectlite.Value).IsNil", "internal/reflectlite.TypeOf", "(internal/reflectlite.Value).Elem", "(internal/reflectlite.Value).Set", "slices.overlaps[mediawire/api.Range]"], unfollowed := true, recurses := true, named := ["errors.errorType", "mediawire/wire.nibbleSums"], apart := false, laid := [("errors.errorType", laid_errors_errorType), ("mediawire/wire.nibbleSums", laid_mediawire_wire_nibbleSums)] }
def UrgentSaid : Prop := urgentRow.holds Tryz.pinned (OpenSpec.ofChange urgentSpec)

/-- ITS FALSE NEIGHBOUR: 'it returns false'. Refute it at one input. -/
def urgentWrong : ChangeSpec := { name := "urgent", fn := fun _ => fun
  | [d1, d2, d3] => { results := [.lit (.bool false)], args := [d1, d2, d3] }
  | _ => none }
def UrgentWrongFalsely : Prop := urgentRow.holds Tryz.pinned (OpenSpec.ofChange urgentWrong)

/- THE SECOND FORM. 'bulk': how many values and letters a reading holds, each counted each time it is reached (what is shared counts as often as it is met; a slice's spare places count too). A statement '..UptoSaid' is the law's where the arguments, and the package variables that the reading takes, are together of bulk at most 1048576: NARROWER than '..Said'. Prove '..Said' where nothing that the law and all that it calls make is longer than what came in: it says more and counts as full. Else prove '..UptoSaid'. A law counts once. -/
mutual
def uptoBulk {H : Type} : DataW H → Nat
  | .lit (.string bytes) => bytes.length + 1
  | .lit _ => 1
  | .nil => 1
  | .ptr d => uptoBulk d + 1
  | .slice elems spare => uptoBulkAll elems + uptoBulkAll spare + 1
  | .agg parts => uptoBulkAll parts + 1
  | .iface _ d => uptoBulk d + 1
  | .map entries => uptoBulkEntries entries + 1
  | .held _ => 1
def uptoBulkAll {H : Type} : List (DataW H) → Nat
  | [] => 0
  | d :: r => uptoBulk d + uptoBulkAll r
def uptoBulkEntries {H : Type} : List (Lit × DataW H) → Nat
  | [] => 0
  | x :: r => uptoBulkEntry x + uptoBulkEntries r
def uptoBulkEntry {H : Type} : Lit × DataW H → Nat
  | (.string bytes, d) => bytes.length + uptoBulk d + 1
  | (_, d) => uptoBulk d + 1
 end
def uptoSmall : (H : Type) → List (DataW H) → Bool := fun _ ds => decide (uptoBulkAll ds ≤ 1048576)
def OpenSpec.upto (s : _root_.Go.ChangeSpec) : _root_.Go.OpenSpec := { _root_.Go.OpenSpec.ofChange s with cond := some uptoSmall }

/-- 'mediawirelaw.Coded', WHERE WHAT IT READS IS OF BULK AT MOST 1048576: true; the input reads as it did. -/
def codedUptoRow : OpenClaim := { program := "ytphbledmopchnaagreatdoor", sum := "f4a2ca0f922c57d0769ee803bf616b691c3fb23560da4e670da697a9661453d5", func := "mediawire/mediawirelaw.Coded", spec := "coded", inPlace := ["internal/reflectlite.ValueOf", "(internal/reflectlite.Value).Type", "(internal/reflectlite.Value).IsNil", "internal/reflectlite.TypeOf", "(internal/reflectlite.Value).Elem", "(internal/reflectlite.Value).Set", "slices.overlaps[mediawire/api.Range]"], unfollowed := true, recurses := true, named := ["errors.errorType", "mediawire/wire.nibbleSums"], apart := false, laid := [("errors.errorType", laid_errors_errorType), ("mediawire/wire.nibbleSums", laid_mediawire_wire_nibbleSums)], narrowed := true }
def CodedUptoSaid : Prop := codedUptoRow.holds Tryz.pinned (OpenSpec.upto codedSpec)

/-- 'mediawirelaw.Gathered', WHERE WHAT IT READS IS OF BULK AT MOST 1048576: true; the input reads as it did. -/
def gatheredUptoRow : OpenClaim := { program := "ytphbledmopchnaagreatdoor", sum := "f4a2ca0f922c57d0769ee803bf616b691c3fb23560da4e670da697a9661453d5", func := "mediawire/mediawirelaw.Gathered", spec := "gathered", inPlace := ["internal/reflectlite.ValueOf", "(internal/reflectlite.Value).Type", "(internal/reflectlite.Value).IsNil", "internal/reflectlite.TypeOf", "(internal/reflectlite.Value).Elem", "(internal/reflectlite.Value).Set", "slices.overlaps[mediawire/api.Range]"], unfollowed := true, recurses := true, named := ["errors.errorType", "mediawire/wire.nibbleSums"], apart := false, laid := [("errors.errorType", laid_errors_errorType), ("mediawire/wire.nibbleSums", laid_mediawire_wire_nibbleSums)], narrowed := true }
def GatheredUptoSaid : Prop := gatheredUptoRow.holds Tryz.pinned (OpenSpec.upto gatheredSpec)

/-- 'mediawirelaw.Streamed', WHERE WHAT IT READS IS OF BULK AT MOST 1048576: true; the input reads as it did. -/
def streamedUptoRow : OpenClaim := { program := "ytphbledmopchnaagreatdoor", sum := "f4a2ca0f922c57d0769ee803bf616b691c3fb23560da4e670da697a9661453d5", func := "mediawire/mediawirelaw.Streamed", spec := "streamed", inPlace := ["internal/reflectlite.ValueOf", "(internal/reflectlite.Value).Type", "(internal/reflectlite.Value).IsNil", "internal/reflectlite.TypeOf", "(internal/reflectlite.Value).Elem", "(internal/reflectlite.Value).Set", "slices.overlaps[mediawire/api.Range]"], unfollowed := true, recurses := true, named := ["errors.errorType", "mediawire/wire.nibbleSums"], apart := false, laid := [("errors.errorType", laid_errors_errorType), ("mediawire/wire.nibbleSums", laid_mediawire_wire_nibbleSums)], narrowed := true }
def StreamedUptoSaid : Prop := streamedUptoRow.holds Tryz.pinned (OpenSpec.upto streamedSpec)

/-- 'mediawirelaw.Sided', WHERE WHAT IT READS IS OF BULK AT MOST 1048576: true; the input reads as it did. -/
def sidedUptoRow : OpenClaim := { program := "ytphbledmopchnaagreatdoor", sum := "f4a2ca0f922c57d0769ee803bf616b691c3fb23560da4e670da697a9661453d5", func := "mediawire/mediawirelaw.Sided", spec := "sided", inPlace := ["internal/reflectlite.ValueOf", "(internal/reflectlite.Value).Type", "(internal/reflectlite.Value).IsNil", "internal/reflectlite.TypeOf", "(internal/reflectlite.Value).Elem", "(internal/reflectlite.Value).Set", "slices.overlaps[mediawire/api.Range]"], unfollowed := true, recurses := true, named := ["errors.errorType", "mediawire/wire.nibbleSums"], apart := false, laid := [("errors.errorType", laid_errors_errorType), ("mediawire/wire.nibbleSums", laid_mediawire_wire_nibbleSums)], narrowed := true }
def SidedUptoSaid : Prop := sidedUptoRow.holds Tryz.pinned (OpenSpec.upto sidedSpec)

/-- 'mediawirelaw.All', WHERE WHAT IT READS IS OF BULK AT MOST 1048576: true; the input reads as it did. -/
def allUptoRow : OpenClaim := { program := "ytphbledmopchnaagreatdoor", sum := "f4a2ca0f922c57d0769ee803bf616b691c3fb23560da4e670da697a9661453d5", func := "mediawire/mediawirelaw.All", spec := "all", inPlace := ["internal/reflectlite.ValueOf", "(internal/reflectlite.Value).Type", "(internal/reflectlite.Value).IsNil", "internal/reflectlite.TypeOf", "(internal/reflectlite.Value).Elem", "(internal/reflectlite.Value).Set", "slices.overlaps[mediawire/api.Range]"], unfollowed := true, recurses := true, named := ["errors.errorType", "mediawire/wire.nibbleSums"], apart := false, laid := [("errors.errorType", laid_errors_errorType), ("mediawire/wire.nibbleSums", laid_mediawire_wire_nibbleSums)], narrowed := true }
def AllUptoSaid : Prop := allUptoRow.holds Tryz.pinned (OpenSpec.upto allSpec)

/-- 'mediawirekeep.Carried', WHERE WHAT IT READS IS OF BULK AT MOST 1048576: true; the input reads as it did. -/
def carriedUptoRow : OpenClaim := { program := "ytphbledmopchnaagreatdoor", sum := "f4a2ca0f922c57d0769ee803bf616b691c3fb23560da4e670da697a9661453d5", func := "mediawire/mediawirekeep.Carried", spec := "carried", inPlace := ["internal/reflectlite.ValueOf", "(internal/reflectlite.Value).Type", "(internal/reflectlite.Value).IsNil", "internal/reflectlite.TypeOf", "(internal/reflectlite.Value).Elem", "(internal/reflectlite.Value).Set", "slices.overlaps[mediawire/api.Range]"], unfollowed := true, recurses := true, named := ["errors.errorType", "mediawire/wire.nibbleSums"], apart := false, laid := [("errors.errorType", laid_errors_errorType), ("mediawire/wire.nibbleSums", laid_mediawire_wire_nibbleSums)], narrowed := true }
def CarriedUptoSaid : Prop := carriedUptoRow.holds Tryz.pinned (OpenSpec.upto carriedSpec)

/-- 'mediawirekeep.Live', WHERE WHAT IT READS IS OF BULK AT MOST 1048576: true; the input reads as it did. -/
def liveUptoRow : OpenClaim := { program := "ytphbledmopchnaagreatdoor", sum := "f4a2ca0f922c57d0769ee803bf616b691c3fb23560da4e670da697a9661453d5", func := "mediawire/mediawirekeep.Live", spec := "live", inPlace := ["internal/reflectlite.ValueOf", "(internal/reflectlite.Value).Type", "(internal/reflectlite.Value).IsNil", "internal/reflectlite.TypeOf", "(internal/reflectlite.Value).Elem", "(internal/reflectlite.Value).Set", "slices.overlaps[mediawire/api.Range]"], unfollowed := true, recurses := true, named := ["errors.errorType", "mediawire/wire.nibbleSums"], apart := false, laid := [("errors.errorType", laid_errors_errorType), ("mediawire/wire.nibbleSums", laid_mediawire_wire_nibbleSums)], narrowed := true }
def LiveUptoSaid : Prop := liveUptoRow.holds Tryz.pinned (OpenSpec.upto liveSpec)

/-- 'mediawirekeep.Given', WHERE WHAT IT READS IS OF BULK AT MOST 1048576: true; the input reads as it did. -/
def givenUptoRow : OpenClaim := { program := "ytphbledmopchnaagreatdoor", sum := "f4a2ca0f922c57d0769ee803bf616b691c3fb23560da4e670da697a9661453d5", func := "mediawire/mediawirekeep.Given", spec := "given", inPlace := ["internal/reflectlite.ValueOf", "(internal/reflectlite.Value).Type", "(internal/reflectlite.Value).IsNil", "internal/reflectlite.TypeOf", "(internal/reflectlite.Value).Elem", "(internal/reflectlite.Value).Set", "slices.overlaps[mediawire/api.Range]"], unfollowed := true, recurses := true, named := ["errors.errorType", "mediawire/wire.nibbleSums"], apart := false, laid := [("errors.errorType", laid_errors_errorType), ("mediawire/wire.nibbleSums", laid_mediawire_wire_nibbleSums)], narrowed := true }
def GivenUptoSaid : Prop := givenUptoRow.holds Tryz.pinned (OpenSpec.upto givenSpec)

/-- 'mediawirekeep.Once', WHERE WHAT IT READS IS OF BULK AT MOST 1048576: true; the input reads as it did. -/
def onceUptoRow : OpenClaim := { program := "ytphbledmopchnaagreatdoor", sum := "f4a2ca0f922c57d0769ee803bf616b691c3fb23560da4e670da697a9661453d5", func := "mediawire/mediawirekeep.Once", spec := "once", inPlace := ["internal/reflectlite.ValueOf", "(internal/reflectlite.Value).Type", "(internal/reflectlite.Value).IsNil", "internal/reflectlite.TypeOf", "(internal/reflectlite.Value).Elem", "(internal/reflectlite.Value).Set", "slices.overlaps[mediawire/api.Range]"], unfollowed := true, recurses := true, named := ["errors.errorType", "mediawire/wire.nibbleSums"], apart := false, laid := [("errors.errorType", laid_errors_errorType), ("mediawire/wire.nibbleSums", laid_mediawire_wire_nibbleSums)], narrowed := true }
def OnceUptoSaid : Prop := onceUptoRow.holds Tryz.pinned (OpenSpec.upto onceSpec)

/-- 'mediawirekeep.Urgent', WHERE WHAT IT READS IS OF BULK AT MOST 1048576: true; the input reads as it did. -/
def urgentUptoRow : OpenClaim := { program := "ytphbledmopchnaagreatdoor", sum := "f4a2ca0f922c57d0769ee803bf616b691c3fb23560da4e670da697a9661453d5", func := "mediawire/mediawirekeep.Urgent", spec := "urgent", inPlace := ["internal/reflectlite.ValueOf", "(internal/reflectlite.Value).Type", "(internal/reflectlite.Value).IsNil", "internal/reflectlite.TypeOf", "(internal/reflectlite.Value).Elem", "(internal/reflectlite.Value).Set", "slices.overlaps[mediawire/api.Range]"], unfollowed := true, recurses := true, named := ["errors.errorType", "mediawire/wire.nibbleSums"], apart := false, laid := [("errors.errorType", laid_errors_errorType), ("mediawire/wire.nibbleSums", laid_mediawire_wire_nibbleSums)], narrowed := true }
def UrgentUptoSaid : Prop := urgentUptoRow.holds Tryz.pinned (OpenSpec.upto urgentSpec)

end Rows
end Go.Proofs.YtphbledmopchnaaGreatDoor
