/-
  NARROWER THAN 'FOR EVERY INPUT', by the rows' own cells (each row's printed sentence says how): FnJoin: laid · FnLevels: laid · FnTokens: laid · FnExactJoined: laid · FnExactCancelledBy: laid · FnExactLeveled: laid · FnExactUpped: laid · FnExactDowned: laid.
  DERIVED. THE GIVEN ROWS OF THIS SEAT. 8 by the template 'for every input the law returns true; each argument reads behind the call as it read before'; 0 by the template 'total and deterministic' (their statements: YtfkdfkoigojciaaGreatDoorTotals.lean).
  GIVEN WITH THE SEED: the statements are not yours to turn. If you find one false, say at which input.
  Laid BY PROGRAM, IN A SANDBOX (cutbox-rows.mjs): the forced cells as the released guide's own fill.sh prints them over the translation 39d8d5ce33b437fd… (all of the seat's roots in one cut). By AI agents, Wed Nov 11 2026. No macro, syntax, notation, axiom, sorry.
-/
import Derived.Test.YtfkdfkoigojciaaGreatDoorChecked
import GoSem.Claim
import GoSem.ClaimJoined
import GoSem.ClaimMapViews
import Derived.JoinedTies
import Derived.KernelRfl
namespace Go.Proofs.YtfkdfkoigojciaaGreatDoor
/- THE CELL 'sum', in the pinned program and in every row, IS THE sha256 OF THE DUMP (.gsa) THAT YtfkdfkoigojciaaGreatDoorProg.lean LOADS. Nothing in Lean hashes anything: it is a label: what it is worth is what the hold of that sum in a sandbox is worth. -/
noncomputable def Tryz.pinned : Pinned := { name := "ytfkdfkoigojciaagreatdoor", sum := "39d8d5ce33b437fded1b101ac14ed3f0b4b39014cd555e26acafe22802fd74e9", checked := Tryz.checked }
namespace Rows
def none {H : Type} : Left H := { results := [], args := [] }

/- WHAT THE LISTED PACKAGE-LEVEL VARIABLES READ AS WHEN THE CALL BEGINS. Each datum BY PROGRAM (the guide's laid-datum.mjs) off the statement by which the dump's own 'gosem.cut.vars' lays the variable. In a bare row this is a premise. The card (YtfkdfkoigojciaaGreatDoorCards.lean) ties it to the program's text. -/
def laid_errors_errorType {H : Type} : DataW H := .iface "internal/reflectlite.rtype" (.agg [.ptr (.lit (.string [101, 114, 114, 111, 114]))])

/-- 'laws.FnJoin': WHATEVER THE INPUT: true; the input reads as it did. -/
def fnJoinSpec : ChangeSpec := { name := "fnJoin", fn := fun _ => fun
  | [d] => { results := [.lit (.bool true)], args := [d] }
  | _ => none }
def fnJoinRow : OpenClaim := { program := "ytfkdfkoigojciaagreatdoor", sum := "39d8d5ce33b437fded1b101ac14ed3f0b4b39014cd555e26acafe22802fd74e9", func := "loop.example/g00706/laws.FnJoin", spec := "fnJoin", inPlace := ["internal/reflectlite.ValueOf", "(internal/reflectlite.Value).Type", "(internal/reflectlite.Value).IsNil", "internal/reflectlite.TypeOf", "(internal/reflectlite.Value).Elem", "(internal/reflectlite.Value).Set"], unfollowed := true, recurses := true, named := ["errors.errorType"], apart := false, laid := [("errors.errorType", laid_errors_errorType)] }
def FnJoinSaid : Prop := fnJoinRow.holds Tryz.pinned (OpenSpec.ofChange fnJoinSpec)

/-- ITS FALSE NEIGHBOUR: 'it returns false'. Refute it at one input. -/
def fnJoinWrong : ChangeSpec := { name := "fnJoin", fn := fun _ => fun
  | [d] => { results := [.lit (.bool false)], args := [d] }
  | _ => none }
def FnJoinWrongFalsely : Prop := fnJoinRow.holds Tryz.pinned (OpenSpec.ofChange fnJoinWrong)

/-- 'laws.FnLevels': WHATEVER THE INPUT: true; the input reads as it did. -/
def fnLevelsSpec : ChangeSpec := { name := "fnLevels", fn := fun _ => fun
  | [d] => { results := [.lit (.bool true)], args := [d] }
  | _ => none }
def fnLevelsRow : OpenClaim := { program := "ytfkdfkoigojciaagreatdoor", sum := "39d8d5ce33b437fded1b101ac14ed3f0b4b39014cd555e26acafe22802fd74e9", func := "loop.example/g00706/laws.FnLevels", spec := "fnLevels", inPlace := ["internal/reflectlite.ValueOf", "(internal/reflectlite.Value).Type", "(internal/reflectlite.Value).IsNil", "internal/reflectlite.TypeOf", "(internal/reflectlite.Value).Elem", "(internal/reflectlite.Value).Set"], unfollowed := true, recurses := true, named := ["errors.errorType"], apart := false, laid := [("errors.errorType", laid_errors_errorType)] }
def FnLevelsSaid : Prop := fnLevelsRow.holds Tryz.pinned (OpenSpec.ofChange fnLevelsSpec)

/-- ITS FALSE NEIGHBOUR: 'it returns false'. Refute it at one input. -/
def fnLevelsWrong : ChangeSpec := { name := "fnLevels", fn := fun _ => fun
  | [d] => { results := [.lit (.bool false)], args := [d] }
  | _ => none }
def FnLevelsWrongFalsely : Prop := fnLevelsRow.holds Tryz.pinned (OpenSpec.ofChange fnLevelsWrong)

/-- 'laws.FnTokens': WHATEVER THE INPUT: true; the input reads as it did. -/
def fnTokensSpec : ChangeSpec := { name := "fnTokens", fn := fun _ => fun
  | [d] => { results := [.lit (.bool true)], args := [d] }
  | _ => none }
def fnTokensRow : OpenClaim := { program := "ytfkdfkoigojciaagreatdoor", sum := "39d8d5ce33b437fded1b101ac14ed3f0b4b39014cd555e26acafe22802fd74e9", func := "loop.example/g00706/laws.FnTokens", spec := "fnTokens", inPlace := ["internal/reflectlite.ValueOf", "(internal/reflectlite.Value).Type", "(internal/reflectlite.Value).IsNil", "internal/reflectlite.TypeOf", "(internal/reflectlite.Value).Elem", "(internal/reflectlite.Value).Set"], unfollowed := true, recurses := true, named := ["errors.errorType"], apart := false, laid := [("errors.errorType", laid_errors_errorType)] }
def FnTokensSaid : Prop := fnTokensRow.holds Tryz.pinned (OpenSpec.ofChange fnTokensSpec)

/-- ITS FALSE NEIGHBOUR: 'it returns false'. Refute it at one input. -/
def fnTokensWrong : ChangeSpec := { name := "fnTokens", fn := fun _ => fun
  | [d] => { results := [.lit (.bool false)], args := [d] }
  | _ => none }
def FnTokensWrongFalsely : Prop := fnTokensRow.holds Tryz.pinned (OpenSpec.ofChange fnTokensWrong)

/-- 'laws.FnExactJoined': WHATEVER THE INPUT: true; the input reads as it did. -/
def fnExactJoinedSpec : ChangeSpec := { name := "fnExactJoined", fn := fun _ => fun
  | [d1, d2, d3, d4] => { results := [.lit (.bool true)], args := [d1, d2, d3, d4] }
  | _ => none }
def fnExactJoinedRow : OpenClaim := { program := "ytfkdfkoigojciaagreatdoor", sum := "39d8d5ce33b437fded1b101ac14ed3f0b4b39014cd555e26acafe22802fd74e9", func := "loop.example/g00706/laws.FnExactJoined", spec := "fnExactJoined", inPlace := ["internal/reflectlite.ValueOf", "(internal/reflectlite.Value).Type", "(internal/reflectlite.Value).IsNil", "internal/reflectlite.TypeOf", "(internal/reflectlite.Value).Elem", "(internal/reflectlite.Value).Set"], unfollowed := true, recurses := true, named := ["errors.errorType"], apart := false, laid := [("errors.errorType", laid_errors_errorType)] }
def FnExactJoinedSaid : Prop := fnExactJoinedRow.holds Tryz.pinned (OpenSpec.ofChange fnExactJoinedSpec)

/-- ITS FALSE NEIGHBOUR: 'it returns false'. Refute it at one input. -/
def fnExactJoinedWrong : ChangeSpec := { name := "fnExactJoined", fn := fun _ => fun
  | [d1, d2, d3, d4] => { results := [.lit (.bool false)], args := [d1, d2, d3, d4] }
  | _ => none }
def FnExactJoinedWrongFalsely : Prop := fnExactJoinedRow.holds Tryz.pinned (OpenSpec.ofChange fnExactJoinedWrong)

/-- 'laws.FnExactCancelledBy': WHATEVER THE INPUT: true; the input reads as it did. -/
def fnExactCancelledBySpec : ChangeSpec := { name := "fnExactCancelledBy", fn := fun _ => fun
  | [d1, d2, d3, d4] => { results := [.lit (.bool true)], args := [d1, d2, d3, d4] }
  | _ => none }
def fnExactCancelledByRow : OpenClaim := { program := "ytfkdfkoigojciaagreatdoor", sum := "39d8d5ce33b437fded1b101ac14ed3f0b4b39014cd555e26acafe22802fd74e9", func := "loop.example/g00706/laws.FnExactCancelledBy", spec := "fnExactCancelledBy", inPlace := ["internal/reflectlite.ValueOf", "(internal/reflectlite.Value).Type", "(internal/reflectlite.Value).IsNil", "internal/reflectlite.TypeOf", "(internal/reflectlite.Value).Elem", "(internal/reflectlite.Value).Set"], unfollowed := true, recurses := true, named := ["errors.errorType"], apart := false, laid := [("errors.errorType", laid_errors_errorType)] }
def FnExactCancelledBySaid : Prop := fnExactCancelledByRow.holds Tryz.pinned (OpenSpec.ofChange fnExactCancelledBySpec)

/-- ITS FALSE NEIGHBOUR: 'it returns false'. Refute it at one input. -/
def fnExactCancelledByWrong : ChangeSpec := { name := "fnExactCancelledBy", fn := fun _ => fun
  | [d1, d2, d3, d4] => { results := [.lit (.bool false)], args := [d1, d2, d3, d4] }
  | _ => none }
def FnExactCancelledByWrongFalsely : Prop := fnExactCancelledByRow.holds Tryz.pinned (OpenSpec.ofChange fnExactCancelledByWrong)

/-- 'laws.FnExactLeveled': WHATEVER THE INPUT: true; the input reads as it did. -/
def fnExactLeveledSpec : ChangeSpec := { name := "fnExactLeveled", fn := fun _ => fun
  | [d1, d2, d3, d4, d5] => { results := [.lit (.bool true)], args := [d1, d2, d3, d4, d5] }
  | _ => none }
def fnExactLeveledRow : OpenClaim := { program := "ytfkdfkoigojciaagreatdoor", sum := "39d8d5ce33b437fded1b101ac14ed3f0b4b39014cd555e26acafe22802fd74e9", func := "loop.example/g00706/laws.FnExactLeveled", spec := "fnExactLeveled", inPlace := ["internal/reflectlite.ValueOf", "(internal/reflectlite.Value).Type", "(internal/reflectlite.Value).IsNil", "internal/reflectlite.TypeOf", "(internal/reflectlite.Value).Elem", "(internal/reflectlite.Value).Set"], unfollowed := true, recurses := true, named := ["errors.errorType"], apart := false, laid := [("errors.errorType", laid_errors_errorType)] }
def FnExactLeveledSaid : Prop := fnExactLeveledRow.holds Tryz.pinned (OpenSpec.ofChange fnExactLeveledSpec)

/-- ITS FALSE NEIGHBOUR: 'it returns false'. Refute it at one input. -/
def fnExactLeveledWrong : ChangeSpec := { name := "fnExactLeveled", fn := fun _ => fun
  | [d1, d2, d3, d4, d5] => { results := [.lit (.bool false)], args := [d1, d2, d3, d4, d5] }
  | _ => none }
def FnExactLeveledWrongFalsely : Prop := fnExactLeveledRow.holds Tryz.pinned (OpenSpec.ofChange fnExactLeveledWrong)

/-- 'laws.FnExactUpped': WHATEVER THE INPUT: true; the input reads as it did. -/
def fnExactUppedSpec : ChangeSpec := { name := "fnExactUpped", fn := fun _ => fun
  | [d1, d2, d3, d4] => { results := [.lit (.bool true)], args := [d1, d2, d3, d4] }
  | _ => none }
def fnExactUppedRow : OpenClaim := { program := "ytfkdfkoigojciaagreatdoor", sum := "39d8d5ce33b437fded1b101ac14ed3f0b4b39014cd555e26acafe22802fd74e9", func := "loop.example/g00706/laws.FnExactUpped", spec := "fnExactUpped", inPlace := ["internal/reflectlite.ValueOf", "(internal/reflectlite.Value).Type", "(internal/reflectlite.Value).IsNil", "internal/reflectlite.TypeOf", "(internal/reflectlite.Value).Elem", "(internal/reflectlite.Value).Set"], unfollowed := true, recurses := true, named := ["errors.errorType"], apart := false, laid := [("errors.errorType", laid_errors_errorType)] }
def FnExactUppedSaid : Prop := fnExactUppedRow.holds Tryz.pinned (OpenSpec.ofChange fnExactUppedSpec)

/-- ITS FALSE NEIGHBOUR: 'it returns false'. Refute it at one input. -/
def fnExactUppedWrong : ChangeSpec := { name := "fnExactUpped", fn := fun _ => fun
  | [d1, d2, d3, d4] => { results := [.lit (.bool false)], args := [d1, d2, d3, d4] }
  | _ => none }
def FnExactUppedWrongFalsely : Prop := fnExactUppedRow.holds Tryz.pinned (OpenSpec.ofChange fnExactUppedWrong)

/-- 'laws.FnExactDowned': WHATEVER THE INPUT: true; the input reads as it did. -/
def fnExactDownedSpec : ChangeSpec := { name := "fnExactDowned", fn := fun _ => fun
  | [d1, d2, d3, d4] => { results := [.lit (.bool true)], args := [d1, d2, d3, d4] }
  | _ => none }
def fnExactDownedRow : OpenClaim := { program := "ytfkdfkoigojciaagreatdoor", sum := "39d8d5ce33b437fded1b101ac14ed3f0b4b39014cd555e26acafe22802fd74e9", func := "loop.example/g00706/laws.FnExactDowned", spec := "fnExactDowned", inPlace := ["internal/reflectlite.ValueOf", "(internal/reflectlite.Value).Type", "(internal/reflectlite.Value).IsNil", "internal/reflectlite.TypeOf", "(internal/reflectlite.Value).Elem", "(internal/reflectlite.Value).Set"], unfollowed := true, recurses := true, named := ["errors.errorType"], apart := false, laid := [("errors.errorType", laid_errors_errorType)] }
def FnExactDownedSaid : Prop := fnExactDownedRow.holds Tryz.pinned (OpenSpec.ofChange fnExactDownedSpec)

/-- ITS FALSE NEIGHBOUR: 'it returns false'. Refute it at one input. -/
def fnExactDownedWrong : ChangeSpec := { name := "fnExactDowned", fn := fun _ => fun
  | [d1, d2, d3, d4] => { results := [.lit (.bool false)], args := [d1, d2, d3, d4] }
  | _ => none }
def FnExactDownedWrongFalsely : Prop := fnExactDownedRow.holds Tryz.pinned (OpenSpec.ofChange fnExactDownedWrong)

/- THE SECOND FORM. 'bulk': how many values and letters a reading holds, each counted each time it is reached (what is shared counts as often as it is met; a slice's spare places count too). A statement '..UptoSaid' is the law's where the arguments, and the package variables that the reading takes, are together of bulk at most 1048576: NARROWER than '..Said'. Prove '..Said' where nothing that the law and all that it calls make is longer than what came in: it says more and counts as full. Else prove '..UptoSaid'. A law counts once. -/
mutual
def uptoBulk {H : Type} : DataW H → Nat
  | .lit (.string bytes) => bytes.length + 1
  | .lit _ => 1
  | .nil => 1
  | .ptr d => uptoBulk d + 1
  | .slice elems spare => uptoBulkAll elems + uptoBulkAll spare + 1
  | .agg parts => uptoBulkAll parts + 1
  | .iface _ d => uptoBulk d + 1
  | .map entries => uptoBulkEntries entries + 1
  | .held _ => 1
def uptoBulkAll {H : Type} : List (DataW H) → Nat
  | [] => 0
  | d :: r => uptoBulk d + uptoBulkAll r
def uptoBulkEntries {H : Type} : List (Lit × DataW H) → Nat
  | [] => 0
  | x :: r => uptoBulkEntry x + uptoBulkEntries r
def uptoBulkEntry {H : Type} : Lit × DataW H → Nat
  | (.string bytes, d) => bytes.length + uptoBulk d + 1
  | (_, d) => uptoBulk d + 1
 end
def uptoSmall : (H : Type) → List (DataW H) → Bool := fun _ ds => decide (uptoBulkAll ds ≤ 1048576)
def OpenSpec.upto (s : _root_.Go.ChangeSpec) : _root_.Go.OpenSpec := { _root_.Go.OpenSpec.ofChange s with cond := some uptoSmall }

/-- 'laws.FnJoin', WHERE WHAT IT READS IS OF BULK AT MOST 1048576: true; the input reads as it did. -/
def fnJoinUptoRow : OpenClaim := { program := "ytfkdfkoigojciaagreatdoor", sum := "39d8d5ce33b437fded1b101ac14ed3f0b4b39014cd555e26acafe22802fd74e9", func := "loop.example/g00706/laws.FnJoin", spec := "fnJoin", inPlace := ["internal/reflectlite.ValueOf", "(internal/reflectlite.Value).Type", "(internal/reflectlite.Value).IsNil", "internal/reflectlite.TypeOf", "(internal/reflectlite.Value).Elem", "(internal/reflectlite.Value).Set"], unfollowed := true, recurses := true, named := ["errors.errorType"], apart := false, laid := [("errors.errorType", laid_errors_errorType)], narrowed := true }
def FnJoinUptoSaid : Prop := fnJoinUptoRow.holds Tryz.pinned (OpenSpec.upto fnJoinSpec)

/-- 'laws.FnLevels', WHERE WHAT IT READS IS OF BULK AT MOST 1048576: true; the input reads as it did. -/
def fnLevelsUptoRow : OpenClaim := { program := "ytfkdfkoigojciaagreatdoor", sum := "39d8d5ce33b437fded1b101ac14ed3f0b4b39014cd555e26acafe22802fd74e9", func := "loop.example/g00706/laws.FnLevels", spec := "fnLevels", inPlace := ["internal/reflectlite.ValueOf", "(internal/reflectlite.Value).Type", "(internal/reflectlite.Value).IsNil", "internal/reflectlite.TypeOf", "(internal/reflectlite.Value).Elem", "(internal/reflectlite.Value).Set"], unfollowed := true, recurses := true, named := ["errors.errorType"], apart := false, laid := [("errors.errorType", laid_errors_errorType)], narrowed := true }
def FnLevelsUptoSaid : Prop := fnLevelsUptoRow.holds Tryz.pinned (OpenSpec.upto fnLevelsSpec)

/-- 'laws.FnTokens', WHERE WHAT IT READS IS OF BULK AT MOST 1048576: true; the input reads as it did. -/
def fnTokensUptoRow : OpenClaim := { program := "ytfkdfkoigojciaagreatdoor", sum := "39d8d5ce33b437fded1b101ac14ed3f0b4b39014cd555e26acafe22802fd74e9", func := "loop.example/g00706/laws.FnTokens", spec := "fnTokens", inPlace := ["internal/reflectlite.ValueOf", "(internal/reflectlite.Value).Type", "(internal/reflectlite.Value).IsNil", "internal/reflectlite.TypeOf", "(internal/reflectlite.Value).Elem", "(internal/reflectlite.Value).Set"], unfollowed := true, recurses := true, named := ["errors.errorType"], apart := false, laid := [("errors.errorType", laid_errors_errorType)], narrowed := true }
def FnTokensUptoSaid : Prop := fnTokensUptoRow.holds Tryz.pinned (OpenSpec.upto fnTokensSpec)

/-- 'laws.FnExactJoined', WHERE WHAT IT READS IS OF BULK AT MOST 1048576: true; the input reads as it did. -/
def fnExactJoinedUptoRow : OpenClaim := { program := "ytfkdfkoigojciaagreatdoor", sum := "39d8d5ce33b437fded1b101ac14ed3f0b4b39014cd555e26acafe22802fd74e9", func := "loop.example/g00706/laws.FnExactJoined", spec := "fnExactJoined", inPlace := ["internal/reflectlite.ValueOf", "(internal/reflectlite.Value).Type", "(internal/reflectlite.Value).IsNil", "internal/reflectlite.TypeOf", "(internal/reflectlite.Value).Elem", "(internal/reflectlite.Value).Set"], unfollowed := true, recurses := true, named := ["errors.errorType"], apart := false, laid := [("errors.errorType", laid_errors_errorType)], narrowed := true }
def FnExactJoinedUptoSaid : Prop := fnExactJoinedUptoRow.holds Tryz.pinned (OpenSpec.upto fnExactJoinedSpec)

/-- 'laws.FnExactCancelledBy', WHERE WHAT IT READS IS OF BULK AT MOST 1048576: true; the input reads as it did. -/
def fnExactCancelledByUptoRow : OpenClaim := { program := "ytfkdfkoigojciaagreatdoor", sum := "39d8d5ce33b437fded1b101ac14ed3f0b4b39014cd555e26acafe22802fd74e9", func := "loop.example/g00706/laws.FnExactCancelledBy", spec := "fnExactCancelledBy", inPlace := ["internal/reflectlite.ValueOf", "(internal/reflectlite.Value).Type", "(internal/reflectlite.Value).IsNil", "internal/reflectlite.TypeOf", "(internal/reflectlite.Value).Elem", "(internal/reflectlite.Value).Set"], unfollowed := true, recurses := true, named := ["errors.errorType"], apart := false, laid := [("errors.errorType", laid_errors_errorType)], narrowed := true }
def FnExactCancelledByUptoSaid : Prop := fnExactCancelledByUptoRow.holds Tryz.pinned (OpenSpec.upto fnExactCancelledBySpec)

/-- 'laws.FnExactLeveled', WHERE WHAT IT READS IS OF BULK AT MOST 1048576: true; the input reads as it did. -/
def fnExactLeveledUptoRow : OpenClaim := { program := "ytfkdfkoigojciaagreatdoor", sum := "39d8d5ce33b437fded1b101ac14ed3f0b4b39014cd555e26acafe22802fd74e9", func := "loop.example/g00706/laws.FnExactLeveled", spec := "fnExactLeveled", inPlace := ["internal/reflectlite.ValueOf", "(internal/reflectlite.Value).Type", "(internal/reflectlite.Value).IsNil", "internal/reflectlite.TypeOf", "(internal/reflectlite.Value).Elem", "(internal/reflectlite.Value).Set"], unfollowed := true, recurses := true, named := ["errors.errorType"], apart := false, laid := [("errors.errorType", laid_errors_errorType)], narrowed := true }
def FnExactLeveledUptoSaid : Prop := fnExactLeveledUptoRow.holds Tryz.pinned (OpenSpec.upto fnExactLeveledSpec)

/-- 'laws.FnExactUpped', WHERE WHAT IT READS IS OF BULK AT MOST 1048576: true; the input reads as it did. -/
def fnExactUppedUptoRow : OpenClaim := { program := "ytfkdfkoigojciaagreatdoor", sum := "39d8d5ce33b437fded1b101ac14ed3f0b4b39014cd555e26acafe22802fd74e9", func := "loop.example/g00706/laws.FnExactUpped", spec := "fnExactUpped", inPlace := ["internal/reflectlite.ValueOf", "(internal/reflectlite.Value).Type", "(internal/reflectlite.Value).IsNil", "internal/reflectlite.TypeOf", "(internal/reflectlite.Value).Elem", "(internal/reflectlite.Value).Set"], unfollowed := true, recurses := true, named := ["errors.errorType"], apart := false, laid := [("errors.errorType", laid_errors_errorType)], narrowed := true }
def FnExactUppedUptoSaid : Prop := fnExactUppedUptoRow.holds Tryz.pinned (OpenSpec.upto fnExactUppedSpec)

/-- 'laws.FnExactDowned', WHERE WHAT IT READS IS OF BULK AT MOST 1048576: true; the input reads as it did. -/
def fnExactDownedUptoRow : OpenClaim := { program := "ytfkdfkoigojciaagreatdoor", sum := "39d8d5ce33b437fded1b101ac14ed3f0b4b39014cd555e26acafe22802fd74e9", func := "loop.example/g00706/laws.FnExactDowned", spec := "fnExactDowned", inPlace := ["internal/reflectlite.ValueOf", "(internal/reflectlite.Value).Type", "(internal/reflectlite.Value).IsNil", "internal/reflectlite.TypeOf", "(internal/reflectlite.Value).Elem", "(internal/reflectlite.Value).Set"], unfollowed := true, recurses := true, named := ["errors.errorType"], apart := false, laid := [("errors.errorType", laid_errors_errorType)], narrowed := true }
def FnExactDownedUptoSaid : Prop := fnExactDownedUptoRow.holds Tryz.pinned (OpenSpec.upto fnExactDownedSpec)

end Rows
end Go.Proofs.YtfkdfkoigojciaaGreatDoor
