/-
  No cell of these rows narrows 'for every input' (looked for: loops, veiled, ifaces, maps, wideKeys, modest, calm, conditions, laid).
  DERIVED. THE GIVEN ROWS OF THIS SEAT. 4 by the template 'for every input the law returns true; each argument reads behind the call as it read before'; 0 by the template 'total and deterministic' (their statements: YtfkdfkoigojciaaTotals.lean).
  GIVEN WITH THE SEED: the statements are not yours to turn. If you find one false, say at which input.
  Laid BY PROGRAM, IN A SANDBOX (cutbox-rows.mjs): the forced cells as the released guide's own fill.sh prints them over the translation 4f7c1947e28ec477… (all of the seat's roots in one cut). By AI agents, Wed Nov 11 2026. No macro, syntax, notation, axiom, sorry.
-/
import Derived.Test.YtfkdfkoigojciaaChecked
import GoSem.Claim
import GoSem.ClaimJoined
import GoSem.ClaimMapViews
import Derived.JoinedTies
import Derived.KernelRfl
namespace Go.Proofs.Ytfkdfkoigojciaa
/- THE CELL 'sum', in the pinned program and in every row, IS THE sha256 OF THE DUMP (.gsa) THAT YtfkdfkoigojciaaProg.lean LOADS. Nothing in Lean hashes anything: it is a label: what it is worth is what the hold of that sum in a sandbox is worth. -/
noncomputable def Try.pinned : Pinned := { name := "ytfkdfkoigojciaa", sum := "4f7c1947e28ec47784b6a45cd3e2837e52982854177d27cf63e96ab872404afe", checked := Try.checked }
namespace Rows
def none {H : Type} : Left H := { results := [], args := [] }

/-- 'laws.FnExactWoken': WHATEVER THE INPUT: true; the input reads as it did. -/
def fnExactWokenSpec : ChangeSpec := { name := "fnExactWoken", fn := fun _ => fun
  | [d1, d2, d3, d4] => { results := [.lit (.bool true)], args := [d1, d2, d3, d4] }
  | _ => none }
def fnExactWokenRow : OpenClaim := { program := "ytfkdfkoigojciaa", sum := "4f7c1947e28ec47784b6a45cd3e2837e52982854177d27cf63e96ab872404afe", func := "loop.example/g00706/laws.FnExactWoken", spec := "fnExactWoken", apart := false }
def FnExactWokenSaid : Prop := fnExactWokenRow.holds Try.pinned (OpenSpec.ofChange fnExactWokenSpec)

/-- ITS FALSE NEIGHBOUR: 'it returns false'. Refute it at one input. -/
def fnExactWokenWrong : ChangeSpec := { name := "fnExactWoken", fn := fun _ => fun
  | [d1, d2, d3, d4] => { results := [.lit (.bool false)], args := [d1, d2, d3, d4] }
  | _ => none }
def FnExactWokenWrongFalsely : Prop := fnExactWokenRow.holds Try.pinned (OpenSpec.ofChange fnExactWokenWrong)

/-- 'laws.FnExactWokenAll': WHATEVER THE INPUT: true; the input reads as it did. -/
def fnExactWokenAllSpec : ChangeSpec := { name := "fnExactWokenAll", fn := fun _ => fun
  | [d1, d2, d3, d4, d5] => { results := [.lit (.bool true)], args := [d1, d2, d3, d4, d5] }
  | _ => none }
def fnExactWokenAllRow : OpenClaim := { program := "ytfkdfkoigojciaa", sum := "4f7c1947e28ec47784b6a45cd3e2837e52982854177d27cf63e96ab872404afe", func := "loop.example/g00706/laws.FnExactWokenAll", spec := "fnExactWokenAll", unfollowed := true, recurses := true, apart := false }
def FnExactWokenAllSaid : Prop := fnExactWokenAllRow.holds Try.pinned (OpenSpec.ofChange fnExactWokenAllSpec)

/-- ITS FALSE NEIGHBOUR: 'it returns false'. Refute it at one input. -/
def fnExactWokenAllWrong : ChangeSpec := { name := "fnExactWokenAll", fn := fun _ => fun
  | [d1, d2, d3, d4, d5] => { results := [.lit (.bool false)], args := [d1, d2, d3, d4, d5] }
  | _ => none }
def FnExactWokenAllWrongFalsely : Prop := fnExactWokenAllRow.holds Try.pinned (OpenSpec.ofChange fnExactWokenAllWrong)

/-- 'laws.FnExactParkedBy': WHATEVER THE INPUT: true; the input reads as it did. -/
def fnExactParkedBySpec : ChangeSpec := { name := "fnExactParkedBy", fn := fun _ => fun
  | [d1, d2, d3, d4, d5] => { results := [.lit (.bool true)], args := [d1, d2, d3, d4, d5] }
  | _ => none }
def fnExactParkedByRow : OpenClaim := { program := "ytfkdfkoigojciaa", sum := "4f7c1947e28ec47784b6a45cd3e2837e52982854177d27cf63e96ab872404afe", func := "loop.example/g00706/laws.FnExactParkedBy", spec := "fnExactParkedBy", apart := false }
def FnExactParkedBySaid : Prop := fnExactParkedByRow.holds Try.pinned (OpenSpec.ofChange fnExactParkedBySpec)

/-- ITS FALSE NEIGHBOUR: 'it returns false'. Refute it at one input. -/
def fnExactParkedByWrong : ChangeSpec := { name := "fnExactParkedBy", fn := fun _ => fun
  | [d1, d2, d3, d4, d5] => { results := [.lit (.bool false)], args := [d1, d2, d3, d4, d5] }
  | _ => none }
def FnExactParkedByWrongFalsely : Prop := fnExactParkedByRow.holds Try.pinned (OpenSpec.ofChange fnExactParkedByWrong)

/-- 'laws.FnExactEnded': WHATEVER THE INPUT: true; the input reads as it did. -/
def fnExactEndedSpec : ChangeSpec := { name := "fnExactEnded", fn := fun _ => fun
  | [d1, d2, d3, d4] => { results := [.lit (.bool true)], args := [d1, d2, d3, d4] }
  | _ => none }
def fnExactEndedRow : OpenClaim := { program := "ytfkdfkoigojciaa", sum := "4f7c1947e28ec47784b6a45cd3e2837e52982854177d27cf63e96ab872404afe", func := "loop.example/g00706/laws.FnExactEnded", spec := "fnExactEnded", unfollowed := true, recurses := true, apart := false }
def FnExactEndedSaid : Prop := fnExactEndedRow.holds Try.pinned (OpenSpec.ofChange fnExactEndedSpec)

/-- ITS FALSE NEIGHBOUR: 'it returns false'. Refute it at one input. -/
def fnExactEndedWrong : ChangeSpec := { name := "fnExactEnded", fn := fun _ => fun
  | [d1, d2, d3, d4] => { results := [.lit (.bool false)], args := [d1, d2, d3, d4] }
  | _ => none }
def FnExactEndedWrongFalsely : Prop := fnExactEndedRow.holds Try.pinned (OpenSpec.ofChange fnExactEndedWrong)

/- THE SECOND FORM. 'bulk': how many values and letters a reading holds, each counted each time it is reached (what is shared counts as often as it is met; a slice's spare places count too). A statement '..UptoSaid' is the law's where the arguments, and the package variables that the reading takes, are together of bulk at most 1048576: NARROWER than '..Said'. Prove '..Said' where nothing that the law and all that it calls make is longer than what came in: it says more and counts as full. Else prove '..UptoSaid'. A law counts once. -/
mutual
def uptoBulk {H : Type} : DataW H → Nat
  | .lit (.string bytes) => bytes.length + 1
  | .lit _ => 1
  | .nil => 1
  | .ptr d => uptoBulk d + 1
  | .slice elems spare => uptoBulkAll elems + uptoBulkAll spare + 1
  | .agg parts => uptoBulkAll parts + 1
  | .iface _ d => uptoBulk d + 1
  | .map entries => uptoBulkEntries entries + 1
  | .held _ => 1
def uptoBulkAll {H : Type} : List (DataW H) → Nat
  | [] => 0
  | d :: r => uptoBulk d + uptoBulkAll r
def uptoBulkEntries {H : Type} : List (Lit × DataW H) → Nat
  | [] => 0
  | x :: r => uptoBulkEntry x + uptoBulkEntries r
def uptoBulkEntry {H : Type} : Lit × DataW H → Nat
  | (.string bytes, d) => bytes.length + uptoBulk d + 1
  | (_, d) => uptoBulk d + 1
 end
def uptoSmall : (H : Type) → List (DataW H) → Bool := fun _ ds => decide (uptoBulkAll ds ≤ 1048576)
def OpenSpec.upto (s : _root_.Go.ChangeSpec) : _root_.Go.OpenSpec := { _root_.Go.OpenSpec.ofChange s with cond := some uptoSmall }

/-- 'laws.FnExactWoken', WHERE WHAT IT READS IS OF BULK AT MOST 1048576: true; the input reads as it did. -/
def fnExactWokenUptoRow : OpenClaim := { program := "ytfkdfkoigojciaa", sum := "4f7c1947e28ec47784b6a45cd3e2837e52982854177d27cf63e96ab872404afe", func := "loop.example/g00706/laws.FnExactWoken", spec := "fnExactWoken", apart := false, narrowed := true }
def FnExactWokenUptoSaid : Prop := fnExactWokenUptoRow.holds Try.pinned (OpenSpec.upto fnExactWokenSpec)

/-- 'laws.FnExactWokenAll', WHERE WHAT IT READS IS OF BULK AT MOST 1048576: true; the input reads as it did. -/
def fnExactWokenAllUptoRow : OpenClaim := { program := "ytfkdfkoigojciaa", sum := "4f7c1947e28ec47784b6a45cd3e2837e52982854177d27cf63e96ab872404afe", func := "loop.example/g00706/laws.FnExactWokenAll", spec := "fnExactWokenAll", unfollowed := true, recurses := true, apart := false, narrowed := true }
def FnExactWokenAllUptoSaid : Prop := fnExactWokenAllUptoRow.holds Try.pinned (OpenSpec.upto fnExactWokenAllSpec)

/-- 'laws.FnExactParkedBy', WHERE WHAT IT READS IS OF BULK AT MOST 1048576: true; the input reads as it did. -/
def fnExactParkedByUptoRow : OpenClaim := { program := "ytfkdfkoigojciaa", sum := "4f7c1947e28ec47784b6a45cd3e2837e52982854177d27cf63e96ab872404afe", func := "loop.example/g00706/laws.FnExactParkedBy", spec := "fnExactParkedBy", apart := false, narrowed := true }
def FnExactParkedByUptoSaid : Prop := fnExactParkedByUptoRow.holds Try.pinned (OpenSpec.upto fnExactParkedBySpec)

/-- 'laws.FnExactEnded', WHERE WHAT IT READS IS OF BULK AT MOST 1048576: true; the input reads as it did. -/
def fnExactEndedUptoRow : OpenClaim := { program := "ytfkdfkoigojciaa", sum := "4f7c1947e28ec47784b6a45cd3e2837e52982854177d27cf63e96ab872404afe", func := "loop.example/g00706/laws.FnExactEnded", spec := "fnExactEnded", unfollowed := true, recurses := true, apart := false, narrowed := true }
def FnExactEndedUptoSaid : Prop := fnExactEndedUptoRow.holds Try.pinned (OpenSpec.upto fnExactEndedSpec)

end Rows
end Go.Proofs.Ytfkdfkoigojciaa
