/-
  No cell of these rows narrows 'for every input' (looked for: loops, veiled, ifaces, maps, wideKeys, modest, calm, conditions, laid).
  DERIVED. THE GIVEN ROWS OF THIS SEAT. 7 by the template 'for every input the law returns true; each argument reads behind the call as it read before'; 0 by the template 'total and deterministic' (their statements: YtgncjcnobojgbaaTotals.lean).
  GIVEN WITH THE SEED: the statements are not yours to turn. If you find one false, say at which input.
  Laid BY PROGRAM, IN A SANDBOX (cutbox-rows.mjs): the forced cells as the released guide's own fill.sh prints them over the translation 23aa0649bd3febf1… (all of the seat's roots in one cut). By AI agents, Wed Nov 11 2026. No macro, syntax, notation, axiom, sorry.
-/
import Derived.Test.YtgncjcnobojgbaaChecked
import GoSem.Claim
import GoSem.ClaimJoined
import GoSem.ClaimMapViews
import Derived.JoinedTies
import Derived.KernelRfl
namespace Go.Proofs.Ytgncjcnobojgbaa
/- THE CELL 'sum', in the pinned program and in every row, IS THE sha256 OF THE DUMP (.gsa) THAT YtgncjcnobojgbaaProg.lean LOADS. Nothing in Lean hashes anything: it is a label: what it is worth is what the hold of that sum in a sandbox is worth. -/
noncomputable def Try.pinned : Pinned := { name := "ytgncjcnobojgbaa", sum := "23aa0649bd3febf15ce6461843b1f1b298133624e26c9881545863ad03fa4a54", checked := Try.checked }
namespace Rows
def none {H : Type} : Left H := { results := [], args := [] }

/-- 'laws.FnPools': WHATEVER THE INPUT: true; the input reads as it did. -/
def fnPoolsSpec : ChangeSpec := { name := "fnPools", fn := fun _ => fun
  | [d] => { results := [.lit (.bool true)], args := [d] }
  | _ => none }
def fnPoolsRow : OpenClaim := { program := "ytgncjcnobojgbaa", sum := "23aa0649bd3febf15ce6461843b1f1b298133624e26c9881545863ad03fa4a54", func := "loop.example/g00706/laws.FnPools", spec := "fnPools", apart := false }
def FnPoolsSaid : Prop := fnPoolsRow.holds Try.pinned (OpenSpec.ofChange fnPoolsSpec)

/-- ITS FALSE NEIGHBOUR: 'it returns false'. Refute it at one input. -/
def fnPoolsWrong : ChangeSpec := { name := "fnPools", fn := fun _ => fun
  | [d] => { results := [.lit (.bool false)], args := [d] }
  | _ => none }
def FnPoolsWrongFalsely : Prop := fnPoolsRow.holds Try.pinned (OpenSpec.ofChange fnPoolsWrong)

/-- 'laws.FnLines': WHATEVER THE INPUT: true; the input reads as it did. -/
def fnLinesSpec : ChangeSpec := { name := "fnLines", fn := fun _ => fun
  | [d] => { results := [.lit (.bool true)], args := [d] }
  | _ => none }
def fnLinesRow : OpenClaim := { program := "ytgncjcnobojgbaa", sum := "23aa0649bd3febf15ce6461843b1f1b298133624e26c9881545863ad03fa4a54", func := "loop.example/g00706/laws.FnLines", spec := "fnLines", unfollowed := true, recurses := true, apart := false }
def FnLinesSaid : Prop := fnLinesRow.holds Try.pinned (OpenSpec.ofChange fnLinesSpec)

/-- ITS FALSE NEIGHBOUR: 'it returns false'. Refute it at one input. -/
def fnLinesWrong : ChangeSpec := { name := "fnLines", fn := fun _ => fun
  | [d] => { results := [.lit (.bool false)], args := [d] }
  | _ => none }
def FnLinesWrongFalsely : Prop := fnLinesRow.holds Try.pinned (OpenSpec.ofChange fnLinesWrong)

/-- 'laws.FnExactWokenAll': WHATEVER THE INPUT: true; the input reads as it did. -/
def fnExactWokenAllSpec : ChangeSpec := { name := "fnExactWokenAll", fn := fun _ => fun
  | [d1, d2, d3, d4, d5] => { results := [.lit (.bool true)], args := [d1, d2, d3, d4, d5] }
  | _ => none }
def fnExactWokenAllRow : OpenClaim := { program := "ytgncjcnobojgbaa", sum := "23aa0649bd3febf15ce6461843b1f1b298133624e26c9881545863ad03fa4a54", func := "loop.example/g00706/laws.FnExactWokenAll", spec := "fnExactWokenAll", unfollowed := true, recurses := true, apart := false }
def FnExactWokenAllSaid : Prop := fnExactWokenAllRow.holds Try.pinned (OpenSpec.ofChange fnExactWokenAllSpec)

/-- ITS FALSE NEIGHBOUR: 'it returns false'. Refute it at one input. -/
def fnExactWokenAllWrong : ChangeSpec := { name := "fnExactWokenAll", fn := fun _ => fun
  | [d1, d2, d3, d4, d5] => { results := [.lit (.bool false)], args := [d1, d2, d3, d4, d5] }
  | _ => none }
def FnExactWokenAllWrongFalsely : Prop := fnExactWokenAllRow.holds Try.pinned (OpenSpec.ofChange fnExactWokenAllWrong)

/-- 'laws.FnExactSpawned': WHATEVER THE INPUT: true; the input reads as it did. -/
def fnExactSpawnedSpec : ChangeSpec := { name := "fnExactSpawned", fn := fun _ => fun
  | [d1, d2, d3, d4] => { results := [.lit (.bool true)], args := [d1, d2, d3, d4] }
  | _ => none }
def fnExactSpawnedRow : OpenClaim := { program := "ytgncjcnobojgbaa", sum := "23aa0649bd3febf15ce6461843b1f1b298133624e26c9881545863ad03fa4a54", func := "loop.example/g00706/laws.FnExactSpawned", spec := "fnExactSpawned", unfollowed := true, recurses := true, apart := false }
def FnExactSpawnedSaid : Prop := fnExactSpawnedRow.holds Try.pinned (OpenSpec.ofChange fnExactSpawnedSpec)

/-- ITS FALSE NEIGHBOUR: 'it returns false'. Refute it at one input. -/
def fnExactSpawnedWrong : ChangeSpec := { name := "fnExactSpawned", fn := fun _ => fun
  | [d1, d2, d3, d4] => { results := [.lit (.bool false)], args := [d1, d2, d3, d4] }
  | _ => none }
def FnExactSpawnedWrongFalsely : Prop := fnExactSpawnedRow.holds Try.pinned (OpenSpec.ofChange fnExactSpawnedWrong)

/-- 'laws.FnExactTaken': WHATEVER THE INPUT: true; the input reads as it did. -/
def fnExactTakenSpec : ChangeSpec := { name := "fnExactTaken", fn := fun _ => fun
  | [d1, d2, d3] => { results := [.lit (.bool true)], args := [d1, d2, d3] }
  | _ => none }
def fnExactTakenRow : OpenClaim := { program := "ytgncjcnobojgbaa", sum := "23aa0649bd3febf15ce6461843b1f1b298133624e26c9881545863ad03fa4a54", func := "loop.example/g00706/laws.FnExactTaken", spec := "fnExactTaken", unfollowed := true, recurses := true, apart := false }
def FnExactTakenSaid : Prop := fnExactTakenRow.holds Try.pinned (OpenSpec.ofChange fnExactTakenSpec)

/-- ITS FALSE NEIGHBOUR: 'it returns false'. Refute it at one input. -/
def fnExactTakenWrong : ChangeSpec := { name := "fnExactTaken", fn := fun _ => fun
  | [d1, d2, d3] => { results := [.lit (.bool false)], args := [d1, d2, d3] }
  | _ => none }
def FnExactTakenWrongFalsely : Prop := fnExactTakenRow.holds Try.pinned (OpenSpec.ofChange fnExactTakenWrong)

/-- 'laws.FnExactYielded': WHATEVER THE INPUT: true; the input reads as it did. -/
def fnExactYieldedSpec : ChangeSpec := { name := "fnExactYielded", fn := fun _ => fun
  | [d1, d2, d3] => { results := [.lit (.bool true)], args := [d1, d2, d3] }
  | _ => none }
def fnExactYieldedRow : OpenClaim := { program := "ytgncjcnobojgbaa", sum := "23aa0649bd3febf15ce6461843b1f1b298133624e26c9881545863ad03fa4a54", func := "loop.example/g00706/laws.FnExactYielded", spec := "fnExactYielded", unfollowed := true, recurses := true, apart := false }
def FnExactYieldedSaid : Prop := fnExactYieldedRow.holds Try.pinned (OpenSpec.ofChange fnExactYieldedSpec)

/-- ITS FALSE NEIGHBOUR: 'it returns false'. Refute it at one input. -/
def fnExactYieldedWrong : ChangeSpec := { name := "fnExactYielded", fn := fun _ => fun
  | [d1, d2, d3] => { results := [.lit (.bool false)], args := [d1, d2, d3] }
  | _ => none }
def FnExactYieldedWrongFalsely : Prop := fnExactYieldedRow.holds Try.pinned (OpenSpec.ofChange fnExactYieldedWrong)

/-- 'laws.FnExactEnded': WHATEVER THE INPUT: true; the input reads as it did. -/
def fnExactEndedSpec : ChangeSpec := { name := "fnExactEnded", fn := fun _ => fun
  | [d1, d2, d3, d4] => { results := [.lit (.bool true)], args := [d1, d2, d3, d4] }
  | _ => none }
def fnExactEndedRow : OpenClaim := { program := "ytgncjcnobojgbaa", sum := "23aa0649bd3febf15ce6461843b1f1b298133624e26c9881545863ad03fa4a54", func := "loop.example/g00706/laws.FnExactEnded", spec := "fnExactEnded", unfollowed := true, recurses := true, apart := false }
def FnExactEndedSaid : Prop := fnExactEndedRow.holds Try.pinned (OpenSpec.ofChange fnExactEndedSpec)

/-- ITS FALSE NEIGHBOUR: 'it returns false'. Refute it at one input. -/
def fnExactEndedWrong : ChangeSpec := { name := "fnExactEnded", fn := fun _ => fun
  | [d1, d2, d3, d4] => { results := [.lit (.bool false)], args := [d1, d2, d3, d4] }
  | _ => none }
def FnExactEndedWrongFalsely : Prop := fnExactEndedRow.holds Try.pinned (OpenSpec.ofChange fnExactEndedWrong)

/- THE SECOND FORM. 'bulk': how many values and letters a reading holds, each counted each time it is reached (what is shared counts as often as it is met; a slice's spare places count too). A statement '..UptoSaid' is the law's where the arguments, and the package variables that the reading takes, are together of bulk at most 1048576: NARROWER than '..Said'. Prove '..Said' where nothing that the law and all that it calls make is longer than what came in: it says more and counts as full. Else prove '..UptoSaid'. A law counts once. -/
mutual
def uptoBulk {H : Type} : DataW H → Nat
  | .lit (.string bytes) => bytes.length + 1
  | .lit _ => 1
  | .nil => 1
  | .ptr d => uptoBulk d + 1
  | .slice elems spare => uptoBulkAll elems + uptoBulkAll spare + 1
  | .agg parts => uptoBulkAll parts + 1
  | .iface _ d => uptoBulk d + 1
  | .map entries => uptoBulkEntries entries + 1
  | .held _ => 1
def uptoBulkAll {H : Type} : List (DataW H) → Nat
  | [] => 0
  | d :: r => uptoBulk d + uptoBulkAll r
def uptoBulkEntries {H : Type} : List (Lit × DataW H) → Nat
  | [] => 0
  | x :: r => uptoBulkEntry x + uptoBulkEntries r
def uptoBulkEntry {H : Type} : Lit × DataW H → Nat
  | (.string bytes, d) => bytes.length + uptoBulk d + 1
  | (_, d) => uptoBulk d + 1
 end
def uptoSmall : (H : Type) → List (DataW H) → Bool := fun _ ds => decide (uptoBulkAll ds ≤ 1048576)
def OpenSpec.upto (s : _root_.Go.ChangeSpec) : _root_.Go.OpenSpec := { _root_.Go.OpenSpec.ofChange s with cond := some uptoSmall }

/-- 'laws.FnPools', WHERE WHAT IT READS IS OF BULK AT MOST 1048576: true; the input reads as it did. -/
def fnPoolsUptoRow : OpenClaim := { program := "ytgncjcnobojgbaa", sum := "23aa0649bd3febf15ce6461843b1f1b298133624e26c9881545863ad03fa4a54", func := "loop.example/g00706/laws.FnPools", spec := "fnPools", apart := false, narrowed := true }
def FnPoolsUptoSaid : Prop := fnPoolsUptoRow.holds Try.pinned (OpenSpec.upto fnPoolsSpec)

/-- 'laws.FnLines', WHERE WHAT IT READS IS OF BULK AT MOST 1048576: true; the input reads as it did. -/
def fnLinesUptoRow : OpenClaim := { program := "ytgncjcnobojgbaa", sum := "23aa0649bd3febf15ce6461843b1f1b298133624e26c9881545863ad03fa4a54", func := "loop.example/g00706/laws.FnLines", spec := "fnLines", unfollowed := true, recurses := true, apart := false, narrowed := true }
def FnLinesUptoSaid : Prop := fnLinesUptoRow.holds Try.pinned (OpenSpec.upto fnLinesSpec)

/-- 'laws.FnExactWokenAll', WHERE WHAT IT READS IS OF BULK AT MOST 1048576: true; the input reads as it did. -/
def fnExactWokenAllUptoRow : OpenClaim := { program := "ytgncjcnobojgbaa", sum := "23aa0649bd3febf15ce6461843b1f1b298133624e26c9881545863ad03fa4a54", func := "loop.example/g00706/laws.FnExactWokenAll", spec := "fnExactWokenAll", unfollowed := true, recurses := true, apart := false, narrowed := true }
def FnExactWokenAllUptoSaid : Prop := fnExactWokenAllUptoRow.holds Try.pinned (OpenSpec.upto fnExactWokenAllSpec)

/-- 'laws.FnExactSpawned', WHERE WHAT IT READS IS OF BULK AT MOST 1048576: true; the input reads as it did. -/
def fnExactSpawnedUptoRow : OpenClaim := { program := "ytgncjcnobojgbaa", sum := "23aa0649bd3febf15ce6461843b1f1b298133624e26c9881545863ad03fa4a54", func := "loop.example/g00706/laws.FnExactSpawned", spec := "fnExactSpawned", unfollowed := true, recurses := true, apart := false, narrowed := true }
def FnExactSpawnedUptoSaid : Prop := fnExactSpawnedUptoRow.holds Try.pinned (OpenSpec.upto fnExactSpawnedSpec)

/-- 'laws.FnExactTaken', WHERE WHAT IT READS IS OF BULK AT MOST 1048576: true; the input reads as it did. -/
def fnExactTakenUptoRow : OpenClaim := { program := "ytgncjcnobojgbaa", sum := "23aa0649bd3febf15ce6461843b1f1b298133624e26c9881545863ad03fa4a54", func := "loop.example/g00706/laws.FnExactTaken", spec := "fnExactTaken", unfollowed := true, recurses := true, apart := false, narrowed := true }
def FnExactTakenUptoSaid : Prop := fnExactTakenUptoRow.holds Try.pinned (OpenSpec.upto fnExactTakenSpec)

/-- 'laws.FnExactYielded', WHERE WHAT IT READS IS OF BULK AT MOST 1048576: true; the input reads as it did. -/
def fnExactYieldedUptoRow : OpenClaim := { program := "ytgncjcnobojgbaa", sum := "23aa0649bd3febf15ce6461843b1f1b298133624e26c9881545863ad03fa4a54", func := "loop.example/g00706/laws.FnExactYielded", spec := "fnExactYielded", unfollowed := true, recurses := true, apart := false, narrowed := true }
def FnExactYieldedUptoSaid : Prop := fnExactYieldedUptoRow.holds Try.pinned (OpenSpec.upto fnExactYieldedSpec)

/-- 'laws.FnExactEnded', WHERE WHAT IT READS IS OF BULK AT MOST 1048576: true; the input reads as it did. -/
def fnExactEndedUptoRow : OpenClaim := { program := "ytgncjcnobojgbaa", sum := "23aa0649bd3febf15ce6461843b1f1b298133624e26c9881545863ad03fa4a54", func := "loop.example/g00706/laws.FnExactEnded", spec := "fnExactEnded", unfollowed := true, recurses := true, apart := false, narrowed := true }
def FnExactEndedUptoSaid : Prop := fnExactEndedUptoRow.holds Try.pinned (OpenSpec.upto fnExactEndedSpec)

end Rows
end Go.Proofs.Ytgncjcnobojgbaa
