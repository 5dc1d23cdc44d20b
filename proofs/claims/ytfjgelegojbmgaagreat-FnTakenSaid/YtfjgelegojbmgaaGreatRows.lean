/-
  No cell of these rows narrows 'for every input' (looked for: loops, veiled, ifaces, maps, wideKeys, modest, calm, conditions, laid).
  DERIVED. THE GIVEN ROWS OF THIS SEAT. 4 by the template 'for every input the law returns true; each argument reads behind the call as it read before'; 0 by the template 'total and deterministic' (their statements: YtfjgelegojbmgaaGreatTotals.lean).
  GIVEN WITH THE SEED: the statements are not yours to turn. If you find one false, say at which input.
  Laid BY PROGRAM, IN A SANDBOX (cutbox-rows.mjs): the forced cells as the released guide's own fill.sh prints them over the translation 13a16c410cab5a9f… (all of the seat's roots in one cut). By AI agents, Wed Nov 11 2026. No macro, syntax, notation, axiom, sorry.
-/
import Derived.Test.YtfjgelegojbmgaaGreatChecked
import GoSem.Claim
import GoSem.ClaimJoined
import GoSem.ClaimMapViews
import Derived.JoinedTies
import Derived.KernelRfl
namespace Go.Proofs.YtfjgelegojbmgaaGreat
/- THE CELL 'sum', in the pinned program and in every row, IS THE sha256 OF THE DUMP (.gsa) THAT YtfjgelegojbmgaaGreatProg.lean LOADS. Nothing in Lean hashes anything: it is a label: what it is worth is what the hold of that sum in a sandbox is worth. -/
noncomputable def Tryz.pinned : Pinned := { name := "ytfjgelegojbmgaagreat", sum := "13a16c410cab5a9fe94d54fdd5359806b2a9ffb2d64fb1d0482743d933454b7b", checked := Tryz.checked }
namespace Rows
def none {H : Type} : Left H := { results := [], args := [] }

/-- 'laws.FnWoken': WHATEVER THE INPUT: true; the input reads as it did. -/
def fnWokenSpec : ChangeSpec := { name := "fnWoken", fn := fun _ => fun
  | [d] => { results := [.lit (.bool true)], args := [d] }
  | _ => none }
def fnWokenRow : OpenClaim := { program := "ytfjgelegojbmgaagreat", sum := "13a16c410cab5a9fe94d54fdd5359806b2a9ffb2d64fb1d0482743d933454b7b", func := "loop.example/g00706/laws.FnWoken", spec := "fnWoken", unfollowed := true, recurses := true, apart := false }
def FnWokenSaid : Prop := fnWokenRow.holds Tryz.pinned (OpenSpec.ofChange fnWokenSpec)

/-- ITS FALSE NEIGHBOUR: 'it returns false'. Refute it at one input. -/
def fnWokenWrong : ChangeSpec := { name := "fnWoken", fn := fun _ => fun
  | [d] => { results := [.lit (.bool false)], args := [d] }
  | _ => none }
def FnWokenWrongFalsely : Prop := fnWokenRow.holds Tryz.pinned (OpenSpec.ofChange fnWokenWrong)

/-- 'laws.FnParked': WHATEVER THE INPUT: true; the input reads as it did. -/
def fnParkedSpec : ChangeSpec := { name := "fnParked", fn := fun _ => fun
  | [d] => { results := [.lit (.bool true)], args := [d] }
  | _ => none }
def fnParkedRow : OpenClaim := { program := "ytfjgelegojbmgaagreat", sum := "13a16c410cab5a9fe94d54fdd5359806b2a9ffb2d64fb1d0482743d933454b7b", func := "loop.example/g00706/laws.FnParked", spec := "fnParked", unfollowed := true, recurses := true, apart := false }
def FnParkedSaid : Prop := fnParkedRow.holds Tryz.pinned (OpenSpec.ofChange fnParkedSpec)

/-- ITS FALSE NEIGHBOUR: 'it returns false'. Refute it at one input. -/
def fnParkedWrong : ChangeSpec := { name := "fnParked", fn := fun _ => fun
  | [d] => { results := [.lit (.bool false)], args := [d] }
  | _ => none }
def FnParkedWrongFalsely : Prop := fnParkedRow.holds Tryz.pinned (OpenSpec.ofChange fnParkedWrong)

/-- 'laws.FnTaken': WHATEVER THE INPUT: true; the input reads as it did. -/
def fnTakenSpec : ChangeSpec := { name := "fnTaken", fn := fun _ => fun
  | [d] => { results := [.lit (.bool true)], args := [d] }
  | _ => none }
def fnTakenRow : OpenClaim := { program := "ytfjgelegojbmgaagreat", sum := "13a16c410cab5a9fe94d54fdd5359806b2a9ffb2d64fb1d0482743d933454b7b", func := "loop.example/g00706/laws.FnTaken", spec := "fnTaken", unfollowed := true, recurses := true, apart := false }
def FnTakenSaid : Prop := fnTakenRow.holds Tryz.pinned (OpenSpec.ofChange fnTakenSpec)

/-- ITS FALSE NEIGHBOUR: 'it returns false'. Refute it at one input. -/
def fnTakenWrong : ChangeSpec := { name := "fnTaken", fn := fun _ => fun
  | [d] => { results := [.lit (.bool false)], args := [d] }
  | _ => none }
def FnTakenWrongFalsely : Prop := fnTakenRow.holds Tryz.pinned (OpenSpec.ofChange fnTakenWrong)

/-- 'laws.FnLives': WHATEVER THE INPUT: true; the input reads as it did. -/
def fnLivesSpec : ChangeSpec := { name := "fnLives", fn := fun _ => fun
  | [d] => { results := [.lit (.bool true)], args := [d] }
  | _ => none }
def fnLivesRow : OpenClaim := { program := "ytfjgelegojbmgaagreat", sum := "13a16c410cab5a9fe94d54fdd5359806b2a9ffb2d64fb1d0482743d933454b7b", func := "loop.example/g00706/laws.FnLives", spec := "fnLives", unfollowed := true, recurses := true, apart := false }
def FnLivesSaid : Prop := fnLivesRow.holds Tryz.pinned (OpenSpec.ofChange fnLivesSpec)

/-- ITS FALSE NEIGHBOUR: 'it returns false'. Refute it at one input. -/
def fnLivesWrong : ChangeSpec := { name := "fnLives", fn := fun _ => fun
  | [d] => { results := [.lit (.bool false)], args := [d] }
  | _ => none }
def FnLivesWrongFalsely : Prop := fnLivesRow.holds Tryz.pinned (OpenSpec.ofChange fnLivesWrong)

/- THE SECOND FORM. 'bulk': how many values and letters a reading holds, each counted each time it is reached (what is shared counts as often as it is met; a slice's spare places count too). A statement '..UptoSaid' is the law's where the arguments, and the package variables that the reading takes, are together of bulk at most 1048576: NARROWER than '..Said'. Prove '..Said' where nothing that the law and all that it calls make is longer than what came in: it says more and counts as full. Else prove '..UptoSaid'. A law counts once. -/
mutual
def uptoBulk {H : Type} : DataW H → Nat
  | .lit (.string bytes) => bytes.length + 1
  | .lit _ => 1
  | .nil => 1
  | .ptr d => uptoBulk d + 1
  | .slice elems spare => uptoBulkAll elems + uptoBulkAll spare + 1
  | .agg parts => uptoBulkAll parts + 1
  | .iface _ d => uptoBulk d + 1
  | .map entries => uptoBulkEntries entries + 1
  | .held _ => 1
def uptoBulkAll {H : Type} : List (DataW H) → Nat
  | [] => 0
  | d :: r => uptoBulk d + uptoBulkAll r
def uptoBulkEntries {H : Type} : List (Lit × DataW H) → Nat
  | [] => 0
  | x :: r => uptoBulkEntry x + uptoBulkEntries r
def uptoBulkEntry {H : Type} : Lit × DataW H → Nat
  | (.string bytes, d) => bytes.length + uptoBulk d + 1
  | (_, d) => uptoBulk d + 1
 end
def uptoSmall : (H : Type) → List (DataW H) → Bool := fun _ ds => decide (uptoBulkAll ds ≤ 1048576)
def OpenSpec.upto (s : _root_.Go.ChangeSpec) : _root_.Go.OpenSpec := { _root_.Go.OpenSpec.ofChange s with cond := some uptoSmall }

/-- 'laws.FnWoken', WHERE WHAT IT READS IS OF BULK AT MOST 1048576: true; the input reads as it did. -/
def fnWokenUptoRow : OpenClaim := { program := "ytfjgelegojbmgaagreat", sum := "13a16c410cab5a9fe94d54fdd5359806b2a9ffb2d64fb1d0482743d933454b7b", func := "loop.example/g00706/laws.FnWoken", spec := "fnWoken", unfollowed := true, recurses := true, apart := false, narrowed := true }
def FnWokenUptoSaid : Prop := fnWokenUptoRow.holds Tryz.pinned (OpenSpec.upto fnWokenSpec)

/-- 'laws.FnParked', WHERE WHAT IT READS IS OF BULK AT MOST 1048576: true; the input reads as it did. -/
def fnParkedUptoRow : OpenClaim := { program := "ytfjgelegojbmgaagreat", sum := "13a16c410cab5a9fe94d54fdd5359806b2a9ffb2d64fb1d0482743d933454b7b", func := "loop.example/g00706/laws.FnParked", spec := "fnParked", unfollowed := true, recurses := true, apart := false, narrowed := true }
def FnParkedUptoSaid : Prop := fnParkedUptoRow.holds Tryz.pinned (OpenSpec.upto fnParkedSpec)

/-- 'laws.FnTaken', WHERE WHAT IT READS IS OF BULK AT MOST 1048576: true; the input reads as it did. -/
def fnTakenUptoRow : OpenClaim := { program := "ytfjgelegojbmgaagreat", sum := "13a16c410cab5a9fe94d54fdd5359806b2a9ffb2d64fb1d0482743d933454b7b", func := "loop.example/g00706/laws.FnTaken", spec := "fnTaken", unfollowed := true, recurses := true, apart := false, narrowed := true }
def FnTakenUptoSaid : Prop := fnTakenUptoRow.holds Tryz.pinned (OpenSpec.upto fnTakenSpec)

/-- 'laws.FnLives', WHERE WHAT IT READS IS OF BULK AT MOST 1048576: true; the input reads as it did. -/
def fnLivesUptoRow : OpenClaim := { program := "ytfjgelegojbmgaagreat", sum := "13a16c410cab5a9fe94d54fdd5359806b2a9ffb2d64fb1d0482743d933454b7b", func := "loop.example/g00706/laws.FnLives", spec := "fnLives", unfollowed := true, recurses := true, apart := false, narrowed := true }
def FnLivesUptoSaid : Prop := fnLivesUptoRow.holds Tryz.pinned (OpenSpec.upto fnLivesSpec)

end Rows
end Go.Proofs.YtfjgelegojbmgaaGreat
