/-
  No cell of these rows narrows 'for every input' (looked for: loops, veiled, ifaces, maps, wideKeys, modest, calm, conditions, laid).
  DERIVED. THE GIVEN ROWS OF THIS SEAT. 8 by the template 'for every input the law returns true; each argument reads behind the call as it read before'; 0 by the template 'total and deterministic' (their statements: YtgbckcidmojnoaaTotals.lean).
  GIVEN WITH THE SEED: the statements are not yours to turn. If you find one false, say at which input.
  Laid BY PROGRAM, IN A SANDBOX (cutbox-rows.mjs): the forced cells as the released guide's own fill.sh prints them over the translation 5149cd6b644060ea… (all of the seat's roots in one cut). By AI agents, Wed Nov 11 2026. No macro, syntax, notation, axiom, sorry.
-/
import Derived.Test.YtgbckcidmojnoaaChecked
import GoSem.Claim
import GoSem.ClaimJoined
import GoSem.ClaimMapViews
import Derived.JoinedTies
import Derived.KernelRfl
namespace Go.Proofs.Ytgbckcidmojnoaa
/- THE CELL 'sum', in the pinned program and in every row, IS THE sha256 OF THE DUMP (.gsa) THAT YtgbckcidmojnoaaProg.lean LOADS. Nothing in Lean hashes anything: it is a label: what it is worth is what the hold of that sum in a sandbox is worth. -/
noncomputable def Try.pinned : Pinned := { name := "ytgbckcidmojnoaa", sum := "5149cd6b644060ea19c1ee9db1f0487008d9ed86fa1d34ba5851dcb06694bdbe", checked := Try.checked }
namespace Rows
def none {H : Type} : Left H := { results := [], args := [] }

/-- 'laws.FnPools': WHATEVER THE INPUT: true; the input reads as it did. -/
def fnPoolsSpec : ChangeSpec := { name := "fnPools", fn := fun _ => fun
  | [d] => { results := [.lit (.bool true)], args := [d] }
  | _ => none }
def fnPoolsRow : OpenClaim := { program := "ytgbckcidmojnoaa", sum := "5149cd6b644060ea19c1ee9db1f0487008d9ed86fa1d34ba5851dcb06694bdbe", func := "loop.example/g00706/laws.FnPools", spec := "fnPools", apart := false }
def FnPoolsSaid : Prop := fnPoolsRow.holds Try.pinned (OpenSpec.ofChange fnPoolsSpec)

/-- ITS FALSE NEIGHBOUR: 'it returns false'. Refute it at one input. -/
def fnPoolsWrong : ChangeSpec := { name := "fnPools", fn := fun _ => fun
  | [d] => { results := [.lit (.bool false)], args := [d] }
  | _ => none }
def FnPoolsWrongFalsely : Prop := fnPoolsRow.holds Try.pinned (OpenSpec.ofChange fnPoolsWrong)

/-- 'laws.FnLines': WHATEVER THE INPUT: true; the input reads as it did. -/
def fnLinesSpec : ChangeSpec := { name := "fnLines", fn := fun _ => fun
  | [d] => { results := [.lit (.bool true)], args := [d] }
  | _ => none }
def fnLinesRow : OpenClaim := { program := "ytgbckcidmojnoaa", sum := "5149cd6b644060ea19c1ee9db1f0487008d9ed86fa1d34ba5851dcb06694bdbe", func := "loop.example/g00706/laws.FnLines", spec := "fnLines", unfollowed := true, recurses := true, apart := false }
def FnLinesSaid : Prop := fnLinesRow.holds Try.pinned (OpenSpec.ofChange fnLinesSpec)

/-- ITS FALSE NEIGHBOUR: 'it returns false'. Refute it at one input. -/
def fnLinesWrong : ChangeSpec := { name := "fnLines", fn := fun _ => fun
  | [d] => { results := [.lit (.bool false)], args := [d] }
  | _ => none }
def FnLinesWrongFalsely : Prop := fnLinesRow.holds Try.pinned (OpenSpec.ofChange fnLinesWrong)

/-- 'laws.FnExactReadyLine': WHATEVER THE INPUT: true; the input reads as it did. -/
def fnExactReadyLineSpec : ChangeSpec := { name := "fnExactReadyLine", fn := fun _ => fun
  | [d] => { results := [.lit (.bool true)], args := [d] }
  | _ => none }
def fnExactReadyLineRow : OpenClaim := { program := "ytgbckcidmojnoaa", sum := "5149cd6b644060ea19c1ee9db1f0487008d9ed86fa1d34ba5851dcb06694bdbe", func := "loop.example/g00706/laws.FnExactReadyLine", spec := "fnExactReadyLine", unfollowed := true, recurses := true, apart := false }
def FnExactReadyLineSaid : Prop := fnExactReadyLineRow.holds Try.pinned (OpenSpec.ofChange fnExactReadyLineSpec)

/-- ITS FALSE NEIGHBOUR: 'it returns false'. Refute it at one input. -/
def fnExactReadyLineWrong : ChangeSpec := { name := "fnExactReadyLine", fn := fun _ => fun
  | [d] => { results := [.lit (.bool false)], args := [d] }
  | _ => none }
def FnExactReadyLineWrongFalsely : Prop := fnExactReadyLineRow.holds Try.pinned (OpenSpec.ofChange fnExactReadyLineWrong)

/-- 'laws.FnExactFirstReady': WHATEVER THE INPUT: true; the input reads as it did. -/
def fnExactFirstReadySpec : ChangeSpec := { name := "fnExactFirstReady", fn := fun _ => fun
  | [d] => { results := [.lit (.bool true)], args := [d] }
  | _ => none }
def fnExactFirstReadyRow : OpenClaim := { program := "ytgbckcidmojnoaa", sum := "5149cd6b644060ea19c1ee9db1f0487008d9ed86fa1d34ba5851dcb06694bdbe", func := "loop.example/g00706/laws.FnExactFirstReady", spec := "fnExactFirstReady", unfollowed := true, recurses := true, apart := false }
def FnExactFirstReadySaid : Prop := fnExactFirstReadyRow.holds Try.pinned (OpenSpec.ofChange fnExactFirstReadySpec)

/-- ITS FALSE NEIGHBOUR: 'it returns false'. Refute it at one input. -/
def fnExactFirstReadyWrong : ChangeSpec := { name := "fnExactFirstReady", fn := fun _ => fun
  | [d] => { results := [.lit (.bool false)], args := [d] }
  | _ => none }
def FnExactFirstReadyWrongFalsely : Prop := fnExactFirstReadyRow.holds Try.pinned (OpenSpec.ofChange fnExactFirstReadyWrong)

/-- 'laws.FnExactWaitersOn': WHATEVER THE INPUT: true; the input reads as it did. -/
def fnExactWaitersOnSpec : ChangeSpec := { name := "fnExactWaitersOn", fn := fun _ => fun
  | [d1, d2, d3] => { results := [.lit (.bool true)], args := [d1, d2, d3] }
  | _ => none }
def fnExactWaitersOnRow : OpenClaim := { program := "ytgbckcidmojnoaa", sum := "5149cd6b644060ea19c1ee9db1f0487008d9ed86fa1d34ba5851dcb06694bdbe", func := "loop.example/g00706/laws.FnExactWaitersOn", spec := "fnExactWaitersOn", unfollowed := true, recurses := true, apart := false }
def FnExactWaitersOnSaid : Prop := fnExactWaitersOnRow.holds Try.pinned (OpenSpec.ofChange fnExactWaitersOnSpec)

/-- ITS FALSE NEIGHBOUR: 'it returns false'. Refute it at one input. -/
def fnExactWaitersOnWrong : ChangeSpec := { name := "fnExactWaitersOn", fn := fun _ => fun
  | [d1, d2, d3] => { results := [.lit (.bool false)], args := [d1, d2, d3] }
  | _ => none }
def FnExactWaitersOnWrongFalsely : Prop := fnExactWaitersOnRow.holds Try.pinned (OpenSpec.ofChange fnExactWaitersOnWrong)

/-- 'laws.FnExactWoken': WHATEVER THE INPUT: true; the input reads as it did. -/
def fnExactWokenSpec : ChangeSpec := { name := "fnExactWoken", fn := fun _ => fun
  | [d1, d2, d3, d4] => { results := [.lit (.bool true)], args := [d1, d2, d3, d4] }
  | _ => none }
def fnExactWokenRow : OpenClaim := { program := "ytgbckcidmojnoaa", sum := "5149cd6b644060ea19c1ee9db1f0487008d9ed86fa1d34ba5851dcb06694bdbe", func := "loop.example/g00706/laws.FnExactWoken", spec := "fnExactWoken", apart := false }
def FnExactWokenSaid : Prop := fnExactWokenRow.holds Try.pinned (OpenSpec.ofChange fnExactWokenSpec)

/-- ITS FALSE NEIGHBOUR: 'it returns false'. Refute it at one input. -/
def fnExactWokenWrong : ChangeSpec := { name := "fnExactWoken", fn := fun _ => fun
  | [d1, d2, d3, d4] => { results := [.lit (.bool false)], args := [d1, d2, d3, d4] }
  | _ => none }
def FnExactWokenWrongFalsely : Prop := fnExactWokenRow.holds Try.pinned (OpenSpec.ofChange fnExactWokenWrong)

/-- 'laws.FnExactWokenAll': WHATEVER THE INPUT: true; the input reads as it did. -/
def fnExactWokenAllSpec : ChangeSpec := { name := "fnExactWokenAll", fn := fun _ => fun
  | [d1, d2, d3, d4, d5] => { results := [.lit (.bool true)], args := [d1, d2, d3, d4, d5] }
  | _ => none }
def fnExactWokenAllRow : OpenClaim := { program := "ytgbckcidmojnoaa", sum := "5149cd6b644060ea19c1ee9db1f0487008d9ed86fa1d34ba5851dcb06694bdbe", func := "loop.example/g00706/laws.FnExactWokenAll", spec := "fnExactWokenAll", unfollowed := true, recurses := true, apart := false }
def FnExactWokenAllSaid : Prop := fnExactWokenAllRow.holds Try.pinned (OpenSpec.ofChange fnExactWokenAllSpec)

/-- ITS FALSE NEIGHBOUR: 'it returns false'. Refute it at one input. -/
def fnExactWokenAllWrong : ChangeSpec := { name := "fnExactWokenAll", fn := fun _ => fun
  | [d1, d2, d3, d4, d5] => { results := [.lit (.bool false)], args := [d1, d2, d3, d4, d5] }
  | _ => none }
def FnExactWokenAllWrongFalsely : Prop := fnExactWokenAllRow.holds Try.pinned (OpenSpec.ofChange fnExactWokenAllWrong)

/-- 'laws.FnExactParkedBy': WHATEVER THE INPUT: true; the input reads as it did. -/
def fnExactParkedBySpec : ChangeSpec := { name := "fnExactParkedBy", fn := fun _ => fun
  | [d1, d2, d3, d4, d5] => { results := [.lit (.bool true)], args := [d1, d2, d3, d4, d5] }
  | _ => none }
def fnExactParkedByRow : OpenClaim := { program := "ytgbckcidmojnoaa", sum := "5149cd6b644060ea19c1ee9db1f0487008d9ed86fa1d34ba5851dcb06694bdbe", func := "loop.example/g00706/laws.FnExactParkedBy", spec := "fnExactParkedBy", apart := false }
def FnExactParkedBySaid : Prop := fnExactParkedByRow.holds Try.pinned (OpenSpec.ofChange fnExactParkedBySpec)

/-- ITS FALSE NEIGHBOUR: 'it returns false'. Refute it at one input. -/
def fnExactParkedByWrong : ChangeSpec := { name := "fnExactParkedBy", fn := fun _ => fun
  | [d1, d2, d3, d4, d5] => { results := [.lit (.bool false)], args := [d1, d2, d3, d4, d5] }
  | _ => none }
def FnExactParkedByWrongFalsely : Prop := fnExactParkedByRow.holds Try.pinned (OpenSpec.ofChange fnExactParkedByWrong)

/- THE SECOND FORM. 'bulk': how many values and letters a reading holds, each counted each time it is reached (what is shared counts as often as it is met; a slice's spare places count too). A statement '..UptoSaid' is the law's where the arguments, and the package variables that the reading takes, are together of bulk at most 1048576: NARROWER than '..Said'. Prove '..Said' where nothing that the law and all that it calls make is longer than what came in: it says more and counts as full. Else prove '..UptoSaid'. A law counts once. -/
mutual
def uptoBulk {H : Type} : DataW H → Nat
  | .lit (.string bytes) => bytes.length + 1
  | .lit _ => 1
  | .nil => 1
  | .ptr d => uptoBulk d + 1
  | .slice elems spare => uptoBulkAll elems + uptoBulkAll spare + 1
  | .agg parts => uptoBulkAll parts + 1
  | .iface _ d => uptoBulk d + 1
  | .map entries => uptoBulkEntries entries + 1
  | .held _ => 1
def uptoBulkAll {H : Type} : List (DataW H) → Nat
  | [] => 0
  | d :: r => uptoBulk d + uptoBulkAll r
def uptoBulkEntries {H : Type} : List (Lit × DataW H) → Nat
  | [] => 0
  | x :: r => uptoBulkEntry x + uptoBulkEntries r
def uptoBulkEntry {H : Type} : Lit × DataW H → Nat
  | (.string bytes, d) => bytes.length + uptoBulk d + 1
  | (_, d) => uptoBulk d + 1
 end
def uptoSmall : (H : Type) → List (DataW H) → Bool := fun _ ds => decide (uptoBulkAll ds ≤ 1048576)
def OpenSpec.upto (s : _root_.Go.ChangeSpec) : _root_.Go.OpenSpec := { _root_.Go.OpenSpec.ofChange s with cond := some uptoSmall }

/-- 'laws.FnPools', WHERE WHAT IT READS IS OF BULK AT MOST 1048576: true; the input reads as it did. -/
def fnPoolsUptoRow : OpenClaim := { program := "ytgbckcidmojnoaa", sum := "5149cd6b644060ea19c1ee9db1f0487008d9ed86fa1d34ba5851dcb06694bdbe", func := "loop.example/g00706/laws.FnPools", spec := "fnPools", apart := false, narrowed := true }
def FnPoolsUptoSaid : Prop := fnPoolsUptoRow.holds Try.pinned (OpenSpec.upto fnPoolsSpec)

/-- 'laws.FnLines', WHERE WHAT IT READS IS OF BULK AT MOST 1048576: true; the input reads as it did. -/
def fnLinesUptoRow : OpenClaim := { program := "ytgbckcidmojnoaa", sum := "5149cd6b644060ea19c1ee9db1f0487008d9ed86fa1d34ba5851dcb06694bdbe", func := "loop.example/g00706/laws.FnLines", spec := "fnLines", unfollowed := true, recurses := true, apart := false, narrowed := true }
def FnLinesUptoSaid : Prop := fnLinesUptoRow.holds Try.pinned (OpenSpec.upto fnLinesSpec)

/-- 'laws.FnExactReadyLine', WHERE WHAT IT READS IS OF BULK AT MOST 1048576: true; the input reads as it did. -/
def fnExactReadyLineUptoRow : OpenClaim := { program := "ytgbckcidmojnoaa", sum := "5149cd6b644060ea19c1ee9db1f0487008d9ed86fa1d34ba5851dcb06694bdbe", func := "loop.example/g00706/laws.FnExactReadyLine", spec := "fnExactReadyLine", unfollowed := true, recurses := true, apart := false, narrowed := true }
def FnExactReadyLineUptoSaid : Prop := fnExactReadyLineUptoRow.holds Try.pinned (OpenSpec.upto fnExactReadyLineSpec)

/-- 'laws.FnExactFirstReady', WHERE WHAT IT READS IS OF BULK AT MOST 1048576: true; the input reads as it did. -/
def fnExactFirstReadyUptoRow : OpenClaim := { program := "ytgbckcidmojnoaa", sum := "5149cd6b644060ea19c1ee9db1f0487008d9ed86fa1d34ba5851dcb06694bdbe", func := "loop.example/g00706/laws.FnExactFirstReady", spec := "fnExactFirstReady", unfollowed := true, recurses := true, apart := false, narrowed := true }
def FnExactFirstReadyUptoSaid : Prop := fnExactFirstReadyUptoRow.holds Try.pinned (OpenSpec.upto fnExactFirstReadySpec)

/-- 'laws.FnExactWaitersOn', WHERE WHAT IT READS IS OF BULK AT MOST 1048576: true; the input reads as it did. -/
def fnExactWaitersOnUptoRow : OpenClaim := { program := "ytgbckcidmojnoaa", sum := "5149cd6b644060ea19c1ee9db1f0487008d9ed86fa1d34ba5851dcb06694bdbe", func := "loop.example/g00706/laws.FnExactWaitersOn", spec := "fnExactWaitersOn", unfollowed := true, recurses := true, apart := false, narrowed := true }
def FnExactWaitersOnUptoSaid : Prop := fnExactWaitersOnUptoRow.holds Try.pinned (OpenSpec.upto fnExactWaitersOnSpec)

/-- 'laws.FnExactWoken', WHERE WHAT IT READS IS OF BULK AT MOST 1048576: true; the input reads as it did. -/
def fnExactWokenUptoRow : OpenClaim := { program := "ytgbckcidmojnoaa", sum := "5149cd6b644060ea19c1ee9db1f0487008d9ed86fa1d34ba5851dcb06694bdbe", func := "loop.example/g00706/laws.FnExactWoken", spec := "fnExactWoken", apart := false, narrowed := true }
def FnExactWokenUptoSaid : Prop := fnExactWokenUptoRow.holds Try.pinned (OpenSpec.upto fnExactWokenSpec)

/-- 'laws.FnExactWokenAll', WHERE WHAT IT READS IS OF BULK AT MOST 1048576: true; the input reads as it did. -/
def fnExactWokenAllUptoRow : OpenClaim := { program := "ytgbckcidmojnoaa", sum := "5149cd6b644060ea19c1ee9db1f0487008d9ed86fa1d34ba5851dcb06694bdbe", func := "loop.example/g00706/laws.FnExactWokenAll", spec := "fnExactWokenAll", unfollowed := true, recurses := true, apart := false, narrowed := true }
def FnExactWokenAllUptoSaid : Prop := fnExactWokenAllUptoRow.holds Try.pinned (OpenSpec.upto fnExactWokenAllSpec)

/-- 'laws.FnExactParkedBy', WHERE WHAT IT READS IS OF BULK AT MOST 1048576: true; the input reads as it did. -/
def fnExactParkedByUptoRow : OpenClaim := { program := "ytgbckcidmojnoaa", sum := "5149cd6b644060ea19c1ee9db1f0487008d9ed86fa1d34ba5851dcb06694bdbe", func := "loop.example/g00706/laws.FnExactParkedBy", spec := "fnExactParkedBy", apart := false, narrowed := true }
def FnExactParkedByUptoSaid : Prop := fnExactParkedByUptoRow.holds Try.pinned (OpenSpec.upto fnExactParkedBySpec)

end Rows
end Go.Proofs.Ytgbckcidmojnoaa
