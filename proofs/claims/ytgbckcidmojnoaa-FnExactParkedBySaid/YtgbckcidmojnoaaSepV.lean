/- Contracts of the model whose answers are told by a number. Lists no longer than a million. -/
import Derived.Test.YtgbckcidmojnoaaSepS
import Derived.Test.YtgbckcidmojnoaaSLeveled
namespace Go.Proofs.Ytgbckcidmojnoaa
open Go.RowKit
set_option linter.unusedVariables false

theorem sRunBy_v (ts : List T7) (A0 A1 A2 : Option Addr) (c0 n1 c1 n2 c2 : Nat) (tn : Int) (st : Bool) (wk z : Int) (hz : runM ts wk 0 = z) (w : World) (hlen : ts.length ≤ 1048576) (h0 : Row w A0 (tcells ts)) :
    Calls Try.prog 19 #[.agg #[.slice A0 ts.length c0, .slice A1 n1 c1, .slice A2 n2 c2, .int .i64 tn, .bool st], .int .i64 wk] w fun r w' => r = .returned (.int .i64 z) ∧ Below w.heap.size w w' := hz ▸ sRunBy_any ts A0 A1 A2 c0 n1 c1 n2 c2 tn st wk w hlen h0
theorem firstReady_v (ts : List T7) (A0 A1 A2 : Option Addr) (c0 n1 c1 n2 c2 : Nat) (tn : Int) (st : Bool) (z : Int) (hz : firstM ts = z) (w : World) (hlen : ts.length ≤ 1048576) (h : Row w A0 (tcells ts)) :
    Calls Try.prog 38 #[.agg #[.slice A0 ts.length c0, .slice A1 n1 c1, .slice A2 n2 c2, .int .i64 tn, .bool st]] w fun r w' => r = .returned (.int .i64 z) ∧ Below w.heap.size w w' := hz ▸ firstReady_any ts A0 A1 A2 c0 n1 c1 n2 c2 tn st w hlen h
end Go.Proofs.Ytgbckcidmojnoaa
