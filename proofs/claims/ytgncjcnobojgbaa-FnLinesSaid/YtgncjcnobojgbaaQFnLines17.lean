/- Blocks made at a call's entry, by the equation that names the world. No condition. -/
import Derived.Test.YtgncjcnobojgbaaQFnLines15
import Derived.Test.YtgncjcnobojgbaaQFnLines16
import Derived.Test.YtgncjcnobojgbaaQFnLines05

namespace Go.Proofs.Ytgncjcnobojgbaa
open Go.RowKit
set_option linter.unusedVariables false

theorem sRunBy_v (ts : List T7) (A0 A1 A2 : Option Addr) (c0 n1 c1 n2 c2 : Nat) (tn : Int) (st : Bool) (wk z : Int) (hz : runM ts wk 0 = z) (w : World) (hlen : ts.length ≤ 1048576) (h0 : Row w A0 (tcells ts)) :
    Calls Try.prog 18 #[.agg #[.slice A0 ts.length c0, .slice A1 n1 c1, .slice A2 n2 c2, .int .i64 tn, .bool st], .int .i64 wk] w fun r w' => r = .returned (.int .i64 z) ∧ Below w.heap.size w w' := hz ▸ sRunBy_any ts A0 A1 A2 c0 n1 c1 n2 c2 tn st wk w hlen h0
theorem firstReady_v (ts : List T7) (A0 A1 A2 : Option Addr) (c0 n1 c1 n2 c2 : Nat) (tn : Int) (st : Bool) (z : Int) (hz : firstM ts = z) (w : World) (hlen : ts.length ≤ 1048576) (h : Row w A0 (tcells ts)) :
    Calls Try.prog 97 #[.agg #[.slice A0 ts.length c0, .slice A1 n1 c1, .slice A2 n2 c2, .int .i64 tn, .bool st]] w fun r w' => r = .returned (.int .i64 z) ∧ Below w.heap.size w w' := hz ▸ firstReady_any ts A0 A1 A2 c0 n1 c1 n2 c2 tn st w hlen h
end Go.Proofs.Ytgncjcnobojgbaa

namespace Go.Proofs.Ytgncjcnobojgbaa
open Go.RowKit
set_option linter.unusedVariables false

theorem Sep.e1 {w W : World} {o1 : Array Value} {t1 : TypeId} (h : w.alloc (.cells o1 t1) = W) : Sep [] w W [.blk w.heap.size t1 o1] := h ▸ (Sep.start w).alloc t1 o1 w.heap.size rfl
theorem Sep.e2 {w W : World} {o1 o2 : Array Value} {t1 t2 : TypeId} (h : (w.alloc (.cells o1 t1)).alloc (.cells o2 t2) = W) : Sep [] w W [.blk (w.heap.size + 1) t2 o2, .blk w.heap.size t1 o1] := h ▸ Sep.enter2 w
theorem Sep.e3 {w W : World} {o1 o2 o3 : Array Value} {t1 t2 t3 : TypeId} (h : ((w.alloc (.cells o1 t1)).alloc (.cells o2 t2)).alloc (.cells o3 t3) = W) : Sep [] w W [.blk (w.heap.size + 2) t3 o3, .blk (w.heap.size + 1) t2 o2, .blk w.heap.size t1 o1] := h ▸ Sep.enter3 w
theorem Sep.e4 {w W : World} {o1 o2 o3 o4 : Array Value} {t1 t2 t3 t4 : TypeId} (h : (((w.alloc (.cells o1 t1)).alloc (.cells o2 t2)).alloc (.cells o3 t3)).alloc (.cells o4 t4) = W) : Sep [] w W [.blk (w.heap.size + 3) t4 o4, .blk (w.heap.size + 2) t3 o3, .blk (w.heap.size + 1) t2 o2, .blk w.heap.size t1 o1] := h ▸ Sep.enter4 w
theorem Sep.e5 {w W : World} {o1 o2 o3 o4 o5 : Array Value} {t1 t2 t3 t4 t5 : TypeId} (h : ((((w.alloc (.cells o1 t1)).alloc (.cells o2 t2)).alloc (.cells o3 t3)).alloc (.cells o4 t4)).alloc (.cells o5 t5) = W) : Sep [] w W [.blk (w.heap.size + 4) t5 o5, .blk (w.heap.size + 3) t4 o4, .blk (w.heap.size + 2) t3 o3, .blk (w.heap.size + 1) t2 o2, .blk w.heap.size t1 o1] := h ▸ Sep.enter5 w
end Go.Proofs.Ytgncjcnobojgbaa
