/- The program's Woken and ParkedBy, way by way. Lists no longer than a million. -/
import Derived.Test.YtgncjcnobojgbaaGWake
import Derived.Test.YtgncjcnobojgbaaSWoken
import Derived.Test.YtgncjcnobojgbaaB3
namespace Go.Proofs.Ytgncjcnobojgbaa
open Go.RowKit
set_option linter.unusedVariables false

theorem pright_v (a b c d e : Int) (ts : List T7) (ks : List Int) (fs : List F2) (A0 A1 A2 : Option Addr) (c0 c1 c2 : Nat) (tn : Int) (st : Bool) (g : Nat) (z : Bool) (hz : poolB a b c d e ts ks fs tn = z) (w : World) (hk : ks.length ≤ 1048576) (hf : fs.length ≤ 1048576) (hg : Blk w g 34 #[.slice A0 ts.length c0, .slice A1 ks.length c1, .slice A2 fs.length c2, .int .i64 tn, .bool st]) (h : InPool w ts ks fs A0 A1 A2) :
    Calls Try.prog 57 #[.pointer (some ⟨g, 0, none⟩), .agg #[.int .i64 a, .int .i64 b, .int .i64 c, .int .i64 d, .int .i64 e]] w fun r w' => r = .returned (.bool z) ∧ Below w.heap.size w w' := hz ▸ pright_any a b c d e ts ks fs A0 A1 A2 c0 c1 c2 tn st g w hk hf hg h
theorem copied_s (ts : List T7) (ks : List Int) (fs : List F2) (A0 A1 A2 : Option Addr) (c0 c1 c2 : Nat) (tn : Int) (st : Bool) (g : Nat) (w : World) (l0 : ts.length ≤ 1048576) (l1 : ks.length ≤ 1048576) (l2 : fs.length ≤ 1048576) (hg : Blk w g 34 #[.slice A0 ts.length c0, .slice A1 ks.length c1, .slice A2 fs.length c2, .int .i64 tn, .bool st]) (h : InPool w ts ks fs A0 A1 A2) :
    Calls Try.prog 49 #[.pointer (some ⟨g, 0, none⟩)] w fun r w' => ∃ (B0 B1 B2 : Option Addr) (d0 d1 d2 : Nat), r = .returned (.agg #[.slice B0 ts.length d0, .slice B1 ks.length d1, .slice B2 fs.length d2, .int .i64 tn, .bool st]) ∧ Sep [] w w' [rT ts.length B0 d0 ts, rK ks.length B1 d1 ks, rF fs.length B2 d2 fs] :=
  (copied_any ts ks fs A0 A1 A2 c0 c1 c2 tn st g w l0 l1 l2 hg h).mono fun r w' ⟨B0, B1, B2, d0, d1, d2, hr, ho, hb⟩ => ⟨B0, B1, B2, d0, d1, d2, hr, sepPool (Nat.le_refl _) hb ho⟩

end Go.Proofs.Ytgncjcnobojgbaa
