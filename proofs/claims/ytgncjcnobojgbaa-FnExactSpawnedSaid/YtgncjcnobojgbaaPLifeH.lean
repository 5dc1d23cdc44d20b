/- Helpers of the program's lives: a turn or RpFull, whom a worker runs or RpNone, an answer. Lists no longer than a million. -/
import Derived.Test.YtgncjcnobojgbaaPLife
import Derived.Test.YtgncjcnobojgbaaWakeR
import Derived.Test.YtgncjcnobojgbaaB3
namespace Go.Proofs.Ytgncjcnobojgbaa
open Go.RowKit
set_option linter.unusedVariables false

set_option maxRecDepth 100000 in
set_option maxHeartbeats 400000 in
theorem turn_ok (A0 A1 A2 : Option Addr) (n0 c0 n1 c1 n2 c2 : Nat) (tn : Int) (st : Bool) (g : Nat) (w : World) (t0 : 0 ≤ tn) (t1 : tn < 1000000) (hg : Blk w g 34 #[.slice A0 n0 c0, .slice A1 n1 c1, .slice A2 n2 c2, .int .i64 tn, .bool st]) :
    Calls Try.prog 135 #[.pointer (some ⟨g, 0, none⟩)] w fun r w' => r = .returned (.int .i64 tn) ∧ w' = w.setCell ⟨g, 3, none⟩ (.int .i64 (tn + 1)) := by
  have q3 : w.cell? ⟨g, 3, none⟩ = some (.int .i64 tn) := hg.cell 3
  have f3 : w.frozen? ⟨g, 3, none⟩ = false := hg.frozen 3
  clear hg
  go_enter Try.func135, Try.ntmps135
  go_wp2_with fail
  rw [show decide ((1000000 : Int) ≤ tn) = false from decide_eq_false (by omega)]
  go_call (giveUp_no 4 _) as r W ⟨rfl, rfl⟩
  go_wp2
  go_ret
  exact ⟨rfl, rfl⟩

set_option maxRecDepth 100000 in
set_option maxHeartbeats 400000 in
theorem turn_full (A0 A1 A2 : Option Addr) (n0 c0 n1 c1 n2 c2 : Nat) (tn : Int) (st : Bool) (g : Nat) (w : World) (t1 : ¬ tn < 1000000) (hg : Blk w g 34 #[.slice A0 n0 c0, .slice A1 n1 c1, .slice A2 n2 c2, .int .i64 tn, .bool st]) :
    Calls Try.prog 135 #[.pointer (some ⟨g, 0, none⟩)] w fun r w' => r = .panicked [{ v := .iface 148 (.int .i64 4), recovered := false }] ∧ w' = w := by
  have q3 : w.cell? ⟨g, 3, none⟩ = some (.int .i64 tn) := hg.cell 3
  clear hg
  go_enter Try.func135, Try.ntmps135
  go_wp2_with fail
  go_call (giveUp_yes 4 _) as r W ⟨rfl, rfl⟩
  go_wp2_with fail
  exact ⟨rfl, rfl, rfl⟩

set_option maxRecDepth 100000 in
set_option maxHeartbeats 400000 in
theorem runNone_no (ts : List T7) (A0 A1 A2 : Option Addr) (c0 n1 c1 n2 c2 : Nat) (tn : Int) (st : Bool) (wk : Int) (g : Nat) (w : World) (hlen : ts.length ≤ 1048576) (hg : Blk w g 34 #[.slice A0 ts.length c0, .slice A1 n1 c1, .slice A2 n2 c2, .int .i64 tn, .bool st]) (h0 : Row w A0 (tcells ts)) (hr : runM ts wk 0 = -1) :
    Calls Try.prog 137 #[.pointer (some ⟨g, 0, none⟩), .int .i64 wk] w fun r w' => r = .panicked [{ v := .iface 148 (.int .i64 2), recovered := false }] ∧ Below w.heap.size w w' := by
  have hR := hide (runBy_any ts A0 A1 A2 c0 n1 c1 n2 c2 tn st wk g w hlen hg h0)
  rw [hr] at hR
  clear hg h0 hr
  go_enter Try.func137, Try.ntmps137
  go_wp2_with fail
  refine Calls.mono (by with_reducible exact hR.out) ?_
  rintro r W ⟨rfl, g1⟩
  go_wp2_with fail
  go_call (giveUp_yes 2 _) as r W ⟨rfl, rfl⟩
  go_wp2_with fail
  exact ⟨rfl, rfl, g1⟩

set_option maxRecDepth 100000 in
set_option maxHeartbeats 400000 in
theorem runNone_ok (ts : List T7) (A0 A1 A2 : Option Addr) (c0 n1 c1 n2 c2 : Nat) (tn : Int) (st : Bool) (wk : Int) (g : Nat) (me : Int) (w : World) (hlen : ts.length ≤ 1048576) (hg : Blk w g 34 #[.slice A0 ts.length c0, .slice A1 n1 c1, .slice A2 n2 c2, .int .i64 tn, .bool st]) (h0 : Row w A0 (tcells ts)) (hr : runM ts wk 0 = me) (hm : 0 ≤ me) :
    Calls Try.prog 137 #[.pointer (some ⟨g, 0, none⟩), .int .i64 wk] w fun r w' => r = .returned (.int .i64 me) ∧ Below w.heap.size w w' := by
  have hR := hide (runBy_any ts A0 A1 A2 c0 n1 c1 n2 c2 tn st wk g w hlen hg h0)
  rw [hr] at hR
  have hne : (me == -1) = false := by rw [beq_eq_false_iff_ne]; omega
  clear hg h0 hr hm
  go_enter Try.func137, Try.ntmps137
  go_wp2_with fail
  refine Calls.mono (by with_reducible exact hR.out) ?_
  rintro r W ⟨rfl, g1⟩
  go_wp2_with fail
  go_call (giveUp_no 2 _) as r W ⟨rfl, rfl⟩
  go_wp2_with fail
  go_ret
  exact ⟨rfl, g1⟩

set_option maxRecDepth 100000 in
set_option maxHeartbeats 400000 in
theorem okWith_any (o : Int) (w : World) :
    Calls Try.prog 136 #[.int .i64 o] w fun r w' => r = .returned (.agg #[.int .i64 1, .int .i64 o]) ∧ Below w.heap.size w w' := by
  go_enter Try.func136, Try.ntmps136
  go_wp2
  exact bodyPost_ret (v := .agg #[.int .i64 1, .int .i64 o]) (by simp [results, Try.results136, go_sem]) rfl ⟨rfl, by go_grown⟩
theorem runM_low (ts : List T7) (wk i : Int) : runM ts wk i = -1 ∨ i ≤ runM ts wk i := by
  induction ts generalizing i with
  | nil => exact .inl rfl
  | cons t r ih =>
    simp only [runM]
    split
    · exact .inr (Int.le_refl _)
    · exact (ih (i + 1)).imp id (fun h => by omega)
theorem runM_none {ts : List T7} {wk : Int} (h : runM ts wk 0 < 0) : runM ts wk 0 = -1 :=
  (runM_low ts wk 0).elim id (fun h1 => by omega)
end Go.Proofs.Ytgncjcnobojgbaa
