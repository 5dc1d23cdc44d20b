/- The program's line: Len, Less. The list of places no longer than a million. -/
import Derived.Test.YtgncjcnobojgbaaPLine
namespace Go.Proofs.Ytgncjcnobojgbaa
open Go.RowKit
set_option linter.unusedVariables false

/-- Place k behind a slice that is not empty: where it lies, and its three cells. -/
theorem Row.ps_at {w : World} {A : Option Addr} {ps : List P3} (h : Row w A (pcells ps)) {k : Nat} (hk : k < ps.length) : ∃ (b off : Nat), A = some ⟨b, off, none⟩ ∧ b < w.heap.size ∧
    w.cell? ⟨b, off + k * 3, none⟩ = some (.int .i64 ps[k].l) ∧ w.cell? ⟨b, off + k * 3 + 1, none⟩ = some (.int .i64 ps[k].t) ∧ w.cell? ⟨b, off + k * 3 + 2, none⟩ = some (.int .i64 ps[k].i) := by
  obtain ⟨b, off, e, hc⟩ := h (by rw [pcells_length]; omega)
  have h0 : w.cell? ⟨b, off + k * 3, none⟩ = some (.int .i64 ps[k].l) := hc (k * 3 + 0) _ ((pcells_get ps k hk 0 (by omega)).trans rfl)
  exact ⟨b, off, e, World.block_lt_of_cell? w _ h0, h0, hc (k * 3 + 1) _ ((pcells_get ps k hk 1 (by omega)).trans rfl), hc (k * 3 + 2) _ ((pcells_get ps k hk 2 (by omega)).trans rfl)⟩

set_option maxHeartbeats 1000000 in
theorem len_any (A : Option Addr) (n c : Nat) (w : World) :
    Calls Try.prog 117 #[.slice A n c] w fun r w' => r = .returned (.int .i64 n) ∧ w = w' := by
  go_enter Try.func117, Try.ntmps117
  go_wp2
  go_ret
  exact ⟨rfl, rfl⟩

set_option maxRecDepth 100000 in
set_option maxHeartbeats 4000000 in
theorem less_any (ps : List P3) (A : Option Addr) (c i j : Nat) (hi : i < ps.length) (hj : j < ps.length) (hl : ps.length ≤ 1048576) (w : World) (h : Row w A (pcells ps)) :
    Calls Try.prog 189 #[.slice A ps.length c, .int .i64 i, .int .i64 j] w fun r w' => r = .returned (.bool (aheadP ps[i] ps[j])) ∧ Below w.heap.size w w' := by
  obtain ⟨b, off, rfl, hb, z0, z1, z2⟩ := h.ps_at hi
  obtain ⟨b', off', e, hb', y0, y1, y2⟩ := h.ps_at hj
  injection e with e
  injection e with e1 e2
  subst e1 e2
  have hA : aheadP ps[i] ps[j] = aheadP ⟨ps[i].l, ps[i].t, ps[i].i⟩ ⟨ps[j].l, ps[j].t, ps[j].i⟩ := rfl
  rw [hA]
  clear hA h hb'
  have hi1 : (i : Int) < (ps.length : Int) := by omega
  have hj1 : (j : Int) < (ps.length : Int) := by omega
  have hi0 : (0 : Int) ≤ (i : Int) := by omega
  have hj0 : (0 : Int) ≤ (j : Int) := by omega
  generalize ps[i].l = l1 at *
  generalize ps[i].t = t1 at *
  generalize ps[i].i = i1 at *
  generalize ps[j].l = l2 at *
  generalize ps[j].t = t2 at *
  generalize ps[j].i = i2 at *
  go_enter Try.func189, Try.ntmps189
  go_wp2_with fail
  have c0 := KeptW.cell (W0 := w) z0
  have c1 := KeptW.cell (W0 := w) z1
  have c2 := KeptW.cell (W0 := w) z2
  have c3 := KeptW.cell (W0 := w) y0
  have c4 := KeptW.cell (W0 := w) y1
  have c5 := KeptW.cell (W0 := w) y2
  refine region_kept (W0 := w) (x := KeptW.mk' (Below.refl w.heap.size w)) (by kernel_rfl) (by kernel_rfl) ?_
  repeat (go_big_quiet_step (first | (go_at_call 193; with_reducible exact (kept_call (ahead_any l1 t1 i1 l2 t2 i2 _)))))
  refine wpQuiet_nil ?_
  rintro _ ⟨x, rfl⟩
  go_wp2
  go_ret
  exact ⟨rfl, x.below⟩
end Go.Proofs.Ytgncjcnobojgbaa
