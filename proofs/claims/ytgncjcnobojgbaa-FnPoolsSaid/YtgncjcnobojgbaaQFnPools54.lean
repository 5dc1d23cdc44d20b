/- The drawn plan and pool of chapter 3's law of right pools. No condition. -/
import Derived.Test.YtgncjcnobojgbaaQFnPools53
import Derived.Test.YtgncjcnobojgbaaQFnPools51

namespace Go.Proofs.Ytgncjcnobojgbaa
open Go.RowKit
set_option linter.unusedVariables false

def EmptyPtr (w : World) (d e : Nat) (r : Ending) (w' : World) : Prop :=
  ∃ (g : Nat) (A1 A2 : Option Addr), r = .returned (.pointer (some ⟨g, 0, none⟩)) ∧ Blk w' g 34 #[.slice none 0 0, .slice A1 (List.replicate d (0 : Int)).length d, .slice A2 (List.replicate e (⟨false, 0⟩ : F2)).length e, .int .i64 1, .bool false] ∧ OwnPool w' w.heap.size w'.heap.size [] (List.replicate d 0) (List.replicate e ⟨false, 0⟩) none A1 A2 0 d e ∧ Below w.heap.size w w'

set_option maxRecDepth 100000 in
set_option maxHeartbeats 4000000 in
theorem emptyPool_any (a b c : Int) (d e : Nat) (w : World) (hd : d ≤ 4) (he : e ≤ 4) :
    Calls Try.prog 48 #[.agg #[.int .i64 a, .int .i64 b, .int .i64 c, .int .i64 d, .int .i64 e]] w (EmptyPtr w d e) := by
  obtain ⟨i0, hi, hz0, hz1, hz2⟩ := info_parts infoInt
  obtain ⟨i1, gi, gz0, gz1, gz2⟩ := info_parts infoFut
  have m0 := fun w => run_make (P := Try.prog) w 31 2 i0 (.int .i64 0) Try.underlying31 hi hz0 .i64 .i64 d d (by omega) (by omega) (by rw [hz2]; omega) (by omega)
  have m1 := fun w => run_make (P := Try.prog) w 32 90 i1 (.agg #[.bool false, .int .i64 0]) Try.underlying32 gi gz0 .i64 .i64 e e (by omega) (by omega) (by rw [gz2]; omega) (by omega)
  rw [hz1] at m0
  rw [gz1] at m1
  simp only [Int.toNat_natCast] at m0 m1
  go_enter Try.func48, Try.ntmps48
  go_wp2_with fail
  have G := Below.refl w.heap.size w
  have kP := Blk.new w 28 #[.int .i64 a, .int .i64 b, .int .i64 c, .int .i64 d, .int .i64 e]
  have hbs := G.size
  replace G := G.alloc (by omega) (.cells #[.int .i64 a, .int .i64 b, .int .i64 c, .int .i64 d, .int .i64 e] 28)
  have z1 : (w.alloc (.cells #[.int .i64 a, .int .i64 b, .int .i64 c, .int .i64 d, .int .i64 e] 28)).heap.size = w.heap.size + 1 := by simp
  clear hbs
  generalize w.alloc (.cells #[.int .i64 a, .int .i64 b, .int .i64 c, .int .i64 d, .int .i64 e] 28) = W1 at kP G z1 ⊢
  obtain ⟨tP, qP0, qP1, qP2, qP3, qP4⟩ := kP.q5
  have tP1 : w.heap.size < W1.heap.size + 1 := by omega
  have HZ := hide z1
  clear z1
  go_region
  all_goals go_wp2
  · have z1 := HZ.out
    clear tP qP0 qP1 qP2 qP3 qP4
    have kI : Blk (W1.alloc (.cells (madeCells #[.int .i64 0] d) 2)) (W1.heap.size) 2 (madeCells #[.int .i64 0] d) := by
      have h := Blk.new W1 2 (madeCells #[.int .i64 0] d)
      rw [show W1.heap.size = W1.heap.size by omega] at h
      exact h
    replace kP := kP.alloc (.cells (madeCells #[.int .i64 0] d) 2)
    have hbs := G.size
    replace G := G.alloc (by omega) (.cells (madeCells #[.int .i64 0] d) 2)
    have z2 : (W1.alloc (.cells (madeCells #[.int .i64 0] d) 2)).heap.size = W1.heap.size + 1 := by simp
    clear hbs
    generalize W1.alloc (.cells (madeCells #[.int .i64 0] d) 2) = W2 at kP kI G z2 ⊢
    have kF : Blk (W2.alloc (.cells (madeCells #[.bool false, .int .i64 0] (e * 2)) 90)) (W1.heap.size + 1) 90 (madeCells #[.bool false, .int .i64 0] (e * 2)) := by
      have h := Blk.new W2 90 (madeCells #[.bool false, .int .i64 0] (e * 2))
      rw [show W2.heap.size = W1.heap.size + 1 by omega] at h
      exact h
    replace kP := kP.alloc (.cells (madeCells #[.bool false, .int .i64 0] (e * 2)) 90)
    replace kI := kI.alloc (.cells (madeCells #[.bool false, .int .i64 0] (e * 2)) 90)
    have hbs := G.size
    replace G := G.alloc (by omega) (.cells (madeCells #[.bool false, .int .i64 0] (e * 2)) 90)
    have z3 : (W2.alloc (.cells (madeCells #[.bool false, .int .i64 0] (e * 2)) 90)).heap.size = W2.heap.size + 1 := by simp
    clear hbs
    generalize W2.alloc (.cells (madeCells #[.bool false, .int .i64 0] (e * 2)) 90) = W3 at kP kI kF G z3 ⊢
    have kX : Blk (W3.alloc (.cells #[.slice none 0 0, .slice (some ⟨W1.heap.size, 0, none⟩) d d, .slice (some ⟨W1.heap.size + 1, 0, none⟩) e e, .int .i64 1, .bool false] 34)) (W1.heap.size + 2) 34 #[.slice none 0 0, .slice (some ⟨W1.heap.size, 0, none⟩) d d, .slice (some ⟨W1.heap.size + 1, 0, none⟩) e e, .int .i64 1, .bool false] := by
      have h := Blk.new W3 34 #[.slice none 0 0, .slice (some ⟨W1.heap.size, 0, none⟩) d d, .slice (some ⟨W1.heap.size + 1, 0, none⟩) e e, .int .i64 1, .bool false]
      rw [show W3.heap.size = W1.heap.size + 2 by omega] at h
      exact h
    replace kP := kP.alloc (.cells #[.slice none 0 0, .slice (some ⟨W1.heap.size, 0, none⟩) d d, .slice (some ⟨W1.heap.size + 1, 0, none⟩) e e, .int .i64 1, .bool false] 34)
    replace kI := kI.alloc (.cells #[.slice none 0 0, .slice (some ⟨W1.heap.size, 0, none⟩) d d, .slice (some ⟨W1.heap.size + 1, 0, none⟩) e e, .int .i64 1, .bool false] 34)
    replace kF := kF.alloc (.cells #[.slice none 0 0, .slice (some ⟨W1.heap.size, 0, none⟩) d d, .slice (some ⟨W1.heap.size + 1, 0, none⟩) e e, .int .i64 1, .bool false] 34)
    have hbs := G.size
    replace G := G.alloc (by omega) (.cells #[.slice none 0 0, .slice (some ⟨W1.heap.size, 0, none⟩) d d, .slice (some ⟨W1.heap.size + 1, 0, none⟩) e e, .int .i64 1, .bool false] 34)
    have z4 : (W3.alloc (.cells #[.slice none 0 0, .slice (some ⟨W1.heap.size, 0, none⟩) d d, .slice (some ⟨W1.heap.size + 1, 0, none⟩) e e, .int .i64 1, .bool false] 34)).heap.size = W3.heap.size + 1 := by simp
    clear hbs
    generalize W3.alloc (.cells #[.slice none 0 0, .slice (some ⟨W1.heap.size, 0, none⟩) d d, .slice (some ⟨W1.heap.size + 1, 0, none⟩) e e, .int .i64 1, .bool false] 34) = W4 at kP kI kF kX G z4 ⊢
    replace kP := kP.drew
    replace kI := kI.drew
    replace kF := kF.drew
    replace kX := kX.drew
    replace G := G.drew
    have z5 : (W4.drew).heap.size = W4.heap.size := rfl
    generalize W4.drew = W5 at kP kI kF kX G z5 ⊢
    go_ret
    refine ⟨W1.heap.size + 2, some ⟨W1.heap.size, 0, none⟩, some ⟨W1.heap.size + 1, 0, none⟩, by simp, by simpa using kX, ⟨OwnR.nil_ _ _ _ _ _, madeI d _ _ _ (by omega) (by omega) kI, madeF e _ _ _ (by omega) (by omega) kF⟩, G⟩
  · have z1 := HZ.out
    clear tP qP0 qP1 qP2 qP3 qP4
    have kF : Blk (W1.alloc (.cells (madeCells #[.bool false, .int .i64 0] (e * 2)) 90)) (W1.heap.size) 90 (madeCells #[.bool false, .int .i64 0] (e * 2)) := by
      have h := Blk.new W1 90 (madeCells #[.bool false, .int .i64 0] (e * 2))
      rw [show W1.heap.size = W1.heap.size by omega] at h
      exact h
    replace kP := kP.alloc (.cells (madeCells #[.bool false, .int .i64 0] (e * 2)) 90)
    have hbs := G.size
    replace G := G.alloc (by omega) (.cells (madeCells #[.bool false, .int .i64 0] (e * 2)) 90)
    have z2 : (W1.alloc (.cells (madeCells #[.bool false, .int .i64 0] (e * 2)) 90)).heap.size = W1.heap.size + 1 := by simp
    clear hbs
    generalize W1.alloc (.cells (madeCells #[.bool false, .int .i64 0] (e * 2)) 90) = W2 at kP kF G z2 ⊢
    have kI : Blk (W2.alloc (.cells (madeCells #[.int .i64 0] d) 2)) (W1.heap.size + 1) 2 (madeCells #[.int .i64 0] d) := by
      have h := Blk.new W2 2 (madeCells #[.int .i64 0] d)
      rw [show W2.heap.size = W1.heap.size + 1 by omega] at h
      exact h
    replace kP := kP.alloc (.cells (madeCells #[.int .i64 0] d) 2)
    replace kF := kF.alloc (.cells (madeCells #[.int .i64 0] d) 2)
    have hbs := G.size
    replace G := G.alloc (by omega) (.cells (madeCells #[.int .i64 0] d) 2)
    have z3 : (W2.alloc (.cells (madeCells #[.int .i64 0] d) 2)).heap.size = W2.heap.size + 1 := by simp
    clear hbs
    generalize W2.alloc (.cells (madeCells #[.int .i64 0] d) 2) = W3 at kP kF kI G z3 ⊢
    have kX : Blk (W3.alloc (.cells #[.slice none 0 0, .slice (some ⟨W1.heap.size + 1, 0, none⟩) d d, .slice (some ⟨W1.heap.size, 0, none⟩) e e, .int .i64 1, .bool false] 34)) (W1.heap.size + 2) 34 #[.slice none 0 0, .slice (some ⟨W1.heap.size + 1, 0, none⟩) d d, .slice (some ⟨W1.heap.size, 0, none⟩) e e, .int .i64 1, .bool false] := by
      have h := Blk.new W3 34 #[.slice none 0 0, .slice (some ⟨W1.heap.size + 1, 0, none⟩) d d, .slice (some ⟨W1.heap.size, 0, none⟩) e e, .int .i64 1, .bool false]
      rw [show W3.heap.size = W1.heap.size + 2 by omega] at h
      exact h
    replace kP := kP.alloc (.cells #[.slice none 0 0, .slice (some ⟨W1.heap.size + 1, 0, none⟩) d d, .slice (some ⟨W1.heap.size, 0, none⟩) e e, .int .i64 1, .bool false] 34)
    replace kF := kF.alloc (.cells #[.slice none 0 0, .slice (some ⟨W1.heap.size + 1, 0, none⟩) d d, .slice (some ⟨W1.heap.size, 0, none⟩) e e, .int .i64 1, .bool false] 34)
    replace kI := kI.alloc (.cells #[.slice none 0 0, .slice (some ⟨W1.heap.size + 1, 0, none⟩) d d, .slice (some ⟨W1.heap.size, 0, none⟩) e e, .int .i64 1, .bool false] 34)
    have hbs := G.size
    replace G := G.alloc (by omega) (.cells #[.slice none 0 0, .slice (some ⟨W1.heap.size + 1, 0, none⟩) d d, .slice (some ⟨W1.heap.size, 0, none⟩) e e, .int .i64 1, .bool false] 34)
    have z4 : (W3.alloc (.cells #[.slice none 0 0, .slice (some ⟨W1.heap.size + 1, 0, none⟩) d d, .slice (some ⟨W1.heap.size, 0, none⟩) e e, .int .i64 1, .bool false] 34)).heap.size = W3.heap.size + 1 := by simp
    clear hbs
    generalize W3.alloc (.cells #[.slice none 0 0, .slice (some ⟨W1.heap.size + 1, 0, none⟩) d d, .slice (some ⟨W1.heap.size, 0, none⟩) e e, .int .i64 1, .bool false] 34) = W4 at kP kF kI kX G z4 ⊢
    replace kP := kP.drew
    replace kF := kF.drew
    replace kI := kI.drew
    replace kX := kX.drew
    replace G := G.drew
    have z5 : (W4.drew).heap.size = W4.heap.size := rfl
    generalize W4.drew = W5 at kP kF kI kX G z5 ⊢
    go_ret
    refine ⟨W1.heap.size + 2, some ⟨W1.heap.size + 1, 0, none⟩, some ⟨W1.heap.size, 0, none⟩, by simp, by simpa using kX, ⟨OwnR.nil_ _ _ _ _ _, madeI d _ _ _ (by omega) (by omega) kI, madeF e _ _ _ (by omega) (by omega) kF⟩, G⟩

set_option maxRecDepth 100000 in
set_option maxHeartbeats 4000000 in
theorem gNewPool_any (a b c : Int) (d e : Nat) (w : World) (hp : planB a b c d e = true) :
    Calls Try.prog 13 #[.agg #[.int .i64 a, .int .i64 b, .int .i64 c, .int .i64 d, .int .i64 e]] w (MadePool w [] (List.replicate d 0) (List.replicate e ⟨false, 0⟩) 1 false) := by
  have hbd := planB_all hp
  go_enter Try.func13, Try.ntmps13
  go_wp2_with fail
  have G := Below.refl w.heap.size w
  have kP := Blk.new w 28 #[.int .i64 a, .int .i64 b, .int .i64 c, .int .i64 d, .int .i64 e]
  have hbs := G.size
  replace G := G.alloc (by omega) (.cells #[.int .i64 a, .int .i64 b, .int .i64 c, .int .i64 d, .int .i64 e] 28)
  have z1 : (w.alloc (.cells #[.int .i64 a, .int .i64 b, .int .i64 c, .int .i64 d, .int .i64 e] 28)).heap.size = w.heap.size + 1 := by simp
  clear hbs
  generalize w.alloc (.cells #[.int .i64 a, .int .i64 b, .int .i64 c, .int .i64 d, .int .i64 e] 28) = W1 at kP G z1 ⊢
  have kR : Blk (W1.alloc (.cells #[.slice none 0 0, .slice none 0 0, .slice none 0 0, .int .i64 0, .bool false] 34)) (w.heap.size + 1) 34 #[.slice none 0 0, .slice none 0 0, .slice none 0 0, .int .i64 0, .bool false] := by
    have h := Blk.new W1 34 #[.slice none 0 0, .slice none 0 0, .slice none 0 0, .int .i64 0, .bool false]
    rw [show W1.heap.size = w.heap.size + 1 by omega] at h
    exact h
  replace kP := kP.alloc (.cells #[.slice none 0 0, .slice none 0 0, .slice none 0 0, .int .i64 0, .bool false] 34)
  have hbs := G.size
  replace G := G.alloc (by omega) (.cells #[.slice none 0 0, .slice none 0 0, .slice none 0 0, .int .i64 0, .bool false] 34)
  have z2 : (W1.alloc (.cells #[.slice none 0 0, .slice none 0 0, .slice none 0 0, .int .i64 0, .bool false] 34)).heap.size = W1.heap.size + 1 := by simp
  clear hbs
  generalize W1.alloc (.cells #[.slice none 0 0, .slice none 0 0, .slice none 0 0, .int .i64 0, .bool false] 34) = W2 at kP kR G z2 ⊢
  go_call (right_any a b c d e _) as r W3 ⟨rfl, g1⟩
  have hbs := G.size
  replace kP := kP.below g1 kP.lt
  replace kR := kR.below g1 kR.lt
  replace G := G.trans (g1.mono (by omega))
  have z3 := g1.size
  clear g1 hbs
  rw [hp]
  obtain ⟨tP, qP0, fP0, qP1, fP1, qP2, fP2, qP3, fP3, qP4, fP4⟩ := kP.f5
  obtain ⟨tR, qR0, fR0, qR1, fR1, qR2, fR2, qR3, fR3, qR4, fR4⟩ := kR.f5
  go_wp2_with fail
  go_call (emptyPool_any a b c d e _ (by omega) (by omega)) as r W4 ⟨gX, B1, B2, rfl, kX, own, g1⟩
  clear tP qP0 fP0 qP1 fP1 qP2 fP2 qP3 fP3 qP4 fP4 tR qR0 fR0 qR1 fR1 qR2 fR2 qR3 fR3 qR4 fR4
  have hbs := G.size
  replace kP := kP.below g1 kP.lt
  replace kR := kR.below g1 kR.lt
  replace G := G.trans (g1.mono (by omega))
  have z4 := g1.size
  clear g1 hbs
  obtain ⟨tP, qP0, fP0, qP1, fP1, qP2, fP2, qP3, fP3, qP4, fP4⟩ := kP.f5
  obtain ⟨tR, qR0, fR0, qR1, fR1, qR2, fR2, qR3, fR3, qR4, fR4⟩ := kR.f5
  go_wp2_with fail
  go_call (copied_any [] (List.replicate d 0) (List.replicate e ⟨false, 0⟩) none B1 B2 0 d e 1 false gX _ (by simp) (by simp; omega) (by simp; omega) kX own.reads) as r W5 ⟨C0, C1, C2, q0, q1, q2, rfl, own2, g1⟩
  clear tP qP0 fP0 qP1 fP1 qP2 fP2 qP3 fP3 qP4 fP4 tR qR0 fR0 qR1 fR1 qR2 fR2 qR3 fR3 qR4 fR4
  have hbs := G.size
  replace kP := kP.below g1 kP.lt
  replace kR := kR.below g1 kR.lt
  replace kX := kX.below g1 kX.lt
  replace G := G.trans (g1.mono (by omega))
  have z5 := g1.size
  clear g1 hbs
  have rC := own2
  clear own own2 kX
  obtain ⟨tP, qP0, fP0, qP1, fP1, qP2, fP2, qP3, fP3, qP4, fP4⟩ := kP.f5
  obtain ⟨tR, qR0, fR0, qR1, fR1, qR2, fR2, qR3, fR3, qR4, fR4⟩ := kR.f5
  go_wp2_with fail
  clear tP qP0 fP0 qP1 fP1 qP2 fP2 qP3 fP3 qP4 fP4 tR qR0 fR0 qR1 fR1 qR2 fR2 qR3 fR3 qR4 fR4
  replace kP := kP.far (p := ⟨w.heap.size + 1, 0, none⟩) (show w.heap.size ≠ w.heap.size + 1 by omega) (.slice C0 0 q0)
  replace kR : Blk (W5.setCell ⟨w.heap.size + 1, 0, none⟩ (.slice C0 0 q0)) (w.heap.size + 1) 34 #[.slice C0 0 q0, .slice none 0 0, .slice none 0 0, .int .i64 0, .bool false] := kR.set_ 0 (.slice C0 0 q0)
  replace rC := rC.store (p := ⟨w.heap.size + 1, 0, none⟩) (show w.heap.size + 1 < W4.heap.size ∨ W5.heap.size ≤ w.heap.size + 1 by omega) (.slice C0 0 q0)
  replace G : Below w.heap.size w (W5.setCell ⟨w.heap.size + 1, 0, none⟩ (.slice C0 0 q0)) := Below.setCell G (show w.heap.size ≤ w.heap.size + 1 by omega) _
  have z6 : (W5.setCell ⟨w.heap.size + 1, 0, none⟩ (.slice C0 0 q0)).heap.size = W5.heap.size := by simp [World.setCell]
  generalize W5.setCell ⟨w.heap.size + 1, 0, none⟩ (.slice C0 0 q0) = W6 at kP kR rC G z6 ⊢
  replace kP := kP.far (p := ⟨w.heap.size + 1, 1, none⟩) (show w.heap.size ≠ w.heap.size + 1 by omega) (.slice C1 d q1)
  replace kR : Blk (W6.setCell ⟨w.heap.size + 1, 1, none⟩ (.slice C1 d q1)) (w.heap.size + 1) 34 #[.slice C0 0 q0, .slice C1 d q1, .slice none 0 0, .int .i64 0, .bool false] := kR.set_ 1 (.slice C1 d q1)
  replace rC := rC.store (p := ⟨w.heap.size + 1, 1, none⟩) (show w.heap.size + 1 < W4.heap.size ∨ W5.heap.size ≤ w.heap.size + 1 by omega) (.slice C1 d q1)
  replace G : Below w.heap.size w (W6.setCell ⟨w.heap.size + 1, 1, none⟩ (.slice C1 d q1)) := Below.setCell G (show w.heap.size ≤ w.heap.size + 1 by omega) _
  have z7 : (W6.setCell ⟨w.heap.size + 1, 1, none⟩ (.slice C1 d q1)).heap.size = W6.heap.size := by simp [World.setCell]
  generalize W6.setCell ⟨w.heap.size + 1, 1, none⟩ (.slice C1 d q1) = W7 at kP kR rC G z7 ⊢
  replace kP := kP.far (p := ⟨w.heap.size + 1, 2, none⟩) (show w.heap.size ≠ w.heap.size + 1 by omega) (.slice C2 e q2)
  replace kR : Blk (W7.setCell ⟨w.heap.size + 1, 2, none⟩ (.slice C2 e q2)) (w.heap.size + 1) 34 #[.slice C0 0 q0, .slice C1 d q1, .slice C2 e q2, .int .i64 0, .bool false] := kR.set_ 2 (.slice C2 e q2)
  replace rC := rC.store (p := ⟨w.heap.size + 1, 2, none⟩) (show w.heap.size + 1 < W4.heap.size ∨ W5.heap.size ≤ w.heap.size + 1 by omega) (.slice C2 e q2)
  replace G : Below w.heap.size w (W7.setCell ⟨w.heap.size + 1, 2, none⟩ (.slice C2 e q2)) := Below.setCell G (show w.heap.size ≤ w.heap.size + 1 by omega) _
  have z8 : (W7.setCell ⟨w.heap.size + 1, 2, none⟩ (.slice C2 e q2)).heap.size = W7.heap.size := by simp [World.setCell]
  generalize W7.setCell ⟨w.heap.size + 1, 2, none⟩ (.slice C2 e q2) = W8 at kP kR rC G z8 ⊢
  replace kP := kP.far (p := ⟨w.heap.size + 1, 3, none⟩) (show w.heap.size ≠ w.heap.size + 1 by omega) (.int .i64 1)
  replace kR : Blk (W8.setCell ⟨w.heap.size + 1, 3, none⟩ (.int .i64 1)) (w.heap.size + 1) 34 #[.slice C0 0 q0, .slice C1 d q1, .slice C2 e q2, .int .i64 1, .bool false] := kR.set_ 3 (.int .i64 1)
  replace rC := rC.store (p := ⟨w.heap.size + 1, 3, none⟩) (show w.heap.size + 1 < W4.heap.size ∨ W5.heap.size ≤ w.heap.size + 1 by omega) (.int .i64 1)
  replace G : Below w.heap.size w (W8.setCell ⟨w.heap.size + 1, 3, none⟩ (.int .i64 1)) := Below.setCell G (show w.heap.size ≤ w.heap.size + 1 by omega) _
  have z9 : (W8.setCell ⟨w.heap.size + 1, 3, none⟩ (.int .i64 1)).heap.size = W8.heap.size := by simp [World.setCell]
  generalize W8.setCell ⟨w.heap.size + 1, 3, none⟩ (.int .i64 1) = W9 at kP kR rC G z9 ⊢
  replace kP := kP.far (p := ⟨w.heap.size + 1, 4, none⟩) (show w.heap.size ≠ w.heap.size + 1 by omega) (.bool false)
  replace kR : Blk (W9.setCell ⟨w.heap.size + 1, 4, none⟩ (.bool false)) (w.heap.size + 1) 34 #[.slice C0 0 q0, .slice C1 d q1, .slice C2 e q2, .int .i64 1, .bool false] := kR.set_ 4 (.bool false)
  replace rC := rC.store (p := ⟨w.heap.size + 1, 4, none⟩) (show w.heap.size + 1 < W4.heap.size ∨ W5.heap.size ≤ w.heap.size + 1 by omega) (.bool false)
  replace G : Below w.heap.size w (W9.setCell ⟨w.heap.size + 1, 4, none⟩ (.bool false)) := Below.setCell G (show w.heap.size ≤ w.heap.size + 1 by omega) _
  have z10 : (W9.setCell ⟨w.heap.size + 1, 4, none⟩ (.bool false)).heap.size = W9.heap.size := by simp [World.setCell]
  generalize W9.setCell ⟨w.heap.size + 1, 4, none⟩ (.bool false) = W10 at kP kR rC G z10 ⊢
  obtain ⟨tR, qR0, qR1, qR2, qR3, qR4⟩ := kR.q5
  exact bodyPost_ret (v := .agg #[.slice C0 0 q0, .slice C1 d q1, .slice C2 e q2, .int .i64 1, .bool false]) (by simp [results, Try.results13, go_sem, qR0, qR1, qR2, qR3, qR4]) rfl ⟨C0, C1, C2, q0, q1, q2, by simp, rC.wide (by omega) (by omega), G⟩

end Go.Proofs.Ytgncjcnobojgbaa

namespace Go.Proofs.Ytgncjcnobojgbaa
open Go.RowKit
set_option linter.unusedVariables false

theorem sepCur {g : Nat} {t : TypeId} {cs : Array Value} {w W : World} (hb : Below w.heap.size w W) (hg : w.heap.size ≤ g) (h : Sep [g] W W [.blk g t cs]) : Sep [] w W [.blk g t cs] :=
  ⟨hb.os, hb.tape, hb.output, hb.size, fun b hb' _ => hb.block b hb', h.here, fun r hr q hq => by
    obtain rfl := List.mem_singleton.1 hr
    injection hq with hq
    subst hq
    exact .inr hg, h.apart⟩
set_option maxRecDepth 100000 in
set_option maxHeartbeats 1600000 in
theorem drawPoolOk_any (B : Nat) (w : World) (A : Option Addr) (len cap : Nat) (hB : B ≤ w.heap.size) (hl : len ≤ 4096) (hby : Bytes w B A len) :
    Calls Try.prog 19 #[.slice A len cap] w fun r w' => ∃ (a b c d e : Int) (ts : List T7) (ks : List Int) (fs : List F2) (tn : Int) (st : Bool) (B0 B1 B2 : Option Addr) (e0 e1 e2 : Nat), r = .returned (.tuple #[.agg #[.int .i64 a, .int .i64 b, .int .i64 c, .int .i64 d, .int .i64 e], .agg #[.slice B0 ts.length e0, .slice B1 ks.length e1, .slice B2 fs.length e2, .int .i64 tn, .bool st]]) ∧ ts.length ≤ 31 ∧ ks.length ≤ 31 ∧ fs.length ≤ 31 ∧ InPool w' ts ks fs B0 B1 B2 ∧ Below w.heap.size w w' := by
  go_enter Try.func19, Try.ntmps19
  go_wp2_with fail
  have M : Sep [] w ((w.alloc (.cells #[.int .i64 0, .int .i64 0, .int .i64 0, .int .i64 0, .int .i64 0] 28)).alloc (.cells #[.slice none 0 0, .slice none 0 0, .slice none 0 0, .int .i64 0, .bool false] 34)) [.blk (w.heap.size + 1) 34 #[.slice none 0 0, .slice none 0 0, .slice none 0 0, .int .i64 0, .bool false], .blk (w.heap.size) 28 #[.int .i64 0, .int .i64 0, .int .i64 0, .int .i64 0, .int .i64 0]] := Sep.enter2 w
  generalize (w.alloc (.cells #[.int .i64 0, .int .i64 0, .int .i64 0, .int .i64 0, .int .i64 0] 28)).alloc (.cells #[.slice none 0 0, .slice none 0 0, .slice none 0 0, .int .i64 0, .bool false] 34) = W1 at M ⊢
  obtain ⟨tR, qR0, fR0, qR1, fR1, qR2, fR2, qR3, fR3, qR4, fR4⟩ := M.f5 0 rfl
  obtain ⟨tQ, qQ0, fQ0, qQ1, fQ1, qQ2, fQ2, qQ3, fQ3, qQ4, fQ4⟩ := M.f5 1 rfl
  go_wp2_with fail
  clear tR qR0 fR0 qR1 fR1 qR2 fR2 qR3 fR3 qR4 fR4 tQ qQ0 fQ0 qQ1 fQ1 qQ2 fQ2 qQ3 fQ3 qQ4 fQ4
  have hs1 := M.size
  have hby1 : Bytes W1 B A len := hby.keep fun b hb => M.below.block b (by omega)
  go_call (l1New_any B _ A len cap (by omega) hl hby1) as r W2 ⟨rfl, g1, d⟩
  obtain ⟨cs0, hc, N⟩ := cur_start d
  have N2 := sepCur g1 (Nat.le_refl _) N
  replace M := Sep.new M N2
  clear N N2 g1 hby1 hs1
  simp only [List.cons_append, List.nil_append] at M
  obtain ⟨g, hg⟩ : ∃ g, g = W1.heap.size := ⟨_, rfl⟩
  rw [← hg] at M d ⊢
  clear hg
  obtain ⟨tR, qR0, fR0, qR1, fR1, qR2, fR2, qR3, fR3, qR4, fR4⟩ := M.f5 1 rfl
  obtain ⟨tQ, qQ0, fQ0, qQ1, fQ1, qQ2, fQ2, qQ3, fQ3, qQ4, fQ4⟩ := M.f5 2 rfl
  go_wp2_with fail
  go_call (l3DrawAny_any B _ g A len cap d) as r W3 ⟨a, b, c, dd, ee, ts, ks, fs, tn, st, B0, B1, B2, e0, e1, e2, n0, n1, n2, cs1, rfl, rfl, rfl, rfl, h0, h1, h2, hc2, g2⟩
  clear tR qR0 fR0 qR1 fR1 qR2 fR2 qR3 fR3 qR4 fR4 tQ qQ0 fQ0 qQ1 fQ1 qQ2 fQ2 qQ3 fQ3 qQ4 fQ4
  replace M := Sep.comp (ps := [.blk g 126 cs0]) M g2
  clear g2 hc hc2 d
  simp only [List.cons_append, List.nil_append] at M
  obtain ⟨tR, qR0, fR0, qR1, fR1, qR2, fR2, qR3, fR3, qR4, fR4⟩ := M.f5 4 rfl
  obtain ⟨tQ, qQ0, fQ0, qQ1, fQ1, qQ2, fQ2, qQ3, fQ3, qQ4, fQ4⟩ := M.f5 5 rfl
  go_wp2_with fail
  clear tR qR0 fR0 qR1 fR1 qR2 fR2 qR3 fR3 qR4 fR4 tQ qQ0 fQ0 qQ1 fQ1 qQ2 fQ2 qQ3 fQ3 qQ4 fQ4
  have N := M.gset5 5 rfl (.int .i64 a) (.int .i64 b) (.int .i64 c) (.int .i64 dd) (.int .i64 ee)
  clear M
  obtain ⟨W4, eW, M⟩ := N
  rw [eW]
  clear eW
  simp only [List.set_cons_zero, List.set_cons_succ] at M
  have N := M.gset5 4 rfl (.slice B0 ts.length e0) (.slice B1 ks.length e1) (.slice B2 fs.length e2) (.int .i64 tn) (.bool st)
  clear M
  obtain ⟨W5, eW, M⟩ := N
  rw [eW]
  clear eW
  simp only [List.set_cons_zero, List.set_cons_succ] at M
  obtain ⟨tR, qR0, qR1, qR2, qR3, qR4⟩ := M.q5 4 rfl
  obtain ⟨tQ, qQ0, qQ1, qQ2, qQ3, qQ4⟩ := M.q5 5 rfl
  exact bodyPost_ret (v := .tuple #[.agg #[.int .i64 a, .int .i64 b, .int .i64 c, .int .i64 dd, .int .i64 ee], .agg #[.slice B0 ts.length e0, .slice B1 ks.length e1, .slice B2 fs.length e2, .int .i64 tn, .bool st]]) (by simp [results, Try.results19, go_sem, qQ0, qQ1, qQ2, qQ3, qQ4, qR0, qR1, qR2, qR3, qR4]) rfl ⟨a, b, c, dd, ee, ts, ks, fs, tn, st, B0, B1, B2, e0, e1, e2, rfl, h0, h1, h2, ⟨M.rowS 0 rfl, M.rowS 1 rfl, M.rowS 2 rfl⟩, M.below⟩
end Go.Proofs.Ytgncjcnobojgbaa
