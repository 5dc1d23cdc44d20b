import Derived.Test.YtfkdfkoigojciaaGreatDoorQU02
import Derived.Test.YtfkdfkoigojciaaGreatDoorQU03
import Derived.Test.YtfkdfkoigojciaaGreatDoorQU42

namespace Go.Proofs.YtfkdfkoigojciaaGreatDoor
open Go.RowKit
set_option linter.unusedVariables false
def GotTask (B : Nat) (w : World) (g : Nat) (A : Option Addr) (len cap : Nat) (r : Ending) (w' : World) : Prop :=
 ∃ s l o wt on v t : Int, r = .returned (.agg #[.int .i64 s, .int .i64 l, .int .i64 o, .int .i64 wt, .int .i64 on, .int .i64 v, .int .i64 t]) ∧ Any64 s ∧ Any64 l ∧ Any64 o ∧ Any64 wt ∧ Any64 on ∧ Any64 v ∧ Any64 t ∧ CMoved B w w' g A len cap
set_option maxRecDepth 100000 in
set_option maxHeartbeats 4000000 in
theorem l2Draw_any (B : Nat) (w : World) (g : Nat) (A : Option Addr) (len cap : Nat) (a b c dd ee : Int) (ha : 1 ≤ a) (ha2 : a ≤ 30) (hc : 1 ≤ c) (hc2 : c ≤ 30) (d : CurAt B w g A len cap) :
 Calls Tryz.prog 174 #[.pointer (some ⟨g, 0, none⟩), .agg #[.int .i64 a, .int .i64 b, .int .i64 c, .int .i64 dd, .int .i64 ee]] w (GotTask B w g A len cap) := by
 have hg := d.lt
 go_enter Tryz.func174, Tryz.ntmps174
 go_wp2_with fail
 have G := World.grownBy.refl w (some g)
 have kP := Blk.new w 28 #[.int .i64 a, .int .i64 b, .int .i64 c, .int .i64 dd, .int .i64 ee]
 have hdl := d.lt
 replace d := d.keep (w' := w.alloc (.cells #[.int .i64 a, .int .i64 b, .int .i64 c, .int .i64 dd, .int .i64 ee] 28)) fun b hb => Below.heap_alloc w _ b (by omega)
 clear hdl
 have hbs := G.size
 replace G := only_alloc G (.cells #[.int .i64 a, .int .i64 b, .int .i64 c, .int .i64 dd, .int .i64 ee] 28)
 have z1 : (w.alloc (.cells #[.int .i64 a, .int .i64 b, .int .i64 c, .int .i64 dd, .int .i64 ee] 28)).heap.size = w.heap.size + 1 := by simp
 clear hbs
 generalize w.alloc (.cells #[.int .i64 a, .int .i64 b, .int .i64 c, .int .i64 dd, .int .i64 ee] 28) = W1 at kP G z1 d ⊢
 have kR : Blk (W1.alloc (.cells #[.int .i64 0, .int .i64 0, .int .i64 0, .int .i64 0, .int .i64 0, .int .i64 0, .int .i64 0] 45)) (w.heap.size + 1) 45 #[.int .i64 0, .int .i64 0, .int .i64 0, .int .i64 0, .int .i64 0, .int .i64 0, .int .i64 0] := by
  have h := Blk.new W1 45 #[.int .i64 0, .int .i64 0, .int .i64 0, .int .i64 0, .int .i64 0, .int .i64 0, .int .i64 0]
  rw [show W1.heap.size = w.heap.size + 1 by omega] at h
  exact h
 replace kP := kP.alloc (.cells #[.int .i64 0, .int .i64 0, .int .i64 0, .int .i64 0, .int .i64 0, .int .i64 0, .int .i64 0] 45)
 have hdl := d.lt
 replace d := d.keep (w' := W1.alloc (.cells #[.int .i64 0, .int .i64 0, .int .i64 0, .int .i64 0, .int .i64 0, .int .i64 0, .int .i64 0] 45)) fun b hb => Below.heap_alloc W1 _ b (by omega)
 clear hdl
 have hbs := G.size
 replace G := only_alloc G (.cells #[.int .i64 0, .int .i64 0, .int .i64 0, .int .i64 0, .int .i64 0, .int .i64 0, .int .i64 0] 45)
 have z2 : (W1.alloc (.cells #[.int .i64 0, .int .i64 0, .int .i64 0, .int .i64 0, .int .i64 0, .int .i64 0, .int .i64 0] 45)).heap.size = W1.heap.size + 1 := by simp
 clear hbs
 generalize W1.alloc (.cells #[.int .i64 0, .int .i64 0, .int .i64 0, .int .i64 0, .int .i64 0, .int .i64 0, .int .i64 0] 45) = W2 at kP kR G z2 d ⊢
 go_call (l1Below_pos B _ g A len cap c (by omega) (by omega) d) as r W3 ⟨l, rfl, l1, l2, g1, d1⟩
 have hbs := G.size
 replace kP := kP.grown g1 (by intro e; injection e; omega)
 replace kR := kR.grown g1 (by intro e; injection e; omega)
 replace G := grownBy_trans G g1
 have z3 := g1.size
 clear g1 hbs
 try clear d
 have d := d1
 clear d1
 go_wp2_with fail
 go_call (l1Below_pos B _ g A len cap 9 (by omega) (by omega) d) as r W4 ⟨t, rfl, t1, t2, g1, d1⟩
 have hbs := G.size
 replace kP := kP.grown g1 (by intro e; injection e; omega)
 replace kR := kR.grown g1 (by intro e; injection e; omega)
 replace G := grownBy_trans G g1
 have z4 := g1.size
 clear g1 hbs
 try clear d
 have d := d1
 clear d1
 go_wp2_with fail
 go_call (sNewTask_any l t _) as r W5 ⟨rfl, g1⟩
 have hbs := G.size
 replace kP := kP.below g1 kP.lt
 replace kR := kR.below g1 kR.lt
 replace G := only_below G g1
 have hdl := d.lt
 replace d := d.keep fun b hb => g1.block b (by omega)
 clear hdl
 have z5 := g1.size
 clear g1 hbs
 go_wp2_with fail
 have kT := Blk.new W5 45 #[.int .i64 1, .int .i64 l, .int .i64 (-1), .int .i64 0, .int .i64 0, .int .i64 0, .int .i64 t]
 replace kP := kP.alloc (.cells #[.int .i64 1, .int .i64 l, .int .i64 (-1), .int .i64 0, .int .i64 0, .int .i64 0, .int .i64 t] 45)
 replace kR := kR.alloc (.cells #[.int .i64 1, .int .i64 l, .int .i64 (-1), .int .i64 0, .int .i64 0, .int .i64 0, .int .i64 t] 45)
 have hdl := d.lt
 replace d := d.keep (w' := W5.alloc (.cells #[.int .i64 1, .int .i64 l, .int .i64 (-1), .int .i64 0, .int .i64 0, .int .i64 0, .int .i64 t] 45)) fun b hb => Below.heap_alloc W5 _ b (by omega)
 clear hdl
 have hbs := G.size
 replace G := only_alloc G (.cells #[.int .i64 1, .int .i64 l, .int .i64 (-1), .int .i64 0, .int .i64 0, .int .i64 0, .int .i64 t] 45)
 have z6 : (W5.alloc (.cells #[.int .i64 1, .int .i64 l, .int .i64 (-1), .int .i64 0, .int .i64 0, .int .i64 0, .int .i64 t] 45)).heap.size = W5.heap.size + 1 := by simp
 clear hbs
 generalize W5.alloc (.cells #[.int .i64 1, .int .i64 l, .int .i64 (-1), .int .i64 0, .int .i64 0, .int .i64 0, .int .i64 t] 45) = W6 at kP kR kT G z6 d ⊢
 go_call (l1Below_pos B _ g A len cap 4 (by omega) (by omega) d) as r W7 ⟨v, rfl, v1, v2, g1, d1⟩
 have hbs := G.size
 replace kP := kP.grown g1 (by intro e; injection e; omega)
 replace kR := kR.grown g1 (by intro e; injection e; omega)
 replace kT := kT.grown g1 (by intro e; injection e; omega)
 replace G := grownBy_trans G g1
 have z7 := g1.size
 clear g1 hbs
 try clear d
 have d := d1
 clear d1
 obtain ⟨tT, qT0, fT0, qT1, fT1, qT2, fT2, qT3, fT3, qT4, fT4, qT5, fT5, qT6, fT6⟩ := kT.f7
 go_wp2_with fail
 clear tT qT0 fT0 qT1 fT1 qT2 fT2 qT3 fT3 qT4 fT4 qT5 fT5 qT6 fT6
 replace kP := kP.far (p := ⟨W5.heap.size, 5, none⟩) (show w.heap.size ≠ W5.heap.size by omega) (.int .i64 v)
 replace kR := kR.far (p := ⟨W5.heap.size, 5, none⟩) (show w.heap.size + 1 ≠ W5.heap.size by omega) (.int .i64 v)
 replace kT : Blk (W7.setCell ⟨W5.heap.size, 5, none⟩ (.int .i64 v)) W5.heap.size 45 #[.int .i64 1, .int .i64 l, .int .i64 (-1), .int .i64 0, .int .i64 0, .int .i64 v, .int .i64 t] := kT.set_ 5 (.int .i64 v)
 replace d := d.keep (w' := W7.setCell ⟨W5.heap.size, 5, none⟩ (.int .i64 v)) fun b hb => Below.heap_setCell W7 ⟨W5.heap.size, 5, none⟩ _ b (show b ≠ W5.heap.size by omega)
 replace G := only_setCell G (p := ⟨W5.heap.size, 5, none⟩) (.inr (show w.heap.size ≤ W5.heap.size by omega)) (.int .i64 v)
 have z8 : (W7.setCell ⟨W5.heap.size, 5, none⟩ (.int .i64 v)).heap.size = W7.heap.size := by simp [World.setCell]
 generalize W7.setCell ⟨W5.heap.size, 5, none⟩ (.int .i64 v) = W8 at kP kR kT G z8 d ⊢
 go_call (l1Below_pos B _ g A len cap 5 (by omega) (by omega) d) as r W9 ⟨u, rfl, u1, u2, g1, d1⟩
 have hbs := G.size
 replace kP := kP.grown g1 (by intro e; injection e; omega)
 replace kR := kR.grown g1 (by intro e; injection e; omega)
 replace kT := kT.grown g1 (by intro e; injection e; omega)
 replace G := grownBy_trans G g1
 have z9 := g1.size
 clear g1 hbs
 try clear d
 have d := d1
 clear d1
 have hu : u = 0 ∨ u = 1 ∨ u = 2 ∨ 3 ≤ u := by omega
 rcases hu with rfl | rfl | rfl | hu
 ·obtain ⟨tP, qP0, fP0, qP1, fP1, qP2, fP2, qP3, fP3, qP4, fP4⟩ := kP.f5
  obtain ⟨tR, qR0, fR0, qR1, fR1, qR2, fR2, qR3, fR3, qR4, fR4, qR5, fR5, qR6, fR6⟩ := kR.f7
  obtain ⟨tT, qT0, fT0, qT1, fT1, qT2, fT2, qT3, fT3, qT4, fT4, qT5, fT5, qT6, fT6⟩ := kT.f7
  go_wp2_with fail
  clear tP qP0 fP0 qP1 fP1 qP2 fP2 qP3 fP3 qP4 fP4 tR qR0 fR0 qR1 fR1 qR2 fR2 qR3 fR3 qR4 fR4 qR5 fR5 qR6 fR6 tT qT0 fT0 qT1 fT1 qT2 fT2 qT3 fT3 qT4 fT4 qT5 fT5 qT6 fT6
  replace kP := kP.far (p := ⟨W5.heap.size, 0, none⟩) (show w.heap.size ≠ W5.heap.size by omega) (.int .i64 2)
  replace kR := kR.far (p := ⟨W5.heap.size, 0, none⟩) (show w.heap.size + 1 ≠ W5.heap.size by omega) (.int .i64 2)
  replace kT : Blk (W9.setCell ⟨W5.heap.size, 0, none⟩ (.int .i64 2)) W5.heap.size 45 #[.int .i64 2, .int .i64 l, .int .i64 (-1), .int .i64 0, .int .i64 0, .int .i64 v, .int .i64 t] := kT.set_ 0 (.int .i64 2)
  replace d := d.keep (w' := W9.setCell ⟨W5.heap.size, 0, none⟩ (.int .i64 2)) fun b hb => Below.heap_setCell W9 ⟨W5.heap.size, 0, none⟩ _ b (show b ≠ W5.heap.size by omega)
  replace G := only_setCell G (p := ⟨W5.heap.size, 0, none⟩) (.inr (show w.heap.size ≤ W5.heap.size by omega)) (.int .i64 2)
  have z10 : (W9.setCell ⟨W5.heap.size, 0, none⟩ (.int .i64 2)).heap.size = W9.heap.size := by simp [World.setCell]
  generalize W9.setCell ⟨W5.heap.size, 0, none⟩ (.int .i64 2) = W10 at kP kR kT G z10 d ⊢
  go_call (l1Below_pos B _ g A len cap a (by omega) (by omega) d) as r W11 ⟨o, rfl, o1, o2, g1, d1⟩
  have hbs := G.size
  replace kP := kP.grown g1 (by intro e; injection e; omega)
  replace kR := kR.grown g1 (by intro e; injection e; omega)
  replace kT := kT.grown g1 (by intro e; injection e; omega)
  replace G := grownBy_trans G g1
  have z11 := g1.size
  clear g1 hbs
  try clear d
  have d := d1
  clear d1
  obtain ⟨tT, qT0, fT0, qT1, fT1, qT2, fT2, qT3, fT3, qT4, fT4, qT5, fT5, qT6, fT6⟩ := kT.f7
  obtain ⟨tR, qR0, fR0, qR1, fR1, qR2, fR2, qR3, fR3, qR4, fR4, qR5, fR5, qR6, fR6⟩ := kR.f7
  obtain ⟨tT, qT0, fT0, qT1, fT1, qT2, fT2, qT3, fT3, qT4, fT4, qT5, fT5, qT6, fT6⟩ := kT.f7
  have hne : W5.heap.size ≠ w.heap.size + 1 := by omega
  have hne2 : w.heap.size + 1 ≠ W5.heap.size := by omega
  go_wp2
  have hbel : Below w.heap.size W11 ((((((((W11.setCell ⟨W5.heap.size, 2, none⟩ (.int .i64 o)).setCell ⟨w.heap.size + 1, 0, none⟩ (.int .i64 2)).setCell ⟨w.heap.size + 1, 1, none⟩ (.int .i64 l)).setCell ⟨w.heap.size + 1, 2, none⟩ (.int .i64 o)).setCell ⟨w.heap.size + 1, 3, none⟩ (.int .i64 0)).setCell ⟨w.heap.size + 1, 4, none⟩ (.int .i64 0)).setCell ⟨w.heap.size + 1, 5, none⟩ (.int .i64 v)).setCell ⟨w.heap.size + 1, 6, none⟩ (.int .i64 t)) := by go_grown
  exact bodyPost_ret (v := .agg #[.int .i64 2, .int .i64 l, .int .i64 o, .int .i64 0, .int .i64 0, .int .i64 v, .int .i64 t]) (by simp [results, Tryz.results174, go_sem, qR0, qR1, qR2, qR3, qR4, qR5, qR6]) rfl ⟨_, _, _, _, _, _, _, rfl, ⟨by omega, by omega⟩, ⟨by omega, by omega⟩, ⟨by omega, by omega⟩, ⟨by omega, by omega⟩, ⟨by omega, by omega⟩, ⟨by omega, by omega⟩, ⟨by omega, by omega⟩, grown_then_below G hbel, d.keep fun b hb => hbel.block b (by omega)⟩
 ·obtain ⟨tP, qP0, fP0, qP1, fP1, qP2, fP2, qP3, fP3, qP4, fP4⟩ := kP.f5
  obtain ⟨tR, qR0, fR0, qR1, fR1, qR2, fR2, qR3, fR3, qR4, fR4, qR5, fR5, qR6, fR6⟩ := kR.f7
  obtain ⟨tT, qT0, fT0, qT1, fT1, qT2, fT2, qT3, fT3, qT4, fT4, qT5, fT5, qT6, fT6⟩ := kT.f7
  go_wp2_with fail
  clear tP qP0 fP0 qP1 fP1 qP2 fP2 qP3 fP3 qP4 fP4 tR qR0 fR0 qR1 fR1 qR2 fR2 qR3 fR3 qR4 fR4 qR5 fR5 qR6 fR6 tT qT0 fT0 qT1 fT1 qT2 fT2 qT3 fT3 qT4 fT4 qT5 fT5 qT6 fT6
  replace kP := kP.far (p := ⟨W5.heap.size, 0, none⟩) (show w.heap.size ≠ W5.heap.size by omega) (.int .i64 3)
  replace kR := kR.far (p := ⟨W5.heap.size, 0, none⟩) (show w.heap.size + 1 ≠ W5.heap.size by omega) (.int .i64 3)
  replace kT : Blk (W9.setCell ⟨W5.heap.size, 0, none⟩ (.int .i64 3)) W5.heap.size 45 #[.int .i64 3, .int .i64 l, .int .i64 (-1), .int .i64 0, .int .i64 0, .int .i64 v, .int .i64 t] := kT.set_ 0 (.int .i64 3)
  replace d := d.keep (w' := W9.setCell ⟨W5.heap.size, 0, none⟩ (.int .i64 3)) fun b hb => Below.heap_setCell W9 ⟨W5.heap.size, 0, none⟩ _ b (show b ≠ W5.heap.size by omega)
  replace G := only_setCell G (p := ⟨W5.heap.size, 0, none⟩) (.inr (show w.heap.size ≤ W5.heap.size by omega)) (.int .i64 3)
  have z10 : (W9.setCell ⟨W5.heap.size, 0, none⟩ (.int .i64 3)).heap.size = W9.heap.size := by simp [World.setCell]
  generalize W9.setCell ⟨W5.heap.size, 0, none⟩ (.int .i64 3) = W10 at kP kR kT G z10 d ⊢
  go_call (l1From_any B _ g A len cap 1 3 (by omega) (by omega) (by omega) d) as r W11 ⟨wt, rfl, wt1, wt2, g1, d1⟩
  have hbs := G.size
  replace kP := kP.grown g1 (by intro e; injection e; omega)
  replace kR := kR.grown g1 (by intro e; injection e; omega)
  replace kT := kT.grown g1 (by intro e; injection e; omega)
  replace G := grownBy_trans G g1
  have z11 := g1.size
  clear g1 hbs
  try clear d
  have d := d1
  clear d1
  obtain ⟨tT, qT0, fT0, qT1, fT1, qT2, fT2, qT3, fT3, qT4, fT4, qT5, fT5, qT6, fT6⟩ := kT.f7
  go_wp2_with fail
  clear tT qT0 fT0 qT1 fT1 qT2 fT2 qT3 fT3 qT4 fT4 qT5 fT5 qT6 fT6
  replace kP := kP.far (p := ⟨W5.heap.size, 3, none⟩) (show w.heap.size ≠ W5.heap.size by omega) (.int .i64 wt)
  replace kR := kR.far (p := ⟨W5.heap.size, 3, none⟩) (show w.heap.size + 1 ≠ W5.heap.size by omega) (.int .i64 wt)
  replace kT : Blk (W11.setCell ⟨W5.heap.size, 3, none⟩ (.int .i64 wt)) W5.heap.size 45 #[.int .i64 3, .int .i64 l, .int .i64 (-1), .int .i64 wt, .int .i64 0, .int .i64 v, .int .i64 t] := kT.set_ 3 (.int .i64 wt)
  replace d := d.keep (w' := W11.setCell ⟨W5.heap.size, 3, none⟩ (.int .i64 wt)) fun b hb => Below.heap_setCell W11 ⟨W5.heap.size, 3, none⟩ _ b (show b ≠ W5.heap.size by omega)
  replace G := only_setCell G (p := ⟨W5.heap.size, 3, none⟩) (.inr (show w.heap.size ≤ W5.heap.size by omega)) (.int .i64 wt)
  have z12 : (W11.setCell ⟨W5.heap.size, 3, none⟩ (.int .i64 wt)).heap.size = W11.heap.size := by simp [World.setCell]
  generalize W11.setCell ⟨W5.heap.size, 3, none⟩ (.int .i64 wt) = W12 at kP kR kT G z12 d ⊢
  go_call (l1Below_pos B _ g A len cap 3 (by omega) (by omega) d) as r W13 ⟨on, rfl, on1, on2, g1, d1⟩
  have hbs := G.size
  replace kP := kP.grown g1 (by intro e; injection e; omega)
  replace kR := kR.grown g1 (by intro e; injection e; omega)
  replace kT := kT.grown g1 (by intro e; injection e; omega)
  replace G := grownBy_trans G g1
  have z13 := g1.size
  clear g1 hbs
  try clear d
  have d := d1
  clear d1
  obtain ⟨tR, qR0, fR0, qR1, fR1, qR2, fR2, qR3, fR3, qR4, fR4, qR5, fR5, qR6, fR6⟩ := kR.f7
  obtain ⟨tT, qT0, fT0, qT1, fT1, qT2, fT2, qT3, fT3, qT4, fT4, qT5, fT5, qT6, fT6⟩ := kT.f7
  have hne : W5.heap.size ≠ w.heap.size + 1 := by omega
  have hne2 : w.heap.size + 1 ≠ W5.heap.size := by omega
  go_wp2
  have hbel : Below w.heap.size W13 ((((((((W13.setCell ⟨W5.heap.size, 4, none⟩ (.int .i64 on)).setCell ⟨w.heap.size + 1, 0, none⟩ (.int .i64 3)).setCell ⟨w.heap.size + 1, 1, none⟩ (.int .i64 l)).setCell ⟨w.heap.size + 1, 2, none⟩ (.int .i64 (-1))).setCell ⟨w.heap.size + 1, 3, none⟩ (.int .i64 wt)).setCell ⟨w.heap.size + 1, 4, none⟩ (.int .i64 on)).setCell ⟨w.heap.size + 1, 5, none⟩ (.int .i64 v)).setCell ⟨w.heap.size + 1, 6, none⟩ (.int .i64 t)) := by go_grown
  exact bodyPost_ret (v := .agg #[.int .i64 3, .int .i64 l, .int .i64 (-1), .int .i64 wt, .int .i64 on, .int .i64 v, .int .i64 t]) (by simp [results, Tryz.results174, go_sem, qR0, qR1, qR2, qR3, qR4, qR5, qR6]) rfl ⟨_, _, _, _, _, _, _, rfl, ⟨by omega, by omega⟩, ⟨by omega, by omega⟩, ⟨by omega, by omega⟩, ⟨by omega, by omega⟩, ⟨by omega, by omega⟩, ⟨by omega, by omega⟩, ⟨by omega, by omega⟩, grown_then_below G hbel, d.keep fun b hb => hbel.block b (by omega)⟩
 ·go_wp2_with fail
  go_call (l1From_any B _ g A len cap 4 5 (by omega) (by omega) (by omega) d) as r W10 ⟨st, rfl, st1, st2, g1, d1⟩
  have hbs := G.size
  replace kP := kP.grown g1 (by intro e; injection e; omega)
  replace kR := kR.grown g1 (by intro e; injection e; omega)
  replace kT := kT.grown g1 (by intro e; injection e; omega)
  replace G := grownBy_trans G g1
  have z10 := g1.size
  clear g1 hbs
  try clear d
  have d := d1
  clear d1
  obtain ⟨tR, qR0, fR0, qR1, fR1, qR2, fR2, qR3, fR3, qR4, fR4, qR5, fR5, qR6, fR6⟩ := kR.f7
  obtain ⟨tT, qT0, fT0, qT1, fT1, qT2, fT2, qT3, fT3, qT4, fT4, qT5, fT5, qT6, fT6⟩ := kT.f7
  have hne : W5.heap.size ≠ w.heap.size + 1 := by omega
  have hne2 : w.heap.size + 1 ≠ W5.heap.size := by omega
  go_wp2
  have hbel : Below w.heap.size W10 ((((((((W10.setCell ⟨W5.heap.size, 0, none⟩ (.int .i64 st)).setCell ⟨w.heap.size + 1, 0, none⟩ (.int .i64 st)).setCell ⟨w.heap.size + 1, 1, none⟩ (.int .i64 l)).setCell ⟨w.heap.size + 1, 2, none⟩ (.int .i64 (-1))).setCell ⟨w.heap.size + 1, 3, none⟩ (.int .i64 0)).setCell ⟨w.heap.size + 1, 4, none⟩ (.int .i64 0)).setCell ⟨w.heap.size + 1, 5, none⟩ (.int .i64 v)).setCell ⟨w.heap.size + 1, 6, none⟩ (.int .i64 t)) := by go_grown
  exact bodyPost_ret (v := .agg #[.int .i64 st, .int .i64 l, .int .i64 (-1), .int .i64 0, .int .i64 0, .int .i64 v, .int .i64 t]) (by simp [results, Tryz.results174, go_sem, qR0, qR1, qR2, qR3, qR4, qR5, qR6]) rfl ⟨_, _, _, _, _, _, _, rfl, ⟨by omega, by omega⟩, ⟨by omega, by omega⟩, ⟨by omega, by omega⟩, ⟨by omega, by omega⟩, ⟨by omega, by omega⟩, ⟨by omega, by omega⟩, ⟨by omega, by omega⟩, grown_then_below G hbel, d.keep fun b hb => hbel.block b (by omega)⟩
 ·obtain ⟨tR, qR0, fR0, qR1, fR1, qR2, fR2, qR3, fR3, qR4, fR4, qR5, fR5, qR6, fR6⟩ := kR.f7
  obtain ⟨tT, qT0, fT0, qT1, fT1, qT2, fT2, qT3, fT3, qT4, fT4, qT5, fT5, qT6, fT6⟩ := kT.f7
  have hne : W5.heap.size ≠ w.heap.size + 1 := by omega
  have hne2 : w.heap.size + 1 ≠ W5.heap.size := by omega
  go_wp2
  have hbel : Below w.heap.size W9 (((((((W9.setCell ⟨w.heap.size + 1, 0, none⟩ (.int .i64 1)).setCell ⟨w.heap.size + 1, 1, none⟩ (.int .i64 l)).setCell ⟨w.heap.size + 1, 2, none⟩ (.int .i64 (-1))).setCell ⟨w.heap.size + 1, 3, none⟩ (.int .i64 0)).setCell ⟨w.heap.size + 1, 4, none⟩ (.int .i64 0)).setCell ⟨w.heap.size + 1, 5, none⟩ (.int .i64 v)).setCell ⟨w.heap.size + 1, 6, none⟩ (.int .i64 t)) := by go_grown
  exact bodyPost_ret (v := .agg #[.int .i64 1, .int .i64 l, .int .i64 (-1), .int .i64 0, .int .i64 0, .int .i64 v, .int .i64 t]) (by simp [results, Tryz.results174, go_sem, qR0, qR1, qR2, qR3, qR4, qR5, qR6]) rfl ⟨_, _, _, _, _, _, _, rfl, ⟨by omega, by omega⟩, ⟨by omega, by omega⟩, ⟨by omega, by omega⟩, ⟨by omega, by omega⟩, ⟨by omega, by omega⟩, ⟨by omega, by omega⟩, ⟨by omega, by omega⟩, grown_then_below G hbel, d.keep fun b hb => hbel.block b (by omega)⟩
end Go.Proofs.YtfkdfkoigojciaaGreatDoor
