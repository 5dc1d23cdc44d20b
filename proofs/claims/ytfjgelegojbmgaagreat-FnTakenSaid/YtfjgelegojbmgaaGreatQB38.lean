/- The model's drawn plans: whatever the code, a plan of numbers that an int64 holds; what was in memory stays as it was. -/
import Derived.Test.YtfjgelegojbmgaaGreatQB33
import Derived.Deep.RegionWith
import Derived.Deep.RegionHeld3

namespace Go.Proofs.YtfjgelegojbmgaaGreat
open Go.RowKit
set_option linter.unusedVariables false
set_option maxRecDepth 100000 in
set_option maxHeartbeats 4000000 in
theorem l1DrawAny_any (B : Nat) (w : World) (g : Nat) (A : Option Addr) (len cap : Nat) (hd : CurAt B w g A len cap) :
 Calls Tryz.prog 87 #[.pointer (some ⟨g, 0, none⟩)] w (GotAny B w g A len cap) := by
 have hg := hd.lt
 go_enter Tryz.func87, Tryz.ntmps87
 go_wp2_with fail
 have hd0 := hd.keep (w' := w.alloc (.cells #[.int .i64 0, .int .i64 0, .int .i64 0, .int .i64 0, .int .i64 0] 25)) fun b hb => Below.heap_alloc w _ b (by omega)
 go_call (l1DrawPlan_any B _ g A len cap hd0) as r w1 ⟨a, b, c, d, e, rfl, a1, a2, b1, b2, c1, c2, p1, p2, e1, e2, g1, d1⟩
 have hx : (w.alloc (.cells #[.int .i64 0, .int .i64 0, .int .i64 0, .int .i64 0, .int .i64 0] 25)).heap.size = w.heap.size + 1 := by simp
 have hs1 : w.heap.size + 1 ≤ w1.heap.size := by have := g1.size; simpa using this
 have k1 := (Blk.new w 25 #[.int .i64 0, .int .i64 0, .int .i64 0, .int .i64 0, .int .i64 0]).grown g1 (by intro e; injection e; omega)
 have G1 : w.grownBy w1 (some g) := grownBy_trans (only_of_below ((Below.refl _ _).alloc (Nat.le_refl _) _) _) g1
 clear g1 hd0
 go_wp2_with fail
 have kp := Blk.new w1 25 #[.int .i64 a, .int .i64 b, .int .i64 c, .int .i64 d, .int .i64 e]
 have hd1 := d1.keep (w' := w1.alloc (.cells #[.int .i64 a, .int .i64 b, .int .i64 c, .int .i64 d, .int .i64 e] 25)) fun b hb => Below.heap_alloc w1 _ b (by omega)
 have k2 := k1.alloc (.cells #[.int .i64 a, .int .i64 b, .int .i64 c, .int .i64 d, .int .i64 e] 25)
 have G2 : w.grownBy (w1.alloc (.cells #[.int .i64 a, .int .i64 b, .int .i64 c, .int .i64 d, .int .i64 e] 25)) (some g) := only_alloc G1 _
 go_call (l1Once_any B _ g A len cap 6 (by omega) (by omega) hd1) as r w2 ⟨t, rfl, g2, d2⟩
 have hx2 : (w1.alloc (.cells #[.int .i64 a, .int .i64 b, .int .i64 c, .int .i64 d, .int .i64 e] 25)).heap.size = w1.heap.size + 1 := by simp
 have hs2 : w1.heap.size + 1 ≤ w2.heap.size := by have := g2.size; simpa using this
 have kp2 := kp.grown g2 (by intro e; injection e; omega)
 have k3 := k2.grown g2 (by intro e; injection e; omega)
 have G3 := grownBy_trans G2 g2
 clear hd1 k2 G2 g2 kp k1 G1 d1 hx
 cases t
 ·have q0 : w2.cell? ⟨w1.heap.size, 0, none⟩ = some (.int .i64 a) := kp2.cell 0
  have z0 : w2.cell? ⟨w.heap.size, 0, none⟩ = some (.int .i64 0) := k3.cell 0
  have zf0 : w2.frozen? ⟨w.heap.size, 0, none⟩ = false := k3.frozen 0
  have q1 : w2.cell? ⟨w1.heap.size, 1, none⟩ = some (.int .i64 b) := kp2.cell 1
  have z1 : w2.cell? ⟨w.heap.size, 1, none⟩ = some (.int .i64 0) := k3.cell 1
  have zf1 : w2.frozen? ⟨w.heap.size, 1, none⟩ = false := k3.frozen 1
  have q2 : w2.cell? ⟨w1.heap.size, 2, none⟩ = some (.int .i64 c) := kp2.cell 2
  have z2 : w2.cell? ⟨w.heap.size, 2, none⟩ = some (.int .i64 0) := k3.cell 2
  have zf2 : w2.frozen? ⟨w.heap.size, 2, none⟩ = false := k3.frozen 2
  have q3 : w2.cell? ⟨w1.heap.size, 3, none⟩ = some (.int .i64 d) := kp2.cell 3
  have z3 : w2.cell? ⟨w.heap.size, 3, none⟩ = some (.int .i64 0) := k3.cell 3
  have zf3 : w2.frozen? ⟨w.heap.size, 3, none⟩ = false := k3.frozen 3
  have q4 : w2.cell? ⟨w1.heap.size, 4, none⟩ = some (.int .i64 e) := kp2.cell 4
  have z4 : w2.cell? ⟨w.heap.size, 4, none⟩ = some (.int .i64 0) := k3.cell 4
  have zf4 : w2.frozen? ⟨w.heap.size, 4, none⟩ = false := k3.frozen 4
  go_wp2
  have hbel : Below w.heap.size w2 (((((w2.setCell ⟨w.heap.size, 0, none⟩ (.int .i64 a)).setCell ⟨w.heap.size, 1, none⟩ (.int .i64 b)).setCell ⟨w.heap.size, 2, none⟩ (.int .i64 c)).setCell ⟨w.heap.size, 3, none⟩ (.int .i64 d)).setCell ⟨w.heap.size, 4, none⟩ (.int .i64 e)) := by go_grown
  exact bodyPost_ret (v := .agg #[.int .i64 a, .int .i64 b, .int .i64 c, .int .i64 d, .int .i64 e]) (by simp [results, Tryz.results87, go_sem, z0, z1, z2, z3, z4]) rfl ⟨_, _, _, _, _, rfl, ⟨by omega, by omega⟩, ⟨by omega, by omega⟩, ⟨by omega, by omega⟩, ⟨by omega, by omega⟩, ⟨by omega, by omega⟩, grown_then_below G3 hbel, d2.keep fun b hb => hbel.block b (by omega)⟩
 ·go_wp2_with fail
  go_call (l1Below_pos B _ g A len cap 5 (by omega) (by omega) d2) as r w3 ⟨u, rfl, u1, u2, g3, d3⟩
  have hs3 := g3.size
  have kp3 := kp2.grown g3 (by intro e; injection e; omega)
  have k4 := k3.grown g3 (by intro e; injection e; omega)
  have G4 := grownBy_trans G3 g3
  clear kp2 k3 G3 g3 d2
  have hu : u = 0 ∨ u = 1 ∨ u = 2 ∨ u = 3 ∨ u = 4 := by omega
  rcases hu with rfl | rfl | rfl | rfl | rfl
  ·go_wp2_with fail
   go_call (l1Num_any B _ g A len cap 8 (by omega) (by omega) d3) as r w4 ⟨x, rfl, hx, g4, d4⟩
   have hs4 := g4.size
   have kp4 := kp3.grown g4 (by intro e; injection e; omega)
   have k5 := k4.grown g4 (by intro e; injection e; omega)
   have G5 := grownBy_trans G4 g4
   clear kp3 k4 G4 g4 d3
   have pf0 : w4.frozen? ⟨w1.heap.size, 0, none⟩ = false := kp4.frozen 0
   have q0 : w4.cell? ⟨w1.heap.size, 0, none⟩ = some (.int .i64 a) := kp4.cell 0
   have z0 : w4.cell? ⟨w.heap.size, 0, none⟩ = some (.int .i64 0) := k5.cell 0
   have zf0 : w4.frozen? ⟨w.heap.size, 0, none⟩ = false := k5.frozen 0
   have q1 : w4.cell? ⟨w1.heap.size, 1, none⟩ = some (.int .i64 b) := kp4.cell 1
   have z1 : w4.cell? ⟨w.heap.size, 1, none⟩ = some (.int .i64 0) := k5.cell 1
   have zf1 : w4.frozen? ⟨w.heap.size, 1, none⟩ = false := k5.frozen 1
   have q2 : w4.cell? ⟨w1.heap.size, 2, none⟩ = some (.int .i64 c) := kp4.cell 2
   have z2 : w4.cell? ⟨w.heap.size, 2, none⟩ = some (.int .i64 0) := k5.cell 2
   have zf2 : w4.frozen? ⟨w.heap.size, 2, none⟩ = false := k5.frozen 2
   have q3 : w4.cell? ⟨w1.heap.size, 3, none⟩ = some (.int .i64 d) := kp4.cell 3
   have z3 : w4.cell? ⟨w.heap.size, 3, none⟩ = some (.int .i64 0) := k5.cell 3
   have zf3 : w4.frozen? ⟨w.heap.size, 3, none⟩ = false := k5.frozen 3
   have q4 : w4.cell? ⟨w1.heap.size, 4, none⟩ = some (.int .i64 e) := kp4.cell 4
   have z4 : w4.cell? ⟨w.heap.size, 4, none⟩ = some (.int .i64 0) := k5.cell 4
   have zf4 : w4.frozen? ⟨w.heap.size, 4, none⟩ = false := k5.frozen 4
   have hne : w1.heap.size ≠ w.heap.size := by omega
   have hne2 : w.heap.size ≠ w1.heap.size := by omega
   go_wp2
   have hbel : Below w.heap.size w4 ((((((w4.setCell ⟨w1.heap.size, 0, none⟩ (.int .i64 x)).setCell ⟨w.heap.size, 0, none⟩ (.int .i64 x)).setCell ⟨w.heap.size, 1, none⟩ (.int .i64 b)).setCell ⟨w.heap.size, 2, none⟩ (.int .i64 c)).setCell ⟨w.heap.size, 3, none⟩ (.int .i64 d)).setCell ⟨w.heap.size, 4, none⟩ (.int .i64 e)) := by go_grown
   exact bodyPost_ret (v := .agg #[.int .i64 x, .int .i64 b, .int .i64 c, .int .i64 d, .int .i64 e]) (by simp [results, Tryz.results87, go_sem, z0, z1, z2, z3, z4]) rfl ⟨_, _, _, _, _, rfl, hx, ⟨by omega, by omega⟩, ⟨by omega, by omega⟩, ⟨by omega, by omega⟩, ⟨by omega, by omega⟩, grown_then_below G5 hbel, d4.keep fun b hb => hbel.block b (by omega)⟩
  ·go_wp2_with fail
   go_call (l1Num_any B _ g A len cap 30 (by omega) (by omega) d3) as r w4 ⟨x, rfl, hx, g4, d4⟩
   have hs4 := g4.size
   have kp4 := kp3.grown g4 (by intro e; injection e; omega)
   have k5 := k4.grown g4 (by intro e; injection e; omega)
   have G5 := grownBy_trans G4 g4
   clear kp3 k4 G4 g4 d3
   have pf0 : w4.frozen? ⟨w1.heap.size, 1, none⟩ = false := kp4.frozen 1
   have q0 : w4.cell? ⟨w1.heap.size, 0, none⟩ = some (.int .i64 a) := kp4.cell 0
   have z0 : w4.cell? ⟨w.heap.size, 0, none⟩ = some (.int .i64 0) := k5.cell 0
   have zf0 : w4.frozen? ⟨w.heap.size, 0, none⟩ = false := k5.frozen 0
   have q1 : w4.cell? ⟨w1.heap.size, 1, none⟩ = some (.int .i64 b) := kp4.cell 1
   have z1 : w4.cell? ⟨w.heap.size, 1, none⟩ = some (.int .i64 0) := k5.cell 1
   have zf1 : w4.frozen? ⟨w.heap.size, 1, none⟩ = false := k5.frozen 1
   have q2 : w4.cell? ⟨w1.heap.size, 2, none⟩ = some (.int .i64 c) := kp4.cell 2
   have z2 : w4.cell? ⟨w.heap.size, 2, none⟩ = some (.int .i64 0) := k5.cell 2
   have zf2 : w4.frozen? ⟨w.heap.size, 2, none⟩ = false := k5.frozen 2
   have q3 : w4.cell? ⟨w1.heap.size, 3, none⟩ = some (.int .i64 d) := kp4.cell 3
   have z3 : w4.cell? ⟨w.heap.size, 3, none⟩ = some (.int .i64 0) := k5.cell 3
   have zf3 : w4.frozen? ⟨w.heap.size, 3, none⟩ = false := k5.frozen 3
   have q4 : w4.cell? ⟨w1.heap.size, 4, none⟩ = some (.int .i64 e) := kp4.cell 4
   have z4 : w4.cell? ⟨w.heap.size, 4, none⟩ = some (.int .i64 0) := k5.cell 4
   have zf4 : w4.frozen? ⟨w.heap.size, 4, none⟩ = false := k5.frozen 4
   have hne : w1.heap.size ≠ w.heap.size := by omega
   have hne2 : w.heap.size ≠ w1.heap.size := by omega
   go_wp2
   have hbel : Below w.heap.size w4 ((((((w4.setCell ⟨w1.heap.size, 1, none⟩ (.int .i64 x)).setCell ⟨w.heap.size, 0, none⟩ (.int .i64 a)).setCell ⟨w.heap.size, 1, none⟩ (.int .i64 x)).setCell ⟨w.heap.size, 2, none⟩ (.int .i64 c)).setCell ⟨w.heap.size, 3, none⟩ (.int .i64 d)).setCell ⟨w.heap.size, 4, none⟩ (.int .i64 e)) := by go_grown
   exact bodyPost_ret (v := .agg #[.int .i64 a, .int .i64 x, .int .i64 c, .int .i64 d, .int .i64 e]) (by simp [results, Tryz.results87, go_sem, z0, z1, z2, z3, z4]) rfl ⟨_, _, _, _, _, rfl, ⟨by omega, by omega⟩, hx, ⟨by omega, by omega⟩, ⟨by omega, by omega⟩, ⟨by omega, by omega⟩, grown_then_below G5 hbel, d4.keep fun b hb => hbel.block b (by omega)⟩
  ·go_wp2_with fail
   go_call (l1Num_any B _ g A len cap 4 (by omega) (by omega) d3) as r w4 ⟨x, rfl, hx, g4, d4⟩
   have hs4 := g4.size
   have kp4 := kp3.grown g4 (by intro e; injection e; omega)
   have k5 := k4.grown g4 (by intro e; injection e; omega)
   have G5 := grownBy_trans G4 g4
   clear kp3 k4 G4 g4 d3
   have pf0 : w4.frozen? ⟨w1.heap.size, 2, none⟩ = false := kp4.frozen 2
   have q0 : w4.cell? ⟨w1.heap.size, 0, none⟩ = some (.int .i64 a) := kp4.cell 0
   have z0 : w4.cell? ⟨w.heap.size, 0, none⟩ = some (.int .i64 0) := k5.cell 0
   have zf0 : w4.frozen? ⟨w.heap.size, 0, none⟩ = false := k5.frozen 0
   have q1 : w4.cell? ⟨w1.heap.size, 1, none⟩ = some (.int .i64 b) := kp4.cell 1
   have z1 : w4.cell? ⟨w.heap.size, 1, none⟩ = some (.int .i64 0) := k5.cell 1
   have zf1 : w4.frozen? ⟨w.heap.size, 1, none⟩ = false := k5.frozen 1
   have q2 : w4.cell? ⟨w1.heap.size, 2, none⟩ = some (.int .i64 c) := kp4.cell 2
   have z2 : w4.cell? ⟨w.heap.size, 2, none⟩ = some (.int .i64 0) := k5.cell 2
   have zf2 : w4.frozen? ⟨w.heap.size, 2, none⟩ = false := k5.frozen 2
   have q3 : w4.cell? ⟨w1.heap.size, 3, none⟩ = some (.int .i64 d) := kp4.cell 3
   have z3 : w4.cell? ⟨w.heap.size, 3, none⟩ = some (.int .i64 0) := k5.cell 3
   have zf3 : w4.frozen? ⟨w.heap.size, 3, none⟩ = false := k5.frozen 3
   have q4 : w4.cell? ⟨w1.heap.size, 4, none⟩ = some (.int .i64 e) := kp4.cell 4
   have z4 : w4.cell? ⟨w.heap.size, 4, none⟩ = some (.int .i64 0) := k5.cell 4
   have zf4 : w4.frozen? ⟨w.heap.size, 4, none⟩ = false := k5.frozen 4
   have hne : w1.heap.size ≠ w.heap.size := by omega
   have hne2 : w.heap.size ≠ w1.heap.size := by omega
   go_wp2
   have hbel : Below w.heap.size w4 ((((((w4.setCell ⟨w1.heap.size, 2, none⟩ (.int .i64 x)).setCell ⟨w.heap.size, 0, none⟩ (.int .i64 a)).setCell ⟨w.heap.size, 1, none⟩ (.int .i64 b)).setCell ⟨w.heap.size, 2, none⟩ (.int .i64 x)).setCell ⟨w.heap.size, 3, none⟩ (.int .i64 d)).setCell ⟨w.heap.size, 4, none⟩ (.int .i64 e)) := by go_grown
   exact bodyPost_ret (v := .agg #[.int .i64 a, .int .i64 b, .int .i64 x, .int .i64 d, .int .i64 e]) (by simp [results, Tryz.results87, go_sem, z0, z1, z2, z3, z4]) rfl ⟨_, _, _, _, _, rfl, ⟨by omega, by omega⟩, ⟨by omega, by omega⟩, hx, ⟨by omega, by omega⟩, ⟨by omega, by omega⟩, grown_then_below G5 hbel, d4.keep fun b hb => hbel.block b (by omega)⟩
  ·go_wp2_with fail
   go_call (l1Num_any B _ g A len cap 4 (by omega) (by omega) d3) as r w4 ⟨x, rfl, hx, g4, d4⟩
   have hs4 := g4.size
   have kp4 := kp3.grown g4 (by intro e; injection e; omega)
   have k5 := k4.grown g4 (by intro e; injection e; omega)
   have G5 := grownBy_trans G4 g4
   clear kp3 k4 G4 g4 d3
   have pf0 : w4.frozen? ⟨w1.heap.size, 3, none⟩ = false := kp4.frozen 3
   have q0 : w4.cell? ⟨w1.heap.size, 0, none⟩ = some (.int .i64 a) := kp4.cell 0
   have z0 : w4.cell? ⟨w.heap.size, 0, none⟩ = some (.int .i64 0) := k5.cell 0
   have zf0 : w4.frozen? ⟨w.heap.size, 0, none⟩ = false := k5.frozen 0
   have q1 : w4.cell? ⟨w1.heap.size, 1, none⟩ = some (.int .i64 b) := kp4.cell 1
   have z1 : w4.cell? ⟨w.heap.size, 1, none⟩ = some (.int .i64 0) := k5.cell 1
   have zf1 : w4.frozen? ⟨w.heap.size, 1, none⟩ = false := k5.frozen 1
   have q2 : w4.cell? ⟨w1.heap.size, 2, none⟩ = some (.int .i64 c) := kp4.cell 2
   have z2 : w4.cell? ⟨w.heap.size, 2, none⟩ = some (.int .i64 0) := k5.cell 2
   have zf2 : w4.frozen? ⟨w.heap.size, 2, none⟩ = false := k5.frozen 2
   have q3 : w4.cell? ⟨w1.heap.size, 3, none⟩ = some (.int .i64 d) := kp4.cell 3
   have z3 : w4.cell? ⟨w.heap.size, 3, none⟩ = some (.int .i64 0) := k5.cell 3
   have zf3 : w4.frozen? ⟨w.heap.size, 3, none⟩ = false := k5.frozen 3
   have q4 : w4.cell? ⟨w1.heap.size, 4, none⟩ = some (.int .i64 e) := kp4.cell 4
   have z4 : w4.cell? ⟨w.heap.size, 4, none⟩ = some (.int .i64 0) := k5.cell 4
   have zf4 : w4.frozen? ⟨w.heap.size, 4, none⟩ = false := k5.frozen 4
   have hne : w1.heap.size ≠ w.heap.size := by omega
   have hne2 : w.heap.size ≠ w1.heap.size := by omega
   go_wp2
   have hbel : Below w.heap.size w4 ((((((w4.setCell ⟨w1.heap.size, 3, none⟩ (.int .i64 x)).setCell ⟨w.heap.size, 0, none⟩ (.int .i64 a)).setCell ⟨w.heap.size, 1, none⟩ (.int .i64 b)).setCell ⟨w.heap.size, 2, none⟩ (.int .i64 c)).setCell ⟨w.heap.size, 3, none⟩ (.int .i64 x)).setCell ⟨w.heap.size, 4, none⟩ (.int .i64 e)) := by go_grown
   exact bodyPost_ret (v := .agg #[.int .i64 a, .int .i64 b, .int .i64 c, .int .i64 x, .int .i64 e]) (by simp [results, Tryz.results87, go_sem, z0, z1, z2, z3, z4]) rfl ⟨_, _, _, _, _, rfl, ⟨by omega, by omega⟩, ⟨by omega, by omega⟩, ⟨by omega, by omega⟩, hx, ⟨by omega, by omega⟩, grown_then_below G5 hbel, d4.keep fun b hb => hbel.block b (by omega)⟩
  ·go_wp2_with fail
   go_call (l1Num_any B _ g A len cap 4 (by omega) (by omega) d3) as r w4 ⟨x, rfl, hx, g4, d4⟩
   have hs4 := g4.size
   have kp4 := kp3.grown g4 (by intro e; injection e; omega)
   have k5 := k4.grown g4 (by intro e; injection e; omega)
   have G5 := grownBy_trans G4 g4
   clear kp3 k4 G4 g4 d3
   have pf0 : w4.frozen? ⟨w1.heap.size, 4, none⟩ = false := kp4.frozen 4
   have q0 : w4.cell? ⟨w1.heap.size, 0, none⟩ = some (.int .i64 a) := kp4.cell 0
   have z0 : w4.cell? ⟨w.heap.size, 0, none⟩ = some (.int .i64 0) := k5.cell 0
   have zf0 : w4.frozen? ⟨w.heap.size, 0, none⟩ = false := k5.frozen 0
   have q1 : w4.cell? ⟨w1.heap.size, 1, none⟩ = some (.int .i64 b) := kp4.cell 1
   have z1 : w4.cell? ⟨w.heap.size, 1, none⟩ = some (.int .i64 0) := k5.cell 1
   have zf1 : w4.frozen? ⟨w.heap.size, 1, none⟩ = false := k5.frozen 1
   have q2 : w4.cell? ⟨w1.heap.size, 2, none⟩ = some (.int .i64 c) := kp4.cell 2
   have z2 : w4.cell? ⟨w.heap.size, 2, none⟩ = some (.int .i64 0) := k5.cell 2
   have zf2 : w4.frozen? ⟨w.heap.size, 2, none⟩ = false := k5.frozen 2
   have q3 : w4.cell? ⟨w1.heap.size, 3, none⟩ = some (.int .i64 d) := kp4.cell 3
   have z3 : w4.cell? ⟨w.heap.size, 3, none⟩ = some (.int .i64 0) := k5.cell 3
   have zf3 : w4.frozen? ⟨w.heap.size, 3, none⟩ = false := k5.frozen 3
   have q4 : w4.cell? ⟨w1.heap.size, 4, none⟩ = some (.int .i64 e) := kp4.cell 4
   have z4 : w4.cell? ⟨w.heap.size, 4, none⟩ = some (.int .i64 0) := k5.cell 4
   have zf4 : w4.frozen? ⟨w.heap.size, 4, none⟩ = false := k5.frozen 4
   have hne : w1.heap.size ≠ w.heap.size := by omega
   have hne2 : w.heap.size ≠ w1.heap.size := by omega
   go_wp2
   have hbel : Below w.heap.size w4 ((((((w4.setCell ⟨w1.heap.size, 4, none⟩ (.int .i64 x)).setCell ⟨w.heap.size, 0, none⟩ (.int .i64 a)).setCell ⟨w.heap.size, 1, none⟩ (.int .i64 b)).setCell ⟨w.heap.size, 2, none⟩ (.int .i64 c)).setCell ⟨w.heap.size, 3, none⟩ (.int .i64 d)).setCell ⟨w.heap.size, 4, none⟩ (.int .i64 x)) := by go_grown
   exact bodyPost_ret (v := .agg #[.int .i64 a, .int .i64 b, .int .i64 c, .int .i64 d, .int .i64 x]) (by simp [results, Tryz.results87, go_sem, z0, z1, z2, z3, z4]) rfl ⟨_, _, _, _, _, rfl, ⟨by omega, by omega⟩, ⟨by omega, by omega⟩, ⟨by omega, by omega⟩, ⟨by omega, by omega⟩, hx, grown_then_below G5 hbel, d4.keep fun b hb => hbel.block b (by omega)⟩
end Go.Proofs.YtfjgelegojbmgaaGreat
