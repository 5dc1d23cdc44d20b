/- Chapter 2's law of tasks: a new task is right and open; whoever is done or cancelled is not; and on drawn plans and tasks program and model say the same. No condition. -/
import Derived.Test.YtojekigndpgoaaaTaskX
import Derived.Test.YtojekigndpgoaaaDice
import Derived.Test.YtojekigndpgoaaaDrawTaskOk
namespace Go.Proofs.Ytojekigndpgoaaa
open Go.RowKit

theorem gTaskOk_v (a b c d e s l o wt on v t : Int) (y : Bool) (h : taskB a b c d e s l o wt on v t = y) (w : World) :
    Calls Try.prog 12 #[.agg #[.int .i64 a, .int .i64 b, .int .i64 c, .int .i64 d, .int .i64 e], .agg #[.int .i64 s, .int .i64 l, .int .i64 o, .int .i64 wt, .int .i64 on, .int .i64 v, .int .i64 t]] w fun r w' => r = .returned (.bool y) ∧ Below w.heap.size w w' := h ▸ gTaskOk_any a b c d e s l o wt on v t w
theorem gIsOpen_v (s l o wt on v t : Int) (y : Bool) (h : openB s = y) (w : World) :
    Calls Try.prog 13 #[.agg #[.int .i64 s, .int .i64 l, .int .i64 o, .int .i64 wt, .int .i64 on, .int .i64 v, .int .i64 t]] w fun r w' => r = .returned (.bool y) ∧ Below w.heap.size w w' := h ▸ gIsOpen_any s l o wt on v t w
/-- A new task of a level of the plan is right; so is the same one, done or cancelled. -/
theorem newTask_right {a b c d e s l t : Int} (hp : planB a b c d e = true) (hs : s = 1 ∨ s = 4 ∨ s = 5) (l1 : 0 ≤ l) (l2 : l ≤ c - 1) (t1 : 0 ≤ t) (t2 : t ≤ 1000000) : taskB a b c d e s l (-1) 0 0 0 t = true := by
  have e1 : btw l 0 (c - 1) = true := btw_t l1 l2
  have e2 : btw t 0 1000000 = true := btw_t t1 t2
  rcases hs with rfl | rfl | rfl <;> simp [taskB, hp, ownB, waitB, btw] <;> omega

set_option maxRecDepth 100000 in
set_option maxHeartbeats 8000000 in
theorem tasks_any (w : World) (A : Option Addr) (len cap : Nat) (hby : Bytes w w.heap.size A len) :
    Calls Try.prog 3 #[.slice A len cap] w fun r w' => r = .returned (.bool true) ∧ Below w.heap.size w w' := by
  by_cases hl : len ≤ 4096
  · go_enter Try.func3, Try.ntmps3
    go_wp2_with fail
    go_call (big_any A len cap _) as r w' ⟨rfl, rfl⟩
    go_wp2_with fail
    go_call (roll_any w.heap.size w A len cap 3 (Nat.le_refl _) hl hby) as r W1 ⟨rfl, G, d⟩
    have z1 := d.lt
    go_wp2_with fail
    go_call (scheme_any w.heap.size W1 w.heap.size A len cap d) as r W2 ⟨a, b, c, dd, ee, rfl, a1, a2, b1, b2, c1, c2, p1, p2, e1, e2, g1, d1⟩
    have hbs := G.size
    replace G := below_only G g1 (by omega) (by omega)
    have z2 := g1.size
    clear g1 hbs
    try clear d
    have d := d1
    clear d1
    go_wp2_with fail
    have kP := Blk.new W2 28 #[.int .i64 a, .int .i64 b, .int .i64 c, .int .i64 dd, .int .i64 ee]
    have hdl := d.lt
    replace d := d.keep (w' := W2.alloc (.cells #[.int .i64 a, .int .i64 b, .int .i64 c, .int .i64 dd, .int .i64 ee] 28)) fun b hb => Below.heap_alloc W2 _ b (by omega)
    clear hdl
    have hbs := G.size
    replace G := G.alloc (by omega) (.cells #[.int .i64 a, .int .i64 b, .int .i64 c, .int .i64 dd, .int .i64 ee] 28)
    have z3 : (W2.alloc (.cells #[.int .i64 a, .int .i64 b, .int .i64 c, .int .i64 dd, .int .i64 ee] 28)).heap.size = W2.heap.size + 1 := by simp
    clear hbs
    generalize W2.alloc (.cells #[.int .i64 a, .int .i64 b, .int .i64 c, .int .i64 dd, .int .i64 ee] 28) = W3 at kP G z3 d ⊢
    go_call (below_any w.heap.size _ w.heap.size A len cap c (by omega) (by omega) d) as r W4 ⟨l, rfl, l1, l2, g1, d1⟩
    have hbs := G.size
    replace kP := kP.grown g1 (by intro e; injection e; omega)
    replace G := below_only G g1 (by omega) (by omega)
    have z4 := g1.size
    clear g1 hbs
    try clear d
    have d := d1
    clear d1
    go_wp2_with fail
    go_call (below_any w.heap.size _ w.heap.size A len cap 1000 (by omega) (by omega) d) as r W5 ⟨t, rfl, t1, t2, g1, d1⟩
    have hbs := G.size
    replace kP := kP.grown g1 (by intro e; injection e; omega)
    replace G := below_only G g1 (by omega) (by omega)
    have z5 := g1.size
    clear g1 hbs
    try clear d
    have d := d1
    clear d1
    go_wp2_with fail
    go_call (gNewTask_any l t _) as r W6 ⟨rfl, g1⟩
    have hbs := G.size
    replace kP := kP.below g1 kP.lt
    replace G := G.trans (g1.mono (by omega))
    have hdl := d.lt
    replace d := d.keep fun b hb => g1.block b (by omega)
    clear hdl
    have z6 := g1.size
    clear g1 hbs
    have tP : W2.heap.size < W6.heap.size := kP.lt
    have qP0 : W6.cell? ⟨W2.heap.size, 0, none⟩ = some (.int .i64 a) := kP.cell 0
    have fP0 : W6.frozen? ⟨W2.heap.size, 0, none⟩ = false := kP.frozen 0
    have qP1 : W6.cell? ⟨W2.heap.size, 1, none⟩ = some (.int .i64 b) := kP.cell 1
    have fP1 : W6.frozen? ⟨W2.heap.size, 1, none⟩ = false := kP.frozen 1
    have qP2 : W6.cell? ⟨W2.heap.size, 2, none⟩ = some (.int .i64 c) := kP.cell 2
    have fP2 : W6.frozen? ⟨W2.heap.size, 2, none⟩ = false := kP.frozen 2
    have qP3 : W6.cell? ⟨W2.heap.size, 3, none⟩ = some (.int .i64 dd) := kP.cell 3
    have fP3 : W6.frozen? ⟨W2.heap.size, 3, none⟩ = false := kP.frozen 3
    have qP4 : W6.cell? ⟨W2.heap.size, 4, none⟩ = some (.int .i64 ee) := kP.cell 4
    have fP4 : W6.frozen? ⟨W2.heap.size, 4, none⟩ = false := kP.frozen 4
    go_wp2_with fail
    clear tP qP0 fP0 qP1 fP1 qP2 fP2 qP3 fP3 qP4 fP4
    have kT := Blk.new W6 31 #[.int .i64 1, .int .i64 l, .int .i64 (-1), .int .i64 0, .int .i64 0, .int .i64 0, .int .i64 t]
    replace kP := kP.alloc (.cells #[.int .i64 1, .int .i64 l, .int .i64 (-1), .int .i64 0, .int .i64 0, .int .i64 0, .int .i64 t] 31)
    have hdl := d.lt
    replace d := d.keep (w' := W6.alloc (.cells #[.int .i64 1, .int .i64 l, .int .i64 (-1), .int .i64 0, .int .i64 0, .int .i64 0, .int .i64 t] 31)) fun b hb => Below.heap_alloc W6 _ b (by omega)
    clear hdl
    have hbs := G.size
    replace G := G.alloc (by omega) (.cells #[.int .i64 1, .int .i64 l, .int .i64 (-1), .int .i64 0, .int .i64 0, .int .i64 0, .int .i64 t] 31)
    have z7 : (W6.alloc (.cells #[.int .i64 1, .int .i64 l, .int .i64 (-1), .int .i64 0, .int .i64 0, .int .i64 0, .int .i64 t] 31)).heap.size = W6.heap.size + 1 := by simp
    clear hbs
    generalize W6.alloc (.cells #[.int .i64 1, .int .i64 l, .int .i64 (-1), .int .i64 0, .int .i64 0, .int .i64 0, .int .i64 t] 31) = W7 at kP kT G z7 d ⊢
    have hp : planB a b c dd ee = true := by simp [planB, btw]; omega
    have ht1 : taskB a b c dd ee 1 l (-1) 0 0 0 t = true := newTask_right hp (.inl rfl) l1 l2 t1 (by omega)
    go_call (gTaskOk_v a b c dd ee 1 l (-1) 0 0 0 t true ht1 _) as r W8 ⟨rfl, g1⟩
    have hbs := G.size
    replace kP := kP.below g1 kP.lt
    replace kT := kT.below g1 kT.lt
    replace G := G.trans (g1.mono (by omega))
    have hdl := d.lt
    replace d := d.keep fun b hb => g1.block b (by omega)
    clear hdl
    have z8 := g1.size
    clear g1 hbs
    have tP : W2.heap.size < W8.heap.size := kP.lt
    have qP0 : W8.cell? ⟨W2.heap.size, 0, none⟩ = some (.int .i64 a) := kP.cell 0
    have fP0 : W8.frozen? ⟨W2.heap.size, 0, none⟩ = false := kP.frozen 0
    have qP1 : W8.cell? ⟨W2.heap.size, 1, none⟩ = some (.int .i64 b) := kP.cell 1
    have fP1 : W8.frozen? ⟨W2.heap.size, 1, none⟩ = false := kP.frozen 1
    have qP2 : W8.cell? ⟨W2.heap.size, 2, none⟩ = some (.int .i64 c) := kP.cell 2
    have fP2 : W8.frozen? ⟨W2.heap.size, 2, none⟩ = false := kP.frozen 2
    have qP3 : W8.cell? ⟨W2.heap.size, 3, none⟩ = some (.int .i64 dd) := kP.cell 3
    have fP3 : W8.frozen? ⟨W2.heap.size, 3, none⟩ = false := kP.frozen 3
    have qP4 : W8.cell? ⟨W2.heap.size, 4, none⟩ = some (.int .i64 ee) := kP.cell 4
    have fP4 : W8.frozen? ⟨W2.heap.size, 4, none⟩ = false := kP.frozen 4
    have tT : W6.heap.size < W8.heap.size := kT.lt
    have qT0 : W8.cell? ⟨W6.heap.size, 0, none⟩ = some (.int .i64 1) := kT.cell 0
    have fT0 : W8.frozen? ⟨W6.heap.size, 0, none⟩ = false := kT.frozen 0
    have qT1 : W8.cell? ⟨W6.heap.size, 1, none⟩ = some (.int .i64 l) := kT.cell 1
    have fT1 : W8.frozen? ⟨W6.heap.size, 1, none⟩ = false := kT.frozen 1
    have qT2 : W8.cell? ⟨W6.heap.size, 2, none⟩ = some (.int .i64 (-1)) := kT.cell 2
    have fT2 : W8.frozen? ⟨W6.heap.size, 2, none⟩ = false := kT.frozen 2
    have qT3 : W8.cell? ⟨W6.heap.size, 3, none⟩ = some (.int .i64 0) := kT.cell 3
    have fT3 : W8.frozen? ⟨W6.heap.size, 3, none⟩ = false := kT.frozen 3
    have qT4 : W8.cell? ⟨W6.heap.size, 4, none⟩ = some (.int .i64 0) := kT.cell 4
    have fT4 : W8.frozen? ⟨W6.heap.size, 4, none⟩ = false := kT.frozen 4
    have qT5 : W8.cell? ⟨W6.heap.size, 5, none⟩ = some (.int .i64 0) := kT.cell 5
    have fT5 : W8.frozen? ⟨W6.heap.size, 5, none⟩ = false := kT.frozen 5
    have qT6 : W8.cell? ⟨W6.heap.size, 6, none⟩ = some (.int .i64 t) := kT.cell 6
    have fT6 : W8.frozen? ⟨W6.heap.size, 6, none⟩ = false := kT.frozen 6
    go_wp2_with fail
    go_call (gIsOpen_v 1 l (-1) 0 0 0 t true rfl _) as r W9 ⟨rfl, g1⟩
    clear tP qP0 fP0 qP1 fP1 qP2 fP2 qP3 fP3 qP4 fP4 tT qT0 fT0 qT1 fT1 qT2 fT2 qT3 fT3 qT4 fT4 qT5 fT5 qT6 fT6
    have hbs := G.size
    replace kP := kP.below g1 kP.lt
    replace kT := kT.below g1 kT.lt
    replace G := G.trans (g1.mono (by omega))
    have hdl := d.lt
    replace d := d.keep fun b hb => g1.block b (by omega)
    clear hdl
    have z9 := g1.size
    clear g1 hbs
    have tP : W2.heap.size < W9.heap.size := kP.lt
    have qP0 : W9.cell? ⟨W2.heap.size, 0, none⟩ = some (.int .i64 a) := kP.cell 0
    have fP0 : W9.frozen? ⟨W2.heap.size, 0, none⟩ = false := kP.frozen 0
    have qP1 : W9.cell? ⟨W2.heap.size, 1, none⟩ = some (.int .i64 b) := kP.cell 1
    have fP1 : W9.frozen? ⟨W2.heap.size, 1, none⟩ = false := kP.frozen 1
    have qP2 : W9.cell? ⟨W2.heap.size, 2, none⟩ = some (.int .i64 c) := kP.cell 2
    have fP2 : W9.frozen? ⟨W2.heap.size, 2, none⟩ = false := kP.frozen 2
    have qP3 : W9.cell? ⟨W2.heap.size, 3, none⟩ = some (.int .i64 dd) := kP.cell 3
    have fP3 : W9.frozen? ⟨W2.heap.size, 3, none⟩ = false := kP.frozen 3
    have qP4 : W9.cell? ⟨W2.heap.size, 4, none⟩ = some (.int .i64 ee) := kP.cell 4
    have fP4 : W9.frozen? ⟨W2.heap.size, 4, none⟩ = false := kP.frozen 4
    have tT : W6.heap.size < W9.heap.size := kT.lt
    have qT0 : W9.cell? ⟨W6.heap.size, 0, none⟩ = some (.int .i64 1) := kT.cell 0
    have fT0 : W9.frozen? ⟨W6.heap.size, 0, none⟩ = false := kT.frozen 0
    have qT1 : W9.cell? ⟨W6.heap.size, 1, none⟩ = some (.int .i64 l) := kT.cell 1
    have fT1 : W9.frozen? ⟨W6.heap.size, 1, none⟩ = false := kT.frozen 1
    have qT2 : W9.cell? ⟨W6.heap.size, 2, none⟩ = some (.int .i64 (-1)) := kT.cell 2
    have fT2 : W9.frozen? ⟨W6.heap.size, 2, none⟩ = false := kT.frozen 2
    have qT3 : W9.cell? ⟨W6.heap.size, 3, none⟩ = some (.int .i64 0) := kT.cell 3
    have fT3 : W9.frozen? ⟨W6.heap.size, 3, none⟩ = false := kT.frozen 3
    have qT4 : W9.cell? ⟨W6.heap.size, 4, none⟩ = some (.int .i64 0) := kT.cell 4
    have fT4 : W9.frozen? ⟨W6.heap.size, 4, none⟩ = false := kT.frozen 4
    have qT5 : W9.cell? ⟨W6.heap.size, 5, none⟩ = some (.int .i64 0) := kT.cell 5
    have fT5 : W9.frozen? ⟨W6.heap.size, 5, none⟩ = false := kT.frozen 5
    have qT6 : W9.cell? ⟨W6.heap.size, 6, none⟩ = some (.int .i64 t) := kT.cell 6
    have fT6 : W9.frozen? ⟨W6.heap.size, 6, none⟩ = false := kT.frozen 6
    go_wp2_with fail
    go_call (below_any w.heap.size _ w.heap.size A len cap 2 (by omega) (by omega) d) as r W10 ⟨xx, rfl, xx1, xx2, g1, d1⟩
    clear tP qP0 fP0 qP1 fP1 qP2 fP2 qP3 fP3 qP4 fP4 tT qT0 fT0 qT1 fT1 qT2 fT2 qT3 fT3 qT4 fT4 qT5 fT5 qT6 fT6
    have hbs := G.size
    replace kP := kP.grown g1 (by intro e; injection e; omega)
    replace kT := kT.grown g1 (by intro e; injection e; omega)
    replace G := below_only G g1 (by omega) (by omega)
    have z10 := g1.size
    clear g1 hbs
    try clear d
    have d := d1
    clear d1
    have tT : W6.heap.size < W10.heap.size := kT.lt
    have qT0 : W10.cell? ⟨W6.heap.size, 0, none⟩ = some (.int .i64 1) := kT.cell 0
    have fT0 : W10.frozen? ⟨W6.heap.size, 0, none⟩ = false := kT.frozen 0
    have qT1 : W10.cell? ⟨W6.heap.size, 1, none⟩ = some (.int .i64 l) := kT.cell 1
    have fT1 : W10.frozen? ⟨W6.heap.size, 1, none⟩ = false := kT.frozen 1
    have qT2 : W10.cell? ⟨W6.heap.size, 2, none⟩ = some (.int .i64 (-1)) := kT.cell 2
    have fT2 : W10.frozen? ⟨W6.heap.size, 2, none⟩ = false := kT.frozen 2
    have qT3 : W10.cell? ⟨W6.heap.size, 3, none⟩ = some (.int .i64 0) := kT.cell 3
    have fT3 : W10.frozen? ⟨W6.heap.size, 3, none⟩ = false := kT.frozen 3
    have qT4 : W10.cell? ⟨W6.heap.size, 4, none⟩ = some (.int .i64 0) := kT.cell 4
    have fT4 : W10.frozen? ⟨W6.heap.size, 4, none⟩ = false := kT.frozen 4
    have qT5 : W10.cell? ⟨W6.heap.size, 5, none⟩ = some (.int .i64 0) := kT.cell 5
    have fT5 : W10.frozen? ⟨W6.heap.size, 5, none⟩ = false := kT.frozen 5
    have qT6 : W10.cell? ⟨W6.heap.size, 6, none⟩ = some (.int .i64 t) := kT.cell 6
    have fT6 : W10.frozen? ⟨W6.heap.size, 6, none⟩ = false := kT.frozen 6
    go_wp2_with fail
    clear tT qT0 fT0 qT1 fT1 qT2 fT2 qT3 fT3 qT4 fT4 qT5 fT5 qT6 fT6
    replace kP := kP.far (p := ⟨W6.heap.size, 0, none⟩) (show W2.heap.size ≠ W6.heap.size by omega) (.int .i64 (4 + xx))
    replace kT : Blk (W10.setCell ⟨W6.heap.size, 0, none⟩ (.int .i64 (4 + xx))) W6.heap.size 31 #[.int .i64 (4 + xx), .int .i64 l, .int .i64 (-1), .int .i64 0, .int .i64 0, .int .i64 0, .int .i64 t] := kT.set_ 0 (.int .i64 (4 + xx))
    replace d := d.keep (w' := W10.setCell ⟨W6.heap.size, 0, none⟩ (.int .i64 (4 + xx))) fun b hb => Below.heap_setCell W10 ⟨W6.heap.size, 0, none⟩ _ b (show b ≠ W6.heap.size by omega)
    replace G : Below w.heap.size w (W10.setCell ⟨W6.heap.size, 0, none⟩ (.int .i64 (4 + xx))) := Below.setCell G (show w.heap.size ≤ W6.heap.size by omega) _
    have z11 : (W10.setCell ⟨W6.heap.size, 0, none⟩ (.int .i64 (4 + xx))).heap.size = W10.heap.size := by simp [World.setCell]
    generalize W10.setCell ⟨W6.heap.size, 0, none⟩ (.int .i64 (4 + xx)) = W11 at kP kT G z11 d ⊢
    have hbs := G.size
    have hby1 : Bytes W11 w.heap.size A len := hby.keep fun b hb => G.block b (by omega)
    go_call (drawTaskOk_any w.heap.size _ A len cap (by omega) hl hby1) as r W12 ⟨a6, b6, c6, d6, e6, s6, l6, o6, w6, n6, v6, t6, rfl, g1⟩
    have hbs := G.size
    replace kP := kP.below g1 kP.lt
    replace kT := kT.below g1 kT.lt
    replace G := G.trans (g1.mono (by omega))
    have z12 := g1.size
    clear g1 hbs
    have tP : W2.heap.size < W12.heap.size := kP.lt
    have qP0 : W12.cell? ⟨W2.heap.size, 0, none⟩ = some (.int .i64 a) := kP.cell 0
    have fP0 : W12.frozen? ⟨W2.heap.size, 0, none⟩ = false := kP.frozen 0
    have qP1 : W12.cell? ⟨W2.heap.size, 1, none⟩ = some (.int .i64 b) := kP.cell 1
    have fP1 : W12.frozen? ⟨W2.heap.size, 1, none⟩ = false := kP.frozen 1
    have qP2 : W12.cell? ⟨W2.heap.size, 2, none⟩ = some (.int .i64 c) := kP.cell 2
    have fP2 : W12.frozen? ⟨W2.heap.size, 2, none⟩ = false := kP.frozen 2
    have qP3 : W12.cell? ⟨W2.heap.size, 3, none⟩ = some (.int .i64 dd) := kP.cell 3
    have fP3 : W12.frozen? ⟨W2.heap.size, 3, none⟩ = false := kP.frozen 3
    have qP4 : W12.cell? ⟨W2.heap.size, 4, none⟩ = some (.int .i64 ee) := kP.cell 4
    have fP4 : W12.frozen? ⟨W2.heap.size, 4, none⟩ = false := kP.frozen 4
    have tT : W6.heap.size < W12.heap.size := kT.lt
    have qT0 : W12.cell? ⟨W6.heap.size, 0, none⟩ = some (.int .i64 (4 + xx)) := kT.cell 0
    have fT0 : W12.frozen? ⟨W6.heap.size, 0, none⟩ = false := kT.frozen 0
    have qT1 : W12.cell? ⟨W6.heap.size, 1, none⟩ = some (.int .i64 l) := kT.cell 1
    have fT1 : W12.frozen? ⟨W6.heap.size, 1, none⟩ = false := kT.frozen 1
    have qT2 : W12.cell? ⟨W6.heap.size, 2, none⟩ = some (.int .i64 (-1)) := kT.cell 2
    have fT2 : W12.frozen? ⟨W6.heap.size, 2, none⟩ = false := kT.frozen 2
    have qT3 : W12.cell? ⟨W6.heap.size, 3, none⟩ = some (.int .i64 0) := kT.cell 3
    have fT3 : W12.frozen? ⟨W6.heap.size, 3, none⟩ = false := kT.frozen 3
    have qT4 : W12.cell? ⟨W6.heap.size, 4, none⟩ = some (.int .i64 0) := kT.cell 4
    have fT4 : W12.frozen? ⟨W6.heap.size, 4, none⟩ = false := kT.frozen 4
    have qT5 : W12.cell? ⟨W6.heap.size, 5, none⟩ = some (.int .i64 0) := kT.cell 5
    have fT5 : W12.frozen? ⟨W6.heap.size, 5, none⟩ = false := kT.frozen 5
    have qT6 : W12.cell? ⟨W6.heap.size, 6, none⟩ = some (.int .i64 t) := kT.cell 6
    have fT6 : W12.frozen? ⟨W6.heap.size, 6, none⟩ = false := kT.frozen 6
    go_wp2_with fail
    clear tP qP0 fP0 qP1 fP1 qP2 fP2 qP3 fP3 qP4 fP4 tT qT0 fT0 qT1 fT1 qT2 fT2 qT3 fT3 qT4 fT4 qT5 fT5 qT6 fT6
    have kQ := Blk.new W12 28 #[.int .i64 a6, .int .i64 b6, .int .i64 c6, .int .i64 d6, .int .i64 e6]
    replace kP := kP.alloc (.cells #[.int .i64 a6, .int .i64 b6, .int .i64 c6, .int .i64 d6, .int .i64 e6] 28)
    replace kT := kT.alloc (.cells #[.int .i64 a6, .int .i64 b6, .int .i64 c6, .int .i64 d6, .int .i64 e6] 28)
    have hbs := G.size
    replace G := G.alloc (by omega) (.cells #[.int .i64 a6, .int .i64 b6, .int .i64 c6, .int .i64 d6, .int .i64 e6] 28)
    have z13 : (W12.alloc (.cells #[.int .i64 a6, .int .i64 b6, .int .i64 c6, .int .i64 d6, .int .i64 e6] 28)).heap.size = W12.heap.size + 1 := by simp
    clear hbs
    generalize W12.alloc (.cells #[.int .i64 a6, .int .i64 b6, .int .i64 c6, .int .i64 d6, .int .i64 e6] 28) = W13 at kP kT kQ G z13 ⊢
    have kS : Blk (W13.alloc (.cells #[.int .i64 s6, .int .i64 l6, .int .i64 o6, .int .i64 w6, .int .i64 n6, .int .i64 v6, .int .i64 t6] 31)) (W12.heap.size + 1) 31 #[.int .i64 s6, .int .i64 l6, .int .i64 o6, .int .i64 w6, .int .i64 n6, .int .i64 v6, .int .i64 t6] := by
      have h := Blk.new W13 31 #[.int .i64 s6, .int .i64 l6, .int .i64 o6, .int .i64 w6, .int .i64 n6, .int .i64 v6, .int .i64 t6]
      rw [show W13.heap.size = W12.heap.size + 1 by omega] at h
      exact h
    replace kP := kP.alloc (.cells #[.int .i64 s6, .int .i64 l6, .int .i64 o6, .int .i64 w6, .int .i64 n6, .int .i64 v6, .int .i64 t6] 31)
    replace kT := kT.alloc (.cells #[.int .i64 s6, .int .i64 l6, .int .i64 o6, .int .i64 w6, .int .i64 n6, .int .i64 v6, .int .i64 t6] 31)
    replace kQ := kQ.alloc (.cells #[.int .i64 s6, .int .i64 l6, .int .i64 o6, .int .i64 w6, .int .i64 n6, .int .i64 v6, .int .i64 t6] 31)
    have hbs := G.size
    replace G := G.alloc (by omega) (.cells #[.int .i64 s6, .int .i64 l6, .int .i64 o6, .int .i64 w6, .int .i64 n6, .int .i64 v6, .int .i64 t6] 31)
    have z14 : (W13.alloc (.cells #[.int .i64 s6, .int .i64 l6, .int .i64 o6, .int .i64 w6, .int .i64 n6, .int .i64 v6, .int .i64 t6] 31)).heap.size = W13.heap.size + 1 := by simp
    clear hbs
    generalize W13.alloc (.cells #[.int .i64 s6, .int .i64 l6, .int .i64 o6, .int .i64 w6, .int .i64 n6, .int .i64 v6, .int .i64 t6] 31) = W14 at kP kT kQ kS G z14 ⊢
    have ht2 : taskB a b c dd ee (4 + xx) l (-1) 0 0 0 t = true := newTask_right hp (by omega) l1 l2 t1 (by omega)
    have ho2 : openB (4 + xx) = false := by unfold openB btw; simp; omega
    have cP0 := KeptW.cell (W0 := W14) (b := W2.heap.size) (o := 0) (u := .int .i64 a) (kP.cell 0)
    have cP1 := KeptW.cell (W0 := W14) (b := W2.heap.size) (o := 1) (u := .int .i64 b) (kP.cell 1)
    have cP2 := KeptW.cell (W0 := W14) (b := W2.heap.size) (o := 2) (u := .int .i64 c) (kP.cell 2)
    have cP3 := KeptW.cell (W0 := W14) (b := W2.heap.size) (o := 3) (u := .int .i64 dd) (kP.cell 3)
    have cP4 := KeptW.cell (W0 := W14) (b := W2.heap.size) (o := 4) (u := .int .i64 ee) (kP.cell 4)
    have cT0 := KeptW.cell (W0 := W14) (b := W6.heap.size) (o := 0) (u := .int .i64 (4 + xx)) (kT.cell 0)
    have cT1 := KeptW.cell (W0 := W14) (b := W6.heap.size) (o := 1) (u := .int .i64 l) (kT.cell 1)
    have cT2 := KeptW.cell (W0 := W14) (b := W6.heap.size) (o := 2) (u := .int .i64 (-1)) (kT.cell 2)
    have cT3 := KeptW.cell (W0 := W14) (b := W6.heap.size) (o := 3) (u := .int .i64 0) (kT.cell 3)
    have cT4 := KeptW.cell (W0 := W14) (b := W6.heap.size) (o := 4) (u := .int .i64 0) (kT.cell 4)
    have cT5 := KeptW.cell (W0 := W14) (b := W6.heap.size) (o := 5) (u := .int .i64 0) (kT.cell 5)
    have cT6 := KeptW.cell (W0 := W14) (b := W6.heap.size) (o := 6) (u := .int .i64 t) (kT.cell 6)
    have cQ0 := KeptW.cell (W0 := W14) (b := W12.heap.size) (o := 0) (u := .int .i64 a6) (kQ.cell 0)
    have cQ1 := KeptW.cell (W0 := W14) (b := W12.heap.size) (o := 1) (u := .int .i64 b6) (kQ.cell 1)
    have cQ2 := KeptW.cell (W0 := W14) (b := W12.heap.size) (o := 2) (u := .int .i64 c6) (kQ.cell 2)
    have cQ3 := KeptW.cell (W0 := W14) (b := W12.heap.size) (o := 3) (u := .int .i64 d6) (kQ.cell 3)
    have cQ4 := KeptW.cell (W0 := W14) (b := W12.heap.size) (o := 4) (u := .int .i64 e6) (kQ.cell 4)
    have cS0 := KeptW.cell (W0 := W14) (b := W12.heap.size + 1) (o := 0) (u := .int .i64 s6) (kS.cell 0)
    have cS1 := KeptW.cell (W0 := W14) (b := W12.heap.size + 1) (o := 1) (u := .int .i64 l6) (kS.cell 1)
    have cS2 := KeptW.cell (W0 := W14) (b := W12.heap.size + 1) (o := 2) (u := .int .i64 o6) (kS.cell 2)
    have cS3 := KeptW.cell (W0 := W14) (b := W12.heap.size + 1) (o := 3) (u := .int .i64 w6) (kS.cell 3)
    have cS4 := KeptW.cell (W0 := W14) (b := W12.heap.size + 1) (o := 4) (u := .int .i64 n6) (kS.cell 4)
    have cS5 := KeptW.cell (W0 := W14) (b := W12.heap.size + 1) (o := 5) (u := .int .i64 v6) (kS.cell 5)
    have cS6 := KeptW.cell (W0 := W14) (b := W12.heap.size + 1) (o := 6) (u := .int .i64 t6) (kS.cell 6)
    have H := hide (⟨G, G.size⟩ : Below w.heap.size w W14 ∧ w.heap.size ≤ W14.heap.size)
    clear G kP kT kQ kS
    have hx0 := KeptW.mk'_w (Below.refl W14.heap.size W14)
    generalize KeptW.mk' (Below.refl W14.heap.size W14) = x at hx0
    rw [← hx0]
    clear hx0
    refine region_kept (by kernel_rfl) (by kernel_rfl) ?_
    repeat (go_big_quiet_step (first | (go_at_call 12; with_reducible exact (kept_call (gTaskOk_v a b c dd ee (4 + xx) l (-1) 0 0 0 t true ht2 _))) | (go_at_call 12; with_reducible exact (kept_call (gTaskOk_any a6 b6 c6 d6 e6 s6 l6 o6 w6 n6 v6 t6 _))) | (go_at_call 15; with_reducible exact (kept_call (sTaskOk_any a6 b6 c6 d6 e6 s6 l6 o6 w6 n6 v6 t6 _))) | (go_at_call 13; with_reducible exact (kept_call (gIsOpen_v (4 + xx) l (-1) 0 0 0 t false ho2 _))) | (go_at_call 13; with_reducible exact (kept_call (gIsOpen_any s6 l6 o6 w6 n6 v6 t6 _))) | (go_at_call 16; with_reducible exact (kept_call (sIsOpen_any s6 l6 o6 w6 n6 v6 t6 _)))))
    refine wpQuiet_nil ?_
    rintro _ ⟨x, rfl⟩
    go_wp2
    go_ret
    exact ⟨rfl, H.out.1.trans (x.below.mono H.out.2)⟩
  · go_enter Try.func3, Try.ntmps3
    go_wp2_with fail
    go_call (big_any A len cap _) as r w' ⟨rfl, rfl⟩
    go_wp2_with fail
    go_ret
    exact ⟨rfl, Below.refl _ _⟩
end Go.Proofs.Ytojekigndpgoaaa
