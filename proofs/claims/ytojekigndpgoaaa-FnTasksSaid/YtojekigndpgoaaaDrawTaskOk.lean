/- The model's draw for TaskOk: whatever the code, a plan and a task; what was in memory stays as it was. -/
import Derived.Test.YtojekigndpgoaaaDrawTask
import Derived.Deep.DeepCutAuto
namespace Go.Proofs.Ytojekigndpgoaaa
open Go.RowKit

def DrewTask (w : World) (r : Ending) (w' : World) : Prop :=
  ∃ a b c d e s l o wt on v t : Int, r = .returned (.tuple #[.agg #[.int .i64 a, .int .i64 b, .int .i64 c, .int .i64 d, .int .i64 e], .agg #[.int .i64 s, .int .i64 l, .int .i64 o, .int .i64 wt, .int .i64 on, .int .i64 v, .int .i64 t]]) ∧ Below w.heap.size w w'

set_option maxRecDepth 100000 in
set_option maxHeartbeats 8000000 in
theorem drawTaskOk_any (B : Nat) (w : World) (A : Option Addr) (len cap : Nat) (hB : B ≤ w.heap.size) (hl : len ≤ 4096) (hby : Bytes w B A len) :
    Calls Try.prog 14 #[.slice A len cap] w (DrewTask w) := by
  go_enter Try.func14, Try.ntmps14
  go_wp2_with fail
  have G := Below.refl w.heap.size w
  have kR := Blk.new w 28 #[.int .i64 0, .int .i64 0, .int .i64 0, .int .i64 0, .int .i64 0]
  have hbs := G.size
  replace G := G.alloc (by omega) (.cells #[.int .i64 0, .int .i64 0, .int .i64 0, .int .i64 0, .int .i64 0] 28)
  have z1 : (w.alloc (.cells #[.int .i64 0, .int .i64 0, .int .i64 0, .int .i64 0, .int .i64 0] 28)).heap.size = w.heap.size + 1 := by simp
  clear hbs
  generalize w.alloc (.cells #[.int .i64 0, .int .i64 0, .int .i64 0, .int .i64 0, .int .i64 0] 28) = W1 at kR G z1 ⊢
  have kQ : Blk (W1.alloc (.cells #[.int .i64 0, .int .i64 0, .int .i64 0, .int .i64 0, .int .i64 0, .int .i64 0, .int .i64 0] 31)) (w.heap.size + 1) 31 #[.int .i64 0, .int .i64 0, .int .i64 0, .int .i64 0, .int .i64 0, .int .i64 0, .int .i64 0] := by
    have h := Blk.new W1 31 #[.int .i64 0, .int .i64 0, .int .i64 0, .int .i64 0, .int .i64 0, .int .i64 0, .int .i64 0]
    rw [show W1.heap.size = w.heap.size + 1 by omega] at h
    exact h
  replace kR := kR.alloc (.cells #[.int .i64 0, .int .i64 0, .int .i64 0, .int .i64 0, .int .i64 0, .int .i64 0, .int .i64 0] 31)
  have hbs := G.size
  replace G := G.alloc (by omega) (.cells #[.int .i64 0, .int .i64 0, .int .i64 0, .int .i64 0, .int .i64 0, .int .i64 0, .int .i64 0] 31)
  have z2 : (W1.alloc (.cells #[.int .i64 0, .int .i64 0, .int .i64 0, .int .i64 0, .int .i64 0, .int .i64 0, .int .i64 0] 31)).heap.size = W1.heap.size + 1 := by simp
  clear hbs
  generalize W1.alloc (.cells #[.int .i64 0, .int .i64 0, .int .i64 0, .int .i64 0, .int .i64 0, .int .i64 0, .int .i64 0] 31) = W2 at kR kQ G z2 ⊢
  have hby1 : Bytes W2 B A len := hby.keep fun b hb => G.block b (by omega)
  have hbs := G.size
  go_call (l1New_any B _ A len cap (by omega) hl hby1) as r W3 ⟨rfl, g1, d⟩
  replace kR := kR.below g1 kR.lt
  replace kQ := kQ.below g1 kQ.lt
  replace G := G.trans (g1.mono (by omega))
  have hq : w.heap.size + 2 ≤ W2.heap.size := by omega
  have z3 := g1.size
  clear g1 hby1 hbs
  have zq := d.lt
  generalize W2.heap.size = gq at d hq zq ⊢
  go_wp2_with fail
  go_call (l1DrawPlan_any B _ gq A len cap d) as r W4 ⟨a, b, c, dd, ee, rfl, a1, a2, b1, b2, c1, c2, p1, p2, e1, e2, g1, d1⟩
  have hbs := G.size
  replace kR := kR.grown g1 (by intro e; injection e; omega)
  replace kQ := kQ.grown g1 (by intro e; injection e; omega)
  replace G := below_only G g1 (by omega) (by omega)
  have z4 := g1.size
  clear g1 hbs
  try clear d
  have d := d1
  clear d1
  go_wp2_with fail
  have kP := Blk.new W4 28 #[.int .i64 a, .int .i64 b, .int .i64 c, .int .i64 dd, .int .i64 ee]
  replace kR := kR.alloc (.cells #[.int .i64 a, .int .i64 b, .int .i64 c, .int .i64 dd, .int .i64 ee] 28)
  replace kQ := kQ.alloc (.cells #[.int .i64 a, .int .i64 b, .int .i64 c, .int .i64 dd, .int .i64 ee] 28)
  have hdl := d.lt
  replace d := d.keep (w' := W4.alloc (.cells #[.int .i64 a, .int .i64 b, .int .i64 c, .int .i64 dd, .int .i64 ee] 28)) fun b hb => Below.heap_alloc W4 _ b (by omega)
  clear hdl
  have hbs := G.size
  replace G := G.alloc (by omega) (.cells #[.int .i64 a, .int .i64 b, .int .i64 c, .int .i64 dd, .int .i64 ee] 28)
  have z5 : (W4.alloc (.cells #[.int .i64 a, .int .i64 b, .int .i64 c, .int .i64 dd, .int .i64 ee] 28)).heap.size = W4.heap.size + 1 := by simp
  clear hbs
  generalize W4.alloc (.cells #[.int .i64 a, .int .i64 b, .int .i64 c, .int .i64 dd, .int .i64 ee] 28) = W5 at kR kQ kP G z5 d ⊢
  have qP0 : W5.cell? ⟨W4.heap.size, 0, none⟩ = some (.int .i64 a) := kP.cell 0
  have fP0 : W5.frozen? ⟨W4.heap.size, 0, none⟩ = false := kP.frozen 0
  have qP1 : W5.cell? ⟨W4.heap.size, 1, none⟩ = some (.int .i64 b) := kP.cell 1
  have fP1 : W5.frozen? ⟨W4.heap.size, 1, none⟩ = false := kP.frozen 1
  have qP2 : W5.cell? ⟨W4.heap.size, 2, none⟩ = some (.int .i64 c) := kP.cell 2
  have fP2 : W5.frozen? ⟨W4.heap.size, 2, none⟩ = false := kP.frozen 2
  have qP3 : W5.cell? ⟨W4.heap.size, 3, none⟩ = some (.int .i64 dd) := kP.cell 3
  have fP3 : W5.frozen? ⟨W4.heap.size, 3, none⟩ = false := kP.frozen 3
  have qP4 : W5.cell? ⟨W4.heap.size, 4, none⟩ = some (.int .i64 ee) := kP.cell 4
  have fP4 : W5.frozen? ⟨W4.heap.size, 4, none⟩ = false := kP.frozen 4
  clear qP0 fP0 qP1 fP1 qP2 fP2 qP3 fP3 qP4 fP4
  go_call (l2Draw_any B _ gq A len cap a b c dd ee (by omega) (by omega) (by omega) (by omega) d) as r W6 ⟨s, l, o, wt, on, v, t, rfl, -, -, -, -, -, -, -, g1, d1⟩
  have hbs := G.size
  replace kR := kR.grown g1 (by intro e; injection e; omega)
  replace kQ := kQ.grown g1 (by intro e; injection e; omega)
  replace kP := kP.grown g1 (by intro e; injection e; omega)
  replace G := below_only G g1 (by omega) (by omega)
  have z6 := g1.size
  clear g1 hbs
  try clear d
  have d := d1
  clear d1
  go_wp2_with fail
  have kT := Blk.new W6 31 #[.int .i64 s, .int .i64 l, .int .i64 o, .int .i64 wt, .int .i64 on, .int .i64 v, .int .i64 t]
  replace kR := kR.alloc (.cells #[.int .i64 s, .int .i64 l, .int .i64 o, .int .i64 wt, .int .i64 on, .int .i64 v, .int .i64 t] 31)
  replace kQ := kQ.alloc (.cells #[.int .i64 s, .int .i64 l, .int .i64 o, .int .i64 wt, .int .i64 on, .int .i64 v, .int .i64 t] 31)
  replace kP := kP.alloc (.cells #[.int .i64 s, .int .i64 l, .int .i64 o, .int .i64 wt, .int .i64 on, .int .i64 v, .int .i64 t] 31)
  have hdl := d.lt
  replace d := d.keep (w' := W6.alloc (.cells #[.int .i64 s, .int .i64 l, .int .i64 o, .int .i64 wt, .int .i64 on, .int .i64 v, .int .i64 t] 31)) fun b hb => Below.heap_alloc W6 _ b (by omega)
  clear hdl
  have hbs := G.size
  replace G := G.alloc (by omega) (.cells #[.int .i64 s, .int .i64 l, .int .i64 o, .int .i64 wt, .int .i64 on, .int .i64 v, .int .i64 t] 31)
  have z7 : (W6.alloc (.cells #[.int .i64 s, .int .i64 l, .int .i64 o, .int .i64 wt, .int .i64 on, .int .i64 v, .int .i64 t] 31)).heap.size = W6.heap.size + 1 := by simp
  clear hbs
  generalize W6.alloc (.cells #[.int .i64 s, .int .i64 l, .int .i64 o, .int .i64 wt, .int .i64 on, .int .i64 v, .int .i64 t] 31) = W7 at kR kQ kP kT G z7 d ⊢
  go_call (l1Once_any B _ gq A len cap 12 (by omega) (by omega) d) as r W8 ⟨x1, rfl, g1, d1⟩
  have hbs := G.size
  replace kR := kR.grown g1 (by intro e; injection e; omega)
  replace kQ := kQ.grown g1 (by intro e; injection e; omega)
  replace kP := kP.grown g1 (by intro e; injection e; omega)
  replace kT := kT.grown g1 (by intro e; injection e; omega)
  replace G := below_only G g1 (by omega) (by omega)
  have z8 := g1.size
  clear g1 hbs
  try clear d
  have d := d1
  clear d1
  go_upto_if 15 with fail
  go_cut [] (fun wc => ∃ a3 b3 c3 d3 e3 : Int, Blk wc (w.heap.size) 28 #[.int .i64 0, .int .i64 0, .int .i64 0, .int .i64 0, .int .i64 0] ∧ Blk wc (w.heap.size + 1) 31 #[.int .i64 0, .int .i64 0, .int .i64 0, .int .i64 0, .int .i64 0, .int .i64 0, .int .i64 0] ∧ Blk wc (W4.heap.size) 28 #[.int .i64 a3, .int .i64 b3, .int .i64 c3, .int .i64 d3, .int .i64 e3] ∧ Blk wc (W6.heap.size) 31 #[.int .i64 s, .int .i64 l, .int .i64 o, .int .i64 wt, .int .i64 on, .int .i64 v, .int .i64 t] ∧ CurAt B wc gq A len cap ∧ Below w.heap.size w wc ∧ W8.heap.size ≤ wc.heap.size)
  case first =>
    cases x1
    · go_wp2_with fail
      have hbs := G.size
      go_meet
      case rel => exact ⟨_, _, _, _, _, kR, kQ, kP, kT, d, G, by omega⟩
    · go_wp2_with fail
      go_call (l1DrawAny_any B _ gq A len cap d) as r W9 ⟨a4, b4, c4, d4, e4, rfl, -, -, -, -, -, g1, d1⟩
      have hbs := G.size
      replace kR := kR.grown g1 (by intro e; injection e; omega)
      replace kQ := kQ.grown g1 (by intro e; injection e; omega)
      replace kP := kP.grown g1 (by intro e; injection e; omega)
      replace kT := kT.grown g1 (by intro e; injection e; omega)
      replace G := below_only G g1 (by omega) (by omega)
      have z9 := g1.size
      clear g1 hbs
      try clear d
      have d := d1
      clear d1
      have qP0 : W9.cell? ⟨W4.heap.size, 0, none⟩ = some (.int .i64 a) := kP.cell 0
      have fP0 : W9.frozen? ⟨W4.heap.size, 0, none⟩ = false := kP.frozen 0
      have qP1 : W9.cell? ⟨W4.heap.size, 1, none⟩ = some (.int .i64 b) := kP.cell 1
      have fP1 : W9.frozen? ⟨W4.heap.size, 1, none⟩ = false := kP.frozen 1
      have qP2 : W9.cell? ⟨W4.heap.size, 2, none⟩ = some (.int .i64 c) := kP.cell 2
      have fP2 : W9.frozen? ⟨W4.heap.size, 2, none⟩ = false := kP.frozen 2
      have qP3 : W9.cell? ⟨W4.heap.size, 3, none⟩ = some (.int .i64 dd) := kP.cell 3
      have fP3 : W9.frozen? ⟨W4.heap.size, 3, none⟩ = false := kP.frozen 3
      have qP4 : W9.cell? ⟨W4.heap.size, 4, none⟩ = some (.int .i64 ee) := kP.cell 4
      have fP4 : W9.frozen? ⟨W4.heap.size, 4, none⟩ = false := kP.frozen 4
      go_wp2_with fail
      clear qP0 fP0 qP1 fP1 qP2 fP2 qP3 fP3 qP4 fP4
      replace kR := kR.far (p := ⟨W4.heap.size, 0, none⟩) (show w.heap.size ≠ W4.heap.size by omega) (.int .i64 a4)
      replace kQ := kQ.far (p := ⟨W4.heap.size, 0, none⟩) (show w.heap.size + 1 ≠ W4.heap.size by omega) (.int .i64 a4)
      replace kT := kT.far (p := ⟨W4.heap.size, 0, none⟩) (show W6.heap.size ≠ W4.heap.size by omega) (.int .i64 a4)
      replace kP : Blk (W9.setCell ⟨W4.heap.size, 0, none⟩ (.int .i64 a4)) W4.heap.size 28 #[.int .i64 a4, .int .i64 b, .int .i64 c, .int .i64 dd, .int .i64 ee] := kP.set_ 0 (.int .i64 a4)
      replace d := d.keep (w' := W9.setCell ⟨W4.heap.size, 0, none⟩ (.int .i64 a4)) fun b hb => Below.heap_setCell W9 ⟨W4.heap.size, 0, none⟩ _ b (show b ≠ W4.heap.size by omega)
      replace G : Below w.heap.size w (W9.setCell ⟨W4.heap.size, 0, none⟩ (.int .i64 a4)) := Below.setCell G (show w.heap.size ≤ W4.heap.size by omega) _
      have z10 : (W9.setCell ⟨W4.heap.size, 0, none⟩ (.int .i64 a4)).heap.size = W9.heap.size := by simp [World.setCell]
      generalize W9.setCell ⟨W4.heap.size, 0, none⟩ (.int .i64 a4) = W10 at kR kQ kP kT G z10 d ⊢
      replace kR := kR.far (p := ⟨W4.heap.size, 1, none⟩) (show w.heap.size ≠ W4.heap.size by omega) (.int .i64 b4)
      replace kQ := kQ.far (p := ⟨W4.heap.size, 1, none⟩) (show w.heap.size + 1 ≠ W4.heap.size by omega) (.int .i64 b4)
      replace kT := kT.far (p := ⟨W4.heap.size, 1, none⟩) (show W6.heap.size ≠ W4.heap.size by omega) (.int .i64 b4)
      replace kP : Blk (W10.setCell ⟨W4.heap.size, 1, none⟩ (.int .i64 b4)) W4.heap.size 28 #[.int .i64 a4, .int .i64 b4, .int .i64 c, .int .i64 dd, .int .i64 ee] := kP.set_ 1 (.int .i64 b4)
      replace d := d.keep (w' := W10.setCell ⟨W4.heap.size, 1, none⟩ (.int .i64 b4)) fun b hb => Below.heap_setCell W10 ⟨W4.heap.size, 1, none⟩ _ b (show b ≠ W4.heap.size by omega)
      replace G : Below w.heap.size w (W10.setCell ⟨W4.heap.size, 1, none⟩ (.int .i64 b4)) := Below.setCell G (show w.heap.size ≤ W4.heap.size by omega) _
      have z11 : (W10.setCell ⟨W4.heap.size, 1, none⟩ (.int .i64 b4)).heap.size = W10.heap.size := by simp [World.setCell]
      generalize W10.setCell ⟨W4.heap.size, 1, none⟩ (.int .i64 b4) = W11 at kR kQ kP kT G z11 d ⊢
      replace kR := kR.far (p := ⟨W4.heap.size, 2, none⟩) (show w.heap.size ≠ W4.heap.size by omega) (.int .i64 c4)
      replace kQ := kQ.far (p := ⟨W4.heap.size, 2, none⟩) (show w.heap.size + 1 ≠ W4.heap.size by omega) (.int .i64 c4)
      replace kT := kT.far (p := ⟨W4.heap.size, 2, none⟩) (show W6.heap.size ≠ W4.heap.size by omega) (.int .i64 c4)
      replace kP : Blk (W11.setCell ⟨W4.heap.size, 2, none⟩ (.int .i64 c4)) W4.heap.size 28 #[.int .i64 a4, .int .i64 b4, .int .i64 c4, .int .i64 dd, .int .i64 ee] := kP.set_ 2 (.int .i64 c4)
      replace d := d.keep (w' := W11.setCell ⟨W4.heap.size, 2, none⟩ (.int .i64 c4)) fun b hb => Below.heap_setCell W11 ⟨W4.heap.size, 2, none⟩ _ b (show b ≠ W4.heap.size by omega)
      replace G : Below w.heap.size w (W11.setCell ⟨W4.heap.size, 2, none⟩ (.int .i64 c4)) := Below.setCell G (show w.heap.size ≤ W4.heap.size by omega) _
      have z12 : (W11.setCell ⟨W4.heap.size, 2, none⟩ (.int .i64 c4)).heap.size = W11.heap.size := by simp [World.setCell]
      generalize W11.setCell ⟨W4.heap.size, 2, none⟩ (.int .i64 c4) = W12 at kR kQ kP kT G z12 d ⊢
      replace kR := kR.far (p := ⟨W4.heap.size, 3, none⟩) (show w.heap.size ≠ W4.heap.size by omega) (.int .i64 d4)
      replace kQ := kQ.far (p := ⟨W4.heap.size, 3, none⟩) (show w.heap.size + 1 ≠ W4.heap.size by omega) (.int .i64 d4)
      replace kT := kT.far (p := ⟨W4.heap.size, 3, none⟩) (show W6.heap.size ≠ W4.heap.size by omega) (.int .i64 d4)
      replace kP : Blk (W12.setCell ⟨W4.heap.size, 3, none⟩ (.int .i64 d4)) W4.heap.size 28 #[.int .i64 a4, .int .i64 b4, .int .i64 c4, .int .i64 d4, .int .i64 ee] := kP.set_ 3 (.int .i64 d4)
      replace d := d.keep (w' := W12.setCell ⟨W4.heap.size, 3, none⟩ (.int .i64 d4)) fun b hb => Below.heap_setCell W12 ⟨W4.heap.size, 3, none⟩ _ b (show b ≠ W4.heap.size by omega)
      replace G : Below w.heap.size w (W12.setCell ⟨W4.heap.size, 3, none⟩ (.int .i64 d4)) := Below.setCell G (show w.heap.size ≤ W4.heap.size by omega) _
      have z13 : (W12.setCell ⟨W4.heap.size, 3, none⟩ (.int .i64 d4)).heap.size = W12.heap.size := by simp [World.setCell]
      generalize W12.setCell ⟨W4.heap.size, 3, none⟩ (.int .i64 d4) = W13 at kR kQ kP kT G z13 d ⊢
      replace kR := kR.far (p := ⟨W4.heap.size, 4, none⟩) (show w.heap.size ≠ W4.heap.size by omega) (.int .i64 e4)
      replace kQ := kQ.far (p := ⟨W4.heap.size, 4, none⟩) (show w.heap.size + 1 ≠ W4.heap.size by omega) (.int .i64 e4)
      replace kT := kT.far (p := ⟨W4.heap.size, 4, none⟩) (show W6.heap.size ≠ W4.heap.size by omega) (.int .i64 e4)
      replace kP : Blk (W13.setCell ⟨W4.heap.size, 4, none⟩ (.int .i64 e4)) W4.heap.size 28 #[.int .i64 a4, .int .i64 b4, .int .i64 c4, .int .i64 d4, .int .i64 e4] := kP.set_ 4 (.int .i64 e4)
      replace d := d.keep (w' := W13.setCell ⟨W4.heap.size, 4, none⟩ (.int .i64 e4)) fun b hb => Below.heap_setCell W13 ⟨W4.heap.size, 4, none⟩ _ b (show b ≠ W4.heap.size by omega)
      replace G : Below w.heap.size w (W13.setCell ⟨W4.heap.size, 4, none⟩ (.int .i64 e4)) := Below.setCell G (show w.heap.size ≤ W4.heap.size by omega) _
      have z14 : (W13.setCell ⟨W4.heap.size, 4, none⟩ (.int .i64 e4)).heap.size = W13.heap.size := by simp [World.setCell]
      generalize W13.setCell ⟨W4.heap.size, 4, none⟩ (.int .i64 e4) = W14 at kR kQ kP kT G z14 d ⊢
      have hbs := G.size
      go_meet
      case rel => exact ⟨_, _, _, _, _, kR, kQ, kP, kT, d, G, by omega⟩
  case rest =>
    try clear kR
    try clear kQ
    try clear kP
    try clear kT
    try clear d
    try clear G
    obtain ⟨a3, b3, c3, d3, e3, kR, kQ, kP, kT, d, G, z9⟩ := hcut
    generalize wc = W9 at kR kQ kP kT d G z9 ⊢
    go_wp2_with fail
    go_call (l1Once_any B _ gq A len cap 3 (by omega) (by omega) d) as r W10 ⟨x2, rfl, g1, d1⟩
    have hbs := G.size
    replace kR := kR.grown g1 (by intro e; injection e; omega)
    replace kQ := kQ.grown g1 (by intro e; injection e; omega)
    replace kP := kP.grown g1 (by intro e; injection e; omega)
    replace kT := kT.grown g1 (by intro e; injection e; omega)
    replace G := below_only G g1 (by omega) (by omega)
    have z10 := g1.size
    clear g1 hbs
    try clear d
    have d := d1
    clear d1
    go_upto_if 19 with fail
    go_cut [] (fun wc => ∃ s3 l3 o3 wt3 on3 v3 t3 : Int, Blk wc (w.heap.size) 28 #[.int .i64 0, .int .i64 0, .int .i64 0, .int .i64 0, .int .i64 0] ∧ Blk wc (w.heap.size + 1) 31 #[.int .i64 0, .int .i64 0, .int .i64 0, .int .i64 0, .int .i64 0, .int .i64 0, .int .i64 0] ∧ Blk wc (W4.heap.size) 28 #[.int .i64 a3, .int .i64 b3, .int .i64 c3, .int .i64 d3, .int .i64 e3] ∧ Blk wc (W6.heap.size) 31 #[.int .i64 s3, .int .i64 l3, .int .i64 o3, .int .i64 wt3, .int .i64 on3, .int .i64 v3, .int .i64 t3] ∧ CurAt B wc gq A len cap ∧ Below w.heap.size w wc ∧ W10.heap.size ≤ wc.heap.size)
    case first =>
      cases x2
      · go_wp2_with fail
        have hbs := G.size
        go_meet
        case rel => exact ⟨_, _, _, _, _, _, _, kR, kQ, kP, kT, d, G, by omega⟩
      · go_wp2_with fail
        go_call (l1Below_pos B _ gq A len cap 7 (by omega) (by omega) d) as r W11 ⟨u, rfl, u1, u2, g1, d1⟩
        have hbs := G.size
        replace kR := kR.grown g1 (by intro e; injection e; omega)
        replace kQ := kQ.grown g1 (by intro e; injection e; omega)
        replace kP := kP.grown g1 (by intro e; injection e; omega)
        replace kT := kT.grown g1 (by intro e; injection e; omega)
        replace G := below_only G g1 (by omega) (by omega)
        have z11 := g1.size
        clear g1 hbs
        try clear d
        have d := d1
        clear d1
        have hu : u = 0 ∨ u = 1 ∨ u = 2 ∨ u = 3 ∨ u = 4 ∨ u = 5 ∨ u = 6 := by omega
        rcases hu with rfl | rfl | rfl | rfl | rfl | rfl | rfl
        · go_wp2_with fail
          go_call (l1From_any B _ gq A len cap 0 6 (by omega) (by omega) (by omega) d) as r W12 ⟨n, rfl, n1, n2, g1, d1⟩
          have hbs := G.size
          replace kR := kR.grown g1 (by intro e; injection e; omega)
          replace kQ := kQ.grown g1 (by intro e; injection e; omega)
          replace kP := kP.grown g1 (by intro e; injection e; omega)
          replace kT := kT.grown g1 (by intro e; injection e; omega)
          replace G := below_only G g1 (by omega) (by omega)
          have z12 := g1.size
          clear g1 hbs
          try clear d
          have d := d1
          clear d1
          have qT0 : W12.cell? ⟨W6.heap.size, 0, none⟩ = some (.int .i64 s) := kT.cell 0
          have fT0 : W12.frozen? ⟨W6.heap.size, 0, none⟩ = false := kT.frozen 0
          have qT1 : W12.cell? ⟨W6.heap.size, 1, none⟩ = some (.int .i64 l) := kT.cell 1
          have fT1 : W12.frozen? ⟨W6.heap.size, 1, none⟩ = false := kT.frozen 1
          have qT2 : W12.cell? ⟨W6.heap.size, 2, none⟩ = some (.int .i64 o) := kT.cell 2
          have fT2 : W12.frozen? ⟨W6.heap.size, 2, none⟩ = false := kT.frozen 2
          have qT3 : W12.cell? ⟨W6.heap.size, 3, none⟩ = some (.int .i64 wt) := kT.cell 3
          have fT3 : W12.frozen? ⟨W6.heap.size, 3, none⟩ = false := kT.frozen 3
          have qT4 : W12.cell? ⟨W6.heap.size, 4, none⟩ = some (.int .i64 on) := kT.cell 4
          have fT4 : W12.frozen? ⟨W6.heap.size, 4, none⟩ = false := kT.frozen 4
          have qT5 : W12.cell? ⟨W6.heap.size, 5, none⟩ = some (.int .i64 v) := kT.cell 5
          have fT5 : W12.frozen? ⟨W6.heap.size, 5, none⟩ = false := kT.frozen 5
          have qT6 : W12.cell? ⟨W6.heap.size, 6, none⟩ = some (.int .i64 t) := kT.cell 6
          have fT6 : W12.frozen? ⟨W6.heap.size, 6, none⟩ = false := kT.frozen 6
          go_wp2_with fail
          clear qT0 fT0 qT1 fT1 qT2 fT2 qT3 fT3 qT4 fT4 qT5 fT5 qT6 fT6
          replace kR := kR.far (p := ⟨W6.heap.size, 0, none⟩) (show w.heap.size ≠ W6.heap.size by omega) (.int .i64 n)
          replace kQ := kQ.far (p := ⟨W6.heap.size, 0, none⟩) (show w.heap.size + 1 ≠ W6.heap.size by omega) (.int .i64 n)
          replace kP := kP.far (p := ⟨W6.heap.size, 0, none⟩) (show W4.heap.size ≠ W6.heap.size by omega) (.int .i64 n)
          replace kT : Blk (W12.setCell ⟨W6.heap.size, 0, none⟩ (.int .i64 n)) W6.heap.size 31 #[.int .i64 n, .int .i64 l, .int .i64 o, .int .i64 wt, .int .i64 on, .int .i64 v, .int .i64 t] := kT.set_ 0 (.int .i64 n)
          replace d := d.keep (w' := W12.setCell ⟨W6.heap.size, 0, none⟩ (.int .i64 n)) fun b hb => Below.heap_setCell W12 ⟨W6.heap.size, 0, none⟩ _ b (show b ≠ W6.heap.size by omega)
          replace G : Below w.heap.size w (W12.setCell ⟨W6.heap.size, 0, none⟩ (.int .i64 n)) := Below.setCell G (show w.heap.size ≤ W6.heap.size by omega) _
          have z13 : (W12.setCell ⟨W6.heap.size, 0, none⟩ (.int .i64 n)).heap.size = W12.heap.size := by simp [World.setCell]
          generalize W12.setCell ⟨W6.heap.size, 0, none⟩ (.int .i64 n) = W13 at kR kQ kP kT G z13 d ⊢
          have hbs := G.size
          go_meet
          case rel => exact ⟨_, _, _, _, _, _, _, kR, kQ, kP, kT, d, G, by omega⟩
        · go_wp2_with fail
          go_call (l1Num_any B _ gq A len cap 3 (by omega) (by omega) d) as r W12 ⟨n, rfl, n1, g1, d1⟩
          have hbs := G.size
          replace kR := kR.grown g1 (by intro e; injection e; omega)
          replace kQ := kQ.grown g1 (by intro e; injection e; omega)
          replace kP := kP.grown g1 (by intro e; injection e; omega)
          replace kT := kT.grown g1 (by intro e; injection e; omega)
          replace G := below_only G g1 (by omega) (by omega)
          have z12 := g1.size
          clear g1 hbs
          try clear d
          have d := d1
          clear d1
          have qT0 : W12.cell? ⟨W6.heap.size, 0, none⟩ = some (.int .i64 s) := kT.cell 0
          have fT0 : W12.frozen? ⟨W6.heap.size, 0, none⟩ = false := kT.frozen 0
          have qT1 : W12.cell? ⟨W6.heap.size, 1, none⟩ = some (.int .i64 l) := kT.cell 1
          have fT1 : W12.frozen? ⟨W6.heap.size, 1, none⟩ = false := kT.frozen 1
          have qT2 : W12.cell? ⟨W6.heap.size, 2, none⟩ = some (.int .i64 o) := kT.cell 2
          have fT2 : W12.frozen? ⟨W6.heap.size, 2, none⟩ = false := kT.frozen 2
          have qT3 : W12.cell? ⟨W6.heap.size, 3, none⟩ = some (.int .i64 wt) := kT.cell 3
          have fT3 : W12.frozen? ⟨W6.heap.size, 3, none⟩ = false := kT.frozen 3
          have qT4 : W12.cell? ⟨W6.heap.size, 4, none⟩ = some (.int .i64 on) := kT.cell 4
          have fT4 : W12.frozen? ⟨W6.heap.size, 4, none⟩ = false := kT.frozen 4
          have qT5 : W12.cell? ⟨W6.heap.size, 5, none⟩ = some (.int .i64 v) := kT.cell 5
          have fT5 : W12.frozen? ⟨W6.heap.size, 5, none⟩ = false := kT.frozen 5
          have qT6 : W12.cell? ⟨W6.heap.size, 6, none⟩ = some (.int .i64 t) := kT.cell 6
          have fT6 : W12.frozen? ⟨W6.heap.size, 6, none⟩ = false := kT.frozen 6
          go_wp2_with fail
          clear qT0 fT0 qT1 fT1 qT2 fT2 qT3 fT3 qT4 fT4 qT5 fT5 qT6 fT6
          replace kR := kR.far (p := ⟨W6.heap.size, 1, none⟩) (show w.heap.size ≠ W6.heap.size by omega) (.int .i64 n)
          replace kQ := kQ.far (p := ⟨W6.heap.size, 1, none⟩) (show w.heap.size + 1 ≠ W6.heap.size by omega) (.int .i64 n)
          replace kP := kP.far (p := ⟨W6.heap.size, 1, none⟩) (show W4.heap.size ≠ W6.heap.size by omega) (.int .i64 n)
          replace kT : Blk (W12.setCell ⟨W6.heap.size, 1, none⟩ (.int .i64 n)) W6.heap.size 31 #[.int .i64 s, .int .i64 n, .int .i64 o, .int .i64 wt, .int .i64 on, .int .i64 v, .int .i64 t] := kT.set_ 1 (.int .i64 n)
          replace d := d.keep (w' := W12.setCell ⟨W6.heap.size, 1, none⟩ (.int .i64 n)) fun b hb => Below.heap_setCell W12 ⟨W6.heap.size, 1, none⟩ _ b (show b ≠ W6.heap.size by omega)
          replace G : Below w.heap.size w (W12.setCell ⟨W6.heap.size, 1, none⟩ (.int .i64 n)) := Below.setCell G (show w.heap.size ≤ W6.heap.size by omega) _
          have z13 : (W12.setCell ⟨W6.heap.size, 1, none⟩ (.int .i64 n)).heap.size = W12.heap.size := by simp [World.setCell]
          generalize W12.setCell ⟨W6.heap.size, 1, none⟩ (.int .i64 n) = W13 at kR kQ kP kT G z13 d ⊢
          have hbs := G.size
          go_meet
          case rel => exact ⟨_, _, _, _, _, _, _, kR, kQ, kP, kT, d, G, by omega⟩
        · go_wp2_with fail
          go_call (l1From_any B _ gq A len cap (-2) 8 (by omega) (by omega) (by omega) d) as r W12 ⟨n, rfl, n1, n2, g1, d1⟩
          have hbs := G.size
          replace kR := kR.grown g1 (by intro e; injection e; omega)
          replace kQ := kQ.grown g1 (by intro e; injection e; omega)
          replace kP := kP.grown g1 (by intro e; injection e; omega)
          replace kT := kT.grown g1 (by intro e; injection e; omega)
          replace G := below_only G g1 (by omega) (by omega)
          have z12 := g1.size
          clear g1 hbs
          try clear d
          have d := d1
          clear d1
          have qT0 : W12.cell? ⟨W6.heap.size, 0, none⟩ = some (.int .i64 s) := kT.cell 0
          have fT0 : W12.frozen? ⟨W6.heap.size, 0, none⟩ = false := kT.frozen 0
          have qT1 : W12.cell? ⟨W6.heap.size, 1, none⟩ = some (.int .i64 l) := kT.cell 1
          have fT1 : W12.frozen? ⟨W6.heap.size, 1, none⟩ = false := kT.frozen 1
          have qT2 : W12.cell? ⟨W6.heap.size, 2, none⟩ = some (.int .i64 o) := kT.cell 2
          have fT2 : W12.frozen? ⟨W6.heap.size, 2, none⟩ = false := kT.frozen 2
          have qT3 : W12.cell? ⟨W6.heap.size, 3, none⟩ = some (.int .i64 wt) := kT.cell 3
          have fT3 : W12.frozen? ⟨W6.heap.size, 3, none⟩ = false := kT.frozen 3
          have qT4 : W12.cell? ⟨W6.heap.size, 4, none⟩ = some (.int .i64 on) := kT.cell 4
          have fT4 : W12.frozen? ⟨W6.heap.size, 4, none⟩ = false := kT.frozen 4
          have qT5 : W12.cell? ⟨W6.heap.size, 5, none⟩ = some (.int .i64 v) := kT.cell 5
          have fT5 : W12.frozen? ⟨W6.heap.size, 5, none⟩ = false := kT.frozen 5
          have qT6 : W12.cell? ⟨W6.heap.size, 6, none⟩ = some (.int .i64 t) := kT.cell 6
          have fT6 : W12.frozen? ⟨W6.heap.size, 6, none⟩ = false := kT.frozen 6
          go_wp2_with fail
          clear qT0 fT0 qT1 fT1 qT2 fT2 qT3 fT3 qT4 fT4 qT5 fT5 qT6 fT6
          replace kR := kR.far (p := ⟨W6.heap.size, 2, none⟩) (show w.heap.size ≠ W6.heap.size by omega) (.int .i64 n)
          replace kQ := kQ.far (p := ⟨W6.heap.size, 2, none⟩) (show w.heap.size + 1 ≠ W6.heap.size by omega) (.int .i64 n)
          replace kP := kP.far (p := ⟨W6.heap.size, 2, none⟩) (show W4.heap.size ≠ W6.heap.size by omega) (.int .i64 n)
          replace kT : Blk (W12.setCell ⟨W6.heap.size, 2, none⟩ (.int .i64 n)) W6.heap.size 31 #[.int .i64 s, .int .i64 l, .int .i64 n, .int .i64 wt, .int .i64 on, .int .i64 v, .int .i64 t] := kT.set_ 2 (.int .i64 n)
          replace d := d.keep (w' := W12.setCell ⟨W6.heap.size, 2, none⟩ (.int .i64 n)) fun b hb => Below.heap_setCell W12 ⟨W6.heap.size, 2, none⟩ _ b (show b ≠ W6.heap.size by omega)
          replace G : Below w.heap.size w (W12.setCell ⟨W6.heap.size, 2, none⟩ (.int .i64 n)) := Below.setCell G (show w.heap.size ≤ W6.heap.size by omega) _
          have z13 : (W12.setCell ⟨W6.heap.size, 2, none⟩ (.int .i64 n)).heap.size = W12.heap.size := by simp [World.setCell]
          generalize W12.setCell ⟨W6.heap.size, 2, none⟩ (.int .i64 n) = W13 at kR kQ kP kT G z13 d ⊢
          have hbs := G.size
          go_meet
          case rel => exact ⟨_, _, _, _, _, _, _, kR, kQ, kP, kT, d, G, by omega⟩
        · go_wp2_with fail
          go_call (l1From_any B _ gq A len cap (-1) 4 (by omega) (by omega) (by omega) d) as r W12 ⟨n, rfl, n1, n2, g1, d1⟩
          have hbs := G.size
          replace kR := kR.grown g1 (by intro e; injection e; omega)
          replace kQ := kQ.grown g1 (by intro e; injection e; omega)
          replace kP := kP.grown g1 (by intro e; injection e; omega)
          replace kT := kT.grown g1 (by intro e; injection e; omega)
          replace G := below_only G g1 (by omega) (by omega)
          have z12 := g1.size
          clear g1 hbs
          try clear d
          have d := d1
          clear d1
          have qT0 : W12.cell? ⟨W6.heap.size, 0, none⟩ = some (.int .i64 s) := kT.cell 0
          have fT0 : W12.frozen? ⟨W6.heap.size, 0, none⟩ = false := kT.frozen 0
          have qT1 : W12.cell? ⟨W6.heap.size, 1, none⟩ = some (.int .i64 l) := kT.cell 1
          have fT1 : W12.frozen? ⟨W6.heap.size, 1, none⟩ = false := kT.frozen 1
          have qT2 : W12.cell? ⟨W6.heap.size, 2, none⟩ = some (.int .i64 o) := kT.cell 2
          have fT2 : W12.frozen? ⟨W6.heap.size, 2, none⟩ = false := kT.frozen 2
          have qT3 : W12.cell? ⟨W6.heap.size, 3, none⟩ = some (.int .i64 wt) := kT.cell 3
          have fT3 : W12.frozen? ⟨W6.heap.size, 3, none⟩ = false := kT.frozen 3
          have qT4 : W12.cell? ⟨W6.heap.size, 4, none⟩ = some (.int .i64 on) := kT.cell 4
          have fT4 : W12.frozen? ⟨W6.heap.size, 4, none⟩ = false := kT.frozen 4
          have qT5 : W12.cell? ⟨W6.heap.size, 5, none⟩ = some (.int .i64 v) := kT.cell 5
          have fT5 : W12.frozen? ⟨W6.heap.size, 5, none⟩ = false := kT.frozen 5
          have qT6 : W12.cell? ⟨W6.heap.size, 6, none⟩ = some (.int .i64 t) := kT.cell 6
          have fT6 : W12.frozen? ⟨W6.heap.size, 6, none⟩ = false := kT.frozen 6
          go_wp2_with fail
          clear qT0 fT0 qT1 fT1 qT2 fT2 qT3 fT3 qT4 fT4 qT5 fT5 qT6 fT6
          replace kR := kR.far (p := ⟨W6.heap.size, 3, none⟩) (show w.heap.size ≠ W6.heap.size by omega) (.int .i64 n)
          replace kQ := kQ.far (p := ⟨W6.heap.size, 3, none⟩) (show w.heap.size + 1 ≠ W6.heap.size by omega) (.int .i64 n)
          replace kP := kP.far (p := ⟨W6.heap.size, 3, none⟩) (show W4.heap.size ≠ W6.heap.size by omega) (.int .i64 n)
          replace kT : Blk (W12.setCell ⟨W6.heap.size, 3, none⟩ (.int .i64 n)) W6.heap.size 31 #[.int .i64 s, .int .i64 l, .int .i64 o, .int .i64 n, .int .i64 on, .int .i64 v, .int .i64 t] := kT.set_ 3 (.int .i64 n)
          replace d := d.keep (w' := W12.setCell ⟨W6.heap.size, 3, none⟩ (.int .i64 n)) fun b hb => Below.heap_setCell W12 ⟨W6.heap.size, 3, none⟩ _ b (show b ≠ W6.heap.size by omega)
          replace G : Below w.heap.size w (W12.setCell ⟨W6.heap.size, 3, none⟩ (.int .i64 n)) := Below.setCell G (show w.heap.size ≤ W6.heap.size by omega) _
          have z13 : (W12.setCell ⟨W6.heap.size, 3, none⟩ (.int .i64 n)).heap.size = W12.heap.size := by simp [World.setCell]
          generalize W12.setCell ⟨W6.heap.size, 3, none⟩ (.int .i64 n) = W13 at kR kQ kP kT G z13 d ⊢
          have hbs := G.size
          go_meet
          case rel => exact ⟨_, _, _, _, _, _, _, kR, kQ, kP, kT, d, G, by omega⟩
        · go_wp2_with fail
          go_call (l1From_any B _ gq A len cap (-1) 5 (by omega) (by omega) (by omega) d) as r W12 ⟨n, rfl, n1, n2, g1, d1⟩
          have hbs := G.size
          replace kR := kR.grown g1 (by intro e; injection e; omega)
          replace kQ := kQ.grown g1 (by intro e; injection e; omega)
          replace kP := kP.grown g1 (by intro e; injection e; omega)
          replace kT := kT.grown g1 (by intro e; injection e; omega)
          replace G := below_only G g1 (by omega) (by omega)
          have z12 := g1.size
          clear g1 hbs
          try clear d
          have d := d1
          clear d1
          have qT0 : W12.cell? ⟨W6.heap.size, 0, none⟩ = some (.int .i64 s) := kT.cell 0
          have fT0 : W12.frozen? ⟨W6.heap.size, 0, none⟩ = false := kT.frozen 0
          have qT1 : W12.cell? ⟨W6.heap.size, 1, none⟩ = some (.int .i64 l) := kT.cell 1
          have fT1 : W12.frozen? ⟨W6.heap.size, 1, none⟩ = false := kT.frozen 1
          have qT2 : W12.cell? ⟨W6.heap.size, 2, none⟩ = some (.int .i64 o) := kT.cell 2
          have fT2 : W12.frozen? ⟨W6.heap.size, 2, none⟩ = false := kT.frozen 2
          have qT3 : W12.cell? ⟨W6.heap.size, 3, none⟩ = some (.int .i64 wt) := kT.cell 3
          have fT3 : W12.frozen? ⟨W6.heap.size, 3, none⟩ = false := kT.frozen 3
          have qT4 : W12.cell? ⟨W6.heap.size, 4, none⟩ = some (.int .i64 on) := kT.cell 4
          have fT4 : W12.frozen? ⟨W6.heap.size, 4, none⟩ = false := kT.frozen 4
          have qT5 : W12.cell? ⟨W6.heap.size, 5, none⟩ = some (.int .i64 v) := kT.cell 5
          have fT5 : W12.frozen? ⟨W6.heap.size, 5, none⟩ = false := kT.frozen 5
          have qT6 : W12.cell? ⟨W6.heap.size, 6, none⟩ = some (.int .i64 t) := kT.cell 6
          have fT6 : W12.frozen? ⟨W6.heap.size, 6, none⟩ = false := kT.frozen 6
          go_wp2_with fail
          clear qT0 fT0 qT1 fT1 qT2 fT2 qT3 fT3 qT4 fT4 qT5 fT5 qT6 fT6
          replace kR := kR.far (p := ⟨W6.heap.size, 4, none⟩) (show w.heap.size ≠ W6.heap.size by omega) (.int .i64 n)
          replace kQ := kQ.far (p := ⟨W6.heap.size, 4, none⟩) (show w.heap.size + 1 ≠ W6.heap.size by omega) (.int .i64 n)
          replace kP := kP.far (p := ⟨W6.heap.size, 4, none⟩) (show W4.heap.size ≠ W6.heap.size by omega) (.int .i64 n)
          replace kT : Blk (W12.setCell ⟨W6.heap.size, 4, none⟩ (.int .i64 n)) W6.heap.size 31 #[.int .i64 s, .int .i64 l, .int .i64 o, .int .i64 wt, .int .i64 n, .int .i64 v, .int .i64 t] := kT.set_ 4 (.int .i64 n)
          replace d := d.keep (w' := W12.setCell ⟨W6.heap.size, 4, none⟩ (.int .i64 n)) fun b hb => Below.heap_setCell W12 ⟨W6.heap.size, 4, none⟩ _ b (show b ≠ W6.heap.size by omega)
          replace G : Below w.heap.size w (W12.setCell ⟨W6.heap.size, 4, none⟩ (.int .i64 n)) := Below.setCell G (show w.heap.size ≤ W6.heap.size by omega) _
          have z13 : (W12.setCell ⟨W6.heap.size, 4, none⟩ (.int .i64 n)).heap.size = W12.heap.size := by simp [World.setCell]
          generalize W12.setCell ⟨W6.heap.size, 4, none⟩ (.int .i64 n) = W13 at kR kQ kP kT G z13 d ⊢
          have hbs := G.size
          go_meet
          case rel => exact ⟨_, _, _, _, _, _, _, kR, kQ, kP, kT, d, G, by omega⟩
        · go_wp2_with fail
          go_call (l1Num_any B _ gq A len cap 9999 (by omega) (by omega) d) as r W12 ⟨n, rfl, n1, g1, d1⟩
          have hbs := G.size
          replace kR := kR.grown g1 (by intro e; injection e; omega)
          replace kQ := kQ.grown g1 (by intro e; injection e; omega)
          replace kP := kP.grown g1 (by intro e; injection e; omega)
          replace kT := kT.grown g1 (by intro e; injection e; omega)
          replace G := below_only G g1 (by omega) (by omega)
          have z12 := g1.size
          clear g1 hbs
          try clear d
          have d := d1
          clear d1
          have qT0 : W12.cell? ⟨W6.heap.size, 0, none⟩ = some (.int .i64 s) := kT.cell 0
          have fT0 : W12.frozen? ⟨W6.heap.size, 0, none⟩ = false := kT.frozen 0
          have qT1 : W12.cell? ⟨W6.heap.size, 1, none⟩ = some (.int .i64 l) := kT.cell 1
          have fT1 : W12.frozen? ⟨W6.heap.size, 1, none⟩ = false := kT.frozen 1
          have qT2 : W12.cell? ⟨W6.heap.size, 2, none⟩ = some (.int .i64 o) := kT.cell 2
          have fT2 : W12.frozen? ⟨W6.heap.size, 2, none⟩ = false := kT.frozen 2
          have qT3 : W12.cell? ⟨W6.heap.size, 3, none⟩ = some (.int .i64 wt) := kT.cell 3
          have fT3 : W12.frozen? ⟨W6.heap.size, 3, none⟩ = false := kT.frozen 3
          have qT4 : W12.cell? ⟨W6.heap.size, 4, none⟩ = some (.int .i64 on) := kT.cell 4
          have fT4 : W12.frozen? ⟨W6.heap.size, 4, none⟩ = false := kT.frozen 4
          have qT5 : W12.cell? ⟨W6.heap.size, 5, none⟩ = some (.int .i64 v) := kT.cell 5
          have fT5 : W12.frozen? ⟨W6.heap.size, 5, none⟩ = false := kT.frozen 5
          have qT6 : W12.cell? ⟨W6.heap.size, 6, none⟩ = some (.int .i64 t) := kT.cell 6
          have fT6 : W12.frozen? ⟨W6.heap.size, 6, none⟩ = false := kT.frozen 6
          go_wp2_with fail
          clear qT0 fT0 qT1 fT1 qT2 fT2 qT3 fT3 qT4 fT4 qT5 fT5 qT6 fT6
          replace kR := kR.far (p := ⟨W6.heap.size, 5, none⟩) (show w.heap.size ≠ W6.heap.size by omega) (.int .i64 n)
          replace kQ := kQ.far (p := ⟨W6.heap.size, 5, none⟩) (show w.heap.size + 1 ≠ W6.heap.size by omega) (.int .i64 n)
          replace kP := kP.far (p := ⟨W6.heap.size, 5, none⟩) (show W4.heap.size ≠ W6.heap.size by omega) (.int .i64 n)
          replace kT : Blk (W12.setCell ⟨W6.heap.size, 5, none⟩ (.int .i64 n)) W6.heap.size 31 #[.int .i64 s, .int .i64 l, .int .i64 o, .int .i64 wt, .int .i64 on, .int .i64 n, .int .i64 t] := kT.set_ 5 (.int .i64 n)
          replace d := d.keep (w' := W12.setCell ⟨W6.heap.size, 5, none⟩ (.int .i64 n)) fun b hb => Below.heap_setCell W12 ⟨W6.heap.size, 5, none⟩ _ b (show b ≠ W6.heap.size by omega)
          replace G : Below w.heap.size w (W12.setCell ⟨W6.heap.size, 5, none⟩ (.int .i64 n)) := Below.setCell G (show w.heap.size ≤ W6.heap.size by omega) _
          have z13 : (W12.setCell ⟨W6.heap.size, 5, none⟩ (.int .i64 n)).heap.size = W12.heap.size := by simp [World.setCell]
          generalize W12.setCell ⟨W6.heap.size, 5, none⟩ (.int .i64 n) = W13 at kR kQ kP kT G z13 d ⊢
          have hbs := G.size
          go_meet
          case rel => exact ⟨_, _, _, _, _, _, _, kR, kQ, kP, kT, d, G, by omega⟩
        · go_wp2_with fail
          go_call (l1Num_any B _ gq A len cap 1000000 (by omega) (by omega) d) as r W12 ⟨n, rfl, n1, g1, d1⟩
          have hbs := G.size
          replace kR := kR.grown g1 (by intro e; injection e; omega)
          replace kQ := kQ.grown g1 (by intro e; injection e; omega)
          replace kP := kP.grown g1 (by intro e; injection e; omega)
          replace kT := kT.grown g1 (by intro e; injection e; omega)
          replace G := below_only G g1 (by omega) (by omega)
          have z12 := g1.size
          clear g1 hbs
          try clear d
          have d := d1
          clear d1
          have qT0 : W12.cell? ⟨W6.heap.size, 0, none⟩ = some (.int .i64 s) := kT.cell 0
          have fT0 : W12.frozen? ⟨W6.heap.size, 0, none⟩ = false := kT.frozen 0
          have qT1 : W12.cell? ⟨W6.heap.size, 1, none⟩ = some (.int .i64 l) := kT.cell 1
          have fT1 : W12.frozen? ⟨W6.heap.size, 1, none⟩ = false := kT.frozen 1
          have qT2 : W12.cell? ⟨W6.heap.size, 2, none⟩ = some (.int .i64 o) := kT.cell 2
          have fT2 : W12.frozen? ⟨W6.heap.size, 2, none⟩ = false := kT.frozen 2
          have qT3 : W12.cell? ⟨W6.heap.size, 3, none⟩ = some (.int .i64 wt) := kT.cell 3
          have fT3 : W12.frozen? ⟨W6.heap.size, 3, none⟩ = false := kT.frozen 3
          have qT4 : W12.cell? ⟨W6.heap.size, 4, none⟩ = some (.int .i64 on) := kT.cell 4
          have fT4 : W12.frozen? ⟨W6.heap.size, 4, none⟩ = false := kT.frozen 4
          have qT5 : W12.cell? ⟨W6.heap.size, 5, none⟩ = some (.int .i64 v) := kT.cell 5
          have fT5 : W12.frozen? ⟨W6.heap.size, 5, none⟩ = false := kT.frozen 5
          have qT6 : W12.cell? ⟨W6.heap.size, 6, none⟩ = some (.int .i64 t) := kT.cell 6
          have fT6 : W12.frozen? ⟨W6.heap.size, 6, none⟩ = false := kT.frozen 6
          go_wp2_with fail
          clear qT0 fT0 qT1 fT1 qT2 fT2 qT3 fT3 qT4 fT4 qT5 fT5 qT6 fT6
          replace kR := kR.far (p := ⟨W6.heap.size, 6, none⟩) (show w.heap.size ≠ W6.heap.size by omega) (.int .i64 n)
          replace kQ := kQ.far (p := ⟨W6.heap.size, 6, none⟩) (show w.heap.size + 1 ≠ W6.heap.size by omega) (.int .i64 n)
          replace kP := kP.far (p := ⟨W6.heap.size, 6, none⟩) (show W4.heap.size ≠ W6.heap.size by omega) (.int .i64 n)
          replace kT : Blk (W12.setCell ⟨W6.heap.size, 6, none⟩ (.int .i64 n)) W6.heap.size 31 #[.int .i64 s, .int .i64 l, .int .i64 o, .int .i64 wt, .int .i64 on, .int .i64 v, .int .i64 n] := kT.set_ 6 (.int .i64 n)
          replace d := d.keep (w' := W12.setCell ⟨W6.heap.size, 6, none⟩ (.int .i64 n)) fun b hb => Below.heap_setCell W12 ⟨W6.heap.size, 6, none⟩ _ b (show b ≠ W6.heap.size by omega)
          replace G : Below w.heap.size w (W12.setCell ⟨W6.heap.size, 6, none⟩ (.int .i64 n)) := Below.setCell G (show w.heap.size ≤ W6.heap.size by omega) _
          have z13 : (W12.setCell ⟨W6.heap.size, 6, none⟩ (.int .i64 n)).heap.size = W12.heap.size := by simp [World.setCell]
          generalize W12.setCell ⟨W6.heap.size, 6, none⟩ (.int .i64 n) = W13 at kR kQ kP kT G z13 d ⊢
          have hbs := G.size
          go_meet
          case rel => exact ⟨_, _, _, _, _, _, _, kR, kQ, kP, kT, d, G, by omega⟩
    case rest =>
      try clear kR
      try clear kQ
      try clear kP
      try clear kT
      try clear d
      try clear G
      obtain ⟨s3, l3, o3, wt3, on3, v3, t3, kR, kQ, kP, kT, d, G, z11⟩ := hcut
      generalize wc = W11 at kR kQ kP kT d G z11 ⊢
      have qR0 : W11.cell? ⟨w.heap.size, 0, none⟩ = some (.int .i64 0) := kR.cell 0
      have fR0 : W11.frozen? ⟨w.heap.size, 0, none⟩ = false := kR.frozen 0
      have qR1 : W11.cell? ⟨w.heap.size, 1, none⟩ = some (.int .i64 0) := kR.cell 1
      have fR1 : W11.frozen? ⟨w.heap.size, 1, none⟩ = false := kR.frozen 1
      have qR2 : W11.cell? ⟨w.heap.size, 2, none⟩ = some (.int .i64 0) := kR.cell 2
      have fR2 : W11.frozen? ⟨w.heap.size, 2, none⟩ = false := kR.frozen 2
      have qR3 : W11.cell? ⟨w.heap.size, 3, none⟩ = some (.int .i64 0) := kR.cell 3
      have fR3 : W11.frozen? ⟨w.heap.size, 3, none⟩ = false := kR.frozen 3
      have qR4 : W11.cell? ⟨w.heap.size, 4, none⟩ = some (.int .i64 0) := kR.cell 4
      have fR4 : W11.frozen? ⟨w.heap.size, 4, none⟩ = false := kR.frozen 4
      have qQ0 : W11.cell? ⟨w.heap.size + 1, 0, none⟩ = some (.int .i64 0) := kQ.cell 0
      have fQ0 : W11.frozen? ⟨w.heap.size + 1, 0, none⟩ = false := kQ.frozen 0
      have qQ1 : W11.cell? ⟨w.heap.size + 1, 1, none⟩ = some (.int .i64 0) := kQ.cell 1
      have fQ1 : W11.frozen? ⟨w.heap.size + 1, 1, none⟩ = false := kQ.frozen 1
      have qQ2 : W11.cell? ⟨w.heap.size + 1, 2, none⟩ = some (.int .i64 0) := kQ.cell 2
      have fQ2 : W11.frozen? ⟨w.heap.size + 1, 2, none⟩ = false := kQ.frozen 2
      have qQ3 : W11.cell? ⟨w.heap.size + 1, 3, none⟩ = some (.int .i64 0) := kQ.cell 3
      have fQ3 : W11.frozen? ⟨w.heap.size + 1, 3, none⟩ = false := kQ.frozen 3
      have qQ4 : W11.cell? ⟨w.heap.size + 1, 4, none⟩ = some (.int .i64 0) := kQ.cell 4
      have fQ4 : W11.frozen? ⟨w.heap.size + 1, 4, none⟩ = false := kQ.frozen 4
      have qQ5 : W11.cell? ⟨w.heap.size + 1, 5, none⟩ = some (.int .i64 0) := kQ.cell 5
      have fQ5 : W11.frozen? ⟨w.heap.size + 1, 5, none⟩ = false := kQ.frozen 5
      have qQ6 : W11.cell? ⟨w.heap.size + 1, 6, none⟩ = some (.int .i64 0) := kQ.cell 6
      have fQ6 : W11.frozen? ⟨w.heap.size + 1, 6, none⟩ = false := kQ.frozen 6
      have qP0 : W11.cell? ⟨W4.heap.size, 0, none⟩ = some (.int .i64 a3) := kP.cell 0
      have fP0 : W11.frozen? ⟨W4.heap.size, 0, none⟩ = false := kP.frozen 0
      have qP1 : W11.cell? ⟨W4.heap.size, 1, none⟩ = some (.int .i64 b3) := kP.cell 1
      have fP1 : W11.frozen? ⟨W4.heap.size, 1, none⟩ = false := kP.frozen 1
      have qP2 : W11.cell? ⟨W4.heap.size, 2, none⟩ = some (.int .i64 c3) := kP.cell 2
      have fP2 : W11.frozen? ⟨W4.heap.size, 2, none⟩ = false := kP.frozen 2
      have qP3 : W11.cell? ⟨W4.heap.size, 3, none⟩ = some (.int .i64 d3) := kP.cell 3
      have fP3 : W11.frozen? ⟨W4.heap.size, 3, none⟩ = false := kP.frozen 3
      have qP4 : W11.cell? ⟨W4.heap.size, 4, none⟩ = some (.int .i64 e3) := kP.cell 4
      have fP4 : W11.frozen? ⟨W4.heap.size, 4, none⟩ = false := kP.frozen 4
      have qT0 : W11.cell? ⟨W6.heap.size, 0, none⟩ = some (.int .i64 s3) := kT.cell 0
      have fT0 : W11.frozen? ⟨W6.heap.size, 0, none⟩ = false := kT.frozen 0
      have qT1 : W11.cell? ⟨W6.heap.size, 1, none⟩ = some (.int .i64 l3) := kT.cell 1
      have fT1 : W11.frozen? ⟨W6.heap.size, 1, none⟩ = false := kT.frozen 1
      have qT2 : W11.cell? ⟨W6.heap.size, 2, none⟩ = some (.int .i64 o3) := kT.cell 2
      have fT2 : W11.frozen? ⟨W6.heap.size, 2, none⟩ = false := kT.frozen 2
      have qT3 : W11.cell? ⟨W6.heap.size, 3, none⟩ = some (.int .i64 wt3) := kT.cell 3
      have fT3 : W11.frozen? ⟨W6.heap.size, 3, none⟩ = false := kT.frozen 3
      have qT4 : W11.cell? ⟨W6.heap.size, 4, none⟩ = some (.int .i64 on3) := kT.cell 4
      have fT4 : W11.frozen? ⟨W6.heap.size, 4, none⟩ = false := kT.frozen 4
      have qT5 : W11.cell? ⟨W6.heap.size, 5, none⟩ = some (.int .i64 v3) := kT.cell 5
      have fT5 : W11.frozen? ⟨W6.heap.size, 5, none⟩ = false := kT.frozen 5
      have qT6 : W11.cell? ⟨W6.heap.size, 6, none⟩ = some (.int .i64 t3) := kT.cell 6
      have fT6 : W11.frozen? ⟨W6.heap.size, 6, none⟩ = false := kT.frozen 6
      have hne0 : W4.heap.size ≠ W6.heap.size := by omega
      have hne1 : W4.heap.size ≠ w.heap.size := by omega
      have hne2 : W4.heap.size ≠ w.heap.size + 1 := by omega
      have hne3 : W6.heap.size ≠ W4.heap.size := by omega
      have hne4 : W6.heap.size ≠ w.heap.size := by omega
      have hne5 : W6.heap.size ≠ w.heap.size + 1 := by omega
      have hne6 : w.heap.size ≠ W4.heap.size := by omega
      have hne7 : w.heap.size ≠ W6.heap.size := by omega
      have hne8 : w.heap.size + 1 ≠ W4.heap.size := by omega
      have hne9 : w.heap.size + 1 ≠ W6.heap.size := by omega
      go_wp2
      go_region
      all_goals go_wp2
      all_goals exact bodyPost_ret (v := .tuple #[.agg #[.int .i64 a3, .int .i64 b3, .int .i64 c3, .int .i64 d3, .int .i64 e3], .agg #[.int .i64 s3, .int .i64 l3, .int .i64 o3, .int .i64 wt3, .int .i64 on3, .int .i64 v3, .int .i64 t3]]) (by simp [results, Try.results14, go_sem, qR0, qR1, qR2, qR3, qR4, qQ0, qQ1, qQ2, qQ3, qQ4, qQ5, qQ6]) rfl ⟨_, _, _, _, _, _, _, _, _, _, _, _, rfl, by go_grown⟩
end Go.Proofs.Ytojekigndpgoaaa
