/- The exact law of NewPool: whatever the plan, true; what was in memory stays as it was. No condition. -/
import Derived.Test.YthkmlmmgfjicfaaNewPoolG
import Derived.Test.YthkmlmmgfjicfaaMark
namespace Go.Proofs.Ythkmlmmgfjicfaa
open Go.RowKit
set_option linter.unusedVariables false

theorem newPool_both (a b c d e : Int) : ∃ (ks : List Int) (fs : List F2) (tn : Int), ks.length ≤ 4 ∧ fs.length ≤ 4 ∧
    Hid (∀ w, Calls Try.prog 24 #[.agg #[.int .i64 a, .int .i64 b, .int .i64 c, .int .i64 d, .int .i64 e]] w (MadePool w [] ks fs tn false)) ∧ Hid (∀ w, Calls Try.prog 11 #[.agg #[.int .i64 a, .int .i64 b, .int .i64 c, .int .i64 d, .int .i64 e]] w (MadePool w [] ks fs tn false)) := by
  by_cases hp : planB a b c d e = true
  · have hb := planB_all hp
    obtain ⟨d', rfl⟩ : ∃ n : Nat, d = n := ⟨d.toNat, by omega⟩
    obtain ⟨e', rfl⟩ : ∃ n : Nat, e = n := ⟨e.toNat, by omega⟩
    exact ⟨_, _, _, by rw [List.length_replicate]; omega, by rw [List.length_replicate]; omega, hide (fun w => sNewPool_any a b c d' e' w hp), hide (fun w => gNewPool_any a b c d' e' w hp)⟩
  · have hp' : planB a b c d e = false := by simpa using hp
    exact ⟨[], [], 0, by simp, by simp, hide (fun w => sNewPool_zero a b c d e w hp'), hide (fun w => gNewPool_zero a b c d e w hp')⟩

set_option maxRecDepth 100000 in
set_option maxHeartbeats 4000000 in
theorem xNewPool_any (a b c d e : Int) (w : World) : Calls Try.prog 5 #[.agg #[.int .i64 a, .int .i64 b, .int .i64 c, .int .i64 d, .int .i64 e]] w fun r w' => r = .returned (.bool true) ∧ Below w.heap.size w w' := by
  obtain ⟨ks, fs, tn, hk, hf, hS, hI⟩ := newPool_both a b c d e
  go_enter Try.func5, Try.ntmps5
  go_wp2_with fail
  have G := Below.refl w.heap.size w
  have kP := Blk.new w 42 #[.int .i64 a, .int .i64 b, .int .i64 c, .int .i64 d, .int .i64 e]
  have hbs := G.size
  replace G := G.alloc (by omega) (.cells #[.int .i64 a, .int .i64 b, .int .i64 c, .int .i64 d, .int .i64 e] 42)
  have z1 : (w.alloc (.cells #[.int .i64 a, .int .i64 b, .int .i64 c, .int .i64 d, .int .i64 e] 42)).heap.size = w.heap.size + 1 := by simp
  clear hbs
  generalize w.alloc (.cells #[.int .i64 a, .int .i64 b, .int .i64 c, .int .i64 d, .int .i64 e] 42) = W1 at kP G z1 ⊢
  have tP : w.heap.size < W1.heap.size := kP.lt
  have qP0 : W1.cell? ⟨w.heap.size, 0, none⟩ = some (.int .i64 a) := kP.cell 0
  have qP1 : W1.cell? ⟨w.heap.size, 1, none⟩ = some (.int .i64 b) := kP.cell 1
  have qP2 : W1.cell? ⟨w.heap.size, 2, none⟩ = some (.int .i64 c) := kP.cell 2
  have qP3 : W1.cell? ⟨w.heap.size, 3, none⟩ = some (.int .i64 d) := kP.cell 3
  have qP4 : W1.cell? ⟨w.heap.size, 4, none⟩ = some (.int .i64 e) := kP.cell 4
  go_wp2_with fail
  go_call (toPlan_any a b c d e _) as r W2 ⟨rfl, g1⟩
  clear tP qP0 qP1 qP2 qP3 qP4
  have hbs := G.size
  replace kP := kP.below g1 kP.lt
  replace G := G.trans (g1.mono (by omega))
  have z2 := g1.size
  clear g1 hbs
  have tP : w.heap.size < W2.heap.size := kP.lt
  have qP0 : W2.cell? ⟨w.heap.size, 0, none⟩ = some (.int .i64 a) := kP.cell 0
  have qP1 : W2.cell? ⟨w.heap.size, 1, none⟩ = some (.int .i64 b) := kP.cell 1
  have qP2 : W2.cell? ⟨w.heap.size, 2, none⟩ = some (.int .i64 c) := kP.cell 2
  have qP3 : W2.cell? ⟨w.heap.size, 3, none⟩ = some (.int .i64 d) := kP.cell 3
  have qP4 : W2.cell? ⟨w.heap.size, 4, none⟩ = some (.int .i64 e) := kP.cell 4
  go_wp2_with fail
  go_call (hS.out _) as r W3 ⟨A0, A1, A2, c0, c1, c2, rfl, ownS, g1⟩
  clear tP qP0 qP1 qP2 qP3 qP4
  have hbs := G.size
  replace kP := kP.below g1 kP.lt
  replace G := G.trans (g1.mono (by omega))
  have z3 := g1.size
  clear g1 hbs
  have rS := ownS
  clear ownS
  have tP : w.heap.size < W3.heap.size := kP.lt
  have qP0 : W3.cell? ⟨w.heap.size, 0, none⟩ = some (.int .i64 a) := kP.cell 0
  have qP1 : W3.cell? ⟨w.heap.size, 1, none⟩ = some (.int .i64 b) := kP.cell 1
  have qP2 : W3.cell? ⟨w.heap.size, 2, none⟩ = some (.int .i64 c) := kP.cell 2
  have qP3 : W3.cell? ⟨w.heap.size, 3, none⟩ = some (.int .i64 d) := kP.cell 3
  have qP4 : W3.cell? ⟨w.heap.size, 4, none⟩ = some (.int .i64 e) := kP.cell 4
  go_wp2_with fail
  clear tP qP0 qP1 qP2 qP3 qP4
  have kX := Blk.new W3 34 #[.slice A0 0 c0, .slice A1 ks.length c1, .slice A2 fs.length c2, .int .i64 tn, .bool false]
  replace kP := kP.alloc (.cells #[.slice A0 0 c0, .slice A1 ks.length c1, .slice A2 fs.length c2, .int .i64 tn, .bool false] 34)
  replace rS := rS.alloc (.cells #[.slice A0 0 c0, .slice A1 ks.length c1, .slice A2 fs.length c2, .int .i64 tn, .bool false] 34)
  have hbs := G.size
  replace G := G.alloc (by omega) (.cells #[.slice A0 0 c0, .slice A1 ks.length c1, .slice A2 fs.length c2, .int .i64 tn, .bool false] 34)
  have z4 : (W3.alloc (.cells #[.slice A0 0 c0, .slice A1 ks.length c1, .slice A2 fs.length c2, .int .i64 tn, .bool false] 34)).heap.size = W3.heap.size + 1 := by simp
  clear hbs
  generalize W3.alloc (.cells #[.slice A0 0 c0, .slice A1 ks.length c1, .slice A2 fs.length c2, .int .i64 tn, .bool false] 34) = W4 at kP kX rS G z4 ⊢
  have tP : w.heap.size < W4.heap.size := kP.lt
  have qP0 : W4.cell? ⟨w.heap.size, 0, none⟩ = some (.int .i64 a) := kP.cell 0
  have qP1 : W4.cell? ⟨w.heap.size, 1, none⟩ = some (.int .i64 b) := kP.cell 1
  have qP2 : W4.cell? ⟨w.heap.size, 2, none⟩ = some (.int .i64 c) := kP.cell 2
  have qP3 : W4.cell? ⟨w.heap.size, 3, none⟩ = some (.int .i64 d) := kP.cell 3
  have qP4 : W4.cell? ⟨w.heap.size, 4, none⟩ = some (.int .i64 e) := kP.cell 4
  have tX : W3.heap.size < W4.heap.size := kX.lt
  have qX0 : W4.cell? ⟨W3.heap.size, 0, none⟩ = some (.slice A0 0 c0) := kX.cell 0
  have qX1 : W4.cell? ⟨W3.heap.size, 1, none⟩ = some (.slice A1 ks.length c1) := kX.cell 1
  have qX2 : W4.cell? ⟨W3.heap.size, 2, none⟩ = some (.slice A2 fs.length c2) := kX.cell 2
  have qX3 : W4.cell? ⟨W3.heap.size, 3, none⟩ = some (.int .i64 tn) := kX.cell 3
  have qX4 : W4.cell? ⟨W3.heap.size, 4, none⟩ = some (.bool false) := kX.cell 4
  go_wp2_with fail
  go_call (toPlan_any a b c d e _) as r W5 ⟨rfl, g1⟩
  clear tP qP0 qP1 qP2 qP3 qP4 tX qX0 qX1 qX2 qX3 qX4
  have hbs := G.size
  replace kP := kP.below g1 kP.lt
  replace kX := kX.below g1 kX.lt
  replace rS := rS.below g1
  replace G := G.trans (g1.mono (by omega))
  have z5 := g1.size
  clear g1 hbs
  have tP : w.heap.size < W5.heap.size := kP.lt
  have qP0 : W5.cell? ⟨w.heap.size, 0, none⟩ = some (.int .i64 a) := kP.cell 0
  have qP1 : W5.cell? ⟨w.heap.size, 1, none⟩ = some (.int .i64 b) := kP.cell 1
  have qP2 : W5.cell? ⟨w.heap.size, 2, none⟩ = some (.int .i64 c) := kP.cell 2
  have qP3 : W5.cell? ⟨w.heap.size, 3, none⟩ = some (.int .i64 d) := kP.cell 3
  have qP4 : W5.cell? ⟨w.heap.size, 4, none⟩ = some (.int .i64 e) := kP.cell 4
  have tX : W3.heap.size < W5.heap.size := kX.lt
  have qX0 : W5.cell? ⟨W3.heap.size, 0, none⟩ = some (.slice A0 0 c0) := kX.cell 0
  have qX1 : W5.cell? ⟨W3.heap.size, 1, none⟩ = some (.slice A1 ks.length c1) := kX.cell 1
  have qX2 : W5.cell? ⟨W3.heap.size, 2, none⟩ = some (.slice A2 fs.length c2) := kX.cell 2
  have qX3 : W5.cell? ⟨W3.heap.size, 3, none⟩ = some (.int .i64 tn) := kX.cell 3
  have qX4 : W5.cell? ⟨W3.heap.size, 4, none⟩ = some (.bool false) := kX.cell 4
  go_wp2_with fail
  go_call (hI.out _) as r W6 ⟨B0, B1, B2, d0, d1, d2, rfl, ownI, g1⟩
  clear tP qP0 qP1 qP2 qP3 qP4 tX qX0 qX1 qX2 qX3 qX4
  have hbs := G.size
  replace kP := kP.below g1 kP.lt
  replace kX := kX.below g1 kX.lt
  replace rS := rS.below g1
  replace G := G.trans (g1.mono (by omega))
  have z6 := g1.size
  clear g1 hbs
  have rI := ownI
  clear ownI
  have tP : w.heap.size < W6.heap.size := kP.lt
  have qP0 : W6.cell? ⟨w.heap.size, 0, none⟩ = some (.int .i64 a) := kP.cell 0
  have qP1 : W6.cell? ⟨w.heap.size, 1, none⟩ = some (.int .i64 b) := kP.cell 1
  have qP2 : W6.cell? ⟨w.heap.size, 2, none⟩ = some (.int .i64 c) := kP.cell 2
  have qP3 : W6.cell? ⟨w.heap.size, 3, none⟩ = some (.int .i64 d) := kP.cell 3
  have qP4 : W6.cell? ⟨w.heap.size, 4, none⟩ = some (.int .i64 e) := kP.cell 4
  have tX : W3.heap.size < W6.heap.size := kX.lt
  have qX0 : W6.cell? ⟨W3.heap.size, 0, none⟩ = some (.slice A0 0 c0) := kX.cell 0
  have qX1 : W6.cell? ⟨W3.heap.size, 1, none⟩ = some (.slice A1 ks.length c1) := kX.cell 1
  have qX2 : W6.cell? ⟨W3.heap.size, 2, none⟩ = some (.slice A2 fs.length c2) := kX.cell 2
  have qX3 : W6.cell? ⟨W3.heap.size, 3, none⟩ = some (.int .i64 tn) := kX.cell 3
  have qX4 : W6.cell? ⟨W3.heap.size, 4, none⟩ = some (.bool false) := kX.cell 4
  go_wp2_with fail
  clear tP qP0 qP1 qP2 qP3 qP4 tX qX0 qX1 qX2 qX3 qX4
  have kY := Blk.new W6 34 #[.slice B0 0 d0, .slice B1 ks.length d1, .slice B2 fs.length d2, .int .i64 tn, .bool false]
  replace kP := kP.alloc (.cells #[.slice B0 0 d0, .slice B1 ks.length d1, .slice B2 fs.length d2, .int .i64 tn, .bool false] 34)
  replace kX := kX.alloc (.cells #[.slice B0 0 d0, .slice B1 ks.length d1, .slice B2 fs.length d2, .int .i64 tn, .bool false] 34)
  replace rS := rS.alloc (.cells #[.slice B0 0 d0, .slice B1 ks.length d1, .slice B2 fs.length d2, .int .i64 tn, .bool false] 34)
  replace rI := rI.alloc (.cells #[.slice B0 0 d0, .slice B1 ks.length d1, .slice B2 fs.length d2, .int .i64 tn, .bool false] 34)
  have hbs := G.size
  replace G := G.alloc (by omega) (.cells #[.slice B0 0 d0, .slice B1 ks.length d1, .slice B2 fs.length d2, .int .i64 tn, .bool false] 34)
  have z7 : (W6.alloc (.cells #[.slice B0 0 d0, .slice B1 ks.length d1, .slice B2 fs.length d2, .int .i64 tn, .bool false] 34)).heap.size = W6.heap.size + 1 := by simp
  clear hbs
  generalize W6.alloc (.cells #[.slice B0 0 d0, .slice B1 ks.length d1, .slice B2 fs.length d2, .int .i64 tn, .bool false] 34) = W7 at kP kX kY rS rI G z7 ⊢
  have tP : w.heap.size < W7.heap.size := kP.lt
  have qP0 : W7.cell? ⟨w.heap.size, 0, none⟩ = some (.int .i64 a) := kP.cell 0
  have qP1 : W7.cell? ⟨w.heap.size, 1, none⟩ = some (.int .i64 b) := kP.cell 1
  have qP2 : W7.cell? ⟨w.heap.size, 2, none⟩ = some (.int .i64 c) := kP.cell 2
  have qP3 : W7.cell? ⟨w.heap.size, 3, none⟩ = some (.int .i64 d) := kP.cell 3
  have qP4 : W7.cell? ⟨w.heap.size, 4, none⟩ = some (.int .i64 e) := kP.cell 4
  have tX : W3.heap.size < W7.heap.size := kX.lt
  have qX0 : W7.cell? ⟨W3.heap.size, 0, none⟩ = some (.slice A0 0 c0) := kX.cell 0
  have qX1 : W7.cell? ⟨W3.heap.size, 1, none⟩ = some (.slice A1 ks.length c1) := kX.cell 1
  have qX2 : W7.cell? ⟨W3.heap.size, 2, none⟩ = some (.slice A2 fs.length c2) := kX.cell 2
  have qX3 : W7.cell? ⟨W3.heap.size, 3, none⟩ = some (.int .i64 tn) := kX.cell 3
  have qX4 : W7.cell? ⟨W3.heap.size, 4, none⟩ = some (.bool false) := kX.cell 4
  have tY : W6.heap.size < W7.heap.size := kY.lt
  have qY0 : W7.cell? ⟨W6.heap.size, 0, none⟩ = some (.slice B0 0 d0) := kY.cell 0
  have qY1 : W7.cell? ⟨W6.heap.size, 1, none⟩ = some (.slice B1 ks.length d1) := kY.cell 1
  have qY2 : W7.cell? ⟨W6.heap.size, 2, none⟩ = some (.slice B2 fs.length d2) := kY.cell 2
  have qY3 : W7.cell? ⟨W6.heap.size, 3, none⟩ = some (.int .i64 tn) := kY.cell 3
  have qY4 : W7.cell? ⟨W6.heap.size, 4, none⟩ = some (.bool false) := kY.cell 4
  go_wp2_with fail
  go_call (eqPool_same [] ks fs B0 B1 B2 d0 d1 d2 tn false A0 A1 A2 c0 c1 c2 _ (by simp; omega) rI.reads rS.reads) as r W8 ⟨rfl, g1⟩
  clear tP qP0 qP1 qP2 qP3 qP4 tX qX0 qX1 qX2 qX3 qX4 tY qY0 qY1 qY2 qY3 qY4
  have hbs := G.size
  replace kP := kP.below g1 kP.lt
  replace kX := kX.below g1 kX.lt
  replace kY := kY.below g1 kY.lt
  replace rS := rS.below g1
  replace rI := rI.below g1
  replace G := G.trans (g1.mono (by omega))
  have z8 := g1.size
  clear g1 hbs
  have tP : w.heap.size < W8.heap.size := kP.lt
  have qP0 : W8.cell? ⟨w.heap.size, 0, none⟩ = some (.int .i64 a) := kP.cell 0
  have qP1 : W8.cell? ⟨w.heap.size, 1, none⟩ = some (.int .i64 b) := kP.cell 1
  have qP2 : W8.cell? ⟨w.heap.size, 2, none⟩ = some (.int .i64 c) := kP.cell 2
  have qP3 : W8.cell? ⟨w.heap.size, 3, none⟩ = some (.int .i64 d) := kP.cell 3
  have qP4 : W8.cell? ⟨w.heap.size, 4, none⟩ = some (.int .i64 e) := kP.cell 4
  have tX : W3.heap.size < W8.heap.size := kX.lt
  have qX0 : W8.cell? ⟨W3.heap.size, 0, none⟩ = some (.slice A0 0 c0) := kX.cell 0
  have qX1 : W8.cell? ⟨W3.heap.size, 1, none⟩ = some (.slice A1 ks.length c1) := kX.cell 1
  have qX2 : W8.cell? ⟨W3.heap.size, 2, none⟩ = some (.slice A2 fs.length c2) := kX.cell 2
  have qX3 : W8.cell? ⟨W3.heap.size, 3, none⟩ = some (.int .i64 tn) := kX.cell 3
  have qX4 : W8.cell? ⟨W3.heap.size, 4, none⟩ = some (.bool false) := kX.cell 4
  have tY : W6.heap.size < W8.heap.size := kY.lt
  have qY0 : W8.cell? ⟨W6.heap.size, 0, none⟩ = some (.slice B0 0 d0) := kY.cell 0
  have qY1 : W8.cell? ⟨W6.heap.size, 1, none⟩ = some (.slice B1 ks.length d1) := kY.cell 1
  have qY2 : W8.cell? ⟨W6.heap.size, 2, none⟩ = some (.slice B2 fs.length d2) := kY.cell 2
  have qY3 : W8.cell? ⟨W6.heap.size, 3, none⟩ = some (.int .i64 tn) := kY.cell 3
  have qY4 : W8.cell? ⟨W6.heap.size, 4, none⟩ = some (.bool false) := kY.cell 4
  go_wp2_with fail
  go_call (markPool_any [] ks fs B0 B1 B2 d0 d1 d2 tn false (W5.heap.size) (W6.heap.size) 1 W8 (by omega) (by omega) (by simp; omega) (by omega) (by omega) rI) as r W9 ⟨rfl, rM, N⟩
  clear tP qP0 qP1 qP2 qP3 qP4 tX qX0 qX1 qX2 qX3 qX4 tY qY0 qY1 qY2 qY3 qY4
  replace kP := N.blk kP (by omega)
  replace kX := N.blk kX (by omega)
  replace kY := N.blk kY (by omega)
  replace rS := N.pool rS (by omega)
  replace G := N.under G (by omega) (by omega)
  have z9 := N.2.2.2.1
  clear rI N
  have hE : (1 : Int) ≤ markEnd 1 ([] : List T7).length ks.length fs.length := by unfold markEnd; omega
  have hEn : ¬ (markEnd 1 ([] : List T7).length ks.length fs.length < 0) := by omega
  simp only [List.length_nil] at hE hEn rM ⊢
  have tP : w.heap.size < W9.heap.size := kP.lt
  have qP0 : W9.cell? ⟨w.heap.size, 0, none⟩ = some (.int .i64 a) := kP.cell 0
  have qP1 : W9.cell? ⟨w.heap.size, 1, none⟩ = some (.int .i64 b) := kP.cell 1
  have qP2 : W9.cell? ⟨w.heap.size, 2, none⟩ = some (.int .i64 c) := kP.cell 2
  have qP3 : W9.cell? ⟨w.heap.size, 3, none⟩ = some (.int .i64 d) := kP.cell 3
  have qP4 : W9.cell? ⟨w.heap.size, 4, none⟩ = some (.int .i64 e) := kP.cell 4
  have tX : W3.heap.size < W9.heap.size := kX.lt
  have qX0 : W9.cell? ⟨W3.heap.size, 0, none⟩ = some (.slice A0 0 c0) := kX.cell 0
  have qX1 : W9.cell? ⟨W3.heap.size, 1, none⟩ = some (.slice A1 ks.length c1) := kX.cell 1
  have qX2 : W9.cell? ⟨W3.heap.size, 2, none⟩ = some (.slice A2 fs.length c2) := kX.cell 2
  have qX3 : W9.cell? ⟨W3.heap.size, 3, none⟩ = some (.int .i64 tn) := kX.cell 3
  have qX4 : W9.cell? ⟨W3.heap.size, 4, none⟩ = some (.bool false) := kX.cell 4
  have tY : W6.heap.size < W9.heap.size := kY.lt
  have qY0 : W9.cell? ⟨W6.heap.size, 0, none⟩ = some (.slice B0 0 d0) := kY.cell 0
  have qY1 : W9.cell? ⟨W6.heap.size, 1, none⟩ = some (.slice B1 ks.length d1) := kY.cell 1
  have qY2 : W9.cell? ⟨W6.heap.size, 2, none⟩ = some (.slice B2 fs.length d2) := kY.cell 2
  have qY3 : W9.cell? ⟨W6.heap.size, 3, none⟩ = some (.int .i64 tn) := kY.cell 3
  have qY4 : W9.cell? ⟨W6.heap.size, 4, none⟩ = some (.bool false) := kY.cell 4
  go_wp2_with fail
  go_call (heldPool_any 0 ks.length fs.length B0 B1 B2 d0 d1 d2 tn false 1 _ (by omega) (by omega) (by omega) rM.reads) as r W10 ⟨rfl, g1⟩
  clear tP qP0 qP1 qP2 qP3 qP4 tX qX0 qX1 qX2 qX3 qX4 tY qY0 qY1 qY2 qY3 qY4
  have hbs := G.size
  replace kP := kP.below g1 kP.lt
  replace kX := kX.below g1 kX.lt
  replace kY := kY.below g1 kY.lt
  replace rS := rS.below g1
  replace rM := rM.below g1
  replace G := G.trans (g1.mono (by omega))
  have z10 := g1.size
  clear g1 hbs
  have tP : w.heap.size < W10.heap.size := kP.lt
  have qP0 : W10.cell? ⟨w.heap.size, 0, none⟩ = some (.int .i64 a) := kP.cell 0
  have qP1 : W10.cell? ⟨w.heap.size, 1, none⟩ = some (.int .i64 b) := kP.cell 1
  have qP2 : W10.cell? ⟨w.heap.size, 2, none⟩ = some (.int .i64 c) := kP.cell 2
  have qP3 : W10.cell? ⟨w.heap.size, 3, none⟩ = some (.int .i64 d) := kP.cell 3
  have qP4 : W10.cell? ⟨w.heap.size, 4, none⟩ = some (.int .i64 e) := kP.cell 4
  have tX : W3.heap.size < W10.heap.size := kX.lt
  have qX0 : W10.cell? ⟨W3.heap.size, 0, none⟩ = some (.slice A0 0 c0) := kX.cell 0
  have qX1 : W10.cell? ⟨W3.heap.size, 1, none⟩ = some (.slice A1 ks.length c1) := kX.cell 1
  have qX2 : W10.cell? ⟨W3.heap.size, 2, none⟩ = some (.slice A2 fs.length c2) := kX.cell 2
  have qX3 : W10.cell? ⟨W3.heap.size, 3, none⟩ = some (.int .i64 tn) := kX.cell 3
  have qX4 : W10.cell? ⟨W3.heap.size, 4, none⟩ = some (.bool false) := kX.cell 4
  have tY : W6.heap.size < W10.heap.size := kY.lt
  have qY0 : W10.cell? ⟨W6.heap.size, 0, none⟩ = some (.slice B0 0 d0) := kY.cell 0
  have qY1 : W10.cell? ⟨W6.heap.size, 1, none⟩ = some (.slice B1 ks.length d1) := kY.cell 1
  have qY2 : W10.cell? ⟨W6.heap.size, 2, none⟩ = some (.slice B2 fs.length d2) := kY.cell 2
  have qY3 : W10.cell? ⟨W6.heap.size, 3, none⟩ = some (.int .i64 tn) := kY.cell 3
  have qY4 : W10.cell? ⟨W6.heap.size, 4, none⟩ = some (.bool false) := kY.cell 4
  go_wp2_with fail
  go_call (toPlan_any a b c d e _) as r W11 ⟨rfl, g1⟩
  clear tP qP0 qP1 qP2 qP3 qP4 tX qX0 qX1 qX2 qX3 qX4 tY qY0 qY1 qY2 qY3 qY4
  have hbs := G.size
  replace kP := kP.below g1 kP.lt
  replace kX := kX.below g1 kX.lt
  replace kY := kY.below g1 kY.lt
  replace rS := rS.below g1
  replace rM := rM.below g1
  replace G := G.trans (g1.mono (by omega))
  have z11 := g1.size
  clear g1 hbs
  have tP : w.heap.size < W11.heap.size := kP.lt
  have qP0 : W11.cell? ⟨w.heap.size, 0, none⟩ = some (.int .i64 a) := kP.cell 0
  have qP1 : W11.cell? ⟨w.heap.size, 1, none⟩ = some (.int .i64 b) := kP.cell 1
  have qP2 : W11.cell? ⟨w.heap.size, 2, none⟩ = some (.int .i64 c) := kP.cell 2
  have qP3 : W11.cell? ⟨w.heap.size, 3, none⟩ = some (.int .i64 d) := kP.cell 3
  have qP4 : W11.cell? ⟨w.heap.size, 4, none⟩ = some (.int .i64 e) := kP.cell 4
  have tX : W3.heap.size < W11.heap.size := kX.lt
  have qX0 : W11.cell? ⟨W3.heap.size, 0, none⟩ = some (.slice A0 0 c0) := kX.cell 0
  have qX1 : W11.cell? ⟨W3.heap.size, 1, none⟩ = some (.slice A1 ks.length c1) := kX.cell 1
  have qX2 : W11.cell? ⟨W3.heap.size, 2, none⟩ = some (.slice A2 fs.length c2) := kX.cell 2
  have qX3 : W11.cell? ⟨W3.heap.size, 3, none⟩ = some (.int .i64 tn) := kX.cell 3
  have qX4 : W11.cell? ⟨W3.heap.size, 4, none⟩ = some (.bool false) := kX.cell 4
  have tY : W6.heap.size < W11.heap.size := kY.lt
  have qY0 : W11.cell? ⟨W6.heap.size, 0, none⟩ = some (.slice B0 0 d0) := kY.cell 0
  have qY1 : W11.cell? ⟨W6.heap.size, 1, none⟩ = some (.slice B1 ks.length d1) := kY.cell 1
  have qY2 : W11.cell? ⟨W6.heap.size, 2, none⟩ = some (.slice B2 fs.length d2) := kY.cell 2
  have qY3 : W11.cell? ⟨W6.heap.size, 3, none⟩ = some (.int .i64 tn) := kY.cell 3
  have qY4 : W11.cell? ⟨W6.heap.size, 4, none⟩ = some (.bool false) := kY.cell 4
  go_wp2_with fail
  go_call (hI.out _) as r W12 ⟨C0, C1, C2, e0, e1, e2, rfl, ownJ, g1⟩
  clear tP qP0 qP1 qP2 qP3 qP4 tX qX0 qX1 qX2 qX3 qX4 tY qY0 qY1 qY2 qY3 qY4
  have hbs := G.size
  replace kP := kP.below g1 kP.lt
  replace kX := kX.below g1 kX.lt
  replace kY := kY.below g1 kY.lt
  replace rS := rS.below g1
  replace rM := rM.below g1
  replace G := G.trans (g1.mono (by omega))
  have z12 := g1.size
  clear g1 hbs
  have rJ := ownJ
  clear ownJ
  have tP : w.heap.size < W12.heap.size := kP.lt
  have qP0 : W12.cell? ⟨w.heap.size, 0, none⟩ = some (.int .i64 a) := kP.cell 0
  have qP1 : W12.cell? ⟨w.heap.size, 1, none⟩ = some (.int .i64 b) := kP.cell 1
  have qP2 : W12.cell? ⟨w.heap.size, 2, none⟩ = some (.int .i64 c) := kP.cell 2
  have qP3 : W12.cell? ⟨w.heap.size, 3, none⟩ = some (.int .i64 d) := kP.cell 3
  have qP4 : W12.cell? ⟨w.heap.size, 4, none⟩ = some (.int .i64 e) := kP.cell 4
  have tX : W3.heap.size < W12.heap.size := kX.lt
  have qX0 : W12.cell? ⟨W3.heap.size, 0, none⟩ = some (.slice A0 0 c0) := kX.cell 0
  have qX1 : W12.cell? ⟨W3.heap.size, 1, none⟩ = some (.slice A1 ks.length c1) := kX.cell 1
  have qX2 : W12.cell? ⟨W3.heap.size, 2, none⟩ = some (.slice A2 fs.length c2) := kX.cell 2
  have qX3 : W12.cell? ⟨W3.heap.size, 3, none⟩ = some (.int .i64 tn) := kX.cell 3
  have qX4 : W12.cell? ⟨W3.heap.size, 4, none⟩ = some (.bool false) := kX.cell 4
  have tY : W6.heap.size < W12.heap.size := kY.lt
  have qY0 : W12.cell? ⟨W6.heap.size, 0, none⟩ = some (.slice B0 0 d0) := kY.cell 0
  have qY1 : W12.cell? ⟨W6.heap.size, 1, none⟩ = some (.slice B1 ks.length d1) := kY.cell 1
  have qY2 : W12.cell? ⟨W6.heap.size, 2, none⟩ = some (.slice B2 fs.length d2) := kY.cell 2
  have qY3 : W12.cell? ⟨W6.heap.size, 3, none⟩ = some (.int .i64 tn) := kY.cell 3
  have qY4 : W12.cell? ⟨W6.heap.size, 4, none⟩ = some (.bool false) := kY.cell 4
  go_wp2_with fail
  clear tP qP0 qP1 qP2 qP3 qP4 tX qX0 qX1 qX2 qX3 qX4 tY qY0 qY1 qY2 qY3 qY4
  have kZ := Blk.new W12 34 #[.slice C0 0 e0, .slice C1 ks.length e1, .slice C2 fs.length e2, .int .i64 tn, .bool false]
  replace kP := kP.alloc (.cells #[.slice C0 0 e0, .slice C1 ks.length e1, .slice C2 fs.length e2, .int .i64 tn, .bool false] 34)
  replace kX := kX.alloc (.cells #[.slice C0 0 e0, .slice C1 ks.length e1, .slice C2 fs.length e2, .int .i64 tn, .bool false] 34)
  replace kY := kY.alloc (.cells #[.slice C0 0 e0, .slice C1 ks.length e1, .slice C2 fs.length e2, .int .i64 tn, .bool false] 34)
  replace rS := rS.alloc (.cells #[.slice C0 0 e0, .slice C1 ks.length e1, .slice C2 fs.length e2, .int .i64 tn, .bool false] 34)
  replace rM := rM.alloc (.cells #[.slice C0 0 e0, .slice C1 ks.length e1, .slice C2 fs.length e2, .int .i64 tn, .bool false] 34)
  replace rJ := rJ.alloc (.cells #[.slice C0 0 e0, .slice C1 ks.length e1, .slice C2 fs.length e2, .int .i64 tn, .bool false] 34)
  have hbs := G.size
  replace G := G.alloc (by omega) (.cells #[.slice C0 0 e0, .slice C1 ks.length e1, .slice C2 fs.length e2, .int .i64 tn, .bool false] 34)
  have z13 : (W12.alloc (.cells #[.slice C0 0 e0, .slice C1 ks.length e1, .slice C2 fs.length e2, .int .i64 tn, .bool false] 34)).heap.size = W12.heap.size + 1 := by simp
  clear hbs
  generalize W12.alloc (.cells #[.slice C0 0 e0, .slice C1 ks.length e1, .slice C2 fs.length e2, .int .i64 tn, .bool false] 34) = W13 at kP kX kY kZ rS rM rJ G z13 ⊢
  have tP : w.heap.size < W13.heap.size := kP.lt
  have qP0 : W13.cell? ⟨w.heap.size, 0, none⟩ = some (.int .i64 a) := kP.cell 0
  have qP1 : W13.cell? ⟨w.heap.size, 1, none⟩ = some (.int .i64 b) := kP.cell 1
  have qP2 : W13.cell? ⟨w.heap.size, 2, none⟩ = some (.int .i64 c) := kP.cell 2
  have qP3 : W13.cell? ⟨w.heap.size, 3, none⟩ = some (.int .i64 d) := kP.cell 3
  have qP4 : W13.cell? ⟨w.heap.size, 4, none⟩ = some (.int .i64 e) := kP.cell 4
  have tX : W3.heap.size < W13.heap.size := kX.lt
  have qX0 : W13.cell? ⟨W3.heap.size, 0, none⟩ = some (.slice A0 0 c0) := kX.cell 0
  have qX1 : W13.cell? ⟨W3.heap.size, 1, none⟩ = some (.slice A1 ks.length c1) := kX.cell 1
  have qX2 : W13.cell? ⟨W3.heap.size, 2, none⟩ = some (.slice A2 fs.length c2) := kX.cell 2
  have qX3 : W13.cell? ⟨W3.heap.size, 3, none⟩ = some (.int .i64 tn) := kX.cell 3
  have qX4 : W13.cell? ⟨W3.heap.size, 4, none⟩ = some (.bool false) := kX.cell 4
  have tY : W6.heap.size < W13.heap.size := kY.lt
  have qY0 : W13.cell? ⟨W6.heap.size, 0, none⟩ = some (.slice B0 0 d0) := kY.cell 0
  have qY1 : W13.cell? ⟨W6.heap.size, 1, none⟩ = some (.slice B1 ks.length d1) := kY.cell 1
  have qY2 : W13.cell? ⟨W6.heap.size, 2, none⟩ = some (.slice B2 fs.length d2) := kY.cell 2
  have qY3 : W13.cell? ⟨W6.heap.size, 3, none⟩ = some (.int .i64 tn) := kY.cell 3
  have qY4 : W13.cell? ⟨W6.heap.size, 4, none⟩ = some (.bool false) := kY.cell 4
  have tZ : W12.heap.size < W13.heap.size := kZ.lt
  have qZ0 : W13.cell? ⟨W12.heap.size, 0, none⟩ = some (.slice C0 0 e0) := kZ.cell 0
  have qZ1 : W13.cell? ⟨W12.heap.size, 1, none⟩ = some (.slice C1 ks.length e1) := kZ.cell 1
  have qZ2 : W13.cell? ⟨W12.heap.size, 2, none⟩ = some (.slice C2 fs.length e2) := kZ.cell 2
  have qZ3 : W13.cell? ⟨W12.heap.size, 3, none⟩ = some (.int .i64 tn) := kZ.cell 3
  have qZ4 : W13.cell? ⟨W12.heap.size, 4, none⟩ = some (.bool false) := kZ.cell 4
  go_wp2_with fail
  go_call (eqPool_same [] ks fs C0 C1 C2 e0 e1 e2 tn false A0 A1 A2 c0 c1 c2 _ (by simp; omega) rJ.reads rS.reads) as r W14 ⟨rfl, g1⟩
  clear tP qP0 qP1 qP2 qP3 qP4 tX qX0 qX1 qX2 qX3 qX4 tY qY0 qY1 qY2 qY3 qY4 tZ qZ0 qZ1 qZ2 qZ3 qZ4
  have hbs := G.size
  replace kP := kP.below g1 kP.lt
  replace kX := kX.below g1 kX.lt
  replace kY := kY.below g1 kY.lt
  replace kZ := kZ.below g1 kZ.lt
  replace rS := rS.below g1
  replace rM := rM.below g1
  replace rJ := rJ.below g1
  replace G := G.trans (g1.mono (by omega))
  have z14 := g1.size
  clear g1 hbs
  have tP : w.heap.size < W14.heap.size := kP.lt
  have qP0 : W14.cell? ⟨w.heap.size, 0, none⟩ = some (.int .i64 a) := kP.cell 0
  have qP1 : W14.cell? ⟨w.heap.size, 1, none⟩ = some (.int .i64 b) := kP.cell 1
  have qP2 : W14.cell? ⟨w.heap.size, 2, none⟩ = some (.int .i64 c) := kP.cell 2
  have qP3 : W14.cell? ⟨w.heap.size, 3, none⟩ = some (.int .i64 d) := kP.cell 3
  have qP4 : W14.cell? ⟨w.heap.size, 4, none⟩ = some (.int .i64 e) := kP.cell 4
  have tX : W3.heap.size < W14.heap.size := kX.lt
  have qX0 : W14.cell? ⟨W3.heap.size, 0, none⟩ = some (.slice A0 0 c0) := kX.cell 0
  have qX1 : W14.cell? ⟨W3.heap.size, 1, none⟩ = some (.slice A1 ks.length c1) := kX.cell 1
  have qX2 : W14.cell? ⟨W3.heap.size, 2, none⟩ = some (.slice A2 fs.length c2) := kX.cell 2
  have qX3 : W14.cell? ⟨W3.heap.size, 3, none⟩ = some (.int .i64 tn) := kX.cell 3
  have qX4 : W14.cell? ⟨W3.heap.size, 4, none⟩ = some (.bool false) := kX.cell 4
  have tY : W6.heap.size < W14.heap.size := kY.lt
  have qY0 : W14.cell? ⟨W6.heap.size, 0, none⟩ = some (.slice B0 0 d0) := kY.cell 0
  have qY1 : W14.cell? ⟨W6.heap.size, 1, none⟩ = some (.slice B1 ks.length d1) := kY.cell 1
  have qY2 : W14.cell? ⟨W6.heap.size, 2, none⟩ = some (.slice B2 fs.length d2) := kY.cell 2
  have qY3 : W14.cell? ⟨W6.heap.size, 3, none⟩ = some (.int .i64 tn) := kY.cell 3
  have qY4 : W14.cell? ⟨W6.heap.size, 4, none⟩ = some (.bool false) := kY.cell 4
  have tZ : W12.heap.size < W14.heap.size := kZ.lt
  have qZ0 : W14.cell? ⟨W12.heap.size, 0, none⟩ = some (.slice C0 0 e0) := kZ.cell 0
  have qZ1 : W14.cell? ⟨W12.heap.size, 1, none⟩ = some (.slice C1 ks.length e1) := kZ.cell 1
  have qZ2 : W14.cell? ⟨W12.heap.size, 2, none⟩ = some (.slice C2 fs.length e2) := kZ.cell 2
  have qZ3 : W14.cell? ⟨W12.heap.size, 3, none⟩ = some (.int .i64 tn) := kZ.cell 3
  have qZ4 : W14.cell? ⟨W12.heap.size, 4, none⟩ = some (.bool false) := kZ.cell 4
  go_wp2_with fail
  go_call (heldPool_any 0 ks.length fs.length B0 B1 B2 d0 d1 d2 tn false 1 _ (by omega) (by omega) (by omega) rM.reads) as r W15 ⟨rfl, g1⟩
  clear tP qP0 qP1 qP2 qP3 qP4 tX qX0 qX1 qX2 qX3 qX4 tY qY0 qY1 qY2 qY3 qY4 tZ qZ0 qZ1 qZ2 qZ3 qZ4
  have hbs := G.size
  replace kP := kP.below g1 kP.lt
  replace kX := kX.below g1 kX.lt
  replace kY := kY.below g1 kY.lt
  replace kZ := kZ.below g1 kZ.lt
  replace rS := rS.below g1
  replace rM := rM.below g1
  replace rJ := rJ.below g1
  replace G := G.trans (g1.mono (by omega))
  have z15 := g1.size
  clear g1 hbs
  have tP : w.heap.size < W15.heap.size := kP.lt
  have qP0 : W15.cell? ⟨w.heap.size, 0, none⟩ = some (.int .i64 a) := kP.cell 0
  have qP1 : W15.cell? ⟨w.heap.size, 1, none⟩ = some (.int .i64 b) := kP.cell 1
  have qP2 : W15.cell? ⟨w.heap.size, 2, none⟩ = some (.int .i64 c) := kP.cell 2
  have qP3 : W15.cell? ⟨w.heap.size, 3, none⟩ = some (.int .i64 d) := kP.cell 3
  have qP4 : W15.cell? ⟨w.heap.size, 4, none⟩ = some (.int .i64 e) := kP.cell 4
  have tX : W3.heap.size < W15.heap.size := kX.lt
  have qX0 : W15.cell? ⟨W3.heap.size, 0, none⟩ = some (.slice A0 0 c0) := kX.cell 0
  have qX1 : W15.cell? ⟨W3.heap.size, 1, none⟩ = some (.slice A1 ks.length c1) := kX.cell 1
  have qX2 : W15.cell? ⟨W3.heap.size, 2, none⟩ = some (.slice A2 fs.length c2) := kX.cell 2
  have qX3 : W15.cell? ⟨W3.heap.size, 3, none⟩ = some (.int .i64 tn) := kX.cell 3
  have qX4 : W15.cell? ⟨W3.heap.size, 4, none⟩ = some (.bool false) := kX.cell 4
  have tY : W6.heap.size < W15.heap.size := kY.lt
  have qY0 : W15.cell? ⟨W6.heap.size, 0, none⟩ = some (.slice B0 0 d0) := kY.cell 0
  have qY1 : W15.cell? ⟨W6.heap.size, 1, none⟩ = some (.slice B1 ks.length d1) := kY.cell 1
  have qY2 : W15.cell? ⟨W6.heap.size, 2, none⟩ = some (.slice B2 fs.length d2) := kY.cell 2
  have qY3 : W15.cell? ⟨W6.heap.size, 3, none⟩ = some (.int .i64 tn) := kY.cell 3
  have qY4 : W15.cell? ⟨W6.heap.size, 4, none⟩ = some (.bool false) := kY.cell 4
  have tZ : W12.heap.size < W15.heap.size := kZ.lt
  have qZ0 : W15.cell? ⟨W12.heap.size, 0, none⟩ = some (.slice C0 0 e0) := kZ.cell 0
  have qZ1 : W15.cell? ⟨W12.heap.size, 1, none⟩ = some (.slice C1 ks.length e1) := kZ.cell 1
  have qZ2 : W15.cell? ⟨W12.heap.size, 2, none⟩ = some (.slice C2 fs.length e2) := kZ.cell 2
  have qZ3 : W15.cell? ⟨W12.heap.size, 3, none⟩ = some (.int .i64 tn) := kZ.cell 3
  have qZ4 : W15.cell? ⟨W12.heap.size, 4, none⟩ = some (.bool false) := kZ.cell 4
  go_wp2_with fail
  go_ret
  exact ⟨rfl, G⟩
end Go.Proofs.Ythkmlmmgfjicfaa
