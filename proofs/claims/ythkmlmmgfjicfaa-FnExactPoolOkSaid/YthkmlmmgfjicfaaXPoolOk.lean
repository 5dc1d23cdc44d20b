/- The exact law of PoolOk: whatever the plan and the pool, true; what was in memory stays as it was. No condition. -/
import Derived.Test.YthkmlmmgfjicfaaXRunBy
import Derived.Test.YthkmlmmgfjicfaaSPool
namespace Go.Proofs.Ythkmlmmgfjicfaa
open Go.RowKit
set_option linter.unusedVariables false

theorem sL {W0 w : World} (h : Below W0.heap.size W0 w ∧ ∀ b o, b < W0.heap.size → w.cell? ⟨b, o, none⟩ = W0.cell? ⟨b, o, none⟩) : Below W0.heap.size W0 w := h.1

set_option maxRecDepth 100000 in
set_option maxHeartbeats 8000000 in
theorem xPoolOk_any (a b c d e : Int) (ts : List T7) (ks : List Int) (fs : List F2) (A0 A1 A2 : Option Addr) (c0 c1 c2 : Nat) (tn : Int) (st : Bool) (w : World) (h0 : ts.length ≤ 9223372036854775807) (h1 : ks.length ≤ 9223372036854775807) (h2 : fs.length ≤ 9223372036854775807) (h : InPool w ts ks fs A0 A1 A2) :
    Calls Try.prog 4 #[.agg #[.int .i64 a, .int .i64 b, .int .i64 c, .int .i64 d, .int .i64 e], .agg #[.slice A0 ts.length c0, .slice A1 ks.length c1, .slice A2 fs.length c2, .int .i64 tn, .bool st]] w fun r w' => r = .returned (.bool true) ∧ Below w.heap.size w w' := by
  have H := hide h
  clear h
  by_cases hT : ts.length + ks.length + fs.length ≤ 1048576
  · go_enter Try.func4, Try.ntmps4
    go_wp2_with fail
    have G := Below.refl w.heap.size w
    have kL := Blk.new w 42 #[.int .i64 a, .int .i64 b, .int .i64 c, .int .i64 d, .int .i64 e]
    have hbs := G.size
    replace G := G.alloc (by omega) (.cells #[.int .i64 a, .int .i64 b, .int .i64 c, .int .i64 d, .int .i64 e] 42)
    have z1 : (w.alloc (.cells #[.int .i64 a, .int .i64 b, .int .i64 c, .int .i64 d, .int .i64 e] 42)).heap.size = w.heap.size + 1 := by simp
    clear hbs
    generalize w.alloc (.cells #[.int .i64 a, .int .i64 b, .int .i64 c, .int .i64 d, .int .i64 e] 42) = W1 at kL G z1 ⊢
    have kP : Blk (W1.alloc (.cells #[.slice A0 ts.length c0, .slice A1 ks.length c1, .slice A2 fs.length c2, .int .i64 tn, .bool st] 46)) (w.heap.size + 1) 46 #[.slice A0 ts.length c0, .slice A1 ks.length c1, .slice A2 fs.length c2, .int .i64 tn, .bool st] := by
      have h := Blk.new W1 46 #[.slice A0 ts.length c0, .slice A1 ks.length c1, .slice A2 fs.length c2, .int .i64 tn, .bool st]
      rw [show W1.heap.size = w.heap.size + 1 by omega] at h
      exact h
    replace kL := kL.alloc (.cells #[.slice A0 ts.length c0, .slice A1 ks.length c1, .slice A2 fs.length c2, .int .i64 tn, .bool st] 46)
    have hbs := G.size
    replace G := G.alloc (by omega) (.cells #[.slice A0 ts.length c0, .slice A1 ks.length c1, .slice A2 fs.length c2, .int .i64 tn, .bool st] 46)
    have z2 : (W1.alloc (.cells #[.slice A0 ts.length c0, .slice A1 ks.length c1, .slice A2 fs.length c2, .int .i64 tn, .bool st] 46)).heap.size = W1.heap.size + 1 := by simp
    clear hbs
    generalize W1.alloc (.cells #[.slice A0 ts.length c0, .slice A1 ks.length c1, .slice A2 fs.length c2, .int .i64 tn, .bool st] 46) = W2 at kL kP G z2 ⊢
    have tL : w.heap.size < W2.heap.size := kL.lt
    have qL0 : W2.cell? ⟨w.heap.size, 0, none⟩ = some (.int .i64 a) := kL.cell 0
    have fL0 : W2.frozen? ⟨w.heap.size, 0, none⟩ = false := kL.frozen 0
    have qL1 : W2.cell? ⟨w.heap.size, 1, none⟩ = some (.int .i64 b) := kL.cell 1
    have fL1 : W2.frozen? ⟨w.heap.size, 1, none⟩ = false := kL.frozen 1
    have qL2 : W2.cell? ⟨w.heap.size, 2, none⟩ = some (.int .i64 c) := kL.cell 2
    have fL2 : W2.frozen? ⟨w.heap.size, 2, none⟩ = false := kL.frozen 2
    have qL3 : W2.cell? ⟨w.heap.size, 3, none⟩ = some (.int .i64 d) := kL.cell 3
    have fL3 : W2.frozen? ⟨w.heap.size, 3, none⟩ = false := kL.frozen 3
    have qL4 : W2.cell? ⟨w.heap.size, 4, none⟩ = some (.int .i64 e) := kL.cell 4
    have fL4 : W2.frozen? ⟨w.heap.size, 4, none⟩ = false := kL.frozen 4
    have tP : w.heap.size + 1 < W2.heap.size := kP.lt
    have qP0 : W2.cell? ⟨w.heap.size + 1, 0, none⟩ = some (.slice A0 ts.length c0) := kP.cell 0
    have fP0 : W2.frozen? ⟨w.heap.size + 1, 0, none⟩ = false := kP.frozen 0
    have qP1 : W2.cell? ⟨w.heap.size + 1, 1, none⟩ = some (.slice A1 ks.length c1) := kP.cell 1
    have fP1 : W2.frozen? ⟨w.heap.size + 1, 1, none⟩ = false := kP.frozen 1
    have qP2 : W2.cell? ⟨w.heap.size + 1, 2, none⟩ = some (.slice A2 fs.length c2) := kP.cell 2
    have fP2 : W2.frozen? ⟨w.heap.size + 1, 2, none⟩ = false := kP.frozen 2
    have qP3 : W2.cell? ⟨w.heap.size + 1, 3, none⟩ = some (.int .i64 tn) := kP.cell 3
    have fP3 : W2.frozen? ⟨w.heap.size + 1, 3, none⟩ = false := kP.frozen 3
    have qP4 : W2.cell? ⟨w.heap.size + 1, 4, none⟩ = some (.bool st) := kP.cell 4
    have fP4 : W2.frozen? ⟨w.heap.size + 1, 4, none⟩ = false := kP.frozen 4
    go_wp2_with fail
    go_call (szPool_any A0 A1 A2 ts.length c0 ks.length c1 fs.length c2 tn st _ h0 h1 h2) as r W3 ⟨rfl, g1⟩
    clear tL qL0 fL0 qL1 fL1 qL2 fL2 qL3 fL3 qL4 fL4 tP qP0 fP0 qP1 fP1 qP2 fP2 qP3 fP3 qP4 fP4
    have hbs := G.size
    replace kL := kL.below g1 kL.lt
    replace kP := kP.below g1 kP.lt
    replace G := G.trans (g1.mono (by omega))
    have z3 := g1.size
    clear g1 hbs
    rw [szPoolM_pos hT]
    have tL : w.heap.size < W3.heap.size := kL.lt
    have qL0 : W3.cell? ⟨w.heap.size, 0, none⟩ = some (.int .i64 a) := kL.cell 0
    have qL1 : W3.cell? ⟨w.heap.size, 1, none⟩ = some (.int .i64 b) := kL.cell 1
    have qL2 : W3.cell? ⟨w.heap.size, 2, none⟩ = some (.int .i64 c) := kL.cell 2
    have qL3 : W3.cell? ⟨w.heap.size, 3, none⟩ = some (.int .i64 d) := kL.cell 3
    have qL4 : W3.cell? ⟨w.heap.size, 4, none⟩ = some (.int .i64 e) := kL.cell 4
    have tP : w.heap.size + 1 < W3.heap.size := kP.lt
    have qP0 : W3.cell? ⟨w.heap.size + 1, 0, none⟩ = some (.slice A0 ts.length c0) := kP.cell 0
    have qP1 : W3.cell? ⟨w.heap.size + 1, 1, none⟩ = some (.slice A1 ks.length c1) := kP.cell 1
    have qP2 : W3.cell? ⟨w.heap.size + 1, 2, none⟩ = some (.slice A2 fs.length c2) := kP.cell 2
    have qP3 : W3.cell? ⟨w.heap.size + 1, 3, none⟩ = some (.int .i64 tn) := kP.cell 3
    have qP4 : W3.cell? ⟨w.heap.size + 1, 4, none⟩ = some (.bool st) := kP.cell 4
    go_wp2_with fail
    clear tL qL0 qL1 qL2 qL3 qL4 tP qP0 qP1 qP2 qP3 qP4
    have tL : w.heap.size < W3.heap.size := kL.lt
    have qL0 : W3.cell? ⟨w.heap.size, 0, none⟩ = some (.int .i64 a) := kL.cell 0
    have qL1 : W3.cell? ⟨w.heap.size, 1, none⟩ = some (.int .i64 b) := kL.cell 1
    have qL2 : W3.cell? ⟨w.heap.size, 2, none⟩ = some (.int .i64 c) := kL.cell 2
    have qL3 : W3.cell? ⟨w.heap.size, 3, none⟩ = some (.int .i64 d) := kL.cell 3
    have qL4 : W3.cell? ⟨w.heap.size, 4, none⟩ = some (.int .i64 e) := kL.cell 4
    have tP : w.heap.size + 1 < W3.heap.size := kP.lt
    have qP0 : W3.cell? ⟨w.heap.size + 1, 0, none⟩ = some (.slice A0 ts.length c0) := kP.cell 0
    have qP1 : W3.cell? ⟨w.heap.size + 1, 1, none⟩ = some (.slice A1 ks.length c1) := kP.cell 1
    have qP2 : W3.cell? ⟨w.heap.size + 1, 2, none⟩ = some (.slice A2 fs.length c2) := kP.cell 2
    have qP3 : W3.cell? ⟨w.heap.size + 1, 3, none⟩ = some (.int .i64 tn) := kP.cell 3
    have qP4 : W3.cell? ⟨w.heap.size + 1, 4, none⟩ = some (.bool st) := kP.cell 4
    have H1 := hide (⟨kL, kP, G, G.size, H.out.below G⟩ : _ ∧ _ ∧ Below w.heap.size w W3 ∧ w.heap.size ≤ W3.heap.size ∧ InPool W3 ts ks fs A0 A1 A2)
    clear kL kP G
    go_region_held3 (fun w' => Below (World.heap W3).size W3 w' ∧ ∀ b o, b < (World.heap W3).size → w'.cell? ⟨b, o, none⟩ = World.cell? W3 ⟨b, o, none⟩) (first | exact keep0' _ | exact keepS' (by assumption) (by assumption)) (first | (go_at_call 21; refine (toPlan_any a b c d e _).mono ?_; rintro r w4 ⟨rfl, hb4⟩) | (go_at_call 22; refine (toPool_any ts ks fs A0 A1 A2 c0 c1 c2 tn st _ hT (inS H1.out.2.2.2.2 (by assumption))).mono ?_; rintro r w5 ⟨D0, D1, D2, e0, e1, e2, rfl, own5, hb5⟩) | (go_at_call 19; refine (sPoolOk_any a b c d e ts ks fs D0 D1 D2 e0 e1 e2 tn st _ (by omega) (by omega) (by omega) own5.reads).mono ?_; rintro r w6 ⟨rfl, hb6⟩) | (go_at_call 19; refine (sPoolOk_any a b c d e ts ks fs D0 D1 D2 e0 e1 e2 tn st _ (by omega) (by omega) (by omega) (own5.reads.below hb4)).mono ?_; rintro r w6 ⟨rfl, hb6⟩))
    all_goals skip
    all_goals (
      have hS : Below W3.heap.size W3 w6 := sL (by assumption)
      have hzS := hS.size
      have G := H1.out.2.2.1.trans (hS.mono H1.out.2.2.2.1)
      have kL := H1.out.1.below hS H1.out.1.lt
      have kP := H1.out.2.1.below hS H1.out.2.1.lt
      clear hS
      have tL : w.heap.size < w6.heap.size := kL.lt
      have qL0 : w6.cell? ⟨w.heap.size, 0, none⟩ = some (.int .i64 a) := kL.cell 0
      have fL0 : w6.frozen? ⟨w.heap.size, 0, none⟩ = false := kL.frozen 0
      have qL1 : w6.cell? ⟨w.heap.size, 1, none⟩ = some (.int .i64 b) := kL.cell 1
      have fL1 : w6.frozen? ⟨w.heap.size, 1, none⟩ = false := kL.frozen 1
      have qL2 : w6.cell? ⟨w.heap.size, 2, none⟩ = some (.int .i64 c) := kL.cell 2
      have fL2 : w6.frozen? ⟨w.heap.size, 2, none⟩ = false := kL.frozen 2
      have qL3 : w6.cell? ⟨w.heap.size, 3, none⟩ = some (.int .i64 d) := kL.cell 3
      have fL3 : w6.frozen? ⟨w.heap.size, 3, none⟩ = false := kL.frozen 3
      have qL4 : w6.cell? ⟨w.heap.size, 4, none⟩ = some (.int .i64 e) := kL.cell 4
      have fL4 : w6.frozen? ⟨w.heap.size, 4, none⟩ = false := kL.frozen 4
      have tP : w.heap.size + 1 < w6.heap.size := kP.lt
      have qP0 : w6.cell? ⟨w.heap.size + 1, 0, none⟩ = some (.slice A0 ts.length c0) := kP.cell 0
      have fP0 : w6.frozen? ⟨w.heap.size + 1, 0, none⟩ = false := kP.frozen 0
      have qP1 : w6.cell? ⟨w.heap.size + 1, 1, none⟩ = some (.slice A1 ks.length c1) := kP.cell 1
      have fP1 : w6.frozen? ⟨w.heap.size + 1, 1, none⟩ = false := kP.frozen 1
      have qP2 : w6.cell? ⟨w.heap.size + 1, 2, none⟩ = some (.slice A2 fs.length c2) := kP.cell 2
      have fP2 : w6.frozen? ⟨w.heap.size + 1, 2, none⟩ = false := kP.frozen 2
      have qP3 : w6.cell? ⟨w.heap.size + 1, 3, none⟩ = some (.int .i64 tn) := kP.cell 3
      have fP3 : w6.frozen? ⟨w.heap.size + 1, 3, none⟩ = false := kP.frozen 3
      have qP4 : w6.cell? ⟨w.heap.size + 1, 4, none⟩ = some (.bool st) := kP.cell 4
      have fP4 : w6.frozen? ⟨w.heap.size + 1, 4, none⟩ = false := kP.frozen 4
      go_wp2_with fail
      go_call (toPool_any ts ks fs A0 A1 A2 c0 c1 c2 tn st _ hT (H.out.below G)) as r W21 ⟨B0, B1, B2, d0, d1, d2, rfl, own2, g1⟩
      clear tL qL0 fL0 qL1 fL1 qL2 fL2 qL3 fL3 qL4 fL4 tP qP0 fP0 qP1 fP1 qP2 fP2 qP3 fP3 qP4 fP4
      have hbs := G.size
      replace kL := kL.below g1 kL.lt
      replace kP := kP.below g1 kP.lt
      replace G := G.trans (g1.mono (by omega))
      have z21 := g1.size
      clear g1 hbs
      have rX := own2
      clear own2
      have tL : w.heap.size < W21.heap.size := kL.lt
      have qL0 : W21.cell? ⟨w.heap.size, 0, none⟩ = some (.int .i64 a) := kL.cell 0
      have fL0 : W21.frozen? ⟨w.heap.size, 0, none⟩ = false := kL.frozen 0
      have qL1 : W21.cell? ⟨w.heap.size, 1, none⟩ = some (.int .i64 b) := kL.cell 1
      have fL1 : W21.frozen? ⟨w.heap.size, 1, none⟩ = false := kL.frozen 1
      have qL2 : W21.cell? ⟨w.heap.size, 2, none⟩ = some (.int .i64 c) := kL.cell 2
      have fL2 : W21.frozen? ⟨w.heap.size, 2, none⟩ = false := kL.frozen 2
      have qL3 : W21.cell? ⟨w.heap.size, 3, none⟩ = some (.int .i64 d) := kL.cell 3
      have fL3 : W21.frozen? ⟨w.heap.size, 3, none⟩ = false := kL.frozen 3
      have qL4 : W21.cell? ⟨w.heap.size, 4, none⟩ = some (.int .i64 e) := kL.cell 4
      have fL4 : W21.frozen? ⟨w.heap.size, 4, none⟩ = false := kL.frozen 4
      have tP : w.heap.size + 1 < W21.heap.size := kP.lt
      have qP0 : W21.cell? ⟨w.heap.size + 1, 0, none⟩ = some (.slice A0 ts.length c0) := kP.cell 0
      have fP0 : W21.frozen? ⟨w.heap.size + 1, 0, none⟩ = false := kP.frozen 0
      have qP1 : W21.cell? ⟨w.heap.size + 1, 1, none⟩ = some (.slice A1 ks.length c1) := kP.cell 1
      have fP1 : W21.frozen? ⟨w.heap.size + 1, 1, none⟩ = false := kP.frozen 1
      have qP2 : W21.cell? ⟨w.heap.size + 1, 2, none⟩ = some (.slice A2 fs.length c2) := kP.cell 2
      have fP2 : W21.frozen? ⟨w.heap.size + 1, 2, none⟩ = false := kP.frozen 2
      have qP3 : W21.cell? ⟨w.heap.size + 1, 3, none⟩ = some (.int .i64 tn) := kP.cell 3
      have fP3 : W21.frozen? ⟨w.heap.size + 1, 3, none⟩ = false := kP.frozen 3
      have qP4 : W21.cell? ⟨w.heap.size + 1, 4, none⟩ = some (.bool st) := kP.cell 4
      have fP4 : W21.frozen? ⟨w.heap.size + 1, 4, none⟩ = false := kP.frozen 4
      go_wp2_with fail
      clear tL qL0 fL0 qL1 fL1 qL2 fL2 qL3 fL3 qL4 fL4 tP qP0 fP0 qP1 fP1 qP2 fP2 qP3 fP3 qP4 fP4
      have kY := Blk.new W21 34 #[.slice B0 ts.length d0, .slice B1 ks.length d1, .slice B2 fs.length d2, .int .i64 tn, .bool st]
      replace kL := kL.alloc (.cells #[.slice B0 ts.length d0, .slice B1 ks.length d1, .slice B2 fs.length d2, .int .i64 tn, .bool st] 34)
      replace kP := kP.alloc (.cells #[.slice B0 ts.length d0, .slice B1 ks.length d1, .slice B2 fs.length d2, .int .i64 tn, .bool st] 34)
      replace rX := rX.alloc (.cells #[.slice B0 ts.length d0, .slice B1 ks.length d1, .slice B2 fs.length d2, .int .i64 tn, .bool st] 34)
      have hbs := G.size
      replace G := G.alloc (by omega) (.cells #[.slice B0 ts.length d0, .slice B1 ks.length d1, .slice B2 fs.length d2, .int .i64 tn, .bool st] 34)
      have z22 : (W21.alloc (.cells #[.slice B0 ts.length d0, .slice B1 ks.length d1, .slice B2 fs.length d2, .int .i64 tn, .bool st] 34)).heap.size = W21.heap.size + 1 := by simp
      clear hbs
      generalize W21.alloc (.cells #[.slice B0 ts.length d0, .slice B1 ks.length d1, .slice B2 fs.length d2, .int .i64 tn, .bool st] 34) = W22 at kL kP kY rX G z22 ⊢
      have tL : w.heap.size < W22.heap.size := kL.lt
      have qL0 : W22.cell? ⟨w.heap.size, 0, none⟩ = some (.int .i64 a) := kL.cell 0
      have qL1 : W22.cell? ⟨w.heap.size, 1, none⟩ = some (.int .i64 b) := kL.cell 1
      have qL2 : W22.cell? ⟨w.heap.size, 2, none⟩ = some (.int .i64 c) := kL.cell 2
      have qL3 : W22.cell? ⟨w.heap.size, 3, none⟩ = some (.int .i64 d) := kL.cell 3
      have qL4 : W22.cell? ⟨w.heap.size, 4, none⟩ = some (.int .i64 e) := kL.cell 4
      have tP : w.heap.size + 1 < W22.heap.size := kP.lt
      have qP0 : W22.cell? ⟨w.heap.size + 1, 0, none⟩ = some (.slice A0 ts.length c0) := kP.cell 0
      have qP1 : W22.cell? ⟨w.heap.size + 1, 1, none⟩ = some (.slice A1 ks.length c1) := kP.cell 1
      have qP2 : W22.cell? ⟨w.heap.size + 1, 2, none⟩ = some (.slice A2 fs.length c2) := kP.cell 2
      have qP3 : W22.cell? ⟨w.heap.size + 1, 3, none⟩ = some (.int .i64 tn) := kP.cell 3
      have qP4 : W22.cell? ⟨w.heap.size + 1, 4, none⟩ = some (.bool st) := kP.cell 4
      have tY : W21.heap.size < W22.heap.size := kY.lt
      have qY0 : W22.cell? ⟨W21.heap.size, 0, none⟩ = some (.slice B0 ts.length d0) := kY.cell 0
      have qY1 : W22.cell? ⟨W21.heap.size, 1, none⟩ = some (.slice B1 ks.length d1) := kY.cell 1
      have qY2 : W22.cell? ⟨W21.heap.size, 2, none⟩ = some (.slice B2 fs.length d2) := kY.cell 2
      have qY3 : W22.cell? ⟨W21.heap.size, 3, none⟩ = some (.int .i64 tn) := kY.cell 3
      have qY4 : W22.cell? ⟨W21.heap.size, 4, none⟩ = some (.bool st) := kY.cell 4
      have H2 := hide (⟨kL, kP, kY, G, G.size, rX⟩ : _ ∧ _ ∧ _ ∧ Below w.heap.size w W22 ∧ w.heap.size ≤ W22.heap.size ∧ _)
      clear kL kP kY G rX z22
      go_region_held3 (fun w' => Below (World.heap W22).size W22 w' ∧ ∀ b o, b < (World.heap W22).size → w'.cell? ⟨b, o, none⟩ = World.cell? W22 ⟨b, o, none⟩) (first | exact keep0' _ | exact keepS' (by assumption) (by assumption)) (first | (go_at_call 21; refine (toPlan_any a b c d e _).mono ?_; rintro r w7 ⟨rfl, hb7⟩) | (go_at_call 18; refine (gPoolOk_any a b c d e ts ks fs B0 B1 B2 d0 d1 d2 tn st _ (by omega) (by omega) (inS H2.out.2.2.2.2.2.reads (by assumption))).mono ?_; rintro r w8 ⟨rfl, hb8⟩))
      have hS : Below W22.heap.size W22 w8 := sL (by assumption)
      have hzS2 := hS.size
      have G := H2.out.2.2.2.1.trans (hS.mono H2.out.2.2.2.2.1)
      have kL := H2.out.1.below hS H2.out.1.lt
      have kP := H2.out.2.1.below hS H2.out.2.1.lt
      have kY := H2.out.2.2.1.below hS H2.out.2.2.1.lt
      have rX := H2.out.2.2.2.2.2.below hS
      clear hS
      have tL : w.heap.size < w8.heap.size := kL.lt
      have qL0 : w8.cell? ⟨w.heap.size, 0, none⟩ = some (.int .i64 a) := kL.cell 0
      have qL1 : w8.cell? ⟨w.heap.size, 1, none⟩ = some (.int .i64 b) := kL.cell 1
      have qL2 : w8.cell? ⟨w.heap.size, 2, none⟩ = some (.int .i64 c) := kL.cell 2
      have qL3 : w8.cell? ⟨w.heap.size, 3, none⟩ = some (.int .i64 d) := kL.cell 3
      have qL4 : w8.cell? ⟨w.heap.size, 4, none⟩ = some (.int .i64 e) := kL.cell 4
      have tP : w.heap.size + 1 < w8.heap.size := kP.lt
      have qP0 : w8.cell? ⟨w.heap.size + 1, 0, none⟩ = some (.slice A0 ts.length c0) := kP.cell 0
      have qP1 : w8.cell? ⟨w.heap.size + 1, 1, none⟩ = some (.slice A1 ks.length c1) := kP.cell 1
      have qP2 : w8.cell? ⟨w.heap.size + 1, 2, none⟩ = some (.slice A2 fs.length c2) := kP.cell 2
      have qP3 : w8.cell? ⟨w.heap.size + 1, 3, none⟩ = some (.int .i64 tn) := kP.cell 3
      have qP4 : w8.cell? ⟨w.heap.size + 1, 4, none⟩ = some (.bool st) := kP.cell 4
      have tY : W21.heap.size < w8.heap.size := kY.lt
      have qY0 : w8.cell? ⟨W21.heap.size, 0, none⟩ = some (.slice B0 ts.length d0) := kY.cell 0
      have qY1 : w8.cell? ⟨W21.heap.size, 1, none⟩ = some (.slice B1 ks.length d1) := kY.cell 1
      have qY2 : w8.cell? ⟨W21.heap.size, 2, none⟩ = some (.slice B2 fs.length d2) := kY.cell 2
      have qY3 : w8.cell? ⟨W21.heap.size, 3, none⟩ = some (.int .i64 tn) := kY.cell 3
      have qY4 : w8.cell? ⟨W21.heap.size, 4, none⟩ = some (.bool st) := kY.cell 4
      go_wp2_with fail
      clear tL qL0 qL1 qL2 qL3 qL4 tP qP0 qP1 qP2 qP3 qP4 tY qY0 qY1 qY2 qY3 qY4
      have tL : w.heap.size < w8.heap.size := kL.lt
      have qL0 : w8.cell? ⟨w.heap.size, 0, none⟩ = some (.int .i64 a) := kL.cell 0
      have qL1 : w8.cell? ⟨w.heap.size, 1, none⟩ = some (.int .i64 b) := kL.cell 1
      have qL2 : w8.cell? ⟨w.heap.size, 2, none⟩ = some (.int .i64 c) := kL.cell 2
      have qL3 : w8.cell? ⟨w.heap.size, 3, none⟩ = some (.int .i64 d) := kL.cell 3
      have qL4 : w8.cell? ⟨w.heap.size, 4, none⟩ = some (.int .i64 e) := kL.cell 4
      have tP : w.heap.size + 1 < w8.heap.size := kP.lt
      have qP0 : w8.cell? ⟨w.heap.size + 1, 0, none⟩ = some (.slice A0 ts.length c0) := kP.cell 0
      have qP1 : w8.cell? ⟨w.heap.size + 1, 1, none⟩ = some (.slice A1 ks.length c1) := kP.cell 1
      have qP2 : w8.cell? ⟨w.heap.size + 1, 2, none⟩ = some (.slice A2 fs.length c2) := kP.cell 2
      have qP3 : w8.cell? ⟨w.heap.size + 1, 3, none⟩ = some (.int .i64 tn) := kP.cell 3
      have qP4 : w8.cell? ⟨w.heap.size + 1, 4, none⟩ = some (.bool st) := kP.cell 4
      have tY : W21.heap.size < w8.heap.size := kY.lt
      have qY0 : w8.cell? ⟨W21.heap.size, 0, none⟩ = some (.slice B0 ts.length d0) := kY.cell 0
      have qY1 : w8.cell? ⟨W21.heap.size, 1, none⟩ = some (.slice B1 ks.length d1) := kY.cell 1
      have qY2 : w8.cell? ⟨W21.heap.size, 2, none⟩ = some (.slice B2 fs.length d2) := kY.cell 2
      have qY3 : w8.cell? ⟨W21.heap.size, 3, none⟩ = some (.int .i64 tn) := kY.cell 3
      have qY4 : w8.cell? ⟨W21.heap.size, 4, none⟩ = some (.bool st) := kY.cell 4
      have hI : InPool w8 ts ks fs A0 A1 A2 := H.out.below G
      have hJ : InPool w8 ts ks fs B0 B1 B2 := rX.reads
      have HH := hide (⟨hI, hJ, G, G.size⟩ : _ ∧ _ ∧ Below w.heap.size w w8 ∧ w.heap.size ≤ w8.heap.size)
      clear hI hJ G rX kL kP kY
      go_region_held3 (fun w' => Below (World.heap w8).size w8 w' ∧ ∀ b o, b < (World.heap w8).size → w'.cell? ⟨b, o, none⟩ = World.cell? w8 ⟨b, o, none⟩) (first | exact keep0' _ | exact keepS' (by assumption) (by assumption)) (first | (go_at_call 22; refine (toPool_any ts ks fs A0 A1 A2 c0 c1 c2 tn st _ hT (inS HH.out.1 (by assumption))).mono ?_; rintro r w4 ⟨D0, D1, D2, e0, e1, e2, rfl, own4, hb4⟩) | (go_at_call 23; refine (eqPool_same ts ks fs B0 B1 B2 d0 d1 d2 tn st D0 D1 D2 e0 e1 e2 _ hT (inS HH.out.2.1 (by assumption)) own4.reads).mono ?_; rintro r w5 ⟨rfl, hb5⟩))
      go_wp2
      go_ret
      exact ⟨rfl, keepEnd' ⟨HH.out.2.2.1, HH.out.2.2.2⟩ (by assumption)⟩)
  · go_enter Try.func4, Try.ntmps4
    go_wp2_with fail
    have G := Below.refl w.heap.size w
    have kL := Blk.new w 42 #[.int .i64 a, .int .i64 b, .int .i64 c, .int .i64 d, .int .i64 e]
    have hbs := G.size
    replace G := G.alloc (by omega) (.cells #[.int .i64 a, .int .i64 b, .int .i64 c, .int .i64 d, .int .i64 e] 42)
    have z1 : (w.alloc (.cells #[.int .i64 a, .int .i64 b, .int .i64 c, .int .i64 d, .int .i64 e] 42)).heap.size = w.heap.size + 1 := by simp
    clear hbs
    generalize w.alloc (.cells #[.int .i64 a, .int .i64 b, .int .i64 c, .int .i64 d, .int .i64 e] 42) = W1 at kL G z1 ⊢
    have kP : Blk (W1.alloc (.cells #[.slice A0 ts.length c0, .slice A1 ks.length c1, .slice A2 fs.length c2, .int .i64 tn, .bool st] 46)) (w.heap.size + 1) 46 #[.slice A0 ts.length c0, .slice A1 ks.length c1, .slice A2 fs.length c2, .int .i64 tn, .bool st] := by
      have h := Blk.new W1 46 #[.slice A0 ts.length c0, .slice A1 ks.length c1, .slice A2 fs.length c2, .int .i64 tn, .bool st]
      rw [show W1.heap.size = w.heap.size + 1 by omega] at h
      exact h
    replace kL := kL.alloc (.cells #[.slice A0 ts.length c0, .slice A1 ks.length c1, .slice A2 fs.length c2, .int .i64 tn, .bool st] 46)
    have hbs := G.size
    replace G := G.alloc (by omega) (.cells #[.slice A0 ts.length c0, .slice A1 ks.length c1, .slice A2 fs.length c2, .int .i64 tn, .bool st] 46)
    have z2 : (W1.alloc (.cells #[.slice A0 ts.length c0, .slice A1 ks.length c1, .slice A2 fs.length c2, .int .i64 tn, .bool st] 46)).heap.size = W1.heap.size + 1 := by simp
    clear hbs
    generalize W1.alloc (.cells #[.slice A0 ts.length c0, .slice A1 ks.length c1, .slice A2 fs.length c2, .int .i64 tn, .bool st] 46) = W2 at kL kP G z2 ⊢
    have tL : w.heap.size < W2.heap.size := kL.lt
    have qL0 : W2.cell? ⟨w.heap.size, 0, none⟩ = some (.int .i64 a) := kL.cell 0
    have fL0 : W2.frozen? ⟨w.heap.size, 0, none⟩ = false := kL.frozen 0
    have qL1 : W2.cell? ⟨w.heap.size, 1, none⟩ = some (.int .i64 b) := kL.cell 1
    have fL1 : W2.frozen? ⟨w.heap.size, 1, none⟩ = false := kL.frozen 1
    have qL2 : W2.cell? ⟨w.heap.size, 2, none⟩ = some (.int .i64 c) := kL.cell 2
    have fL2 : W2.frozen? ⟨w.heap.size, 2, none⟩ = false := kL.frozen 2
    have qL3 : W2.cell? ⟨w.heap.size, 3, none⟩ = some (.int .i64 d) := kL.cell 3
    have fL3 : W2.frozen? ⟨w.heap.size, 3, none⟩ = false := kL.frozen 3
    have qL4 : W2.cell? ⟨w.heap.size, 4, none⟩ = some (.int .i64 e) := kL.cell 4
    have fL4 : W2.frozen? ⟨w.heap.size, 4, none⟩ = false := kL.frozen 4
    have tP : w.heap.size + 1 < W2.heap.size := kP.lt
    have qP0 : W2.cell? ⟨w.heap.size + 1, 0, none⟩ = some (.slice A0 ts.length c0) := kP.cell 0
    have fP0 : W2.frozen? ⟨w.heap.size + 1, 0, none⟩ = false := kP.frozen 0
    have qP1 : W2.cell? ⟨w.heap.size + 1, 1, none⟩ = some (.slice A1 ks.length c1) := kP.cell 1
    have fP1 : W2.frozen? ⟨w.heap.size + 1, 1, none⟩ = false := kP.frozen 1
    have qP2 : W2.cell? ⟨w.heap.size + 1, 2, none⟩ = some (.slice A2 fs.length c2) := kP.cell 2
    have fP2 : W2.frozen? ⟨w.heap.size + 1, 2, none⟩ = false := kP.frozen 2
    have qP3 : W2.cell? ⟨w.heap.size + 1, 3, none⟩ = some (.int .i64 tn) := kP.cell 3
    have fP3 : W2.frozen? ⟨w.heap.size + 1, 3, none⟩ = false := kP.frozen 3
    have qP4 : W2.cell? ⟨w.heap.size + 1, 4, none⟩ = some (.bool st) := kP.cell 4
    have fP4 : W2.frozen? ⟨w.heap.size + 1, 4, none⟩ = false := kP.frozen 4
    go_wp2_with fail
    go_call (szPool_any A0 A1 A2 ts.length c0 ks.length c1 fs.length c2 tn st _ h0 h1 h2) as r W3 ⟨rfl, g1⟩
    clear tL qL0 fL0 qL1 fL1 qL2 fL2 qL3 fL3 qL4 fL4 tP qP0 fP0 qP1 fP1 qP2 fP2 qP3 fP3 qP4 fP4
    have hbs := G.size
    replace kL := kL.below g1 kL.lt
    replace kP := kP.below g1 kP.lt
    replace G := G.trans (g1.mono (by omega))
    have z3 := g1.size
    clear g1 hbs
    rw [szPoolM_neg hT]
    have tL : w.heap.size < W3.heap.size := kL.lt
    have qL0 : W3.cell? ⟨w.heap.size, 0, none⟩ = some (.int .i64 a) := kL.cell 0
    have fL0 : W3.frozen? ⟨w.heap.size, 0, none⟩ = false := kL.frozen 0
    have qL1 : W3.cell? ⟨w.heap.size, 1, none⟩ = some (.int .i64 b) := kL.cell 1
    have fL1 : W3.frozen? ⟨w.heap.size, 1, none⟩ = false := kL.frozen 1
    have qL2 : W3.cell? ⟨w.heap.size, 2, none⟩ = some (.int .i64 c) := kL.cell 2
    have fL2 : W3.frozen? ⟨w.heap.size, 2, none⟩ = false := kL.frozen 2
    have qL3 : W3.cell? ⟨w.heap.size, 3, none⟩ = some (.int .i64 d) := kL.cell 3
    have fL3 : W3.frozen? ⟨w.heap.size, 3, none⟩ = false := kL.frozen 3
    have qL4 : W3.cell? ⟨w.heap.size, 4, none⟩ = some (.int .i64 e) := kL.cell 4
    have fL4 : W3.frozen? ⟨w.heap.size, 4, none⟩ = false := kL.frozen 4
    have tP : w.heap.size + 1 < W3.heap.size := kP.lt
    have qP0 : W3.cell? ⟨w.heap.size + 1, 0, none⟩ = some (.slice A0 ts.length c0) := kP.cell 0
    have fP0 : W3.frozen? ⟨w.heap.size + 1, 0, none⟩ = false := kP.frozen 0
    have qP1 : W3.cell? ⟨w.heap.size + 1, 1, none⟩ = some (.slice A1 ks.length c1) := kP.cell 1
    have fP1 : W3.frozen? ⟨w.heap.size + 1, 1, none⟩ = false := kP.frozen 1
    have qP2 : W3.cell? ⟨w.heap.size + 1, 2, none⟩ = some (.slice A2 fs.length c2) := kP.cell 2
    have fP2 : W3.frozen? ⟨w.heap.size + 1, 2, none⟩ = false := kP.frozen 2
    have qP3 : W3.cell? ⟨w.heap.size + 1, 3, none⟩ = some (.int .i64 tn) := kP.cell 3
    have fP3 : W3.frozen? ⟨w.heap.size + 1, 3, none⟩ = false := kP.frozen 3
    have qP4 : W3.cell? ⟨w.heap.size + 1, 4, none⟩ = some (.bool st) := kP.cell 4
    have fP4 : W3.frozen? ⟨w.heap.size + 1, 4, none⟩ = false := kP.frozen 4
    go_wp2_with fail
    go_ret
    exact ⟨rfl, G⟩
end Go.Proofs.Ythkmlmmgfjicfaa
