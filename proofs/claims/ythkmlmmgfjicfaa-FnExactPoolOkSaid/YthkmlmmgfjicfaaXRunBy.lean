/- The exact laws of RunBy and CountOf: whatever the pool and the number, true; what was in memory stays as it was. No condition. -/
import Derived.Test.YthkmlmmgfjicfaaEqPool
import Derived.Test.YthkmlmmgfjicfaaRunBy
import Derived.Deep.RegionHeld3
namespace Go.Proofs.Ythkmlmmgfjicfaa
open Go.RowKit

theorem szPoolM_pos {n0 n1 n2 : Nat} (h : n0 + n1 + n2 ≤ 1048576) : szPoolM n0 n1 n2 = 1048576 - ((n0 : Int) + n1 + n2) := by simp [szPoolM, h]
theorem szPoolM_neg {n0 n1 n2 : Nat} (h : ¬ n0 + n1 + n2 ≤ 1048576) : szPoolM n0 n1 n2 = -1 := by simp [szPoolM, h]
theorem inS {W0 w : World} {q : Prop} {ts : List T7} {ks : List Int} {fs : List F2} {A0 A1 A2 : Option Addr} (h : InPool W0 ts ks fs A0 A1 A2) (k : Below W0.heap.size W0 w ∧ q) : InPool w ts ks fs A0 A1 A2 := h.below k.1
theorem keep0' (W0 : World) : Below W0.heap.size W0 W0.drew ∧ ∀ b o, b < W0.heap.size → W0.drew.cell? ⟨b, o, none⟩ = W0.cell? ⟨b, o, none⟩ :=
  ⟨(Below.refl _ _).drew, fun _ _ _ => rfl⟩
theorem keepS' {W0 w w' : World} (h : Below W0.heap.size W0 w ∧ ∀ b o, b < W0.heap.size → w.cell? ⟨b, o, none⟩ = W0.cell? ⟨b, o, none⟩) (k : Below w.heap.size w w') :
    Below W0.heap.size W0 w' ∧ ∀ b o, b < W0.heap.size → w'.cell? ⟨b, o, none⟩ = W0.cell? ⟨b, o, none⟩ :=
  have hb := h.1.trans (k.mono h.1.size)
  ⟨hb, (bcell hb).1⟩
theorem keepEnd' {B : Nat} {w W0 w' : World} (hb : Below B w W0 ∧ B ≤ W0.heap.size) (h : Below W0.heap.size W0 w' ∧ ∀ b o, b < W0.heap.size → w'.cell? ⟨b, o, none⟩ = W0.cell? ⟨b, o, none⟩) : Below B w w' :=
  hb.1.trans (h.1.mono hb.2)

set_option maxRecDepth 100000 in
set_option maxHeartbeats 4000000 in
theorem xRunBy_any (ts : List T7) (ks : List Int) (fs : List F2) (A0 A1 A2 : Option Addr) (c0 c1 c2 : Nat) (tn : Int) (st : Bool) (wk : Int) (w : World) (h0 : ts.length ≤ 9223372036854775807) (h1 : ks.length ≤ 9223372036854775807) (h2 : fs.length ≤ 9223372036854775807) (h : InPool w ts ks fs A0 A1 A2) :
    Calls Try.prog 6 #[.agg #[.slice A0 ts.length c0, .slice A1 ks.length c1, .slice A2 fs.length c2, .int .i64 tn, .bool st], .int .i64 wk] w fun r w' => r = .returned (.bool true) ∧ Below w.heap.size w w' := by
  have H := hide h
  clear h
  by_cases hT : ts.length + ks.length + fs.length ≤ 1048576
  · go_enter Try.func6, Try.ntmps6
    go_wp2_with fail
    have G := Below.refl w.heap.size w
    have kP := Blk.new w 46 #[.slice A0 ts.length c0, .slice A1 ks.length c1, .slice A2 fs.length c2, .int .i64 tn, .bool st]
    have hbs := G.size
    replace G := G.alloc (by omega) (.cells #[.slice A0 ts.length c0, .slice A1 ks.length c1, .slice A2 fs.length c2, .int .i64 tn, .bool st] 46)
    have z1 : (w.alloc (.cells #[.slice A0 ts.length c0, .slice A1 ks.length c1, .slice A2 fs.length c2, .int .i64 tn, .bool st] 46)).heap.size = w.heap.size + 1 := by simp
    clear hbs
    generalize w.alloc (.cells #[.slice A0 ts.length c0, .slice A1 ks.length c1, .slice A2 fs.length c2, .int .i64 tn, .bool st] 46) = W1 at kP G z1 ⊢
    have tP : w.heap.size < W1.heap.size := kP.lt
    have qP0 : W1.cell? ⟨w.heap.size, 0, none⟩ = some (.slice A0 ts.length c0) := kP.cell 0
    have fP0 : W1.frozen? ⟨w.heap.size, 0, none⟩ = false := kP.frozen 0
    have qP1 : W1.cell? ⟨w.heap.size, 1, none⟩ = some (.slice A1 ks.length c1) := kP.cell 1
    have fP1 : W1.frozen? ⟨w.heap.size, 1, none⟩ = false := kP.frozen 1
    have qP2 : W1.cell? ⟨w.heap.size, 2, none⟩ = some (.slice A2 fs.length c2) := kP.cell 2
    have fP2 : W1.frozen? ⟨w.heap.size, 2, none⟩ = false := kP.frozen 2
    have qP3 : W1.cell? ⟨w.heap.size, 3, none⟩ = some (.int .i64 tn) := kP.cell 3
    have fP3 : W1.frozen? ⟨w.heap.size, 3, none⟩ = false := kP.frozen 3
    have qP4 : W1.cell? ⟨w.heap.size, 4, none⟩ = some (.bool st) := kP.cell 4
    have fP4 : W1.frozen? ⟨w.heap.size, 4, none⟩ = false := kP.frozen 4
    go_wp2_with fail
    go_call (szPool_any A0 A1 A2 ts.length c0 ks.length c1 fs.length c2 tn st _ h0 h1 h2) as r W2 ⟨rfl, g1⟩
    clear tP qP0 fP0 qP1 fP1 qP2 fP2 qP3 fP3 qP4 fP4
    have hbs := G.size
    replace kP := kP.below g1 kP.lt
    replace G := G.trans (g1.mono (by omega))
    have z2 := g1.size
    clear g1 hbs
    rw [szPoolM_pos hT]
    have tP : w.heap.size < W2.heap.size := kP.lt
    have qP0 : W2.cell? ⟨w.heap.size, 0, none⟩ = some (.slice A0 ts.length c0) := kP.cell 0
    have fP0 : W2.frozen? ⟨w.heap.size, 0, none⟩ = false := kP.frozen 0
    have qP1 : W2.cell? ⟨w.heap.size, 1, none⟩ = some (.slice A1 ks.length c1) := kP.cell 1
    have fP1 : W2.frozen? ⟨w.heap.size, 1, none⟩ = false := kP.frozen 1
    have qP2 : W2.cell? ⟨w.heap.size, 2, none⟩ = some (.slice A2 fs.length c2) := kP.cell 2
    have fP2 : W2.frozen? ⟨w.heap.size, 2, none⟩ = false := kP.frozen 2
    have qP3 : W2.cell? ⟨w.heap.size, 3, none⟩ = some (.int .i64 tn) := kP.cell 3
    have fP3 : W2.frozen? ⟨w.heap.size, 3, none⟩ = false := kP.frozen 3
    have qP4 : W2.cell? ⟨w.heap.size, 4, none⟩ = some (.bool st) := kP.cell 4
    have fP4 : W2.frozen? ⟨w.heap.size, 4, none⟩ = false := kP.frozen 4
    go_wp2_with fail
    go_call (toPool_any ts ks fs A0 A1 A2 c0 c1 c2 tn st _ hT (H.out.below G)) as r W3 ⟨C0, C1, C2, q0, q1, q2, rfl, own1, g1⟩
    clear tP qP0 fP0 qP1 fP1 qP2 fP2 qP3 fP3 qP4 fP4
    have hbs := G.size
    replace kP := kP.below g1 kP.lt
    replace G := G.trans (g1.mono (by omega))
    have z3 := g1.size
    clear g1 hbs
    have tP : w.heap.size < W3.heap.size := kP.lt
    have qP0 : W3.cell? ⟨w.heap.size, 0, none⟩ = some (.slice A0 ts.length c0) := kP.cell 0
    have fP0 : W3.frozen? ⟨w.heap.size, 0, none⟩ = false := kP.frozen 0
    have qP1 : W3.cell? ⟨w.heap.size, 1, none⟩ = some (.slice A1 ks.length c1) := kP.cell 1
    have fP1 : W3.frozen? ⟨w.heap.size, 1, none⟩ = false := kP.frozen 1
    have qP2 : W3.cell? ⟨w.heap.size, 2, none⟩ = some (.slice A2 fs.length c2) := kP.cell 2
    have fP2 : W3.frozen? ⟨w.heap.size, 2, none⟩ = false := kP.frozen 2
    have qP3 : W3.cell? ⟨w.heap.size, 3, none⟩ = some (.int .i64 tn) := kP.cell 3
    have fP3 : W3.frozen? ⟨w.heap.size, 3, none⟩ = false := kP.frozen 3
    have qP4 : W3.cell? ⟨w.heap.size, 4, none⟩ = some (.bool st) := kP.cell 4
    have fP4 : W3.frozen? ⟨w.heap.size, 4, none⟩ = false := kP.frozen 4
    go_wp2_with fail
    go_call (sRunBy_any ts C0 C1 C2 q0 ks.length q1 fs.length q2 tn st wk _ (by omega) own1.reads.1) as r W4 ⟨rfl, g1⟩
    clear tP qP0 fP0 qP1 fP1 qP2 fP2 qP3 fP3 qP4 fP4
    have hbs := G.size
    replace kP := kP.below g1 kP.lt
    replace G := G.trans (g1.mono (by omega))
    have z4 := g1.size
    clear g1 hbs
    clear own1
    have tP : w.heap.size < W4.heap.size := kP.lt
    have qP0 : W4.cell? ⟨w.heap.size, 0, none⟩ = some (.slice A0 ts.length c0) := kP.cell 0
    have fP0 : W4.frozen? ⟨w.heap.size, 0, none⟩ = false := kP.frozen 0
    have qP1 : W4.cell? ⟨w.heap.size, 1, none⟩ = some (.slice A1 ks.length c1) := kP.cell 1
    have fP1 : W4.frozen? ⟨w.heap.size, 1, none⟩ = false := kP.frozen 1
    have qP2 : W4.cell? ⟨w.heap.size, 2, none⟩ = some (.slice A2 fs.length c2) := kP.cell 2
    have fP2 : W4.frozen? ⟨w.heap.size, 2, none⟩ = false := kP.frozen 2
    have qP3 : W4.cell? ⟨w.heap.size, 3, none⟩ = some (.int .i64 tn) := kP.cell 3
    have fP3 : W4.frozen? ⟨w.heap.size, 3, none⟩ = false := kP.frozen 3
    have qP4 : W4.cell? ⟨w.heap.size, 4, none⟩ = some (.bool st) := kP.cell 4
    have fP4 : W4.frozen? ⟨w.heap.size, 4, none⟩ = false := kP.frozen 4
    go_wp2_with fail
    go_call (toPool_any ts ks fs A0 A1 A2 c0 c1 c2 tn st _ hT (H.out.below G)) as r W5 ⟨B0, B1, B2, d0, d1, d2, rfl, own2, g1⟩
    clear tP qP0 fP0 qP1 fP1 qP2 fP2 qP3 fP3 qP4 fP4
    have hbs := G.size
    replace kP := kP.below g1 kP.lt
    replace G := G.trans (g1.mono (by omega))
    have z5 := g1.size
    clear g1 hbs
    have rX := own2
    clear own2
    have tP : w.heap.size < W5.heap.size := kP.lt
    have qP0 : W5.cell? ⟨w.heap.size, 0, none⟩ = some (.slice A0 ts.length c0) := kP.cell 0
    have fP0 : W5.frozen? ⟨w.heap.size, 0, none⟩ = false := kP.frozen 0
    have qP1 : W5.cell? ⟨w.heap.size, 1, none⟩ = some (.slice A1 ks.length c1) := kP.cell 1
    have fP1 : W5.frozen? ⟨w.heap.size, 1, none⟩ = false := kP.frozen 1
    have qP2 : W5.cell? ⟨w.heap.size, 2, none⟩ = some (.slice A2 fs.length c2) := kP.cell 2
    have fP2 : W5.frozen? ⟨w.heap.size, 2, none⟩ = false := kP.frozen 2
    have qP3 : W5.cell? ⟨w.heap.size, 3, none⟩ = some (.int .i64 tn) := kP.cell 3
    have fP3 : W5.frozen? ⟨w.heap.size, 3, none⟩ = false := kP.frozen 3
    have qP4 : W5.cell? ⟨w.heap.size, 4, none⟩ = some (.bool st) := kP.cell 4
    have fP4 : W5.frozen? ⟨w.heap.size, 4, none⟩ = false := kP.frozen 4
    go_wp2_with fail
    clear tP qP0 fP0 qP1 fP1 qP2 fP2 qP3 fP3 qP4 fP4
    have kX := Blk.new W5 34 #[.slice B0 ts.length d0, .slice B1 ks.length d1, .slice B2 fs.length d2, .int .i64 tn, .bool st]
    replace kP := kP.alloc (.cells #[.slice B0 ts.length d0, .slice B1 ks.length d1, .slice B2 fs.length d2, .int .i64 tn, .bool st] 34)
    replace rX := rX.alloc (.cells #[.slice B0 ts.length d0, .slice B1 ks.length d1, .slice B2 fs.length d2, .int .i64 tn, .bool st] 34)
    have hbs := G.size
    replace G := G.alloc (by omega) (.cells #[.slice B0 ts.length d0, .slice B1 ks.length d1, .slice B2 fs.length d2, .int .i64 tn, .bool st] 34)
    have z6 : (W5.alloc (.cells #[.slice B0 ts.length d0, .slice B1 ks.length d1, .slice B2 fs.length d2, .int .i64 tn, .bool st] 34)).heap.size = W5.heap.size + 1 := by simp
    clear hbs
    generalize W5.alloc (.cells #[.slice B0 ts.length d0, .slice B1 ks.length d1, .slice B2 fs.length d2, .int .i64 tn, .bool st] 34) = W6 at kP kX rX G z6 ⊢
    have tP : w.heap.size < W6.heap.size := kP.lt
    have qP0 : W6.cell? ⟨w.heap.size, 0, none⟩ = some (.slice A0 ts.length c0) := kP.cell 0
    have fP0 : W6.frozen? ⟨w.heap.size, 0, none⟩ = false := kP.frozen 0
    have qP1 : W6.cell? ⟨w.heap.size, 1, none⟩ = some (.slice A1 ks.length c1) := kP.cell 1
    have fP1 : W6.frozen? ⟨w.heap.size, 1, none⟩ = false := kP.frozen 1
    have qP2 : W6.cell? ⟨w.heap.size, 2, none⟩ = some (.slice A2 fs.length c2) := kP.cell 2
    have fP2 : W6.frozen? ⟨w.heap.size, 2, none⟩ = false := kP.frozen 2
    have qP3 : W6.cell? ⟨w.heap.size, 3, none⟩ = some (.int .i64 tn) := kP.cell 3
    have fP3 : W6.frozen? ⟨w.heap.size, 3, none⟩ = false := kP.frozen 3
    have qP4 : W6.cell? ⟨w.heap.size, 4, none⟩ = some (.bool st) := kP.cell 4
    have fP4 : W6.frozen? ⟨w.heap.size, 4, none⟩ = false := kP.frozen 4
    have tX : W5.heap.size < W6.heap.size := kX.lt
    have qX0 : W6.cell? ⟨W5.heap.size, 0, none⟩ = some (.slice B0 ts.length d0) := kX.cell 0
    have fX0 : W6.frozen? ⟨W5.heap.size, 0, none⟩ = false := kX.frozen 0
    have qX1 : W6.cell? ⟨W5.heap.size, 1, none⟩ = some (.slice B1 ks.length d1) := kX.cell 1
    have fX1 : W6.frozen? ⟨W5.heap.size, 1, none⟩ = false := kX.frozen 1
    have qX2 : W6.cell? ⟨W5.heap.size, 2, none⟩ = some (.slice B2 fs.length d2) := kX.cell 2
    have fX2 : W6.frozen? ⟨W5.heap.size, 2, none⟩ = false := kX.frozen 2
    have qX3 : W6.cell? ⟨W5.heap.size, 3, none⟩ = some (.int .i64 tn) := kX.cell 3
    have fX3 : W6.frozen? ⟨W5.heap.size, 3, none⟩ = false := kX.frozen 3
    have qX4 : W6.cell? ⟨W5.heap.size, 4, none⟩ = some (.bool st) := kX.cell 4
    have fX4 : W6.frozen? ⟨W5.heap.size, 4, none⟩ = false := kX.frozen 4
    go_wp2_with fail
    go_call (gRunBy_any ts B0 B1 B2 d0 ks.length d1 fs.length d2 tn st wk _ (by omega) rX.reads.1) as r W7 ⟨rfl, g1⟩
    clear tP qP0 fP0 qP1 fP1 qP2 fP2 qP3 fP3 qP4 fP4 tX qX0 fX0 qX1 fX1 qX2 fX2 qX3 fX3 qX4 fX4
    have hbs := G.size
    replace kP := kP.below g1 kP.lt
    replace kX := kX.below g1 kX.lt
    replace rX := rX.below g1
    replace G := G.trans (g1.mono (by omega))
    have z7 := g1.size
    clear g1 hbs
    have tP : w.heap.size < W7.heap.size := kP.lt
    have qP0 : W7.cell? ⟨w.heap.size, 0, none⟩ = some (.slice A0 ts.length c0) := kP.cell 0
    have fP0 : W7.frozen? ⟨w.heap.size, 0, none⟩ = false := kP.frozen 0
    have qP1 : W7.cell? ⟨w.heap.size, 1, none⟩ = some (.slice A1 ks.length c1) := kP.cell 1
    have fP1 : W7.frozen? ⟨w.heap.size, 1, none⟩ = false := kP.frozen 1
    have qP2 : W7.cell? ⟨w.heap.size, 2, none⟩ = some (.slice A2 fs.length c2) := kP.cell 2
    have fP2 : W7.frozen? ⟨w.heap.size, 2, none⟩ = false := kP.frozen 2
    have qP3 : W7.cell? ⟨w.heap.size, 3, none⟩ = some (.int .i64 tn) := kP.cell 3
    have fP3 : W7.frozen? ⟨w.heap.size, 3, none⟩ = false := kP.frozen 3
    have qP4 : W7.cell? ⟨w.heap.size, 4, none⟩ = some (.bool st) := kP.cell 4
    have fP4 : W7.frozen? ⟨w.heap.size, 4, none⟩ = false := kP.frozen 4
    have tX : W5.heap.size < W7.heap.size := kX.lt
    have qX0 : W7.cell? ⟨W5.heap.size, 0, none⟩ = some (.slice B0 ts.length d0) := kX.cell 0
    have fX0 : W7.frozen? ⟨W5.heap.size, 0, none⟩ = false := kX.frozen 0
    have qX1 : W7.cell? ⟨W5.heap.size, 1, none⟩ = some (.slice B1 ks.length d1) := kX.cell 1
    have fX1 : W7.frozen? ⟨W5.heap.size, 1, none⟩ = false := kX.frozen 1
    have qX2 : W7.cell? ⟨W5.heap.size, 2, none⟩ = some (.slice B2 fs.length d2) := kX.cell 2
    have fX2 : W7.frozen? ⟨W5.heap.size, 2, none⟩ = false := kX.frozen 2
    have qX3 : W7.cell? ⟨W5.heap.size, 3, none⟩ = some (.int .i64 tn) := kX.cell 3
    have fX3 : W7.frozen? ⟨W5.heap.size, 3, none⟩ = false := kX.frozen 3
    have qX4 : W7.cell? ⟨W5.heap.size, 4, none⟩ = some (.bool st) := kX.cell 4
    have fX4 : W7.frozen? ⟨W5.heap.size, 4, none⟩ = false := kX.frozen 4
    go_wp2_with fail
    clear tP qP0 fP0 qP1 fP1 qP2 fP2 qP3 fP3 qP4 fP4 tX qX0 fX0 qX1 fX1 qX2 fX2 qX3 fX3 qX4 fX4
    have tP : w.heap.size < W7.heap.size := kP.lt
    have qP0 : W7.cell? ⟨w.heap.size, 0, none⟩ = some (.slice A0 ts.length c0) := kP.cell 0
    have qP1 : W7.cell? ⟨w.heap.size, 1, none⟩ = some (.slice A1 ks.length c1) := kP.cell 1
    have qP2 : W7.cell? ⟨w.heap.size, 2, none⟩ = some (.slice A2 fs.length c2) := kP.cell 2
    have qP3 : W7.cell? ⟨w.heap.size, 3, none⟩ = some (.int .i64 tn) := kP.cell 3
    have qP4 : W7.cell? ⟨w.heap.size, 4, none⟩ = some (.bool st) := kP.cell 4
    have tX : W5.heap.size < W7.heap.size := kX.lt
    have qX0 : W7.cell? ⟨W5.heap.size, 0, none⟩ = some (.slice B0 ts.length d0) := kX.cell 0
    have qX1 : W7.cell? ⟨W5.heap.size, 1, none⟩ = some (.slice B1 ks.length d1) := kX.cell 1
    have qX2 : W7.cell? ⟨W5.heap.size, 2, none⟩ = some (.slice B2 fs.length d2) := kX.cell 2
    have qX3 : W7.cell? ⟨W5.heap.size, 3, none⟩ = some (.int .i64 tn) := kX.cell 3
    have qX4 : W7.cell? ⟨W5.heap.size, 4, none⟩ = some (.bool st) := kX.cell 4
    have hI : InPool W7 ts ks fs A0 A1 A2 := H.out.below G
    have hJ : InPool W7 ts ks fs B0 B1 B2 := rX.reads
    have HH := hide (⟨hI, hJ, G, G.size⟩ : _ ∧ _ ∧ Below w.heap.size w W7 ∧ w.heap.size ≤ W7.heap.size)
    clear hI hJ G rX kP kX
    go_region_held3 (fun w' => Below (World.heap W7).size W7 w' ∧ ∀ b o, b < (World.heap W7).size → w'.cell? ⟨b, o, none⟩ = World.cell? W7 ⟨b, o, none⟩) (first | exact keep0' _ | exact keepS' (by assumption) (by assumption)) (first | (go_at_call 22; refine (toPool_any ts ks fs A0 A1 A2 c0 c1 c2 tn st _ hT (inS HH.out.1 (by assumption))).mono ?_; rintro r w4 ⟨D0, D1, D2, e0, e1, e2, rfl, own4, hb4⟩) | (go_at_call 23; refine (eqPool_same ts ks fs B0 B1 B2 d0 d1 d2 tn st D0 D1 D2 e0 e1 e2 _ hT (inS HH.out.2.1 (by assumption)) own4.reads).mono ?_; rintro r w5 ⟨rfl, hb5⟩))
    go_wp2
    go_ret
    exact ⟨rfl, keepEnd' ⟨HH.out.2.2.1, HH.out.2.2.2⟩ (by assumption)⟩
  · go_enter Try.func6, Try.ntmps6
    go_wp2_with fail
    have G := Below.refl w.heap.size w
    have kP := Blk.new w 46 #[.slice A0 ts.length c0, .slice A1 ks.length c1, .slice A2 fs.length c2, .int .i64 tn, .bool st]
    have hbs := G.size
    replace G := G.alloc (by omega) (.cells #[.slice A0 ts.length c0, .slice A1 ks.length c1, .slice A2 fs.length c2, .int .i64 tn, .bool st] 46)
    have z1 : (w.alloc (.cells #[.slice A0 ts.length c0, .slice A1 ks.length c1, .slice A2 fs.length c2, .int .i64 tn, .bool st] 46)).heap.size = w.heap.size + 1 := by simp
    clear hbs
    generalize w.alloc (.cells #[.slice A0 ts.length c0, .slice A1 ks.length c1, .slice A2 fs.length c2, .int .i64 tn, .bool st] 46) = W1 at kP G z1 ⊢
    have tP : w.heap.size < W1.heap.size := kP.lt
    have qP0 : W1.cell? ⟨w.heap.size, 0, none⟩ = some (.slice A0 ts.length c0) := kP.cell 0
    have fP0 : W1.frozen? ⟨w.heap.size, 0, none⟩ = false := kP.frozen 0
    have qP1 : W1.cell? ⟨w.heap.size, 1, none⟩ = some (.slice A1 ks.length c1) := kP.cell 1
    have fP1 : W1.frozen? ⟨w.heap.size, 1, none⟩ = false := kP.frozen 1
    have qP2 : W1.cell? ⟨w.heap.size, 2, none⟩ = some (.slice A2 fs.length c2) := kP.cell 2
    have fP2 : W1.frozen? ⟨w.heap.size, 2, none⟩ = false := kP.frozen 2
    have qP3 : W1.cell? ⟨w.heap.size, 3, none⟩ = some (.int .i64 tn) := kP.cell 3
    have fP3 : W1.frozen? ⟨w.heap.size, 3, none⟩ = false := kP.frozen 3
    have qP4 : W1.cell? ⟨w.heap.size, 4, none⟩ = some (.bool st) := kP.cell 4
    have fP4 : W1.frozen? ⟨w.heap.size, 4, none⟩ = false := kP.frozen 4
    go_wp2_with fail
    go_call (szPool_any A0 A1 A2 ts.length c0 ks.length c1 fs.length c2 tn st _ h0 h1 h2) as r W2 ⟨rfl, g1⟩
    clear tP qP0 fP0 qP1 fP1 qP2 fP2 qP3 fP3 qP4 fP4
    have hbs := G.size
    replace kP := kP.below g1 kP.lt
    replace G := G.trans (g1.mono (by omega))
    have z2 := g1.size
    clear g1 hbs
    rw [szPoolM_neg hT]
    have tP : w.heap.size < W2.heap.size := kP.lt
    have qP0 : W2.cell? ⟨w.heap.size, 0, none⟩ = some (.slice A0 ts.length c0) := kP.cell 0
    have fP0 : W2.frozen? ⟨w.heap.size, 0, none⟩ = false := kP.frozen 0
    have qP1 : W2.cell? ⟨w.heap.size, 1, none⟩ = some (.slice A1 ks.length c1) := kP.cell 1
    have fP1 : W2.frozen? ⟨w.heap.size, 1, none⟩ = false := kP.frozen 1
    have qP2 : W2.cell? ⟨w.heap.size, 2, none⟩ = some (.slice A2 fs.length c2) := kP.cell 2
    have fP2 : W2.frozen? ⟨w.heap.size, 2, none⟩ = false := kP.frozen 2
    have qP3 : W2.cell? ⟨w.heap.size, 3, none⟩ = some (.int .i64 tn) := kP.cell 3
    have fP3 : W2.frozen? ⟨w.heap.size, 3, none⟩ = false := kP.frozen 3
    have qP4 : W2.cell? ⟨w.heap.size, 4, none⟩ = some (.bool st) := kP.cell 4
    have fP4 : W2.frozen? ⟨w.heap.size, 4, none⟩ = false := kP.frozen 4
    go_wp2_with fail
    go_ret
    exact ⟨rfl, G⟩

set_option maxRecDepth 100000 in
set_option maxHeartbeats 4000000 in
theorem xCountOf_any (ts : List T7) (ks : List Int) (fs : List F2) (A0 A1 A2 : Option Addr) (c0 c1 c2 : Nat) (tn : Int) (st : Bool) (sv : Int) (w : World) (h0 : ts.length ≤ 9223372036854775807) (h1 : ks.length ≤ 9223372036854775807) (h2 : fs.length ≤ 9223372036854775807) (h : InPool w ts ks fs A0 A1 A2) :
    Calls Try.prog 7 #[.agg #[.slice A0 ts.length c0, .slice A1 ks.length c1, .slice A2 fs.length c2, .int .i64 tn, .bool st], .int .i64 sv] w fun r w' => r = .returned (.bool true) ∧ Below w.heap.size w w' := by
  have H := hide h
  clear h
  by_cases hT : ts.length + ks.length + fs.length ≤ 1048576
  · go_enter Try.func7, Try.ntmps7
    go_wp2_with fail
    have G := Below.refl w.heap.size w
    have kP := Blk.new w 46 #[.slice A0 ts.length c0, .slice A1 ks.length c1, .slice A2 fs.length c2, .int .i64 tn, .bool st]
    have hbs := G.size
    replace G := G.alloc (by omega) (.cells #[.slice A0 ts.length c0, .slice A1 ks.length c1, .slice A2 fs.length c2, .int .i64 tn, .bool st] 46)
    have z1 : (w.alloc (.cells #[.slice A0 ts.length c0, .slice A1 ks.length c1, .slice A2 fs.length c2, .int .i64 tn, .bool st] 46)).heap.size = w.heap.size + 1 := by simp
    clear hbs
    generalize w.alloc (.cells #[.slice A0 ts.length c0, .slice A1 ks.length c1, .slice A2 fs.length c2, .int .i64 tn, .bool st] 46) = W1 at kP G z1 ⊢
    have tP : w.heap.size < W1.heap.size := kP.lt
    have qP0 : W1.cell? ⟨w.heap.size, 0, none⟩ = some (.slice A0 ts.length c0) := kP.cell 0
    have fP0 : W1.frozen? ⟨w.heap.size, 0, none⟩ = false := kP.frozen 0
    have qP1 : W1.cell? ⟨w.heap.size, 1, none⟩ = some (.slice A1 ks.length c1) := kP.cell 1
    have fP1 : W1.frozen? ⟨w.heap.size, 1, none⟩ = false := kP.frozen 1
    have qP2 : W1.cell? ⟨w.heap.size, 2, none⟩ = some (.slice A2 fs.length c2) := kP.cell 2
    have fP2 : W1.frozen? ⟨w.heap.size, 2, none⟩ = false := kP.frozen 2
    have qP3 : W1.cell? ⟨w.heap.size, 3, none⟩ = some (.int .i64 tn) := kP.cell 3
    have fP3 : W1.frozen? ⟨w.heap.size, 3, none⟩ = false := kP.frozen 3
    have qP4 : W1.cell? ⟨w.heap.size, 4, none⟩ = some (.bool st) := kP.cell 4
    have fP4 : W1.frozen? ⟨w.heap.size, 4, none⟩ = false := kP.frozen 4
    go_wp2_with fail
    go_call (szPool_any A0 A1 A2 ts.length c0 ks.length c1 fs.length c2 tn st _ h0 h1 h2) as r W2 ⟨rfl, g1⟩
    clear tP qP0 fP0 qP1 fP1 qP2 fP2 qP3 fP3 qP4 fP4
    have hbs := G.size
    replace kP := kP.below g1 kP.lt
    replace G := G.trans (g1.mono (by omega))
    have z2 := g1.size
    clear g1 hbs
    rw [szPoolM_pos hT]
    have tP : w.heap.size < W2.heap.size := kP.lt
    have qP0 : W2.cell? ⟨w.heap.size, 0, none⟩ = some (.slice A0 ts.length c0) := kP.cell 0
    have fP0 : W2.frozen? ⟨w.heap.size, 0, none⟩ = false := kP.frozen 0
    have qP1 : W2.cell? ⟨w.heap.size, 1, none⟩ = some (.slice A1 ks.length c1) := kP.cell 1
    have fP1 : W2.frozen? ⟨w.heap.size, 1, none⟩ = false := kP.frozen 1
    have qP2 : W2.cell? ⟨w.heap.size, 2, none⟩ = some (.slice A2 fs.length c2) := kP.cell 2
    have fP2 : W2.frozen? ⟨w.heap.size, 2, none⟩ = false := kP.frozen 2
    have qP3 : W2.cell? ⟨w.heap.size, 3, none⟩ = some (.int .i64 tn) := kP.cell 3
    have fP3 : W2.frozen? ⟨w.heap.size, 3, none⟩ = false := kP.frozen 3
    have qP4 : W2.cell? ⟨w.heap.size, 4, none⟩ = some (.bool st) := kP.cell 4
    have fP4 : W2.frozen? ⟨w.heap.size, 4, none⟩ = false := kP.frozen 4
    go_wp2_with fail
    go_call (toPool_any ts ks fs A0 A1 A2 c0 c1 c2 tn st _ hT (H.out.below G)) as r W3 ⟨C0, C1, C2, q0, q1, q2, rfl, own1, g1⟩
    clear tP qP0 fP0 qP1 fP1 qP2 fP2 qP3 fP3 qP4 fP4
    have hbs := G.size
    replace kP := kP.below g1 kP.lt
    replace G := G.trans (g1.mono (by omega))
    have z3 := g1.size
    clear g1 hbs
    have tP : w.heap.size < W3.heap.size := kP.lt
    have qP0 : W3.cell? ⟨w.heap.size, 0, none⟩ = some (.slice A0 ts.length c0) := kP.cell 0
    have fP0 : W3.frozen? ⟨w.heap.size, 0, none⟩ = false := kP.frozen 0
    have qP1 : W3.cell? ⟨w.heap.size, 1, none⟩ = some (.slice A1 ks.length c1) := kP.cell 1
    have fP1 : W3.frozen? ⟨w.heap.size, 1, none⟩ = false := kP.frozen 1
    have qP2 : W3.cell? ⟨w.heap.size, 2, none⟩ = some (.slice A2 fs.length c2) := kP.cell 2
    have fP2 : W3.frozen? ⟨w.heap.size, 2, none⟩ = false := kP.frozen 2
    have qP3 : W3.cell? ⟨w.heap.size, 3, none⟩ = some (.int .i64 tn) := kP.cell 3
    have fP3 : W3.frozen? ⟨w.heap.size, 3, none⟩ = false := kP.frozen 3
    have qP4 : W3.cell? ⟨w.heap.size, 4, none⟩ = some (.bool st) := kP.cell 4
    have fP4 : W3.frozen? ⟨w.heap.size, 4, none⟩ = false := kP.frozen 4
    go_wp2_with fail
    go_call (sCountOf_any ts C0 C1 C2 q0 ks.length q1 fs.length q2 tn st sv _ (by omega) own1.reads.1) as r W4 ⟨rfl, g1⟩
    clear tP qP0 fP0 qP1 fP1 qP2 fP2 qP3 fP3 qP4 fP4
    have hbs := G.size
    replace kP := kP.below g1 kP.lt
    replace G := G.trans (g1.mono (by omega))
    have z4 := g1.size
    clear g1 hbs
    clear own1
    have tP : w.heap.size < W4.heap.size := kP.lt
    have qP0 : W4.cell? ⟨w.heap.size, 0, none⟩ = some (.slice A0 ts.length c0) := kP.cell 0
    have fP0 : W4.frozen? ⟨w.heap.size, 0, none⟩ = false := kP.frozen 0
    have qP1 : W4.cell? ⟨w.heap.size, 1, none⟩ = some (.slice A1 ks.length c1) := kP.cell 1
    have fP1 : W4.frozen? ⟨w.heap.size, 1, none⟩ = false := kP.frozen 1
    have qP2 : W4.cell? ⟨w.heap.size, 2, none⟩ = some (.slice A2 fs.length c2) := kP.cell 2
    have fP2 : W4.frozen? ⟨w.heap.size, 2, none⟩ = false := kP.frozen 2
    have qP3 : W4.cell? ⟨w.heap.size, 3, none⟩ = some (.int .i64 tn) := kP.cell 3
    have fP3 : W4.frozen? ⟨w.heap.size, 3, none⟩ = false := kP.frozen 3
    have qP4 : W4.cell? ⟨w.heap.size, 4, none⟩ = some (.bool st) := kP.cell 4
    have fP4 : W4.frozen? ⟨w.heap.size, 4, none⟩ = false := kP.frozen 4
    go_wp2_with fail
    go_call (toPool_any ts ks fs A0 A1 A2 c0 c1 c2 tn st _ hT (H.out.below G)) as r W5 ⟨B0, B1, B2, d0, d1, d2, rfl, own2, g1⟩
    clear tP qP0 fP0 qP1 fP1 qP2 fP2 qP3 fP3 qP4 fP4
    have hbs := G.size
    replace kP := kP.below g1 kP.lt
    replace G := G.trans (g1.mono (by omega))
    have z5 := g1.size
    clear g1 hbs
    have rX := own2
    clear own2
    have tP : w.heap.size < W5.heap.size := kP.lt
    have qP0 : W5.cell? ⟨w.heap.size, 0, none⟩ = some (.slice A0 ts.length c0) := kP.cell 0
    have fP0 : W5.frozen? ⟨w.heap.size, 0, none⟩ = false := kP.frozen 0
    have qP1 : W5.cell? ⟨w.heap.size, 1, none⟩ = some (.slice A1 ks.length c1) := kP.cell 1
    have fP1 : W5.frozen? ⟨w.heap.size, 1, none⟩ = false := kP.frozen 1
    have qP2 : W5.cell? ⟨w.heap.size, 2, none⟩ = some (.slice A2 fs.length c2) := kP.cell 2
    have fP2 : W5.frozen? ⟨w.heap.size, 2, none⟩ = false := kP.frozen 2
    have qP3 : W5.cell? ⟨w.heap.size, 3, none⟩ = some (.int .i64 tn) := kP.cell 3
    have fP3 : W5.frozen? ⟨w.heap.size, 3, none⟩ = false := kP.frozen 3
    have qP4 : W5.cell? ⟨w.heap.size, 4, none⟩ = some (.bool st) := kP.cell 4
    have fP4 : W5.frozen? ⟨w.heap.size, 4, none⟩ = false := kP.frozen 4
    go_wp2_with fail
    clear tP qP0 fP0 qP1 fP1 qP2 fP2 qP3 fP3 qP4 fP4
    have kX := Blk.new W5 34 #[.slice B0 ts.length d0, .slice B1 ks.length d1, .slice B2 fs.length d2, .int .i64 tn, .bool st]
    replace kP := kP.alloc (.cells #[.slice B0 ts.length d0, .slice B1 ks.length d1, .slice B2 fs.length d2, .int .i64 tn, .bool st] 34)
    replace rX := rX.alloc (.cells #[.slice B0 ts.length d0, .slice B1 ks.length d1, .slice B2 fs.length d2, .int .i64 tn, .bool st] 34)
    have hbs := G.size
    replace G := G.alloc (by omega) (.cells #[.slice B0 ts.length d0, .slice B1 ks.length d1, .slice B2 fs.length d2, .int .i64 tn, .bool st] 34)
    have z6 : (W5.alloc (.cells #[.slice B0 ts.length d0, .slice B1 ks.length d1, .slice B2 fs.length d2, .int .i64 tn, .bool st] 34)).heap.size = W5.heap.size + 1 := by simp
    clear hbs
    generalize W5.alloc (.cells #[.slice B0 ts.length d0, .slice B1 ks.length d1, .slice B2 fs.length d2, .int .i64 tn, .bool st] 34) = W6 at kP kX rX G z6 ⊢
    have tP : w.heap.size < W6.heap.size := kP.lt
    have qP0 : W6.cell? ⟨w.heap.size, 0, none⟩ = some (.slice A0 ts.length c0) := kP.cell 0
    have fP0 : W6.frozen? ⟨w.heap.size, 0, none⟩ = false := kP.frozen 0
    have qP1 : W6.cell? ⟨w.heap.size, 1, none⟩ = some (.slice A1 ks.length c1) := kP.cell 1
    have fP1 : W6.frozen? ⟨w.heap.size, 1, none⟩ = false := kP.frozen 1
    have qP2 : W6.cell? ⟨w.heap.size, 2, none⟩ = some (.slice A2 fs.length c2) := kP.cell 2
    have fP2 : W6.frozen? ⟨w.heap.size, 2, none⟩ = false := kP.frozen 2
    have qP3 : W6.cell? ⟨w.heap.size, 3, none⟩ = some (.int .i64 tn) := kP.cell 3
    have fP3 : W6.frozen? ⟨w.heap.size, 3, none⟩ = false := kP.frozen 3
    have qP4 : W6.cell? ⟨w.heap.size, 4, none⟩ = some (.bool st) := kP.cell 4
    have fP4 : W6.frozen? ⟨w.heap.size, 4, none⟩ = false := kP.frozen 4
    have tX : W5.heap.size < W6.heap.size := kX.lt
    have qX0 : W6.cell? ⟨W5.heap.size, 0, none⟩ = some (.slice B0 ts.length d0) := kX.cell 0
    have fX0 : W6.frozen? ⟨W5.heap.size, 0, none⟩ = false := kX.frozen 0
    have qX1 : W6.cell? ⟨W5.heap.size, 1, none⟩ = some (.slice B1 ks.length d1) := kX.cell 1
    have fX1 : W6.frozen? ⟨W5.heap.size, 1, none⟩ = false := kX.frozen 1
    have qX2 : W6.cell? ⟨W5.heap.size, 2, none⟩ = some (.slice B2 fs.length d2) := kX.cell 2
    have fX2 : W6.frozen? ⟨W5.heap.size, 2, none⟩ = false := kX.frozen 2
    have qX3 : W6.cell? ⟨W5.heap.size, 3, none⟩ = some (.int .i64 tn) := kX.cell 3
    have fX3 : W6.frozen? ⟨W5.heap.size, 3, none⟩ = false := kX.frozen 3
    have qX4 : W6.cell? ⟨W5.heap.size, 4, none⟩ = some (.bool st) := kX.cell 4
    have fX4 : W6.frozen? ⟨W5.heap.size, 4, none⟩ = false := kX.frozen 4
    go_wp2_with fail
    go_call (gCountOf_any ts B0 B1 B2 d0 ks.length d1 fs.length d2 tn st sv _ (by omega) rX.reads.1) as r W7 ⟨rfl, g1⟩
    clear tP qP0 fP0 qP1 fP1 qP2 fP2 qP3 fP3 qP4 fP4 tX qX0 fX0 qX1 fX1 qX2 fX2 qX3 fX3 qX4 fX4
    have hbs := G.size
    replace kP := kP.below g1 kP.lt
    replace kX := kX.below g1 kX.lt
    replace rX := rX.below g1
    replace G := G.trans (g1.mono (by omega))
    have z7 := g1.size
    clear g1 hbs
    have tP : w.heap.size < W7.heap.size := kP.lt
    have qP0 : W7.cell? ⟨w.heap.size, 0, none⟩ = some (.slice A0 ts.length c0) := kP.cell 0
    have fP0 : W7.frozen? ⟨w.heap.size, 0, none⟩ = false := kP.frozen 0
    have qP1 : W7.cell? ⟨w.heap.size, 1, none⟩ = some (.slice A1 ks.length c1) := kP.cell 1
    have fP1 : W7.frozen? ⟨w.heap.size, 1, none⟩ = false := kP.frozen 1
    have qP2 : W7.cell? ⟨w.heap.size, 2, none⟩ = some (.slice A2 fs.length c2) := kP.cell 2
    have fP2 : W7.frozen? ⟨w.heap.size, 2, none⟩ = false := kP.frozen 2
    have qP3 : W7.cell? ⟨w.heap.size, 3, none⟩ = some (.int .i64 tn) := kP.cell 3
    have fP3 : W7.frozen? ⟨w.heap.size, 3, none⟩ = false := kP.frozen 3
    have qP4 : W7.cell? ⟨w.heap.size, 4, none⟩ = some (.bool st) := kP.cell 4
    have fP4 : W7.frozen? ⟨w.heap.size, 4, none⟩ = false := kP.frozen 4
    have tX : W5.heap.size < W7.heap.size := kX.lt
    have qX0 : W7.cell? ⟨W5.heap.size, 0, none⟩ = some (.slice B0 ts.length d0) := kX.cell 0
    have fX0 : W7.frozen? ⟨W5.heap.size, 0, none⟩ = false := kX.frozen 0
    have qX1 : W7.cell? ⟨W5.heap.size, 1, none⟩ = some (.slice B1 ks.length d1) := kX.cell 1
    have fX1 : W7.frozen? ⟨W5.heap.size, 1, none⟩ = false := kX.frozen 1
    have qX2 : W7.cell? ⟨W5.heap.size, 2, none⟩ = some (.slice B2 fs.length d2) := kX.cell 2
    have fX2 : W7.frozen? ⟨W5.heap.size, 2, none⟩ = false := kX.frozen 2
    have qX3 : W7.cell? ⟨W5.heap.size, 3, none⟩ = some (.int .i64 tn) := kX.cell 3
    have fX3 : W7.frozen? ⟨W5.heap.size, 3, none⟩ = false := kX.frozen 3
    have qX4 : W7.cell? ⟨W5.heap.size, 4, none⟩ = some (.bool st) := kX.cell 4
    have fX4 : W7.frozen? ⟨W5.heap.size, 4, none⟩ = false := kX.frozen 4
    go_wp2_with fail
    clear tP qP0 fP0 qP1 fP1 qP2 fP2 qP3 fP3 qP4 fP4 tX qX0 fX0 qX1 fX1 qX2 fX2 qX3 fX3 qX4 fX4
    have tP : w.heap.size < W7.heap.size := kP.lt
    have qP0 : W7.cell? ⟨w.heap.size, 0, none⟩ = some (.slice A0 ts.length c0) := kP.cell 0
    have qP1 : W7.cell? ⟨w.heap.size, 1, none⟩ = some (.slice A1 ks.length c1) := kP.cell 1
    have qP2 : W7.cell? ⟨w.heap.size, 2, none⟩ = some (.slice A2 fs.length c2) := kP.cell 2
    have qP3 : W7.cell? ⟨w.heap.size, 3, none⟩ = some (.int .i64 tn) := kP.cell 3
    have qP4 : W7.cell? ⟨w.heap.size, 4, none⟩ = some (.bool st) := kP.cell 4
    have tX : W5.heap.size < W7.heap.size := kX.lt
    have qX0 : W7.cell? ⟨W5.heap.size, 0, none⟩ = some (.slice B0 ts.length d0) := kX.cell 0
    have qX1 : W7.cell? ⟨W5.heap.size, 1, none⟩ = some (.slice B1 ks.length d1) := kX.cell 1
    have qX2 : W7.cell? ⟨W5.heap.size, 2, none⟩ = some (.slice B2 fs.length d2) := kX.cell 2
    have qX3 : W7.cell? ⟨W5.heap.size, 3, none⟩ = some (.int .i64 tn) := kX.cell 3
    have qX4 : W7.cell? ⟨W5.heap.size, 4, none⟩ = some (.bool st) := kX.cell 4
    have hI : InPool W7 ts ks fs A0 A1 A2 := H.out.below G
    have hJ : InPool W7 ts ks fs B0 B1 B2 := rX.reads
    have HH := hide (⟨hI, hJ, G, G.size⟩ : _ ∧ _ ∧ Below w.heap.size w W7 ∧ w.heap.size ≤ W7.heap.size)
    clear hI hJ G rX kP kX
    go_region_held3 (fun w' => Below (World.heap W7).size W7 w' ∧ ∀ b o, b < (World.heap W7).size → w'.cell? ⟨b, o, none⟩ = World.cell? W7 ⟨b, o, none⟩) (first | exact keep0' _ | exact keepS' (by assumption) (by assumption)) (first | (go_at_call 22; refine (toPool_any ts ks fs A0 A1 A2 c0 c1 c2 tn st _ hT (inS HH.out.1 (by assumption))).mono ?_; rintro r w4 ⟨D0, D1, D2, e0, e1, e2, rfl, own4, hb4⟩) | (go_at_call 23; refine (eqPool_same ts ks fs B0 B1 B2 d0 d1 d2 tn st D0 D1 D2 e0 e1 e2 _ hT (inS HH.out.2.1 (by assumption)) own4.reads).mono ?_; rintro r w5 ⟨rfl, hb5⟩))
    go_wp2
    go_ret
    exact ⟨rfl, keepEnd' ⟨HH.out.2.2.1, HH.out.2.2.2⟩ (by assumption)⟩
  · go_enter Try.func7, Try.ntmps7
    go_wp2_with fail
    have G := Below.refl w.heap.size w
    have kP := Blk.new w 46 #[.slice A0 ts.length c0, .slice A1 ks.length c1, .slice A2 fs.length c2, .int .i64 tn, .bool st]
    have hbs := G.size
    replace G := G.alloc (by omega) (.cells #[.slice A0 ts.length c0, .slice A1 ks.length c1, .slice A2 fs.length c2, .int .i64 tn, .bool st] 46)
    have z1 : (w.alloc (.cells #[.slice A0 ts.length c0, .slice A1 ks.length c1, .slice A2 fs.length c2, .int .i64 tn, .bool st] 46)).heap.size = w.heap.size + 1 := by simp
    clear hbs
    generalize w.alloc (.cells #[.slice A0 ts.length c0, .slice A1 ks.length c1, .slice A2 fs.length c2, .int .i64 tn, .bool st] 46) = W1 at kP G z1 ⊢
    have tP : w.heap.size < W1.heap.size := kP.lt
    have qP0 : W1.cell? ⟨w.heap.size, 0, none⟩ = some (.slice A0 ts.length c0) := kP.cell 0
    have fP0 : W1.frozen? ⟨w.heap.size, 0, none⟩ = false := kP.frozen 0
    have qP1 : W1.cell? ⟨w.heap.size, 1, none⟩ = some (.slice A1 ks.length c1) := kP.cell 1
    have fP1 : W1.frozen? ⟨w.heap.size, 1, none⟩ = false := kP.frozen 1
    have qP2 : W1.cell? ⟨w.heap.size, 2, none⟩ = some (.slice A2 fs.length c2) := kP.cell 2
    have fP2 : W1.frozen? ⟨w.heap.size, 2, none⟩ = false := kP.frozen 2
    have qP3 : W1.cell? ⟨w.heap.size, 3, none⟩ = some (.int .i64 tn) := kP.cell 3
    have fP3 : W1.frozen? ⟨w.heap.size, 3, none⟩ = false := kP.frozen 3
    have qP4 : W1.cell? ⟨w.heap.size, 4, none⟩ = some (.bool st) := kP.cell 4
    have fP4 : W1.frozen? ⟨w.heap.size, 4, none⟩ = false := kP.frozen 4
    go_wp2_with fail
    go_call (szPool_any A0 A1 A2 ts.length c0 ks.length c1 fs.length c2 tn st _ h0 h1 h2) as r W2 ⟨rfl, g1⟩
    clear tP qP0 fP0 qP1 fP1 qP2 fP2 qP3 fP3 qP4 fP4
    have hbs := G.size
    replace kP := kP.below g1 kP.lt
    replace G := G.trans (g1.mono (by omega))
    have z2 := g1.size
    clear g1 hbs
    rw [szPoolM_neg hT]
    have tP : w.heap.size < W2.heap.size := kP.lt
    have qP0 : W2.cell? ⟨w.heap.size, 0, none⟩ = some (.slice A0 ts.length c0) := kP.cell 0
    have fP0 : W2.frozen? ⟨w.heap.size, 0, none⟩ = false := kP.frozen 0
    have qP1 : W2.cell? ⟨w.heap.size, 1, none⟩ = some (.slice A1 ks.length c1) := kP.cell 1
    have fP1 : W2.frozen? ⟨w.heap.size, 1, none⟩ = false := kP.frozen 1
    have qP2 : W2.cell? ⟨w.heap.size, 2, none⟩ = some (.slice A2 fs.length c2) := kP.cell 2
    have fP2 : W2.frozen? ⟨w.heap.size, 2, none⟩ = false := kP.frozen 2
    have qP3 : W2.cell? ⟨w.heap.size, 3, none⟩ = some (.int .i64 tn) := kP.cell 3
    have fP3 : W2.frozen? ⟨w.heap.size, 3, none⟩ = false := kP.frozen 3
    have qP4 : W2.cell? ⟨w.heap.size, 4, none⟩ = some (.bool st) := kP.cell 4
    have fP4 : W2.frozen? ⟨w.heap.size, 4, none⟩ = false := kP.frozen 4
    go_wp2_with fail
    go_ret
    exact ⟨rfl, G⟩
end Go.Proofs.Ythkmlmmgfjicfaa
