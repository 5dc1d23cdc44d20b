/- The exact law of FirstReady: whatever the pool, true; what was in memory stays as it was. No condition. -/
import Derived.Test.YtgbckcidmojnoaaXLines
namespace Go.Proofs.Ytgbckcidmojnoaa
open Go.RowKit
set_option linter.unusedVariables false

set_option maxRecDepth 100000 in
set_option maxHeartbeats 4000000 in
theorem xFirstReady_any (ts : List T7) (ks : List Int) (fs : List F2) (A0 A1 A2 : Option Addr) (c0 c1 c2 : Nat) (tn : Int) (st : Bool) (w : World) (h0 : ts.length ≤ 9223372036854775807) (h1 : ks.length ≤ 9223372036854775807) (h2 : fs.length ≤ 9223372036854775807) (h : InPool w ts ks fs A0 A1 A2) :
    Calls Try.prog 6 #[.agg #[.slice A0 ts.length c0, .slice A1 ks.length c1, .slice A2 fs.length c2, .int .i64 tn, .bool st]] w fun r w' => r = .returned (.bool true) ∧ Below w.heap.size w w' := by
  have H := hide h
  clear h
  by_cases hT : ts.length + ks.length + fs.length ≤ 1048576
  · obtain ⟨v, hv⟩ : ∃ v, v = firstM ts := ⟨_, rfl⟩
    have hS : Hid (∀ (A0 A1 A2 : Option Addr) (c0 c1 c2 : Nat) (w : World), InPool w ts ks fs A0 A1 A2 → Calls Try.prog 38 #[.agg #[.slice A0 ts.length c0, .slice A1 ks.length c1, .slice A2 fs.length c2, .int .i64 tn, .bool st]] w fun r w' => r = .returned (.int .i64 v) ∧ Below w.heap.size w w') := hide (fun A0 A1 A2 c0 c1 c2 w h => by rw [hv]; exact sFirstReady_s ts ks fs A0 A1 A2 c0 c1 c2 tn st w (by omega) h.1)
    have hI : Hid (∀ (A0 A1 A2 : Option Addr) (c0 c1 c2 : Nat) (w : World), InPool w ts ks fs A0 A1 A2 → Calls Try.prog 28 #[.agg #[.slice A0 ts.length c0, .slice A1 ks.length c1, .slice A2 fs.length c2, .int .i64 tn, .bool st]] w fun r w' => r = .returned (.int .i64 v) ∧ Below w.heap.size w w') := hide (fun A0 A1 A2 c0 c1 c2 w h => by rw [hv]; exact gFirstReady_any ts ks fs A0 A1 A2 c0 c1 c2 tn st w (by omega) h.1)
    clear hv
    go_enter Try.func6, Try.ntmps6
    go_wp2_with fail
    have M : Sep [] w (w.alloc (.cells #[.slice A0 ts.length c0, .slice A1 ks.length c1, .slice A2 fs.length c2, .int .i64 tn, .bool st] 54)) [.blk (w.heap.size) 54 #[.slice A0 ts.length c0, .slice A1 ks.length c1, .slice A2 fs.length c2, .int .i64 tn, .bool st]] := Sep.enter1 w
    generalize w.alloc (.cells #[.slice A0 ts.length c0, .slice A1 ks.length c1, .slice A2 fs.length c2, .int .i64 tn, .bool st] 54) = W1 at M ⊢
    have tX : w.heap.size < W1.heap.size := M.lt 0 rfl
    have qX0 : W1.cell? ⟨w.heap.size, 0, none⟩ = some (.slice A0 ts.length c0) := M.cell 0 0 rfl
    have qX1 : W1.cell? ⟨w.heap.size, 1, none⟩ = some (.slice A1 ks.length c1) := M.cell 0 1 rfl
    have qX2 : W1.cell? ⟨w.heap.size, 2, none⟩ = some (.slice A2 fs.length c2) := M.cell 0 2 rfl
    have qX3 : W1.cell? ⟨w.heap.size, 3, none⟩ = some (.int .i64 tn) := M.cell 0 3 rfl
    have qX4 : W1.cell? ⟨w.heap.size, 4, none⟩ = some (.bool st) := M.cell 0 4 rfl
    go_wp2_with fail
    go_call (szPool_any A0 A1 A2 ts.length c0 ks.length c1 fs.length c2 tn st _ h0 h1 h2) as r W2 ⟨rfl, g1⟩
    clear tX qX0 qX1 qX2 qX3 qX4
    replace M := M.call g1
    clear g1
    rw [szPoolM_pos' hT]
    have tX : w.heap.size < W2.heap.size := M.lt 0 rfl
    have qX0 : W2.cell? ⟨w.heap.size, 0, none⟩ = some (.slice A0 ts.length c0) := M.cell 0 0 rfl
    have qX1 : W2.cell? ⟨w.heap.size, 1, none⟩ = some (.slice A1 ks.length c1) := M.cell 0 1 rfl
    have qX2 : W2.cell? ⟨w.heap.size, 2, none⟩ = some (.slice A2 fs.length c2) := M.cell 0 2 rfl
    have qX3 : W2.cell? ⟨w.heap.size, 3, none⟩ = some (.int .i64 tn) := M.cell 0 3 rfl
    have qX4 : W2.cell? ⟨w.heap.size, 4, none⟩ = some (.bool st) := M.cell 0 4 rfl
    go_wp2_with fail
    go_call (toPool_s ts ks fs A0 A1 A2 c0 c1 c2 tn st _ hT (H.out.below M.below)) as r W3 ⟨B0, B1, B2, d0, d1, d2, rfl, g1⟩
    clear tX qX0 qX1 qX2 qX3 qX4
    replace M : Sep [] w W3 [rT ts.length B0 d0 ts, rK ks.length B1 d1 ks, rF fs.length B2 d2 fs, .blk (w.heap.size) 54 #[.slice A0 ts.length c0, .slice A1 ks.length c1, .slice A2 fs.length c2, .int .i64 tn, .bool st]] := Sep.comp (ps := []) (rs := [.blk (w.heap.size) 54 #[.slice A0 ts.length c0, .slice A1 ks.length c1, .slice A2 fs.length c2, .int .i64 tn, .bool st]]) M g1
    clear g1
    have tX : w.heap.size < W3.heap.size := M.lt 3 rfl
    have qX0 : W3.cell? ⟨w.heap.size, 0, none⟩ = some (.slice A0 ts.length c0) := M.cell 3 0 rfl
    have qX1 : W3.cell? ⟨w.heap.size, 1, none⟩ = some (.slice A1 ks.length c1) := M.cell 3 1 rfl
    have qX2 : W3.cell? ⟨w.heap.size, 2, none⟩ = some (.slice A2 fs.length c2) := M.cell 3 2 rfl
    have qX3 : W3.cell? ⟨w.heap.size, 3, none⟩ = some (.int .i64 tn) := M.cell 3 3 rfl
    have qX4 : W3.cell? ⟨w.heap.size, 4, none⟩ = some (.bool st) := M.cell 3 4 rfl
    go_wp2_with fail
    go_call (hS.out B0 B1 B2 d0 d1 d2 _ ⟨M.rowS 0 rfl, M.rowS 1 rfl, M.rowS 2 rfl⟩) as r W4 ⟨rfl, g1⟩
    clear tX qX0 qX1 qX2 qX3 qX4
    replace M := M.call g1
    clear g1
    have tX : w.heap.size < W4.heap.size := M.lt 3 rfl
    have qX0 : W4.cell? ⟨w.heap.size, 0, none⟩ = some (.slice A0 ts.length c0) := M.cell 3 0 rfl
    have qX1 : W4.cell? ⟨w.heap.size, 1, none⟩ = some (.slice A1 ks.length c1) := M.cell 3 1 rfl
    have qX2 : W4.cell? ⟨w.heap.size, 2, none⟩ = some (.slice A2 fs.length c2) := M.cell 3 2 rfl
    have qX3 : W4.cell? ⟨w.heap.size, 3, none⟩ = some (.int .i64 tn) := M.cell 3 3 rfl
    have qX4 : W4.cell? ⟨w.heap.size, 4, none⟩ = some (.bool st) := M.cell 3 4 rfl
    go_wp2_with fail
    go_call (toPool_s ts ks fs A0 A1 A2 c0 c1 c2 tn st _ hT (H.out.below M.below)) as r W5 ⟨C0, C1, C2, e0, e1, e2, rfl, g1⟩
    clear tX qX0 qX1 qX2 qX3 qX4
    replace M : Sep [] w W5 [rT ts.length C0 e0 ts, rK ks.length C1 e1 ks, rF fs.length C2 e2 fs, rT ts.length B0 d0 ts, rK ks.length B1 d1 ks, rF fs.length B2 d2 fs, .blk (w.heap.size) 54 #[.slice A0 ts.length c0, .slice A1 ks.length c1, .slice A2 fs.length c2, .int .i64 tn, .bool st]] := Sep.comp (ps := []) (rs := [rT ts.length B0 d0 ts, rK ks.length B1 d1 ks, rF fs.length B2 d2 fs, .blk (w.heap.size) 54 #[.slice A0 ts.length c0, .slice A1 ks.length c1, .slice A2 fs.length c2, .int .i64 tn, .bool st]]) M g1
    clear g1
    have tX : w.heap.size < W5.heap.size := M.lt 6 rfl
    have qX0 : W5.cell? ⟨w.heap.size, 0, none⟩ = some (.slice A0 ts.length c0) := M.cell 6 0 rfl
    have qX1 : W5.cell? ⟨w.heap.size, 1, none⟩ = some (.slice A1 ks.length c1) := M.cell 6 1 rfl
    have qX2 : W5.cell? ⟨w.heap.size, 2, none⟩ = some (.slice A2 fs.length c2) := M.cell 6 2 rfl
    have qX3 : W5.cell? ⟨w.heap.size, 3, none⟩ = some (.int .i64 tn) := M.cell 6 3 rfl
    have qX4 : W5.cell? ⟨w.heap.size, 4, none⟩ = some (.bool st) := M.cell 6 4 rfl
    go_wp2_with fail
    clear tX qX0 qX1 qX2 qX3 qX4
    replace M : Sep [] w (W5.alloc (.cells #[.slice C0 ts.length e0, .slice C1 ks.length e1, .slice C2 fs.length e2, .int .i64 tn, .bool st] 34)) [.blk (W5.heap.size) 34 #[.slice C0 ts.length e0, .slice C1 ks.length e1, .slice C2 fs.length e2, .int .i64 tn, .bool st], rT ts.length C0 e0 ts, rK ks.length C1 e1 ks, rF fs.length C2 e2 fs, rT ts.length B0 d0 ts, rK ks.length B1 d1 ks, rF fs.length B2 d2 fs, .blk (w.heap.size) 54 #[.slice A0 ts.length c0, .slice A1 ks.length c1, .slice A2 fs.length c2, .int .i64 tn, .bool st]] := M.allocN 34 #[.slice C0 ts.length e0, .slice C1 ks.length e1, .slice C2 fs.length e2, .int .i64 tn, .bool st]
    generalize W5.alloc (.cells #[.slice C0 ts.length e0, .slice C1 ks.length e1, .slice C2 fs.length e2, .int .i64 tn, .bool st] 34) = W6 at M ⊢
    have tY0 : W5.heap.size < W6.heap.size := M.lt 0 rfl
    have qY00 : W6.cell? ⟨W5.heap.size, 0, none⟩ = some (.slice C0 ts.length e0) := M.cell 0 0 rfl
    have qY01 : W6.cell? ⟨W5.heap.size, 1, none⟩ = some (.slice C1 ks.length e1) := M.cell 0 1 rfl
    have qY02 : W6.cell? ⟨W5.heap.size, 2, none⟩ = some (.slice C2 fs.length e2) := M.cell 0 2 rfl
    have qY03 : W6.cell? ⟨W5.heap.size, 3, none⟩ = some (.int .i64 tn) := M.cell 0 3 rfl
    have qY04 : W6.cell? ⟨W5.heap.size, 4, none⟩ = some (.bool st) := M.cell 0 4 rfl
    have tX : w.heap.size < W6.heap.size := M.lt 7 rfl
    have qX0 : W6.cell? ⟨w.heap.size, 0, none⟩ = some (.slice A0 ts.length c0) := M.cell 7 0 rfl
    have qX1 : W6.cell? ⟨w.heap.size, 1, none⟩ = some (.slice A1 ks.length c1) := M.cell 7 1 rfl
    have qX2 : W6.cell? ⟨w.heap.size, 2, none⟩ = some (.slice A2 fs.length c2) := M.cell 7 2 rfl
    have qX3 : W6.cell? ⟨w.heap.size, 3, none⟩ = some (.int .i64 tn) := M.cell 7 3 rfl
    have qX4 : W6.cell? ⟨w.heap.size, 4, none⟩ = some (.bool st) := M.cell 7 4 rfl
    go_wp2_with fail
    go_call (hI.out C0 C1 C2 e0 e1 e2 _ ⟨M.rowS 1 rfl, M.rowS 2 rfl, M.rowS 3 rfl⟩) as r W7 ⟨rfl, g1⟩
    clear tY0 qY00 qY01 qY02 qY03 qY04 tX qX0 qX1 qX2 qX3 qX4
    replace M := M.call g1
    clear g1
    have tY0 : W5.heap.size < W7.heap.size := M.lt 0 rfl
    have qY00 : W7.cell? ⟨W5.heap.size, 0, none⟩ = some (.slice C0 ts.length e0) := M.cell 0 0 rfl
    have qY01 : W7.cell? ⟨W5.heap.size, 1, none⟩ = some (.slice C1 ks.length e1) := M.cell 0 1 rfl
    have qY02 : W7.cell? ⟨W5.heap.size, 2, none⟩ = some (.slice C2 fs.length e2) := M.cell 0 2 rfl
    have qY03 : W7.cell? ⟨W5.heap.size, 3, none⟩ = some (.int .i64 tn) := M.cell 0 3 rfl
    have qY04 : W7.cell? ⟨W5.heap.size, 4, none⟩ = some (.bool st) := M.cell 0 4 rfl
    have tX : w.heap.size < W7.heap.size := M.lt 7 rfl
    have qX0 : W7.cell? ⟨w.heap.size, 0, none⟩ = some (.slice A0 ts.length c0) := M.cell 7 0 rfl
    have qX1 : W7.cell? ⟨w.heap.size, 1, none⟩ = some (.slice A1 ks.length c1) := M.cell 7 1 rfl
    have qX2 : W7.cell? ⟨w.heap.size, 2, none⟩ = some (.slice A2 fs.length c2) := M.cell 7 2 rfl
    have qX3 : W7.cell? ⟨w.heap.size, 3, none⟩ = some (.int .i64 tn) := M.cell 7 3 rfl
    have qX4 : W7.cell? ⟨w.heap.size, 4, none⟩ = some (.bool st) := M.cell 7 4 rfl
    go_wp2_with fail
    clear tY0 qY00 qY01 qY02 qY03 qY04 tX qX0 qX1 qX2 qX3 qX4
    have tY0 : W5.heap.size < W7.heap.size := M.lt 0 rfl
    have qY00 : W7.cell? ⟨W5.heap.size, 0, none⟩ = some (.slice C0 ts.length e0) := M.cell 0 0 rfl
    have qY01 : W7.cell? ⟨W5.heap.size, 1, none⟩ = some (.slice C1 ks.length e1) := M.cell 0 1 rfl
    have qY02 : W7.cell? ⟨W5.heap.size, 2, none⟩ = some (.slice C2 fs.length e2) := M.cell 0 2 rfl
    have qY03 : W7.cell? ⟨W5.heap.size, 3, none⟩ = some (.int .i64 tn) := M.cell 0 3 rfl
    have qY04 : W7.cell? ⟨W5.heap.size, 4, none⟩ = some (.bool st) := M.cell 0 4 rfl
    have tX : w.heap.size < W7.heap.size := M.lt 7 rfl
    have qX0 : W7.cell? ⟨w.heap.size, 0, none⟩ = some (.slice A0 ts.length c0) := M.cell 7 0 rfl
    have qX1 : W7.cell? ⟨w.heap.size, 1, none⟩ = some (.slice A1 ks.length c1) := M.cell 7 1 rfl
    have qX2 : W7.cell? ⟨w.heap.size, 2, none⟩ = some (.slice A2 fs.length c2) := M.cell 7 2 rfl
    have qX3 : W7.cell? ⟨w.heap.size, 3, none⟩ = some (.int .i64 tn) := M.cell 7 3 rfl
    have qX4 : W7.cell? ⟨w.heap.size, 4, none⟩ = some (.bool st) := M.cell 7 4 rfl
    have HH := hide (⟨H.out.below M.below, ⟨M.rowS 1 rfl, M.rowS 2 rfl, M.rowS 3 rfl⟩, M⟩ : InPool W7 ts ks fs A0 A1 A2 ∧ InPool W7 ts ks fs C0 C1 C2 ∧ Sep [] w W7 [.blk (W5.heap.size) 34 #[.slice C0 ts.length e0, .slice C1 ks.length e1, .slice C2 fs.length e2, .int .i64 tn, .bool st], rT ts.length C0 e0 ts, rK ks.length C1 e1 ks, rF fs.length C2 e2 fs, rT ts.length B0 d0 ts, rK ks.length B1 d1 ks, rF fs.length B2 d2 fs, .blk (w.heap.size) 54 #[.slice A0 ts.length c0, .slice A1 ks.length c1, .slice A2 fs.length c2, .int .i64 tn, .bool st]])
    clear M
    go_region_held3 (fun w' => Below (World.heap W7).size W7 w' ∧ ∀ b o, b < (World.heap W7).size → w'.cell? ⟨b, o, none⟩ = World.cell? W7 ⟨b, o, none⟩) (first | exact keep0' _ | exact keepS' (by assumption) (by assumption)) (first | (go_at_call 32; refine (toPool_any ts ks fs A0 A1 A2 c0 c1 c2 tn st _ hT (inS HH.out.1 (by assumption))).mono ?_; rintro r w4 ⟨D0, D1, D2, f0, f1, f2, rfl, own4, hb4⟩) | (go_at_call 34; refine (eqPool_same ts ks fs C0 C1 C2 e0 e1 e2 tn st D0 D1 D2 f0 f1 f2 _ hT (inS HH.out.2.1 (by assumption)) own4.reads).mono ?_; rintro r w5 ⟨rfl, hb5⟩))
    have M := HH.out.2.2.call (keptB (by assumption))
    clear HH tY0 qY00 qY01 qY02 qY03 qY04 tX qX0 qX1 qX2 qX3 qX4
    clear own4 hb4 hb5
    go_wp2_with fail
    go_ret
    exact ⟨rfl, M.below⟩
  · go_enter Try.func6, Try.ntmps6
    go_wp2_with fail
    have M : Sep [] w (w.alloc (.cells #[.slice A0 ts.length c0, .slice A1 ks.length c1, .slice A2 fs.length c2, .int .i64 tn, .bool st] 54)) [.blk (w.heap.size) 54 #[.slice A0 ts.length c0, .slice A1 ks.length c1, .slice A2 fs.length c2, .int .i64 tn, .bool st]] := Sep.enter1 w
    generalize w.alloc (.cells #[.slice A0 ts.length c0, .slice A1 ks.length c1, .slice A2 fs.length c2, .int .i64 tn, .bool st] 54) = W1 at M ⊢
    have tX : w.heap.size < W1.heap.size := M.lt 0 rfl
    have qX0 : W1.cell? ⟨w.heap.size, 0, none⟩ = some (.slice A0 ts.length c0) := M.cell 0 0 rfl
    have qX1 : W1.cell? ⟨w.heap.size, 1, none⟩ = some (.slice A1 ks.length c1) := M.cell 0 1 rfl
    have qX2 : W1.cell? ⟨w.heap.size, 2, none⟩ = some (.slice A2 fs.length c2) := M.cell 0 2 rfl
    have qX3 : W1.cell? ⟨w.heap.size, 3, none⟩ = some (.int .i64 tn) := M.cell 0 3 rfl
    have qX4 : W1.cell? ⟨w.heap.size, 4, none⟩ = some (.bool st) := M.cell 0 4 rfl
    go_wp2_with fail
    go_call (szPool_any A0 A1 A2 ts.length c0 ks.length c1 fs.length c2 tn st _ h0 h1 h2) as r W2 ⟨rfl, g1⟩
    clear tX qX0 qX1 qX2 qX3 qX4
    replace M := M.call g1
    clear g1
    rw [szPoolM_neg' hT]
    have tX : w.heap.size < W2.heap.size := M.lt 0 rfl
    have qX0 : W2.cell? ⟨w.heap.size, 0, none⟩ = some (.slice A0 ts.length c0) := M.cell 0 0 rfl
    have qX1 : W2.cell? ⟨w.heap.size, 1, none⟩ = some (.slice A1 ks.length c1) := M.cell 0 1 rfl
    have qX2 : W2.cell? ⟨w.heap.size, 2, none⟩ = some (.slice A2 fs.length c2) := M.cell 0 2 rfl
    have qX3 : W2.cell? ⟨w.heap.size, 3, none⟩ = some (.int .i64 tn) := M.cell 0 3 rfl
    have qX4 : W2.cell? ⟨w.heap.size, 4, none⟩ = some (.bool st) := M.cell 0 4 rfl
    go_wp2_with fail
    go_ret
    exact ⟨rfl, M.below⟩
end Go.Proofs.Ytgbckcidmojnoaa
