/- The exact laws of ReadyLine and WaitersOn: whatever the pool and the numbers, true; what was in memory stays as it was. No condition. -/
import Derived.Test.YtgbckcidmojnoaaGLines
import Derived.Deep.RegionHeld3
namespace Go.Proofs.Ytgbckcidmojnoaa
open Go.RowKit
set_option linter.unusedVariables false

/-- What a line's function leaves. -/
def GaveI (L : List Int) (w : World) (r : Ending) (w' : World) : Prop := ∃ (B : Option Addr) (d : Nat), r = .returned (.slice B L.length d) ∧ Sep [] w w' [rK L.length B d L]
theorem keptB {W w' : World} (h : Below W.heap.size W w' ∧ ∀ b o, b < W.heap.size → w'.cell? ⟨b, o, none⟩ = W.cell? ⟨b, o, none⟩) : Below W.heap.size W w' := h.1
theorem inS {W0 w : World} {q : Prop} {ts : List T7} {ks : List Int} {fs : List F2} {A0 A1 A2 : Option Addr} (h : InPool W0 ts ks fs A0 A1 A2) (k : Below W0.heap.size W0 w ∧ q) : InPool w ts ks fs A0 A1 A2 := h.below k.1
theorem keep0' (W0 : World) : Below W0.heap.size W0 W0.drew ∧ ∀ b o, b < W0.heap.size → W0.drew.cell? ⟨b, o, none⟩ = W0.cell? ⟨b, o, none⟩ :=
  ⟨(Below.refl _ _).drew, fun _ _ _ => rfl⟩
theorem keepS' {W0 w w' : World} (h : Below W0.heap.size W0 w ∧ ∀ b o, b < W0.heap.size → w.cell? ⟨b, o, none⟩ = W0.cell? ⟨b, o, none⟩) (k : Below w.heap.size w w') :
    Below W0.heap.size W0 w' ∧ ∀ b o, b < W0.heap.size → w'.cell? ⟨b, o, none⟩ = W0.cell? ⟨b, o, none⟩ :=
  have hb := h.1.trans (k.mono h.1.size)
  ⟨hb, (bcell hb).1⟩

theorem ready_both (ts : List T7) (ks : List Int) (fs : List F2) (tn : Int) (st : Bool) (hl : ts.length + ks.length + fs.length ≤ 1048576) : ∃ L : List Int, L.length ≤ 1048576 ∧
    Hid (∀ (A0 A1 A2 : Option Addr) (c0 c1 c2 : Nat) (w : World), InPool w ts ks fs A0 A1 A2 → Calls Try.prog 26 #[.agg #[.slice A0 ts.length c0, .slice A1 ks.length c1, .slice A2 fs.length c2, .int .i64 tn, .bool st]] w (GaveI L w)) ∧
    Hid (∀ (A0 A1 A2 : Option Addr) (c0 c1 c2 : Nat) (w : World), InPool w ts ks fs A0 A1 A2 → Calls Try.prog 24 #[.agg #[.slice A0 ts.length c0, .slice A1 ks.length c1, .slice A2 fs.length c2, .int .i64 tn, .bool st]] w (GaveI L w)) :=
  ⟨readyM ts, by have := lineM_length (readyQ ts) (readyP ts) ts.length; unfold readyM; omega, hide (fun A0 A1 A2 c0 c1 c2 w h => sReadyLine_s ts ks fs A0 A1 A2 c0 c1 c2 tn st w (by omega) h.1), hide (fun A0 A1 A2 c0 c1 c2 w h => gReadyLine_any ts ks fs A0 A1 A2 c0 c1 c2 tn st w (by omega) h.1)⟩

theorem wait_both (ts : List T7) (ks : List Int) (fs : List F2) (tn : Int) (st : Bool) (wk on2 : Int) (hl : ts.length + ks.length + fs.length ≤ 1048576) : ∃ L : List Int, L.length ≤ 1048576 ∧
    Hid (∀ (A0 A1 A2 : Option Addr) (c0 c1 c2 : Nat) (w : World), InPool w ts ks fs A0 A1 A2 → Calls Try.prog 30 #[.agg #[.slice A0 ts.length c0, .slice A1 ks.length c1, .slice A2 fs.length c2, .int .i64 tn, .bool st], .int .i64 wk, .int .i64 on2] w (GaveI L w)) ∧
    Hid (∀ (A0 A1 A2 : Option Addr) (c0 c1 c2 : Nat) (w : World), InPool w ts ks fs A0 A1 A2 → Calls Try.prog 29 #[.agg #[.slice A0 ts.length c0, .slice A1 ks.length c1, .slice A2 fs.length c2, .int .i64 tn, .bool st], .int .i64 wk, .int .i64 on2] w (GaveI L w)) :=
  ⟨waitersM ts wk on2, by have := lineM_length (waitQ ts wk on2) (waitP ts) ts.length; unfold waitersM; omega, hide (fun A0 A1 A2 c0 c1 c2 w h => sWaitersOn_s ts ks fs A0 A1 A2 c0 c1 c2 tn st wk on2 w (by omega) h.1), hide (fun A0 A1 A2 c0 c1 c2 w h => gWaitersOn_any ts ks fs A0 A1 A2 c0 c1 c2 tn st wk on2 w (by omega) h.1)⟩

set_option maxRecDepth 100000 in
set_option maxHeartbeats 4000000 in
theorem xReadyLine_any (ts : List T7) (ks : List Int) (fs : List F2) (A0 A1 A2 : Option Addr) (c0 c1 c2 : Nat) (tn : Int) (st : Bool) (w : World) (h0 : ts.length ≤ 9223372036854775807) (h1 : ks.length ≤ 9223372036854775807) (h2 : fs.length ≤ 9223372036854775807) (h : InPool w ts ks fs A0 A1 A2) :
    Calls Try.prog 5 #[.agg #[.slice A0 ts.length c0, .slice A1 ks.length c1, .slice A2 fs.length c2, .int .i64 tn, .bool st]] w fun r w' => r = .returned (.bool true) ∧ Below w.heap.size w w' := by
  have H := hide h
  clear h
  by_cases hT : ts.length + ks.length + fs.length ≤ 1048576
  · obtain ⟨L, hLl, hS, hI⟩ := ready_both ts ks fs tn st hT
    go_enter Try.func5, Try.ntmps5
    go_wp2_with fail
    have M : Sep [] w (w.alloc (.cells #[.slice A0 ts.length c0, .slice A1 ks.length c1, .slice A2 fs.length c2, .int .i64 tn, .bool st] 54)) [.blk (w.heap.size) 54 #[.slice A0 ts.length c0, .slice A1 ks.length c1, .slice A2 fs.length c2, .int .i64 tn, .bool st]] := Sep.enter1 w
    generalize w.alloc (.cells #[.slice A0 ts.length c0, .slice A1 ks.length c1, .slice A2 fs.length c2, .int .i64 tn, .bool st] 54) = W1 at M ⊢
    have tX : w.heap.size < W1.heap.size := M.lt 0 rfl
    have qX0 : W1.cell? ⟨w.heap.size, 0, none⟩ = some (.slice A0 ts.length c0) := M.cell 0 0 rfl
    have qX1 : W1.cell? ⟨w.heap.size, 1, none⟩ = some (.slice A1 ks.length c1) := M.cell 0 1 rfl
    have qX2 : W1.cell? ⟨w.heap.size, 2, none⟩ = some (.slice A2 fs.length c2) := M.cell 0 2 rfl
    have qX3 : W1.cell? ⟨w.heap.size, 3, none⟩ = some (.int .i64 tn) := M.cell 0 3 rfl
    have qX4 : W1.cell? ⟨w.heap.size, 4, none⟩ = some (.bool st) := M.cell 0 4 rfl
    go_wp2_with fail
    go_call (szPool_any A0 A1 A2 ts.length c0 ks.length c1 fs.length c2 tn st _ h0 h1 h2) as r W2 ⟨rfl, g1⟩
    clear tX qX0 qX1 qX2 qX3 qX4
    replace M := M.call g1
    clear g1
    rw [szPoolM_pos' hT]
    have tX : w.heap.size < W2.heap.size := M.lt 0 rfl
    have qX0 : W2.cell? ⟨w.heap.size, 0, none⟩ = some (.slice A0 ts.length c0) := M.cell 0 0 rfl
    have qX1 : W2.cell? ⟨w.heap.size, 1, none⟩ = some (.slice A1 ks.length c1) := M.cell 0 1 rfl
    have qX2 : W2.cell? ⟨w.heap.size, 2, none⟩ = some (.slice A2 fs.length c2) := M.cell 0 2 rfl
    have qX3 : W2.cell? ⟨w.heap.size, 3, none⟩ = some (.int .i64 tn) := M.cell 0 3 rfl
    have qX4 : W2.cell? ⟨w.heap.size, 4, none⟩ = some (.bool st) := M.cell 0 4 rfl
    go_wp2_with fail
    go_call (toPool_s ts ks fs A0 A1 A2 c0 c1 c2 tn st _ hT (H.out.below M.below)) as r W3 ⟨B0, B1, B2, d0, d1, d2, rfl, g1⟩
    clear tX qX0 qX1 qX2 qX3 qX4
    replace M : Sep [] w W3 [rT ts.length B0 d0 ts, rK ks.length B1 d1 ks, rF fs.length B2 d2 fs, .blk (w.heap.size) 54 #[.slice A0 ts.length c0, .slice A1 ks.length c1, .slice A2 fs.length c2, .int .i64 tn, .bool st]] := Sep.comp (ps := []) (rs := [.blk (w.heap.size) 54 #[.slice A0 ts.length c0, .slice A1 ks.length c1, .slice A2 fs.length c2, .int .i64 tn, .bool st]]) M g1
    clear g1
    have tX : w.heap.size < W3.heap.size := M.lt 3 rfl
    have qX0 : W3.cell? ⟨w.heap.size, 0, none⟩ = some (.slice A0 ts.length c0) := M.cell 3 0 rfl
    have qX1 : W3.cell? ⟨w.heap.size, 1, none⟩ = some (.slice A1 ks.length c1) := M.cell 3 1 rfl
    have qX2 : W3.cell? ⟨w.heap.size, 2, none⟩ = some (.slice A2 fs.length c2) := M.cell 3 2 rfl
    have qX3 : W3.cell? ⟨w.heap.size, 3, none⟩ = some (.int .i64 tn) := M.cell 3 3 rfl
    have qX4 : W3.cell? ⟨w.heap.size, 4, none⟩ = some (.bool st) := M.cell 3 4 rfl
    go_wp2_with fail
    go_call (hS.out B0 B1 B2 d0 d1 d2 _ ⟨M.rowS 0 rfl, M.rowS 1 rfl, M.rowS 2 rfl⟩) as r W4 ⟨WA, wc, rfl, g1⟩
    clear tX qX0 qX1 qX2 qX3 qX4
    replace M : Sep [] w W4 [rK L.length WA wc L, rT ts.length B0 d0 ts, rK ks.length B1 d1 ks, rF fs.length B2 d2 fs, .blk (w.heap.size) 54 #[.slice A0 ts.length c0, .slice A1 ks.length c1, .slice A2 fs.length c2, .int .i64 tn, .bool st]] := Sep.comp (ps := []) (rs := [rT ts.length B0 d0 ts, rK ks.length B1 d1 ks, rF fs.length B2 d2 fs, .blk (w.heap.size) 54 #[.slice A0 ts.length c0, .slice A1 ks.length c1, .slice A2 fs.length c2, .int .i64 tn, .bool st]]) M g1
    clear g1
    have tX : w.heap.size < W4.heap.size := M.lt 4 rfl
    have qX0 : W4.cell? ⟨w.heap.size, 0, none⟩ = some (.slice A0 ts.length c0) := M.cell 4 0 rfl
    have qX1 : W4.cell? ⟨w.heap.size, 1, none⟩ = some (.slice A1 ks.length c1) := M.cell 4 1 rfl
    have qX2 : W4.cell? ⟨w.heap.size, 2, none⟩ = some (.slice A2 fs.length c2) := M.cell 4 2 rfl
    have qX3 : W4.cell? ⟨w.heap.size, 3, none⟩ = some (.int .i64 tn) := M.cell 4 3 rfl
    have qX4 : W4.cell? ⟨w.heap.size, 4, none⟩ = some (.bool st) := M.cell 4 4 rfl
    go_wp2_with fail
    go_call (toPool_s ts ks fs A0 A1 A2 c0 c1 c2 tn st _ hT (H.out.below M.below)) as r W5 ⟨C0, C1, C2, e0, e1, e2, rfl, g1⟩
    clear tX qX0 qX1 qX2 qX3 qX4
    replace M : Sep [] w W5 [rT ts.length C0 e0 ts, rK ks.length C1 e1 ks, rF fs.length C2 e2 fs, rK L.length WA wc L, rT ts.length B0 d0 ts, rK ks.length B1 d1 ks, rF fs.length B2 d2 fs, .blk (w.heap.size) 54 #[.slice A0 ts.length c0, .slice A1 ks.length c1, .slice A2 fs.length c2, .int .i64 tn, .bool st]] := Sep.comp (ps := []) (rs := [rK L.length WA wc L, rT ts.length B0 d0 ts, rK ks.length B1 d1 ks, rF fs.length B2 d2 fs, .blk (w.heap.size) 54 #[.slice A0 ts.length c0, .slice A1 ks.length c1, .slice A2 fs.length c2, .int .i64 tn, .bool st]]) M g1
    clear g1
    have tX : w.heap.size < W5.heap.size := M.lt 7 rfl
    have qX0 : W5.cell? ⟨w.heap.size, 0, none⟩ = some (.slice A0 ts.length c0) := M.cell 7 0 rfl
    have qX1 : W5.cell? ⟨w.heap.size, 1, none⟩ = some (.slice A1 ks.length c1) := M.cell 7 1 rfl
    have qX2 : W5.cell? ⟨w.heap.size, 2, none⟩ = some (.slice A2 fs.length c2) := M.cell 7 2 rfl
    have qX3 : W5.cell? ⟨w.heap.size, 3, none⟩ = some (.int .i64 tn) := M.cell 7 3 rfl
    have qX4 : W5.cell? ⟨w.heap.size, 4, none⟩ = some (.bool st) := M.cell 7 4 rfl
    go_wp2_with fail
    clear tX qX0 qX1 qX2 qX3 qX4
    replace M : Sep [] w (W5.alloc (.cells #[.slice C0 ts.length e0, .slice C1 ks.length e1, .slice C2 fs.length e2, .int .i64 tn, .bool st] 34)) [.blk (W5.heap.size) 34 #[.slice C0 ts.length e0, .slice C1 ks.length e1, .slice C2 fs.length e2, .int .i64 tn, .bool st], rT ts.length C0 e0 ts, rK ks.length C1 e1 ks, rF fs.length C2 e2 fs, rK L.length WA wc L, rT ts.length B0 d0 ts, rK ks.length B1 d1 ks, rF fs.length B2 d2 fs, .blk (w.heap.size) 54 #[.slice A0 ts.length c0, .slice A1 ks.length c1, .slice A2 fs.length c2, .int .i64 tn, .bool st]] := M.allocN 34 #[.slice C0 ts.length e0, .slice C1 ks.length e1, .slice C2 fs.length e2, .int .i64 tn, .bool st]
    generalize W5.alloc (.cells #[.slice C0 ts.length e0, .slice C1 ks.length e1, .slice C2 fs.length e2, .int .i64 tn, .bool st] 34) = W6 at M ⊢
    have tY0 : W5.heap.size < W6.heap.size := M.lt 0 rfl
    have qY00 : W6.cell? ⟨W5.heap.size, 0, none⟩ = some (.slice C0 ts.length e0) := M.cell 0 0 rfl
    have qY01 : W6.cell? ⟨W5.heap.size, 1, none⟩ = some (.slice C1 ks.length e1) := M.cell 0 1 rfl
    have qY02 : W6.cell? ⟨W5.heap.size, 2, none⟩ = some (.slice C2 fs.length e2) := M.cell 0 2 rfl
    have qY03 : W6.cell? ⟨W5.heap.size, 3, none⟩ = some (.int .i64 tn) := M.cell 0 3 rfl
    have qY04 : W6.cell? ⟨W5.heap.size, 4, none⟩ = some (.bool st) := M.cell 0 4 rfl
    have tX : w.heap.size < W6.heap.size := M.lt 8 rfl
    have qX0 : W6.cell? ⟨w.heap.size, 0, none⟩ = some (.slice A0 ts.length c0) := M.cell 8 0 rfl
    have qX1 : W6.cell? ⟨w.heap.size, 1, none⟩ = some (.slice A1 ks.length c1) := M.cell 8 1 rfl
    have qX2 : W6.cell? ⟨w.heap.size, 2, none⟩ = some (.slice A2 fs.length c2) := M.cell 8 2 rfl
    have qX3 : W6.cell? ⟨w.heap.size, 3, none⟩ = some (.int .i64 tn) := M.cell 8 3 rfl
    have qX4 : W6.cell? ⟨w.heap.size, 4, none⟩ = some (.bool st) := M.cell 8 4 rfl
    go_wp2_with fail
    go_call (hI.out C0 C1 C2 e0 e1 e2 _ ⟨M.rowS 1 rfl, M.rowS 2 rfl, M.rowS 3 rfl⟩) as r W7 ⟨GA, gc, rfl, g1⟩
    clear tY0 qY00 qY01 qY02 qY03 qY04 tX qX0 qX1 qX2 qX3 qX4
    replace M : Sep [] w W7 [rK L.length GA gc L, .blk (W5.heap.size) 34 #[.slice C0 ts.length e0, .slice C1 ks.length e1, .slice C2 fs.length e2, .int .i64 tn, .bool st], rT ts.length C0 e0 ts, rK ks.length C1 e1 ks, rF fs.length C2 e2 fs, rK L.length WA wc L, rT ts.length B0 d0 ts, rK ks.length B1 d1 ks, rF fs.length B2 d2 fs, .blk (w.heap.size) 54 #[.slice A0 ts.length c0, .slice A1 ks.length c1, .slice A2 fs.length c2, .int .i64 tn, .bool st]] := Sep.comp (ps := []) (rs := [.blk (W5.heap.size) 34 #[.slice C0 ts.length e0, .slice C1 ks.length e1, .slice C2 fs.length e2, .int .i64 tn, .bool st], rT ts.length C0 e0 ts, rK ks.length C1 e1 ks, rF fs.length C2 e2 fs, rK L.length WA wc L, rT ts.length B0 d0 ts, rK ks.length B1 d1 ks, rF fs.length B2 d2 fs, .blk (w.heap.size) 54 #[.slice A0 ts.length c0, .slice A1 ks.length c1, .slice A2 fs.length c2, .int .i64 tn, .bool st]]) M g1
    clear g1
    have tY0 : W5.heap.size < W7.heap.size := M.lt 1 rfl
    have qY00 : W7.cell? ⟨W5.heap.size, 0, none⟩ = some (.slice C0 ts.length e0) := M.cell 1 0 rfl
    have qY01 : W7.cell? ⟨W5.heap.size, 1, none⟩ = some (.slice C1 ks.length e1) := M.cell 1 1 rfl
    have qY02 : W7.cell? ⟨W5.heap.size, 2, none⟩ = some (.slice C2 fs.length e2) := M.cell 1 2 rfl
    have qY03 : W7.cell? ⟨W5.heap.size, 3, none⟩ = some (.int .i64 tn) := M.cell 1 3 rfl
    have qY04 : W7.cell? ⟨W5.heap.size, 4, none⟩ = some (.bool st) := M.cell 1 4 rfl
    have tX : w.heap.size < W7.heap.size := M.lt 9 rfl
    have qX0 : W7.cell? ⟨w.heap.size, 0, none⟩ = some (.slice A0 ts.length c0) := M.cell 9 0 rfl
    have qX1 : W7.cell? ⟨w.heap.size, 1, none⟩ = some (.slice A1 ks.length c1) := M.cell 9 1 rfl
    have qX2 : W7.cell? ⟨w.heap.size, 2, none⟩ = some (.slice A2 fs.length c2) := M.cell 9 2 rfl
    have qX3 : W7.cell? ⟨w.heap.size, 3, none⟩ = some (.int .i64 tn) := M.cell 9 3 rfl
    have qX4 : W7.cell? ⟨w.heap.size, 4, none⟩ = some (.bool st) := M.cell 9 4 rfl
    go_wp2_with fail
    go_call (eqInt64S_same L GA WA gc wc _ hLl (M.rowS 0 rfl) (M.rowS 5 rfl)) as r W8 ⟨rfl, g1⟩
    clear tY0 qY00 qY01 qY02 qY03 qY04 tX qX0 qX1 qX2 qX3 qX4
    replace M := M.call g1
    clear g1
    have tY0 : W5.heap.size < W8.heap.size := M.lt 1 rfl
    have qY00 : W8.cell? ⟨W5.heap.size, 0, none⟩ = some (.slice C0 ts.length e0) := M.cell 1 0 rfl
    have qY01 : W8.cell? ⟨W5.heap.size, 1, none⟩ = some (.slice C1 ks.length e1) := M.cell 1 1 rfl
    have qY02 : W8.cell? ⟨W5.heap.size, 2, none⟩ = some (.slice C2 fs.length e2) := M.cell 1 2 rfl
    have qY03 : W8.cell? ⟨W5.heap.size, 3, none⟩ = some (.int .i64 tn) := M.cell 1 3 rfl
    have qY04 : W8.cell? ⟨W5.heap.size, 4, none⟩ = some (.bool st) := M.cell 1 4 rfl
    have tX : w.heap.size < W8.heap.size := M.lt 9 rfl
    have qX0 : W8.cell? ⟨w.heap.size, 0, none⟩ = some (.slice A0 ts.length c0) := M.cell 9 0 rfl
    have qX1 : W8.cell? ⟨w.heap.size, 1, none⟩ = some (.slice A1 ks.length c1) := M.cell 9 1 rfl
    have qX2 : W8.cell? ⟨w.heap.size, 2, none⟩ = some (.slice A2 fs.length c2) := M.cell 9 2 rfl
    have qX3 : W8.cell? ⟨w.heap.size, 3, none⟩ = some (.int .i64 tn) := M.cell 9 3 rfl
    have qX4 : W8.cell? ⟨w.heap.size, 4, none⟩ = some (.bool st) := M.cell 9 4 rfl
    go_wp2_with fail
    clear tY0 qY00 qY01 qY02 qY03 qY04 tX qX0 qX1 qX2 qX3 qX4
    have tY0 : W5.heap.size < W8.heap.size := M.lt 1 rfl
    have qY00 : W8.cell? ⟨W5.heap.size, 0, none⟩ = some (.slice C0 ts.length e0) := M.cell 1 0 rfl
    have qY01 : W8.cell? ⟨W5.heap.size, 1, none⟩ = some (.slice C1 ks.length e1) := M.cell 1 1 rfl
    have qY02 : W8.cell? ⟨W5.heap.size, 2, none⟩ = some (.slice C2 fs.length e2) := M.cell 1 2 rfl
    have qY03 : W8.cell? ⟨W5.heap.size, 3, none⟩ = some (.int .i64 tn) := M.cell 1 3 rfl
    have qY04 : W8.cell? ⟨W5.heap.size, 4, none⟩ = some (.bool st) := M.cell 1 4 rfl
    have tX : w.heap.size < W8.heap.size := M.lt 9 rfl
    have qX0 : W8.cell? ⟨w.heap.size, 0, none⟩ = some (.slice A0 ts.length c0) := M.cell 9 0 rfl
    have qX1 : W8.cell? ⟨w.heap.size, 1, none⟩ = some (.slice A1 ks.length c1) := M.cell 9 1 rfl
    have qX2 : W8.cell? ⟨w.heap.size, 2, none⟩ = some (.slice A2 fs.length c2) := M.cell 9 2 rfl
    have qX3 : W8.cell? ⟨w.heap.size, 3, none⟩ = some (.int .i64 tn) := M.cell 9 3 rfl
    have qX4 : W8.cell? ⟨w.heap.size, 4, none⟩ = some (.bool st) := M.cell 9 4 rfl
    have HH := hide (⟨H.out.below M.below, ⟨M.rowS 2 rfl, M.rowS 3 rfl, M.rowS 4 rfl⟩, M⟩ : InPool W8 ts ks fs A0 A1 A2 ∧ InPool W8 ts ks fs C0 C1 C2 ∧ Sep [] w W8 [rK L.length GA gc L, .blk (W5.heap.size) 34 #[.slice C0 ts.length e0, .slice C1 ks.length e1, .slice C2 fs.length e2, .int .i64 tn, .bool st], rT ts.length C0 e0 ts, rK ks.length C1 e1 ks, rF fs.length C2 e2 fs, rK L.length WA wc L, rT ts.length B0 d0 ts, rK ks.length B1 d1 ks, rF fs.length B2 d2 fs, .blk (w.heap.size) 54 #[.slice A0 ts.length c0, .slice A1 ks.length c1, .slice A2 fs.length c2, .int .i64 tn, .bool st]])
    clear M
    go_region_held3 (fun w' => Below (World.heap W8).size W8 w' ∧ ∀ b o, b < (World.heap W8).size → w'.cell? ⟨b, o, none⟩ = World.cell? W8 ⟨b, o, none⟩) (first | exact keep0' _ | exact keepS' (by assumption) (by assumption)) (first | (go_at_call 32; refine (toPool_any ts ks fs A0 A1 A2 c0 c1 c2 tn st _ hT (inS HH.out.1 (by assumption))).mono ?_; rintro r w4 ⟨D0, D1, D2, f0, f1, f2, rfl, own4, hb4⟩) | (go_at_call 34; refine (eqPool_same ts ks fs C0 C1 C2 e0 e1 e2 tn st D0 D1 D2 f0 f1 f2 _ hT (inS HH.out.2.1 (by assumption)) own4.reads).mono ?_; rintro r w5 ⟨rfl, hb5⟩))
    have M := HH.out.2.2.call (keptB (by assumption))
    clear HH tY0 qY00 qY01 qY02 qY03 qY04 tX qX0 qX1 qX2 qX3 qX4
    clear own4 hb4 hb5
    have tY0 : W5.heap.size < w5.heap.size := M.lt 1 rfl
    have qY00 : w5.cell? ⟨W5.heap.size, 0, none⟩ = some (.slice C0 ts.length e0) := M.cell 1 0 rfl
    have qY01 : w5.cell? ⟨W5.heap.size, 1, none⟩ = some (.slice C1 ks.length e1) := M.cell 1 1 rfl
    have qY02 : w5.cell? ⟨W5.heap.size, 2, none⟩ = some (.slice C2 fs.length e2) := M.cell 1 2 rfl
    have qY03 : w5.cell? ⟨W5.heap.size, 3, none⟩ = some (.int .i64 tn) := M.cell 1 3 rfl
    have qY04 : w5.cell? ⟨W5.heap.size, 4, none⟩ = some (.bool st) := M.cell 1 4 rfl
    have tX : w.heap.size < w5.heap.size := M.lt 9 rfl
    have qX0 : w5.cell? ⟨w.heap.size, 0, none⟩ = some (.slice A0 ts.length c0) := M.cell 9 0 rfl
    have qX1 : w5.cell? ⟨w.heap.size, 1, none⟩ = some (.slice A1 ks.length c1) := M.cell 9 1 rfl
    have qX2 : w5.cell? ⟨w.heap.size, 2, none⟩ = some (.slice A2 fs.length c2) := M.cell 9 2 rfl
    have qX3 : w5.cell? ⟨w.heap.size, 3, none⟩ = some (.int .i64 tn) := M.cell 9 3 rfl
    have qX4 : w5.cell? ⟨w.heap.size, 4, none⟩ = some (.bool st) := M.cell 9 4 rfl
    go_wp2_with fail
    replace M : Sep [] w w5 [rF fs.length C2 e2 fs, rK L.length GA gc L, .blk (W5.heap.size) 34 #[.slice C0 ts.length e0, .slice C1 ks.length e1, .slice C2 fs.length e2, .int .i64 tn, .bool st], rT ts.length C0 e0 ts, rK ks.length C1 e1 ks, rK L.length WA wc L, rT ts.length B0 d0 ts, rK ks.length B1 d1 ks, rF fs.length B2 d2 fs, .blk (w.heap.size) 54 #[.slice A0 ts.length c0, .slice A1 ks.length c1, .slice A2 fs.length c2, .int .i64 tn, .bool st]] := M.front 4 rfl
    replace M : Sep [] w w5 [rK ks.length C1 e1 ks, rF fs.length C2 e2 fs, rK L.length GA gc L, .blk (W5.heap.size) 34 #[.slice C0 ts.length e0, .slice C1 ks.length e1, .slice C2 fs.length e2, .int .i64 tn, .bool st], rT ts.length C0 e0 ts, rK L.length WA wc L, rT ts.length B0 d0 ts, rK ks.length B1 d1 ks, rF fs.length B2 d2 fs, .blk (w.heap.size) 54 #[.slice A0 ts.length c0, .slice A1 ks.length c1, .slice A2 fs.length c2, .int .i64 tn, .bool st]] := M.front 4 rfl
    replace M : Sep [] w w5 [rT ts.length C0 e0 ts, rK ks.length C1 e1 ks, rF fs.length C2 e2 fs, rK L.length GA gc L, .blk (W5.heap.size) 34 #[.slice C0 ts.length e0, .slice C1 ks.length e1, .slice C2 fs.length e2, .int .i64 tn, .bool st], rK L.length WA wc L, rT ts.length B0 d0 ts, rK ks.length B1 d1 ks, rF fs.length B2 d2 fs, .blk (w.heap.size) 54 #[.slice A0 ts.length c0, .slice A1 ks.length c1, .slice A2 fs.length c2, .int .i64 tn, .bool st]] := M.front 4 rfl
    go_call (markPool_s ts ks fs C0 C1 C2 e0 e1 e2 tn st 1 _ hT (by omega) (by omega) (Sep.same (ps := [rT ts.length C0 e0 ts, rK ks.length C1 e1 ks, rF fs.length C2 e2 fs]) (rs := [rK L.length GA gc L, .blk (W5.heap.size) 34 #[.slice C0 ts.length e0, .slice C1 ks.length e1, .slice C2 fs.length e2, .int .i64 tn, .bool st], rK L.length WA wc L, rT ts.length B0 d0 ts, rK ks.length B1 d1 ks, rF fs.length B2 d2 fs, .blk (w.heap.size) 54 #[.slice A0 ts.length c0, .slice A1 ks.length c1, .slice A2 fs.length c2, .int .i64 tn, .bool st]]) M (Below.refl _ _))) as r W9 ⟨rfl, g1⟩
    clear tY0 qY00 qY01 qY02 qY03 qY04 tX qX0 qX1 qX2 qX3 qX4
    replace M : Sep [] w W9 [rT ts.length C0 e0 (markT 1 ts.length), rK ks.length C1 e1 (markK (1 + 7 * ts.length) ks.length), rF fs.length C2 e2 (markF (1 + 7 * ts.length + ks.length) fs.length), rK L.length GA gc L, .blk (W5.heap.size) 34 #[.slice C0 ts.length e0, .slice C1 ks.length e1, .slice C2 fs.length e2, .int .i64 tn, .bool st], rK L.length WA wc L, rT ts.length B0 d0 ts, rK ks.length B1 d1 ks, rF fs.length B2 d2 fs, .blk (w.heap.size) 54 #[.slice A0 ts.length c0, .slice A1 ks.length c1, .slice A2 fs.length c2, .int .i64 tn, .bool st]] := Sep.comp (ps := [rT ts.length C0 e0 ts, rK ks.length C1 e1 ks, rF fs.length C2 e2 fs]) (rs := [rK L.length GA gc L, .blk (W5.heap.size) 34 #[.slice C0 ts.length e0, .slice C1 ks.length e1, .slice C2 fs.length e2, .int .i64 tn, .bool st], rK L.length WA wc L, rT ts.length B0 d0 ts, rK ks.length B1 d1 ks, rF fs.length B2 d2 fs, .blk (w.heap.size) 54 #[.slice A0 ts.length c0, .slice A1 ks.length c1, .slice A2 fs.length c2, .int .i64 tn, .bool st]]) M g1
    clear g1
    have hk1 : ¬ (1 + 7 * (ts.length : Int) + ks.length + 2 * fs.length < 0) := by omega
    have tY0 : W5.heap.size < W9.heap.size := M.lt 4 rfl
    have qY00 : W9.cell? ⟨W5.heap.size, 0, none⟩ = some (.slice C0 ts.length e0) := M.cell 4 0 rfl
    have qY01 : W9.cell? ⟨W5.heap.size, 1, none⟩ = some (.slice C1 ks.length e1) := M.cell 4 1 rfl
    have qY02 : W9.cell? ⟨W5.heap.size, 2, none⟩ = some (.slice C2 fs.length e2) := M.cell 4 2 rfl
    have qY03 : W9.cell? ⟨W5.heap.size, 3, none⟩ = some (.int .i64 tn) := M.cell 4 3 rfl
    have qY04 : W9.cell? ⟨W5.heap.size, 4, none⟩ = some (.bool st) := M.cell 4 4 rfl
    have tX : w.heap.size < W9.heap.size := M.lt 9 rfl
    have qX0 : W9.cell? ⟨w.heap.size, 0, none⟩ = some (.slice A0 ts.length c0) := M.cell 9 0 rfl
    have qX1 : W9.cell? ⟨w.heap.size, 1, none⟩ = some (.slice A1 ks.length c1) := M.cell 9 1 rfl
    have qX2 : W9.cell? ⟨w.heap.size, 2, none⟩ = some (.slice A2 fs.length c2) := M.cell 9 2 rfl
    have qX3 : W9.cell? ⟨w.heap.size, 3, none⟩ = some (.int .i64 tn) := M.cell 9 3 rfl
    have qX4 : W9.cell? ⟨w.heap.size, 4, none⟩ = some (.bool st) := M.cell 9 4 rfl
    go_wp2_with fail
    go_call (eqInt64S_same L GA WA gc wc _ hLl (M.rowS 3 rfl) (M.rowS 5 rfl)) as r W10 ⟨rfl, g1⟩
    clear tY0 qY00 qY01 qY02 qY03 qY04 tX qX0 qX1 qX2 qX3 qX4
    replace M := M.call g1
    clear g1
    have tY0 : W5.heap.size < W10.heap.size := M.lt 4 rfl
    have qY00 : W10.cell? ⟨W5.heap.size, 0, none⟩ = some (.slice C0 ts.length e0) := M.cell 4 0 rfl
    have qY01 : W10.cell? ⟨W5.heap.size, 1, none⟩ = some (.slice C1 ks.length e1) := M.cell 4 1 rfl
    have qY02 : W10.cell? ⟨W5.heap.size, 2, none⟩ = some (.slice C2 fs.length e2) := M.cell 4 2 rfl
    have qY03 : W10.cell? ⟨W5.heap.size, 3, none⟩ = some (.int .i64 tn) := M.cell 4 3 rfl
    have qY04 : W10.cell? ⟨W5.heap.size, 4, none⟩ = some (.bool st) := M.cell 4 4 rfl
    have tX : w.heap.size < W10.heap.size := M.lt 9 rfl
    have qX0 : W10.cell? ⟨w.heap.size, 0, none⟩ = some (.slice A0 ts.length c0) := M.cell 9 0 rfl
    have qX1 : W10.cell? ⟨w.heap.size, 1, none⟩ = some (.slice A1 ks.length c1) := M.cell 9 1 rfl
    have qX2 : W10.cell? ⟨w.heap.size, 2, none⟩ = some (.slice A2 fs.length c2) := M.cell 9 2 rfl
    have qX3 : W10.cell? ⟨w.heap.size, 3, none⟩ = some (.int .i64 tn) := M.cell 9 3 rfl
    have qX4 : W10.cell? ⟨w.heap.size, 4, none⟩ = some (.bool st) := M.cell 9 4 rfl
    go_wp2_with fail
    replace M : Sep [] w W10 [rK L.length GA gc L, rT ts.length C0 e0 (markT 1 ts.length), rK ks.length C1 e1 (markK (1 + 7 * ts.length) ks.length), rF fs.length C2 e2 (markF (1 + 7 * ts.length + ks.length) fs.length), .blk (W5.heap.size) 34 #[.slice C0 ts.length e0, .slice C1 ks.length e1, .slice C2 fs.length e2, .int .i64 tn, .bool st], rK L.length WA wc L, rT ts.length B0 d0 ts, rK ks.length B1 d1 ks, rF fs.length B2 d2 fs, .blk (w.heap.size) 54 #[.slice A0 ts.length c0, .slice A1 ks.length c1, .slice A2 fs.length c2, .int .i64 tn, .bool st]] := M.front 3 rfl
    go_call (markK_s L GA gc 1 _ hLl (by omega) (by omega) (M.rowAt 0 rfl)) as r W11 ⟨rfl, g1⟩
    clear tY0 qY00 qY01 qY02 qY03 qY04 tX qX0 qX1 qX2 qX3 qX4
    replace M : Sep [] w W11 [rK L.length GA gc (markK 1 L.length), rT ts.length C0 e0 (markT 1 ts.length), rK ks.length C1 e1 (markK (1 + 7 * ts.length) ks.length), rF fs.length C2 e2 (markF (1 + 7 * ts.length + ks.length) fs.length), .blk (W5.heap.size) 34 #[.slice C0 ts.length e0, .slice C1 ks.length e1, .slice C2 fs.length e2, .int .i64 tn, .bool st], rK L.length WA wc L, rT ts.length B0 d0 ts, rK ks.length B1 d1 ks, rF fs.length B2 d2 fs, .blk (w.heap.size) 54 #[.slice A0 ts.length c0, .slice A1 ks.length c1, .slice A2 fs.length c2, .int .i64 tn, .bool st]] := Sep.comp (ps := [rK L.length GA gc L]) (rs := [rT ts.length C0 e0 (markT 1 ts.length), rK ks.length C1 e1 (markK (1 + 7 * ts.length) ks.length), rF fs.length C2 e2 (markF (1 + 7 * ts.length + ks.length) fs.length), .blk (W5.heap.size) 34 #[.slice C0 ts.length e0, .slice C1 ks.length e1, .slice C2 fs.length e2, .int .i64 tn, .bool st], rK L.length WA wc L, rT ts.length B0 d0 ts, rK ks.length B1 d1 ks, rF fs.length B2 d2 fs, .blk (w.heap.size) 54 #[.slice A0 ts.length c0, .slice A1 ks.length c1, .slice A2 fs.length c2, .int .i64 tn, .bool st]]) M g1
    clear g1
    have hk2 : ¬ (1 + (L.length : Int) < 0) := by omega
    have tY0 : W5.heap.size < W11.heap.size := M.lt 4 rfl
    have qY00 : W11.cell? ⟨W5.heap.size, 0, none⟩ = some (.slice C0 ts.length e0) := M.cell 4 0 rfl
    have qY01 : W11.cell? ⟨W5.heap.size, 1, none⟩ = some (.slice C1 ks.length e1) := M.cell 4 1 rfl
    have qY02 : W11.cell? ⟨W5.heap.size, 2, none⟩ = some (.slice C2 fs.length e2) := M.cell 4 2 rfl
    have qY03 : W11.cell? ⟨W5.heap.size, 3, none⟩ = some (.int .i64 tn) := M.cell 4 3 rfl
    have qY04 : W11.cell? ⟨W5.heap.size, 4, none⟩ = some (.bool st) := M.cell 4 4 rfl
    have tX : w.heap.size < W11.heap.size := M.lt 9 rfl
    have qX0 : W11.cell? ⟨w.heap.size, 0, none⟩ = some (.slice A0 ts.length c0) := M.cell 9 0 rfl
    have qX1 : W11.cell? ⟨w.heap.size, 1, none⟩ = some (.slice A1 ks.length c1) := M.cell 9 1 rfl
    have qX2 : W11.cell? ⟨w.heap.size, 2, none⟩ = some (.slice A2 fs.length c2) := M.cell 9 2 rfl
    have qX3 : W11.cell? ⟨w.heap.size, 3, none⟩ = some (.int .i64 tn) := M.cell 9 3 rfl
    have qX4 : W11.cell? ⟨w.heap.size, 4, none⟩ = some (.bool st) := M.cell 9 4 rfl
    go_wp2_with fail
    go_call (heldK_any L.length GA gc 1 _ hLl (by omega) (by omega) (M.rowS 0 rfl)) as r W12 ⟨rfl, g1⟩
    clear tY0 qY00 qY01 qY02 qY03 qY04 tX qX0 qX1 qX2 qX3 qX4
    replace M := M.call g1
    clear g1
    have tY0 : W5.heap.size < W12.heap.size := M.lt 4 rfl
    have qY00 : W12.cell? ⟨W5.heap.size, 0, none⟩ = some (.slice C0 ts.length e0) := M.cell 4 0 rfl
    have qY01 : W12.cell? ⟨W5.heap.size, 1, none⟩ = some (.slice C1 ks.length e1) := M.cell 4 1 rfl
    have qY02 : W12.cell? ⟨W5.heap.size, 2, none⟩ = some (.slice C2 fs.length e2) := M.cell 4 2 rfl
    have qY03 : W12.cell? ⟨W5.heap.size, 3, none⟩ = some (.int .i64 tn) := M.cell 4 3 rfl
    have qY04 : W12.cell? ⟨W5.heap.size, 4, none⟩ = some (.bool st) := M.cell 4 4 rfl
    have tX : w.heap.size < W12.heap.size := M.lt 9 rfl
    have qX0 : W12.cell? ⟨w.heap.size, 0, none⟩ = some (.slice A0 ts.length c0) := M.cell 9 0 rfl
    have qX1 : W12.cell? ⟨w.heap.size, 1, none⟩ = some (.slice A1 ks.length c1) := M.cell 9 1 rfl
    have qX2 : W12.cell? ⟨w.heap.size, 2, none⟩ = some (.slice A2 fs.length c2) := M.cell 9 2 rfl
    have qX3 : W12.cell? ⟨w.heap.size, 3, none⟩ = some (.int .i64 tn) := M.cell 9 3 rfl
    have qX4 : W12.cell? ⟨w.heap.size, 4, none⟩ = some (.bool st) := M.cell 9 4 rfl
    go_wp2_with fail
    go_call (toPool_s ts ks fs A0 A1 A2 c0 c1 c2 tn st _ hT (H.out.below M.below)) as r W13 ⟨E0, E1, E2, j0, j1, j2, rfl, g1⟩
    clear tY0 qY00 qY01 qY02 qY03 qY04 tX qX0 qX1 qX2 qX3 qX4
    replace M : Sep [] w W13 [rT ts.length E0 j0 ts, rK ks.length E1 j1 ks, rF fs.length E2 j2 fs, rK L.length GA gc (markK 1 L.length), rT ts.length C0 e0 (markT 1 ts.length), rK ks.length C1 e1 (markK (1 + 7 * ts.length) ks.length), rF fs.length C2 e2 (markF (1 + 7 * ts.length + ks.length) fs.length), .blk (W5.heap.size) 34 #[.slice C0 ts.length e0, .slice C1 ks.length e1, .slice C2 fs.length e2, .int .i64 tn, .bool st], rK L.length WA wc L, rT ts.length B0 d0 ts, rK ks.length B1 d1 ks, rF fs.length B2 d2 fs, .blk (w.heap.size) 54 #[.slice A0 ts.length c0, .slice A1 ks.length c1, .slice A2 fs.length c2, .int .i64 tn, .bool st]] := Sep.comp (ps := []) (rs := [rK L.length GA gc (markK 1 L.length), rT ts.length C0 e0 (markT 1 ts.length), rK ks.length C1 e1 (markK (1 + 7 * ts.length) ks.length), rF fs.length C2 e2 (markF (1 + 7 * ts.length + ks.length) fs.length), .blk (W5.heap.size) 34 #[.slice C0 ts.length e0, .slice C1 ks.length e1, .slice C2 fs.length e2, .int .i64 tn, .bool st], rK L.length WA wc L, rT ts.length B0 d0 ts, rK ks.length B1 d1 ks, rF fs.length B2 d2 fs, .blk (w.heap.size) 54 #[.slice A0 ts.length c0, .slice A1 ks.length c1, .slice A2 fs.length c2, .int .i64 tn, .bool st]]) M g1
    clear g1
    have tY0 : W5.heap.size < W13.heap.size := M.lt 7 rfl
    have qY00 : W13.cell? ⟨W5.heap.size, 0, none⟩ = some (.slice C0 ts.length e0) := M.cell 7 0 rfl
    have qY01 : W13.cell? ⟨W5.heap.size, 1, none⟩ = some (.slice C1 ks.length e1) := M.cell 7 1 rfl
    have qY02 : W13.cell? ⟨W5.heap.size, 2, none⟩ = some (.slice C2 fs.length e2) := M.cell 7 2 rfl
    have qY03 : W13.cell? ⟨W5.heap.size, 3, none⟩ = some (.int .i64 tn) := M.cell 7 3 rfl
    have qY04 : W13.cell? ⟨W5.heap.size, 4, none⟩ = some (.bool st) := M.cell 7 4 rfl
    have tX : w.heap.size < W13.heap.size := M.lt 12 rfl
    have qX0 : W13.cell? ⟨w.heap.size, 0, none⟩ = some (.slice A0 ts.length c0) := M.cell 12 0 rfl
    have qX1 : W13.cell? ⟨w.heap.size, 1, none⟩ = some (.slice A1 ks.length c1) := M.cell 12 1 rfl
    have qX2 : W13.cell? ⟨w.heap.size, 2, none⟩ = some (.slice A2 fs.length c2) := M.cell 12 2 rfl
    have qX3 : W13.cell? ⟨w.heap.size, 3, none⟩ = some (.int .i64 tn) := M.cell 12 3 rfl
    have qX4 : W13.cell? ⟨w.heap.size, 4, none⟩ = some (.bool st) := M.cell 12 4 rfl
    go_wp2_with fail
    go_call (hI.out E0 E1 E2 j0 j1 j2 _ ⟨M.rowS 0 rfl, M.rowS 1 rfl, M.rowS 2 rfl⟩) as r W14 ⟨HA, hc, rfl, g1⟩
    clear tY0 qY00 qY01 qY02 qY03 qY04 tX qX0 qX1 qX2 qX3 qX4
    replace M : Sep [] w W14 [rK L.length HA hc L, rT ts.length E0 j0 ts, rK ks.length E1 j1 ks, rF fs.length E2 j2 fs, rK L.length GA gc (markK 1 L.length), rT ts.length C0 e0 (markT 1 ts.length), rK ks.length C1 e1 (markK (1 + 7 * ts.length) ks.length), rF fs.length C2 e2 (markF (1 + 7 * ts.length + ks.length) fs.length), .blk (W5.heap.size) 34 #[.slice C0 ts.length e0, .slice C1 ks.length e1, .slice C2 fs.length e2, .int .i64 tn, .bool st], rK L.length WA wc L, rT ts.length B0 d0 ts, rK ks.length B1 d1 ks, rF fs.length B2 d2 fs, .blk (w.heap.size) 54 #[.slice A0 ts.length c0, .slice A1 ks.length c1, .slice A2 fs.length c2, .int .i64 tn, .bool st]] := Sep.comp (ps := []) (rs := [rT ts.length E0 j0 ts, rK ks.length E1 j1 ks, rF fs.length E2 j2 fs, rK L.length GA gc (markK 1 L.length), rT ts.length C0 e0 (markT 1 ts.length), rK ks.length C1 e1 (markK (1 + 7 * ts.length) ks.length), rF fs.length C2 e2 (markF (1 + 7 * ts.length + ks.length) fs.length), .blk (W5.heap.size) 34 #[.slice C0 ts.length e0, .slice C1 ks.length e1, .slice C2 fs.length e2, .int .i64 tn, .bool st], rK L.length WA wc L, rT ts.length B0 d0 ts, rK ks.length B1 d1 ks, rF fs.length B2 d2 fs, .blk (w.heap.size) 54 #[.slice A0 ts.length c0, .slice A1 ks.length c1, .slice A2 fs.length c2, .int .i64 tn, .bool st]]) M g1
    clear g1
    have tY0 : W5.heap.size < W14.heap.size := M.lt 8 rfl
    have qY00 : W14.cell? ⟨W5.heap.size, 0, none⟩ = some (.slice C0 ts.length e0) := M.cell 8 0 rfl
    have qY01 : W14.cell? ⟨W5.heap.size, 1, none⟩ = some (.slice C1 ks.length e1) := M.cell 8 1 rfl
    have qY02 : W14.cell? ⟨W5.heap.size, 2, none⟩ = some (.slice C2 fs.length e2) := M.cell 8 2 rfl
    have qY03 : W14.cell? ⟨W5.heap.size, 3, none⟩ = some (.int .i64 tn) := M.cell 8 3 rfl
    have qY04 : W14.cell? ⟨W5.heap.size, 4, none⟩ = some (.bool st) := M.cell 8 4 rfl
    have tX : w.heap.size < W14.heap.size := M.lt 13 rfl
    have qX0 : W14.cell? ⟨w.heap.size, 0, none⟩ = some (.slice A0 ts.length c0) := M.cell 13 0 rfl
    have qX1 : W14.cell? ⟨w.heap.size, 1, none⟩ = some (.slice A1 ks.length c1) := M.cell 13 1 rfl
    have qX2 : W14.cell? ⟨w.heap.size, 2, none⟩ = some (.slice A2 fs.length c2) := M.cell 13 2 rfl
    have qX3 : W14.cell? ⟨w.heap.size, 3, none⟩ = some (.int .i64 tn) := M.cell 13 3 rfl
    have qX4 : W14.cell? ⟨w.heap.size, 4, none⟩ = some (.bool st) := M.cell 13 4 rfl
    go_wp2_with fail
    go_call (eqInt64S_same L HA WA hc wc _ hLl (M.rowS 0 rfl) (M.rowS 9 rfl)) as r W15 ⟨rfl, g1⟩
    clear tY0 qY00 qY01 qY02 qY03 qY04 tX qX0 qX1 qX2 qX3 qX4
    replace M := M.call g1
    clear g1
    have tY0 : W5.heap.size < W15.heap.size := M.lt 8 rfl
    have qY00 : W15.cell? ⟨W5.heap.size, 0, none⟩ = some (.slice C0 ts.length e0) := M.cell 8 0 rfl
    have qY01 : W15.cell? ⟨W5.heap.size, 1, none⟩ = some (.slice C1 ks.length e1) := M.cell 8 1 rfl
    have qY02 : W15.cell? ⟨W5.heap.size, 2, none⟩ = some (.slice C2 fs.length e2) := M.cell 8 2 rfl
    have qY03 : W15.cell? ⟨W5.heap.size, 3, none⟩ = some (.int .i64 tn) := M.cell 8 3 rfl
    have qY04 : W15.cell? ⟨W5.heap.size, 4, none⟩ = some (.bool st) := M.cell 8 4 rfl
    have tX : w.heap.size < W15.heap.size := M.lt 13 rfl
    have qX0 : W15.cell? ⟨w.heap.size, 0, none⟩ = some (.slice A0 ts.length c0) := M.cell 13 0 rfl
    have qX1 : W15.cell? ⟨w.heap.size, 1, none⟩ = some (.slice A1 ks.length c1) := M.cell 13 1 rfl
    have qX2 : W15.cell? ⟨w.heap.size, 2, none⟩ = some (.slice A2 fs.length c2) := M.cell 13 2 rfl
    have qX3 : W15.cell? ⟨w.heap.size, 3, none⟩ = some (.int .i64 tn) := M.cell 13 3 rfl
    have qX4 : W15.cell? ⟨w.heap.size, 4, none⟩ = some (.bool st) := M.cell 13 4 rfl
    go_wp2_with fail
    go_call (heldK_any L.length GA gc 1 _ hLl (by omega) (by omega) (M.rowS 4 rfl)) as r W16 ⟨rfl, g1⟩
    clear tY0 qY00 qY01 qY02 qY03 qY04 tX qX0 qX1 qX2 qX3 qX4
    replace M := M.call g1
    clear g1
    have tY0 : W5.heap.size < W16.heap.size := M.lt 8 rfl
    have qY00 : W16.cell? ⟨W5.heap.size, 0, none⟩ = some (.slice C0 ts.length e0) := M.cell 8 0 rfl
    have qY01 : W16.cell? ⟨W5.heap.size, 1, none⟩ = some (.slice C1 ks.length e1) := M.cell 8 1 rfl
    have qY02 : W16.cell? ⟨W5.heap.size, 2, none⟩ = some (.slice C2 fs.length e2) := M.cell 8 2 rfl
    have qY03 : W16.cell? ⟨W5.heap.size, 3, none⟩ = some (.int .i64 tn) := M.cell 8 3 rfl
    have qY04 : W16.cell? ⟨W5.heap.size, 4, none⟩ = some (.bool st) := M.cell 8 4 rfl
    have tX : w.heap.size < W16.heap.size := M.lt 13 rfl
    have qX0 : W16.cell? ⟨w.heap.size, 0, none⟩ = some (.slice A0 ts.length c0) := M.cell 13 0 rfl
    have qX1 : W16.cell? ⟨w.heap.size, 1, none⟩ = some (.slice A1 ks.length c1) := M.cell 13 1 rfl
    have qX2 : W16.cell? ⟨w.heap.size, 2, none⟩ = some (.slice A2 fs.length c2) := M.cell 13 2 rfl
    have qX3 : W16.cell? ⟨w.heap.size, 3, none⟩ = some (.int .i64 tn) := M.cell 13 3 rfl
    have qX4 : W16.cell? ⟨w.heap.size, 4, none⟩ = some (.bool st) := M.cell 13 4 rfl
    go_wp2_with fail
    go_ret
    exact ⟨rfl, M.below⟩
  · go_enter Try.func5, Try.ntmps5
    go_wp2_with fail
    have M : Sep [] w (w.alloc (.cells #[.slice A0 ts.length c0, .slice A1 ks.length c1, .slice A2 fs.length c2, .int .i64 tn, .bool st] 54)) [.blk (w.heap.size) 54 #[.slice A0 ts.length c0, .slice A1 ks.length c1, .slice A2 fs.length c2, .int .i64 tn, .bool st]] := Sep.enter1 w
    generalize w.alloc (.cells #[.slice A0 ts.length c0, .slice A1 ks.length c1, .slice A2 fs.length c2, .int .i64 tn, .bool st] 54) = W1 at M ⊢
    have tX : w.heap.size < W1.heap.size := M.lt 0 rfl
    have qX0 : W1.cell? ⟨w.heap.size, 0, none⟩ = some (.slice A0 ts.length c0) := M.cell 0 0 rfl
    have qX1 : W1.cell? ⟨w.heap.size, 1, none⟩ = some (.slice A1 ks.length c1) := M.cell 0 1 rfl
    have qX2 : W1.cell? ⟨w.heap.size, 2, none⟩ = some (.slice A2 fs.length c2) := M.cell 0 2 rfl
    have qX3 : W1.cell? ⟨w.heap.size, 3, none⟩ = some (.int .i64 tn) := M.cell 0 3 rfl
    have qX4 : W1.cell? ⟨w.heap.size, 4, none⟩ = some (.bool st) := M.cell 0 4 rfl
    go_wp2_with fail
    go_call (szPool_any A0 A1 A2 ts.length c0 ks.length c1 fs.length c2 tn st _ h0 h1 h2) as r W2 ⟨rfl, g1⟩
    clear tX qX0 qX1 qX2 qX3 qX4
    replace M := M.call g1
    clear g1
    rw [szPoolM_neg' hT]
    have tX : w.heap.size < W2.heap.size := M.lt 0 rfl
    have qX0 : W2.cell? ⟨w.heap.size, 0, none⟩ = some (.slice A0 ts.length c0) := M.cell 0 0 rfl
    have qX1 : W2.cell? ⟨w.heap.size, 1, none⟩ = some (.slice A1 ks.length c1) := M.cell 0 1 rfl
    have qX2 : W2.cell? ⟨w.heap.size, 2, none⟩ = some (.slice A2 fs.length c2) := M.cell 0 2 rfl
    have qX3 : W2.cell? ⟨w.heap.size, 3, none⟩ = some (.int .i64 tn) := M.cell 0 3 rfl
    have qX4 : W2.cell? ⟨w.heap.size, 4, none⟩ = some (.bool st) := M.cell 0 4 rfl
    go_wp2_with fail
    go_ret
    exact ⟨rfl, M.below⟩

set_option maxRecDepth 100000 in
set_option maxHeartbeats 4000000 in
theorem xWaitersOn_any (ts : List T7) (ks : List Int) (fs : List F2) (A0 A1 A2 : Option Addr) (c0 c1 c2 : Nat) (tn : Int) (st : Bool) (wk on2 : Int) (w : World) (h0 : ts.length ≤ 9223372036854775807) (h1 : ks.length ≤ 9223372036854775807) (h2 : fs.length ≤ 9223372036854775807) (h : InPool w ts ks fs A0 A1 A2) :
    Calls Try.prog 7 #[.agg #[.slice A0 ts.length c0, .slice A1 ks.length c1, .slice A2 fs.length c2, .int .i64 tn, .bool st], .int .i64 wk, .int .i64 on2] w fun r w' => r = .returned (.bool true) ∧ Below w.heap.size w w' := by
  have H := hide h
  clear h
  by_cases hT : ts.length + ks.length + fs.length ≤ 1048576
  · obtain ⟨L, hLl, hS, hI⟩ := wait_both ts ks fs tn st wk on2 hT
    go_enter Try.func7, Try.ntmps7
    go_wp2_with fail
    have M : Sep [] w (w.alloc (.cells #[.slice A0 ts.length c0, .slice A1 ks.length c1, .slice A2 fs.length c2, .int .i64 tn, .bool st] 54)) [.blk (w.heap.size) 54 #[.slice A0 ts.length c0, .slice A1 ks.length c1, .slice A2 fs.length c2, .int .i64 tn, .bool st]] := Sep.enter1 w
    generalize w.alloc (.cells #[.slice A0 ts.length c0, .slice A1 ks.length c1, .slice A2 fs.length c2, .int .i64 tn, .bool st] 54) = W1 at M ⊢
    have tX : w.heap.size < W1.heap.size := M.lt 0 rfl
    have qX0 : W1.cell? ⟨w.heap.size, 0, none⟩ = some (.slice A0 ts.length c0) := M.cell 0 0 rfl
    have qX1 : W1.cell? ⟨w.heap.size, 1, none⟩ = some (.slice A1 ks.length c1) := M.cell 0 1 rfl
    have qX2 : W1.cell? ⟨w.heap.size, 2, none⟩ = some (.slice A2 fs.length c2) := M.cell 0 2 rfl
    have qX3 : W1.cell? ⟨w.heap.size, 3, none⟩ = some (.int .i64 tn) := M.cell 0 3 rfl
    have qX4 : W1.cell? ⟨w.heap.size, 4, none⟩ = some (.bool st) := M.cell 0 4 rfl
    go_wp2_with fail
    go_call (szPool_any A0 A1 A2 ts.length c0 ks.length c1 fs.length c2 tn st _ h0 h1 h2) as r W2 ⟨rfl, g1⟩
    clear tX qX0 qX1 qX2 qX3 qX4
    replace M := M.call g1
    clear g1
    rw [szPoolM_pos' hT]
    have tX : w.heap.size < W2.heap.size := M.lt 0 rfl
    have qX0 : W2.cell? ⟨w.heap.size, 0, none⟩ = some (.slice A0 ts.length c0) := M.cell 0 0 rfl
    have qX1 : W2.cell? ⟨w.heap.size, 1, none⟩ = some (.slice A1 ks.length c1) := M.cell 0 1 rfl
    have qX2 : W2.cell? ⟨w.heap.size, 2, none⟩ = some (.slice A2 fs.length c2) := M.cell 0 2 rfl
    have qX3 : W2.cell? ⟨w.heap.size, 3, none⟩ = some (.int .i64 tn) := M.cell 0 3 rfl
    have qX4 : W2.cell? ⟨w.heap.size, 4, none⟩ = some (.bool st) := M.cell 0 4 rfl
    go_wp2_with fail
    go_call (toPool_s ts ks fs A0 A1 A2 c0 c1 c2 tn st _ hT (H.out.below M.below)) as r W3 ⟨B0, B1, B2, d0, d1, d2, rfl, g1⟩
    clear tX qX0 qX1 qX2 qX3 qX4
    replace M : Sep [] w W3 [rT ts.length B0 d0 ts, rK ks.length B1 d1 ks, rF fs.length B2 d2 fs, .blk (w.heap.size) 54 #[.slice A0 ts.length c0, .slice A1 ks.length c1, .slice A2 fs.length c2, .int .i64 tn, .bool st]] := Sep.comp (ps := []) (rs := [.blk (w.heap.size) 54 #[.slice A0 ts.length c0, .slice A1 ks.length c1, .slice A2 fs.length c2, .int .i64 tn, .bool st]]) M g1
    clear g1
    have tX : w.heap.size < W3.heap.size := M.lt 3 rfl
    have qX0 : W3.cell? ⟨w.heap.size, 0, none⟩ = some (.slice A0 ts.length c0) := M.cell 3 0 rfl
    have qX1 : W3.cell? ⟨w.heap.size, 1, none⟩ = some (.slice A1 ks.length c1) := M.cell 3 1 rfl
    have qX2 : W3.cell? ⟨w.heap.size, 2, none⟩ = some (.slice A2 fs.length c2) := M.cell 3 2 rfl
    have qX3 : W3.cell? ⟨w.heap.size, 3, none⟩ = some (.int .i64 tn) := M.cell 3 3 rfl
    have qX4 : W3.cell? ⟨w.heap.size, 4, none⟩ = some (.bool st) := M.cell 3 4 rfl
    go_wp2_with fail
    go_call (hS.out B0 B1 B2 d0 d1 d2 _ ⟨M.rowS 0 rfl, M.rowS 1 rfl, M.rowS 2 rfl⟩) as r W4 ⟨WA, wc, rfl, g1⟩
    clear tX qX0 qX1 qX2 qX3 qX4
    replace M : Sep [] w W4 [rK L.length WA wc L, rT ts.length B0 d0 ts, rK ks.length B1 d1 ks, rF fs.length B2 d2 fs, .blk (w.heap.size) 54 #[.slice A0 ts.length c0, .slice A1 ks.length c1, .slice A2 fs.length c2, .int .i64 tn, .bool st]] := Sep.comp (ps := []) (rs := [rT ts.length B0 d0 ts, rK ks.length B1 d1 ks, rF fs.length B2 d2 fs, .blk (w.heap.size) 54 #[.slice A0 ts.length c0, .slice A1 ks.length c1, .slice A2 fs.length c2, .int .i64 tn, .bool st]]) M g1
    clear g1
    have tX : w.heap.size < W4.heap.size := M.lt 4 rfl
    have qX0 : W4.cell? ⟨w.heap.size, 0, none⟩ = some (.slice A0 ts.length c0) := M.cell 4 0 rfl
    have qX1 : W4.cell? ⟨w.heap.size, 1, none⟩ = some (.slice A1 ks.length c1) := M.cell 4 1 rfl
    have qX2 : W4.cell? ⟨w.heap.size, 2, none⟩ = some (.slice A2 fs.length c2) := M.cell 4 2 rfl
    have qX3 : W4.cell? ⟨w.heap.size, 3, none⟩ = some (.int .i64 tn) := M.cell 4 3 rfl
    have qX4 : W4.cell? ⟨w.heap.size, 4, none⟩ = some (.bool st) := M.cell 4 4 rfl
    go_wp2_with fail
    go_call (toPool_s ts ks fs A0 A1 A2 c0 c1 c2 tn st _ hT (H.out.below M.below)) as r W5 ⟨C0, C1, C2, e0, e1, e2, rfl, g1⟩
    clear tX qX0 qX1 qX2 qX3 qX4
    replace M : Sep [] w W5 [rT ts.length C0 e0 ts, rK ks.length C1 e1 ks, rF fs.length C2 e2 fs, rK L.length WA wc L, rT ts.length B0 d0 ts, rK ks.length B1 d1 ks, rF fs.length B2 d2 fs, .blk (w.heap.size) 54 #[.slice A0 ts.length c0, .slice A1 ks.length c1, .slice A2 fs.length c2, .int .i64 tn, .bool st]] := Sep.comp (ps := []) (rs := [rK L.length WA wc L, rT ts.length B0 d0 ts, rK ks.length B1 d1 ks, rF fs.length B2 d2 fs, .blk (w.heap.size) 54 #[.slice A0 ts.length c0, .slice A1 ks.length c1, .slice A2 fs.length c2, .int .i64 tn, .bool st]]) M g1
    clear g1
    have tX : w.heap.size < W5.heap.size := M.lt 7 rfl
    have qX0 : W5.cell? ⟨w.heap.size, 0, none⟩ = some (.slice A0 ts.length c0) := M.cell 7 0 rfl
    have qX1 : W5.cell? ⟨w.heap.size, 1, none⟩ = some (.slice A1 ks.length c1) := M.cell 7 1 rfl
    have qX2 : W5.cell? ⟨w.heap.size, 2, none⟩ = some (.slice A2 fs.length c2) := M.cell 7 2 rfl
    have qX3 : W5.cell? ⟨w.heap.size, 3, none⟩ = some (.int .i64 tn) := M.cell 7 3 rfl
    have qX4 : W5.cell? ⟨w.heap.size, 4, none⟩ = some (.bool st) := M.cell 7 4 rfl
    go_wp2_with fail
    clear tX qX0 qX1 qX2 qX3 qX4
    replace M : Sep [] w (W5.alloc (.cells #[.slice C0 ts.length e0, .slice C1 ks.length e1, .slice C2 fs.length e2, .int .i64 tn, .bool st] 34)) [.blk (W5.heap.size) 34 #[.slice C0 ts.length e0, .slice C1 ks.length e1, .slice C2 fs.length e2, .int .i64 tn, .bool st], rT ts.length C0 e0 ts, rK ks.length C1 e1 ks, rF fs.length C2 e2 fs, rK L.length WA wc L, rT ts.length B0 d0 ts, rK ks.length B1 d1 ks, rF fs.length B2 d2 fs, .blk (w.heap.size) 54 #[.slice A0 ts.length c0, .slice A1 ks.length c1, .slice A2 fs.length c2, .int .i64 tn, .bool st]] := M.allocN 34 #[.slice C0 ts.length e0, .slice C1 ks.length e1, .slice C2 fs.length e2, .int .i64 tn, .bool st]
    generalize W5.alloc (.cells #[.slice C0 ts.length e0, .slice C1 ks.length e1, .slice C2 fs.length e2, .int .i64 tn, .bool st] 34) = W6 at M ⊢
    have tY0 : W5.heap.size < W6.heap.size := M.lt 0 rfl
    have qY00 : W6.cell? ⟨W5.heap.size, 0, none⟩ = some (.slice C0 ts.length e0) := M.cell 0 0 rfl
    have qY01 : W6.cell? ⟨W5.heap.size, 1, none⟩ = some (.slice C1 ks.length e1) := M.cell 0 1 rfl
    have qY02 : W6.cell? ⟨W5.heap.size, 2, none⟩ = some (.slice C2 fs.length e2) := M.cell 0 2 rfl
    have qY03 : W6.cell? ⟨W5.heap.size, 3, none⟩ = some (.int .i64 tn) := M.cell 0 3 rfl
    have qY04 : W6.cell? ⟨W5.heap.size, 4, none⟩ = some (.bool st) := M.cell 0 4 rfl
    have tX : w.heap.size < W6.heap.size := M.lt 8 rfl
    have qX0 : W6.cell? ⟨w.heap.size, 0, none⟩ = some (.slice A0 ts.length c0) := M.cell 8 0 rfl
    have qX1 : W6.cell? ⟨w.heap.size, 1, none⟩ = some (.slice A1 ks.length c1) := M.cell 8 1 rfl
    have qX2 : W6.cell? ⟨w.heap.size, 2, none⟩ = some (.slice A2 fs.length c2) := M.cell 8 2 rfl
    have qX3 : W6.cell? ⟨w.heap.size, 3, none⟩ = some (.int .i64 tn) := M.cell 8 3 rfl
    have qX4 : W6.cell? ⟨w.heap.size, 4, none⟩ = some (.bool st) := M.cell 8 4 rfl
    go_wp2_with fail
    go_call (hI.out C0 C1 C2 e0 e1 e2 _ ⟨M.rowS 1 rfl, M.rowS 2 rfl, M.rowS 3 rfl⟩) as r W7 ⟨GA, gc, rfl, g1⟩
    clear tY0 qY00 qY01 qY02 qY03 qY04 tX qX0 qX1 qX2 qX3 qX4
    replace M : Sep [] w W7 [rK L.length GA gc L, .blk (W5.heap.size) 34 #[.slice C0 ts.length e0, .slice C1 ks.length e1, .slice C2 fs.length e2, .int .i64 tn, .bool st], rT ts.length C0 e0 ts, rK ks.length C1 e1 ks, rF fs.length C2 e2 fs, rK L.length WA wc L, rT ts.length B0 d0 ts, rK ks.length B1 d1 ks, rF fs.length B2 d2 fs, .blk (w.heap.size) 54 #[.slice A0 ts.length c0, .slice A1 ks.length c1, .slice A2 fs.length c2, .int .i64 tn, .bool st]] := Sep.comp (ps := []) (rs := [.blk (W5.heap.size) 34 #[.slice C0 ts.length e0, .slice C1 ks.length e1, .slice C2 fs.length e2, .int .i64 tn, .bool st], rT ts.length C0 e0 ts, rK ks.length C1 e1 ks, rF fs.length C2 e2 fs, rK L.length WA wc L, rT ts.length B0 d0 ts, rK ks.length B1 d1 ks, rF fs.length B2 d2 fs, .blk (w.heap.size) 54 #[.slice A0 ts.length c0, .slice A1 ks.length c1, .slice A2 fs.length c2, .int .i64 tn, .bool st]]) M g1
    clear g1
    have tY0 : W5.heap.size < W7.heap.size := M.lt 1 rfl
    have qY00 : W7.cell? ⟨W5.heap.size, 0, none⟩ = some (.slice C0 ts.length e0) := M.cell 1 0 rfl
    have qY01 : W7.cell? ⟨W5.heap.size, 1, none⟩ = some (.slice C1 ks.length e1) := M.cell 1 1 rfl
    have qY02 : W7.cell? ⟨W5.heap.size, 2, none⟩ = some (.slice C2 fs.length e2) := M.cell 1 2 rfl
    have qY03 : W7.cell? ⟨W5.heap.size, 3, none⟩ = some (.int .i64 tn) := M.cell 1 3 rfl
    have qY04 : W7.cell? ⟨W5.heap.size, 4, none⟩ = some (.bool st) := M.cell 1 4 rfl
    have tX : w.heap.size < W7.heap.size := M.lt 9 rfl
    have qX0 : W7.cell? ⟨w.heap.size, 0, none⟩ = some (.slice A0 ts.length c0) := M.cell 9 0 rfl
    have qX1 : W7.cell? ⟨w.heap.size, 1, none⟩ = some (.slice A1 ks.length c1) := M.cell 9 1 rfl
    have qX2 : W7.cell? ⟨w.heap.size, 2, none⟩ = some (.slice A2 fs.length c2) := M.cell 9 2 rfl
    have qX3 : W7.cell? ⟨w.heap.size, 3, none⟩ = some (.int .i64 tn) := M.cell 9 3 rfl
    have qX4 : W7.cell? ⟨w.heap.size, 4, none⟩ = some (.bool st) := M.cell 9 4 rfl
    go_wp2_with fail
    go_call (eqInt64S_same L GA WA gc wc _ hLl (M.rowS 0 rfl) (M.rowS 5 rfl)) as r W8 ⟨rfl, g1⟩
    clear tY0 qY00 qY01 qY02 qY03 qY04 tX qX0 qX1 qX2 qX3 qX4
    replace M := M.call g1
    clear g1
    have tY0 : W5.heap.size < W8.heap.size := M.lt 1 rfl
    have qY00 : W8.cell? ⟨W5.heap.size, 0, none⟩ = some (.slice C0 ts.length e0) := M.cell 1 0 rfl
    have qY01 : W8.cell? ⟨W5.heap.size, 1, none⟩ = some (.slice C1 ks.length e1) := M.cell 1 1 rfl
    have qY02 : W8.cell? ⟨W5.heap.size, 2, none⟩ = some (.slice C2 fs.length e2) := M.cell 1 2 rfl
    have qY03 : W8.cell? ⟨W5.heap.size, 3, none⟩ = some (.int .i64 tn) := M.cell 1 3 rfl
    have qY04 : W8.cell? ⟨W5.heap.size, 4, none⟩ = some (.bool st) := M.cell 1 4 rfl
    have tX : w.heap.size < W8.heap.size := M.lt 9 rfl
    have qX0 : W8.cell? ⟨w.heap.size, 0, none⟩ = some (.slice A0 ts.length c0) := M.cell 9 0 rfl
    have qX1 : W8.cell? ⟨w.heap.size, 1, none⟩ = some (.slice A1 ks.length c1) := M.cell 9 1 rfl
    have qX2 : W8.cell? ⟨w.heap.size, 2, none⟩ = some (.slice A2 fs.length c2) := M.cell 9 2 rfl
    have qX3 : W8.cell? ⟨w.heap.size, 3, none⟩ = some (.int .i64 tn) := M.cell 9 3 rfl
    have qX4 : W8.cell? ⟨w.heap.size, 4, none⟩ = some (.bool st) := M.cell 9 4 rfl
    go_wp2_with fail
    clear tY0 qY00 qY01 qY02 qY03 qY04 tX qX0 qX1 qX2 qX3 qX4
    have tY0 : W5.heap.size < W8.heap.size := M.lt 1 rfl
    have qY00 : W8.cell? ⟨W5.heap.size, 0, none⟩ = some (.slice C0 ts.length e0) := M.cell 1 0 rfl
    have qY01 : W8.cell? ⟨W5.heap.size, 1, none⟩ = some (.slice C1 ks.length e1) := M.cell 1 1 rfl
    have qY02 : W8.cell? ⟨W5.heap.size, 2, none⟩ = some (.slice C2 fs.length e2) := M.cell 1 2 rfl
    have qY03 : W8.cell? ⟨W5.heap.size, 3, none⟩ = some (.int .i64 tn) := M.cell 1 3 rfl
    have qY04 : W8.cell? ⟨W5.heap.size, 4, none⟩ = some (.bool st) := M.cell 1 4 rfl
    have tX : w.heap.size < W8.heap.size := M.lt 9 rfl
    have qX0 : W8.cell? ⟨w.heap.size, 0, none⟩ = some (.slice A0 ts.length c0) := M.cell 9 0 rfl
    have qX1 : W8.cell? ⟨w.heap.size, 1, none⟩ = some (.slice A1 ks.length c1) := M.cell 9 1 rfl
    have qX2 : W8.cell? ⟨w.heap.size, 2, none⟩ = some (.slice A2 fs.length c2) := M.cell 9 2 rfl
    have qX3 : W8.cell? ⟨w.heap.size, 3, none⟩ = some (.int .i64 tn) := M.cell 9 3 rfl
    have qX4 : W8.cell? ⟨w.heap.size, 4, none⟩ = some (.bool st) := M.cell 9 4 rfl
    have HH := hide (⟨H.out.below M.below, ⟨M.rowS 2 rfl, M.rowS 3 rfl, M.rowS 4 rfl⟩, M⟩ : InPool W8 ts ks fs A0 A1 A2 ∧ InPool W8 ts ks fs C0 C1 C2 ∧ Sep [] w W8 [rK L.length GA gc L, .blk (W5.heap.size) 34 #[.slice C0 ts.length e0, .slice C1 ks.length e1, .slice C2 fs.length e2, .int .i64 tn, .bool st], rT ts.length C0 e0 ts, rK ks.length C1 e1 ks, rF fs.length C2 e2 fs, rK L.length WA wc L, rT ts.length B0 d0 ts, rK ks.length B1 d1 ks, rF fs.length B2 d2 fs, .blk (w.heap.size) 54 #[.slice A0 ts.length c0, .slice A1 ks.length c1, .slice A2 fs.length c2, .int .i64 tn, .bool st]])
    clear M
    go_region_held3 (fun w' => Below (World.heap W8).size W8 w' ∧ ∀ b o, b < (World.heap W8).size → w'.cell? ⟨b, o, none⟩ = World.cell? W8 ⟨b, o, none⟩) (first | exact keep0' _ | exact keepS' (by assumption) (by assumption)) (first | (go_at_call 32; refine (toPool_any ts ks fs A0 A1 A2 c0 c1 c2 tn st _ hT (inS HH.out.1 (by assumption))).mono ?_; rintro r w4 ⟨D0, D1, D2, f0, f1, f2, rfl, own4, hb4⟩) | (go_at_call 34; refine (eqPool_same ts ks fs C0 C1 C2 e0 e1 e2 tn st D0 D1 D2 f0 f1 f2 _ hT (inS HH.out.2.1 (by assumption)) own4.reads).mono ?_; rintro r w5 ⟨rfl, hb5⟩))
    have M := HH.out.2.2.call (keptB (by assumption))
    clear HH tY0 qY00 qY01 qY02 qY03 qY04 tX qX0 qX1 qX2 qX3 qX4
    clear own4 hb4 hb5
    have tY0 : W5.heap.size < w5.heap.size := M.lt 1 rfl
    have qY00 : w5.cell? ⟨W5.heap.size, 0, none⟩ = some (.slice C0 ts.length e0) := M.cell 1 0 rfl
    have qY01 : w5.cell? ⟨W5.heap.size, 1, none⟩ = some (.slice C1 ks.length e1) := M.cell 1 1 rfl
    have qY02 : w5.cell? ⟨W5.heap.size, 2, none⟩ = some (.slice C2 fs.length e2) := M.cell 1 2 rfl
    have qY03 : w5.cell? ⟨W5.heap.size, 3, none⟩ = some (.int .i64 tn) := M.cell 1 3 rfl
    have qY04 : w5.cell? ⟨W5.heap.size, 4, none⟩ = some (.bool st) := M.cell 1 4 rfl
    have tX : w.heap.size < w5.heap.size := M.lt 9 rfl
    have qX0 : w5.cell? ⟨w.heap.size, 0, none⟩ = some (.slice A0 ts.length c0) := M.cell 9 0 rfl
    have qX1 : w5.cell? ⟨w.heap.size, 1, none⟩ = some (.slice A1 ks.length c1) := M.cell 9 1 rfl
    have qX2 : w5.cell? ⟨w.heap.size, 2, none⟩ = some (.slice A2 fs.length c2) := M.cell 9 2 rfl
    have qX3 : w5.cell? ⟨w.heap.size, 3, none⟩ = some (.int .i64 tn) := M.cell 9 3 rfl
    have qX4 : w5.cell? ⟨w.heap.size, 4, none⟩ = some (.bool st) := M.cell 9 4 rfl
    go_wp2_with fail
    replace M : Sep [] w w5 [rF fs.length C2 e2 fs, rK L.length GA gc L, .blk (W5.heap.size) 34 #[.slice C0 ts.length e0, .slice C1 ks.length e1, .slice C2 fs.length e2, .int .i64 tn, .bool st], rT ts.length C0 e0 ts, rK ks.length C1 e1 ks, rK L.length WA wc L, rT ts.length B0 d0 ts, rK ks.length B1 d1 ks, rF fs.length B2 d2 fs, .blk (w.heap.size) 54 #[.slice A0 ts.length c0, .slice A1 ks.length c1, .slice A2 fs.length c2, .int .i64 tn, .bool st]] := M.front 4 rfl
    replace M : Sep [] w w5 [rK ks.length C1 e1 ks, rF fs.length C2 e2 fs, rK L.length GA gc L, .blk (W5.heap.size) 34 #[.slice C0 ts.length e0, .slice C1 ks.length e1, .slice C2 fs.length e2, .int .i64 tn, .bool st], rT ts.length C0 e0 ts, rK L.length WA wc L, rT ts.length B0 d0 ts, rK ks.length B1 d1 ks, rF fs.length B2 d2 fs, .blk (w.heap.size) 54 #[.slice A0 ts.length c0, .slice A1 ks.length c1, .slice A2 fs.length c2, .int .i64 tn, .bool st]] := M.front 4 rfl
    replace M : Sep [] w w5 [rT ts.length C0 e0 ts, rK ks.length C1 e1 ks, rF fs.length C2 e2 fs, rK L.length GA gc L, .blk (W5.heap.size) 34 #[.slice C0 ts.length e0, .slice C1 ks.length e1, .slice C2 fs.length e2, .int .i64 tn, .bool st], rK L.length WA wc L, rT ts.length B0 d0 ts, rK ks.length B1 d1 ks, rF fs.length B2 d2 fs, .blk (w.heap.size) 54 #[.slice A0 ts.length c0, .slice A1 ks.length c1, .slice A2 fs.length c2, .int .i64 tn, .bool st]] := M.front 4 rfl
    go_call (markPool_s ts ks fs C0 C1 C2 e0 e1 e2 tn st 1 _ hT (by omega) (by omega) (Sep.same (ps := [rT ts.length C0 e0 ts, rK ks.length C1 e1 ks, rF fs.length C2 e2 fs]) (rs := [rK L.length GA gc L, .blk (W5.heap.size) 34 #[.slice C0 ts.length e0, .slice C1 ks.length e1, .slice C2 fs.length e2, .int .i64 tn, .bool st], rK L.length WA wc L, rT ts.length B0 d0 ts, rK ks.length B1 d1 ks, rF fs.length B2 d2 fs, .blk (w.heap.size) 54 #[.slice A0 ts.length c0, .slice A1 ks.length c1, .slice A2 fs.length c2, .int .i64 tn, .bool st]]) M (Below.refl _ _))) as r W9 ⟨rfl, g1⟩
    clear tY0 qY00 qY01 qY02 qY03 qY04 tX qX0 qX1 qX2 qX3 qX4
    replace M : Sep [] w W9 [rT ts.length C0 e0 (markT 1 ts.length), rK ks.length C1 e1 (markK (1 + 7 * ts.length) ks.length), rF fs.length C2 e2 (markF (1 + 7 * ts.length + ks.length) fs.length), rK L.length GA gc L, .blk (W5.heap.size) 34 #[.slice C0 ts.length e0, .slice C1 ks.length e1, .slice C2 fs.length e2, .int .i64 tn, .bool st], rK L.length WA wc L, rT ts.length B0 d0 ts, rK ks.length B1 d1 ks, rF fs.length B2 d2 fs, .blk (w.heap.size) 54 #[.slice A0 ts.length c0, .slice A1 ks.length c1, .slice A2 fs.length c2, .int .i64 tn, .bool st]] := Sep.comp (ps := [rT ts.length C0 e0 ts, rK ks.length C1 e1 ks, rF fs.length C2 e2 fs]) (rs := [rK L.length GA gc L, .blk (W5.heap.size) 34 #[.slice C0 ts.length e0, .slice C1 ks.length e1, .slice C2 fs.length e2, .int .i64 tn, .bool st], rK L.length WA wc L, rT ts.length B0 d0 ts, rK ks.length B1 d1 ks, rF fs.length B2 d2 fs, .blk (w.heap.size) 54 #[.slice A0 ts.length c0, .slice A1 ks.length c1, .slice A2 fs.length c2, .int .i64 tn, .bool st]]) M g1
    clear g1
    have hk1 : ¬ (1 + 7 * (ts.length : Int) + ks.length + 2 * fs.length < 0) := by omega
    have tY0 : W5.heap.size < W9.heap.size := M.lt 4 rfl
    have qY00 : W9.cell? ⟨W5.heap.size, 0, none⟩ = some (.slice C0 ts.length e0) := M.cell 4 0 rfl
    have qY01 : W9.cell? ⟨W5.heap.size, 1, none⟩ = some (.slice C1 ks.length e1) := M.cell 4 1 rfl
    have qY02 : W9.cell? ⟨W5.heap.size, 2, none⟩ = some (.slice C2 fs.length e2) := M.cell 4 2 rfl
    have qY03 : W9.cell? ⟨W5.heap.size, 3, none⟩ = some (.int .i64 tn) := M.cell 4 3 rfl
    have qY04 : W9.cell? ⟨W5.heap.size, 4, none⟩ = some (.bool st) := M.cell 4 4 rfl
    have tX : w.heap.size < W9.heap.size := M.lt 9 rfl
    have qX0 : W9.cell? ⟨w.heap.size, 0, none⟩ = some (.slice A0 ts.length c0) := M.cell 9 0 rfl
    have qX1 : W9.cell? ⟨w.heap.size, 1, none⟩ = some (.slice A1 ks.length c1) := M.cell 9 1 rfl
    have qX2 : W9.cell? ⟨w.heap.size, 2, none⟩ = some (.slice A2 fs.length c2) := M.cell 9 2 rfl
    have qX3 : W9.cell? ⟨w.heap.size, 3, none⟩ = some (.int .i64 tn) := M.cell 9 3 rfl
    have qX4 : W9.cell? ⟨w.heap.size, 4, none⟩ = some (.bool st) := M.cell 9 4 rfl
    go_wp2_with fail
    go_call (eqInt64S_same L GA WA gc wc _ hLl (M.rowS 3 rfl) (M.rowS 5 rfl)) as r W10 ⟨rfl, g1⟩
    clear tY0 qY00 qY01 qY02 qY03 qY04 tX qX0 qX1 qX2 qX3 qX4
    replace M := M.call g1
    clear g1
    have tY0 : W5.heap.size < W10.heap.size := M.lt 4 rfl
    have qY00 : W10.cell? ⟨W5.heap.size, 0, none⟩ = some (.slice C0 ts.length e0) := M.cell 4 0 rfl
    have qY01 : W10.cell? ⟨W5.heap.size, 1, none⟩ = some (.slice C1 ks.length e1) := M.cell 4 1 rfl
    have qY02 : W10.cell? ⟨W5.heap.size, 2, none⟩ = some (.slice C2 fs.length e2) := M.cell 4 2 rfl
    have qY03 : W10.cell? ⟨W5.heap.size, 3, none⟩ = some (.int .i64 tn) := M.cell 4 3 rfl
    have qY04 : W10.cell? ⟨W5.heap.size, 4, none⟩ = some (.bool st) := M.cell 4 4 rfl
    have tX : w.heap.size < W10.heap.size := M.lt 9 rfl
    have qX0 : W10.cell? ⟨w.heap.size, 0, none⟩ = some (.slice A0 ts.length c0) := M.cell 9 0 rfl
    have qX1 : W10.cell? ⟨w.heap.size, 1, none⟩ = some (.slice A1 ks.length c1) := M.cell 9 1 rfl
    have qX2 : W10.cell? ⟨w.heap.size, 2, none⟩ = some (.slice A2 fs.length c2) := M.cell 9 2 rfl
    have qX3 : W10.cell? ⟨w.heap.size, 3, none⟩ = some (.int .i64 tn) := M.cell 9 3 rfl
    have qX4 : W10.cell? ⟨w.heap.size, 4, none⟩ = some (.bool st) := M.cell 9 4 rfl
    go_wp2_with fail
    replace M : Sep [] w W10 [rK L.length GA gc L, rT ts.length C0 e0 (markT 1 ts.length), rK ks.length C1 e1 (markK (1 + 7 * ts.length) ks.length), rF fs.length C2 e2 (markF (1 + 7 * ts.length + ks.length) fs.length), .blk (W5.heap.size) 34 #[.slice C0 ts.length e0, .slice C1 ks.length e1, .slice C2 fs.length e2, .int .i64 tn, .bool st], rK L.length WA wc L, rT ts.length B0 d0 ts, rK ks.length B1 d1 ks, rF fs.length B2 d2 fs, .blk (w.heap.size) 54 #[.slice A0 ts.length c0, .slice A1 ks.length c1, .slice A2 fs.length c2, .int .i64 tn, .bool st]] := M.front 3 rfl
    go_call (markK_s L GA gc 1 _ hLl (by omega) (by omega) (M.rowAt 0 rfl)) as r W11 ⟨rfl, g1⟩
    clear tY0 qY00 qY01 qY02 qY03 qY04 tX qX0 qX1 qX2 qX3 qX4
    replace M : Sep [] w W11 [rK L.length GA gc (markK 1 L.length), rT ts.length C0 e0 (markT 1 ts.length), rK ks.length C1 e1 (markK (1 + 7 * ts.length) ks.length), rF fs.length C2 e2 (markF (1 + 7 * ts.length + ks.length) fs.length), .blk (W5.heap.size) 34 #[.slice C0 ts.length e0, .slice C1 ks.length e1, .slice C2 fs.length e2, .int .i64 tn, .bool st], rK L.length WA wc L, rT ts.length B0 d0 ts, rK ks.length B1 d1 ks, rF fs.length B2 d2 fs, .blk (w.heap.size) 54 #[.slice A0 ts.length c0, .slice A1 ks.length c1, .slice A2 fs.length c2, .int .i64 tn, .bool st]] := Sep.comp (ps := [rK L.length GA gc L]) (rs := [rT ts.length C0 e0 (markT 1 ts.length), rK ks.length C1 e1 (markK (1 + 7 * ts.length) ks.length), rF fs.length C2 e2 (markF (1 + 7 * ts.length + ks.length) fs.length), .blk (W5.heap.size) 34 #[.slice C0 ts.length e0, .slice C1 ks.length e1, .slice C2 fs.length e2, .int .i64 tn, .bool st], rK L.length WA wc L, rT ts.length B0 d0 ts, rK ks.length B1 d1 ks, rF fs.length B2 d2 fs, .blk (w.heap.size) 54 #[.slice A0 ts.length c0, .slice A1 ks.length c1, .slice A2 fs.length c2, .int .i64 tn, .bool st]]) M g1
    clear g1
    have hk2 : ¬ (1 + (L.length : Int) < 0) := by omega
    have tY0 : W5.heap.size < W11.heap.size := M.lt 4 rfl
    have qY00 : W11.cell? ⟨W5.heap.size, 0, none⟩ = some (.slice C0 ts.length e0) := M.cell 4 0 rfl
    have qY01 : W11.cell? ⟨W5.heap.size, 1, none⟩ = some (.slice C1 ks.length e1) := M.cell 4 1 rfl
    have qY02 : W11.cell? ⟨W5.heap.size, 2, none⟩ = some (.slice C2 fs.length e2) := M.cell 4 2 rfl
    have qY03 : W11.cell? ⟨W5.heap.size, 3, none⟩ = some (.int .i64 tn) := M.cell 4 3 rfl
    have qY04 : W11.cell? ⟨W5.heap.size, 4, none⟩ = some (.bool st) := M.cell 4 4 rfl
    have tX : w.heap.size < W11.heap.size := M.lt 9 rfl
    have qX0 : W11.cell? ⟨w.heap.size, 0, none⟩ = some (.slice A0 ts.length c0) := M.cell 9 0 rfl
    have qX1 : W11.cell? ⟨w.heap.size, 1, none⟩ = some (.slice A1 ks.length c1) := M.cell 9 1 rfl
    have qX2 : W11.cell? ⟨w.heap.size, 2, none⟩ = some (.slice A2 fs.length c2) := M.cell 9 2 rfl
    have qX3 : W11.cell? ⟨w.heap.size, 3, none⟩ = some (.int .i64 tn) := M.cell 9 3 rfl
    have qX4 : W11.cell? ⟨w.heap.size, 4, none⟩ = some (.bool st) := M.cell 9 4 rfl
    go_wp2_with fail
    go_call (heldK_any L.length GA gc 1 _ hLl (by omega) (by omega) (M.rowS 0 rfl)) as r W12 ⟨rfl, g1⟩
    clear tY0 qY00 qY01 qY02 qY03 qY04 tX qX0 qX1 qX2 qX3 qX4
    replace M := M.call g1
    clear g1
    have tY0 : W5.heap.size < W12.heap.size := M.lt 4 rfl
    have qY00 : W12.cell? ⟨W5.heap.size, 0, none⟩ = some (.slice C0 ts.length e0) := M.cell 4 0 rfl
    have qY01 : W12.cell? ⟨W5.heap.size, 1, none⟩ = some (.slice C1 ks.length e1) := M.cell 4 1 rfl
    have qY02 : W12.cell? ⟨W5.heap.size, 2, none⟩ = some (.slice C2 fs.length e2) := M.cell 4 2 rfl
    have qY03 : W12.cell? ⟨W5.heap.size, 3, none⟩ = some (.int .i64 tn) := M.cell 4 3 rfl
    have qY04 : W12.cell? ⟨W5.heap.size, 4, none⟩ = some (.bool st) := M.cell 4 4 rfl
    have tX : w.heap.size < W12.heap.size := M.lt 9 rfl
    have qX0 : W12.cell? ⟨w.heap.size, 0, none⟩ = some (.slice A0 ts.length c0) := M.cell 9 0 rfl
    have qX1 : W12.cell? ⟨w.heap.size, 1, none⟩ = some (.slice A1 ks.length c1) := M.cell 9 1 rfl
    have qX2 : W12.cell? ⟨w.heap.size, 2, none⟩ = some (.slice A2 fs.length c2) := M.cell 9 2 rfl
    have qX3 : W12.cell? ⟨w.heap.size, 3, none⟩ = some (.int .i64 tn) := M.cell 9 3 rfl
    have qX4 : W12.cell? ⟨w.heap.size, 4, none⟩ = some (.bool st) := M.cell 9 4 rfl
    go_wp2_with fail
    go_call (toPool_s ts ks fs A0 A1 A2 c0 c1 c2 tn st _ hT (H.out.below M.below)) as r W13 ⟨E0, E1, E2, j0, j1, j2, rfl, g1⟩
    clear tY0 qY00 qY01 qY02 qY03 qY04 tX qX0 qX1 qX2 qX3 qX4
    replace M : Sep [] w W13 [rT ts.length E0 j0 ts, rK ks.length E1 j1 ks, rF fs.length E2 j2 fs, rK L.length GA gc (markK 1 L.length), rT ts.length C0 e0 (markT 1 ts.length), rK ks.length C1 e1 (markK (1 + 7 * ts.length) ks.length), rF fs.length C2 e2 (markF (1 + 7 * ts.length + ks.length) fs.length), .blk (W5.heap.size) 34 #[.slice C0 ts.length e0, .slice C1 ks.length e1, .slice C2 fs.length e2, .int .i64 tn, .bool st], rK L.length WA wc L, rT ts.length B0 d0 ts, rK ks.length B1 d1 ks, rF fs.length B2 d2 fs, .blk (w.heap.size) 54 #[.slice A0 ts.length c0, .slice A1 ks.length c1, .slice A2 fs.length c2, .int .i64 tn, .bool st]] := Sep.comp (ps := []) (rs := [rK L.length GA gc (markK 1 L.length), rT ts.length C0 e0 (markT 1 ts.length), rK ks.length C1 e1 (markK (1 + 7 * ts.length) ks.length), rF fs.length C2 e2 (markF (1 + 7 * ts.length + ks.length) fs.length), .blk (W5.heap.size) 34 #[.slice C0 ts.length e0, .slice C1 ks.length e1, .slice C2 fs.length e2, .int .i64 tn, .bool st], rK L.length WA wc L, rT ts.length B0 d0 ts, rK ks.length B1 d1 ks, rF fs.length B2 d2 fs, .blk (w.heap.size) 54 #[.slice A0 ts.length c0, .slice A1 ks.length c1, .slice A2 fs.length c2, .int .i64 tn, .bool st]]) M g1
    clear g1
    have tY0 : W5.heap.size < W13.heap.size := M.lt 7 rfl
    have qY00 : W13.cell? ⟨W5.heap.size, 0, none⟩ = some (.slice C0 ts.length e0) := M.cell 7 0 rfl
    have qY01 : W13.cell? ⟨W5.heap.size, 1, none⟩ = some (.slice C1 ks.length e1) := M.cell 7 1 rfl
    have qY02 : W13.cell? ⟨W5.heap.size, 2, none⟩ = some (.slice C2 fs.length e2) := M.cell 7 2 rfl
    have qY03 : W13.cell? ⟨W5.heap.size, 3, none⟩ = some (.int .i64 tn) := M.cell 7 3 rfl
    have qY04 : W13.cell? ⟨W5.heap.size, 4, none⟩ = some (.bool st) := M.cell 7 4 rfl
    have tX : w.heap.size < W13.heap.size := M.lt 12 rfl
    have qX0 : W13.cell? ⟨w.heap.size, 0, none⟩ = some (.slice A0 ts.length c0) := M.cell 12 0 rfl
    have qX1 : W13.cell? ⟨w.heap.size, 1, none⟩ = some (.slice A1 ks.length c1) := M.cell 12 1 rfl
    have qX2 : W13.cell? ⟨w.heap.size, 2, none⟩ = some (.slice A2 fs.length c2) := M.cell 12 2 rfl
    have qX3 : W13.cell? ⟨w.heap.size, 3, none⟩ = some (.int .i64 tn) := M.cell 12 3 rfl
    have qX4 : W13.cell? ⟨w.heap.size, 4, none⟩ = some (.bool st) := M.cell 12 4 rfl
    go_wp2_with fail
    go_call (hI.out E0 E1 E2 j0 j1 j2 _ ⟨M.rowS 0 rfl, M.rowS 1 rfl, M.rowS 2 rfl⟩) as r W14 ⟨HA, hc, rfl, g1⟩
    clear tY0 qY00 qY01 qY02 qY03 qY04 tX qX0 qX1 qX2 qX3 qX4
    replace M : Sep [] w W14 [rK L.length HA hc L, rT ts.length E0 j0 ts, rK ks.length E1 j1 ks, rF fs.length E2 j2 fs, rK L.length GA gc (markK 1 L.length), rT ts.length C0 e0 (markT 1 ts.length), rK ks.length C1 e1 (markK (1 + 7 * ts.length) ks.length), rF fs.length C2 e2 (markF (1 + 7 * ts.length + ks.length) fs.length), .blk (W5.heap.size) 34 #[.slice C0 ts.length e0, .slice C1 ks.length e1, .slice C2 fs.length e2, .int .i64 tn, .bool st], rK L.length WA wc L, rT ts.length B0 d0 ts, rK ks.length B1 d1 ks, rF fs.length B2 d2 fs, .blk (w.heap.size) 54 #[.slice A0 ts.length c0, .slice A1 ks.length c1, .slice A2 fs.length c2, .int .i64 tn, .bool st]] := Sep.comp (ps := []) (rs := [rT ts.length E0 j0 ts, rK ks.length E1 j1 ks, rF fs.length E2 j2 fs, rK L.length GA gc (markK 1 L.length), rT ts.length C0 e0 (markT 1 ts.length), rK ks.length C1 e1 (markK (1 + 7 * ts.length) ks.length), rF fs.length C2 e2 (markF (1 + 7 * ts.length + ks.length) fs.length), .blk (W5.heap.size) 34 #[.slice C0 ts.length e0, .slice C1 ks.length e1, .slice C2 fs.length e2, .int .i64 tn, .bool st], rK L.length WA wc L, rT ts.length B0 d0 ts, rK ks.length B1 d1 ks, rF fs.length B2 d2 fs, .blk (w.heap.size) 54 #[.slice A0 ts.length c0, .slice A1 ks.length c1, .slice A2 fs.length c2, .int .i64 tn, .bool st]]) M g1
    clear g1
    have tY0 : W5.heap.size < W14.heap.size := M.lt 8 rfl
    have qY00 : W14.cell? ⟨W5.heap.size, 0, none⟩ = some (.slice C0 ts.length e0) := M.cell 8 0 rfl
    have qY01 : W14.cell? ⟨W5.heap.size, 1, none⟩ = some (.slice C1 ks.length e1) := M.cell 8 1 rfl
    have qY02 : W14.cell? ⟨W5.heap.size, 2, none⟩ = some (.slice C2 fs.length e2) := M.cell 8 2 rfl
    have qY03 : W14.cell? ⟨W5.heap.size, 3, none⟩ = some (.int .i64 tn) := M.cell 8 3 rfl
    have qY04 : W14.cell? ⟨W5.heap.size, 4, none⟩ = some (.bool st) := M.cell 8 4 rfl
    have tX : w.heap.size < W14.heap.size := M.lt 13 rfl
    have qX0 : W14.cell? ⟨w.heap.size, 0, none⟩ = some (.slice A0 ts.length c0) := M.cell 13 0 rfl
    have qX1 : W14.cell? ⟨w.heap.size, 1, none⟩ = some (.slice A1 ks.length c1) := M.cell 13 1 rfl
    have qX2 : W14.cell? ⟨w.heap.size, 2, none⟩ = some (.slice A2 fs.length c2) := M.cell 13 2 rfl
    have qX3 : W14.cell? ⟨w.heap.size, 3, none⟩ = some (.int .i64 tn) := M.cell 13 3 rfl
    have qX4 : W14.cell? ⟨w.heap.size, 4, none⟩ = some (.bool st) := M.cell 13 4 rfl
    go_wp2_with fail
    go_call (eqInt64S_same L HA WA hc wc _ hLl (M.rowS 0 rfl) (M.rowS 9 rfl)) as r W15 ⟨rfl, g1⟩
    clear tY0 qY00 qY01 qY02 qY03 qY04 tX qX0 qX1 qX2 qX3 qX4
    replace M := M.call g1
    clear g1
    have tY0 : W5.heap.size < W15.heap.size := M.lt 8 rfl
    have qY00 : W15.cell? ⟨W5.heap.size, 0, none⟩ = some (.slice C0 ts.length e0) := M.cell 8 0 rfl
    have qY01 : W15.cell? ⟨W5.heap.size, 1, none⟩ = some (.slice C1 ks.length e1) := M.cell 8 1 rfl
    have qY02 : W15.cell? ⟨W5.heap.size, 2, none⟩ = some (.slice C2 fs.length e2) := M.cell 8 2 rfl
    have qY03 : W15.cell? ⟨W5.heap.size, 3, none⟩ = some (.int .i64 tn) := M.cell 8 3 rfl
    have qY04 : W15.cell? ⟨W5.heap.size, 4, none⟩ = some (.bool st) := M.cell 8 4 rfl
    have tX : w.heap.size < W15.heap.size := M.lt 13 rfl
    have qX0 : W15.cell? ⟨w.heap.size, 0, none⟩ = some (.slice A0 ts.length c0) := M.cell 13 0 rfl
    have qX1 : W15.cell? ⟨w.heap.size, 1, none⟩ = some (.slice A1 ks.length c1) := M.cell 13 1 rfl
    have qX2 : W15.cell? ⟨w.heap.size, 2, none⟩ = some (.slice A2 fs.length c2) := M.cell 13 2 rfl
    have qX3 : W15.cell? ⟨w.heap.size, 3, none⟩ = some (.int .i64 tn) := M.cell 13 3 rfl
    have qX4 : W15.cell? ⟨w.heap.size, 4, none⟩ = some (.bool st) := M.cell 13 4 rfl
    go_wp2_with fail
    go_call (heldK_any L.length GA gc 1 _ hLl (by omega) (by omega) (M.rowS 4 rfl)) as r W16 ⟨rfl, g1⟩
    clear tY0 qY00 qY01 qY02 qY03 qY04 tX qX0 qX1 qX2 qX3 qX4
    replace M := M.call g1
    clear g1
    have tY0 : W5.heap.size < W16.heap.size := M.lt 8 rfl
    have qY00 : W16.cell? ⟨W5.heap.size, 0, none⟩ = some (.slice C0 ts.length e0) := M.cell 8 0 rfl
    have qY01 : W16.cell? ⟨W5.heap.size, 1, none⟩ = some (.slice C1 ks.length e1) := M.cell 8 1 rfl
    have qY02 : W16.cell? ⟨W5.heap.size, 2, none⟩ = some (.slice C2 fs.length e2) := M.cell 8 2 rfl
    have qY03 : W16.cell? ⟨W5.heap.size, 3, none⟩ = some (.int .i64 tn) := M.cell 8 3 rfl
    have qY04 : W16.cell? ⟨W5.heap.size, 4, none⟩ = some (.bool st) := M.cell 8 4 rfl
    have tX : w.heap.size < W16.heap.size := M.lt 13 rfl
    have qX0 : W16.cell? ⟨w.heap.size, 0, none⟩ = some (.slice A0 ts.length c0) := M.cell 13 0 rfl
    have qX1 : W16.cell? ⟨w.heap.size, 1, none⟩ = some (.slice A1 ks.length c1) := M.cell 13 1 rfl
    have qX2 : W16.cell? ⟨w.heap.size, 2, none⟩ = some (.slice A2 fs.length c2) := M.cell 13 2 rfl
    have qX3 : W16.cell? ⟨w.heap.size, 3, none⟩ = some (.int .i64 tn) := M.cell 13 3 rfl
    have qX4 : W16.cell? ⟨w.heap.size, 4, none⟩ = some (.bool st) := M.cell 13 4 rfl
    go_wp2_with fail
    go_ret
    exact ⟨rfl, M.below⟩
  · go_enter Try.func7, Try.ntmps7
    go_wp2_with fail
    have M : Sep [] w (w.alloc (.cells #[.slice A0 ts.length c0, .slice A1 ks.length c1, .slice A2 fs.length c2, .int .i64 tn, .bool st] 54)) [.blk (w.heap.size) 54 #[.slice A0 ts.length c0, .slice A1 ks.length c1, .slice A2 fs.length c2, .int .i64 tn, .bool st]] := Sep.enter1 w
    generalize w.alloc (.cells #[.slice A0 ts.length c0, .slice A1 ks.length c1, .slice A2 fs.length c2, .int .i64 tn, .bool st] 54) = W1 at M ⊢
    have tX : w.heap.size < W1.heap.size := M.lt 0 rfl
    have qX0 : W1.cell? ⟨w.heap.size, 0, none⟩ = some (.slice A0 ts.length c0) := M.cell 0 0 rfl
    have qX1 : W1.cell? ⟨w.heap.size, 1, none⟩ = some (.slice A1 ks.length c1) := M.cell 0 1 rfl
    have qX2 : W1.cell? ⟨w.heap.size, 2, none⟩ = some (.slice A2 fs.length c2) := M.cell 0 2 rfl
    have qX3 : W1.cell? ⟨w.heap.size, 3, none⟩ = some (.int .i64 tn) := M.cell 0 3 rfl
    have qX4 : W1.cell? ⟨w.heap.size, 4, none⟩ = some (.bool st) := M.cell 0 4 rfl
    go_wp2_with fail
    go_call (szPool_any A0 A1 A2 ts.length c0 ks.length c1 fs.length c2 tn st _ h0 h1 h2) as r W2 ⟨rfl, g1⟩
    clear tX qX0 qX1 qX2 qX3 qX4
    replace M := M.call g1
    clear g1
    rw [szPoolM_neg' hT]
    have tX : w.heap.size < W2.heap.size := M.lt 0 rfl
    have qX0 : W2.cell? ⟨w.heap.size, 0, none⟩ = some (.slice A0 ts.length c0) := M.cell 0 0 rfl
    have qX1 : W2.cell? ⟨w.heap.size, 1, none⟩ = some (.slice A1 ks.length c1) := M.cell 0 1 rfl
    have qX2 : W2.cell? ⟨w.heap.size, 2, none⟩ = some (.slice A2 fs.length c2) := M.cell 0 2 rfl
    have qX3 : W2.cell? ⟨w.heap.size, 3, none⟩ = some (.int .i64 tn) := M.cell 0 3 rfl
    have qX4 : W2.cell? ⟨w.heap.size, 4, none⟩ = some (.bool st) := M.cell 0 4 rfl
    go_wp2_with fail
    go_ret
    exact ⟨rfl, M.below⟩
end Go.Proofs.Ytgbckcidmojnoaa
