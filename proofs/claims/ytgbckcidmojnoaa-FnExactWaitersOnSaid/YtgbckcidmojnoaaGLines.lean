/- impl's ReadyLine, FirstReady, WaitersOn: the model's lines. The list of tasks shorter than a million. -/
import Derived.Test.YtgbckcidmojnoaaPLeave
import Derived.Test.YtgbckcidmojnoaaSepX
namespace Go.Proofs.Ytgbckcidmojnoaa
open Go.RowKit
set_option linter.unusedVariables false

set_option maxRecDepth 100000 in
set_option maxHeartbeats 2000000 in
theorem gReadyLine_any (ts : List T7) (ks : List Int) (fs : List F2) (A0 A1 A2 : Option Addr) (c0 c1 c2 : Nat) (tn : Int) (st : Bool) (w : World) (hlen : ts.length ≤ 1048576) (h : Row w A0 (tcells ts)) :
    Calls Try.prog 24 #[.agg #[.slice A0 ts.length c0, .slice A1 ks.length c1, .slice A2 fs.length c2, .int .i64 tn, .bool st]] w fun r w' => ∃ (B : Option Addr) (d : Nat), r = .returned (.slice B (readyM ts).length d) ∧ Sep [] w w' [rK (readyM ts).length B d (readyM ts)] := by
  have H := hide h
  clear h
  go_enter Try.func24, Try.ntmps24
  go_wp2_with fail
  have M : Sep [] w (w.alloc (.cells #[.slice A0 ts.length c0, .slice A1 ks.length c1, .slice A2 fs.length c2, .int .i64 tn, .bool st] 34)) [.blk (w.heap.size) 34 #[.slice A0 ts.length c0, .slice A1 ks.length c1, .slice A2 fs.length c2, .int .i64 tn, .bool st]] := Sep.enter1 w
  generalize w.alloc (.cells #[.slice A0 ts.length c0, .slice A1 ks.length c1, .slice A2 fs.length c2, .int .i64 tn, .bool st] 34) = W1 at M ⊢
  have tP : w.heap.size < W1.heap.size := M.lt 0 rfl
  have qP0 : W1.cell? ⟨w.heap.size, 0, none⟩ = some (.slice A0 ts.length c0) := M.cell 0 0 rfl
  have qP1 : W1.cell? ⟨w.heap.size, 1, none⟩ = some (.slice A1 ks.length c1) := M.cell 0 1 rfl
  have qP2 : W1.cell? ⟨w.heap.size, 2, none⟩ = some (.slice A2 fs.length c2) := M.cell 0 2 rfl
  have qP3 : W1.cell? ⟨w.heap.size, 3, none⟩ = some (.int .i64 tn) := M.cell 0 3 rfl
  have qP4 : W1.cell? ⟨w.heap.size, 4, none⟩ = some (.bool st) := M.cell 0 4 rfl
  go_wp2_with fail
  go_call (readyLine_p ts w.heap.size A0 c0 _ hlen (M.cell 0 0 rfl) (H.out.below M.below)) as r W2 ⟨lb, A, c, ps, rfl, hle, hh, hp, g1⟩
  clear tP qP0 qP1 qP2 qP3 qP4
  replace M : Sep [] w W2 (lineL lb A c ps ++ [.blk (w.heap.size) 34 #[.slice A0 ts.length c0, .slice A1 ks.length c1, .slice A2 fs.length c2, .int .i64 tn, .bool st]]) := Sep.new M g1
  clear g1
  have HP := hide (⟨hh, hp⟩ : _ ∧ _)
  clear hh hp
  go_wp2_with fail
  go_call (leave_any ps lb A c (by omega) _ HP.out.1 (LineIn.of M)) as r W3 ⟨B, d, out, rfl, hs, hq, g1⟩
  replace M := Sep.comp (ps := lineL lb A c ps) M g1
  clear g1
  have hE : out.map P3.i = readyM ts := ready_eq hs (hq.trans HP.out.2)
  have hL : out.length = (readyM ts).length := by rw [← hE]; simp
  rw [hE, hL] at M
  rw [hL]
  clear hE hL hs hq HP
  go_wp2_with fail
  go_ret
  exact ⟨B, d, rfl, M.take 1⟩

set_option maxRecDepth 100000 in
set_option maxHeartbeats 2000000 in
theorem gFirstReady_any (ts : List T7) (ks : List Int) (fs : List F2) (A0 A1 A2 : Option Addr) (c0 c1 c2 : Nat) (tn : Int) (st : Bool) (w : World) (hlen : ts.length ≤ 1048576) (h : Row w A0 (tcells ts)) :
    Calls Try.prog 28 #[.agg #[.slice A0 ts.length c0, .slice A1 ks.length c1, .slice A2 fs.length c2, .int .i64 tn, .bool st]] w fun r w' => r = .returned (.int .i64 (firstM ts)) ∧ Below w.heap.size w w' := by
  have H := hide h
  clear h
  go_enter Try.func28, Try.ntmps28
  go_wp2_with fail
  have M : Sep [] w (w.alloc (.cells #[.slice A0 ts.length c0, .slice A1 ks.length c1, .slice A2 fs.length c2, .int .i64 tn, .bool st] 34)) [.blk (w.heap.size) 34 #[.slice A0 ts.length c0, .slice A1 ks.length c1, .slice A2 fs.length c2, .int .i64 tn, .bool st]] := Sep.enter1 w
  generalize w.alloc (.cells #[.slice A0 ts.length c0, .slice A1 ks.length c1, .slice A2 fs.length c2, .int .i64 tn, .bool st] 34) = W1 at M ⊢
  have tP : w.heap.size < W1.heap.size := M.lt 0 rfl
  have qP0 : W1.cell? ⟨w.heap.size, 0, none⟩ = some (.slice A0 ts.length c0) := M.cell 0 0 rfl
  have qP1 : W1.cell? ⟨w.heap.size, 1, none⟩ = some (.slice A1 ks.length c1) := M.cell 0 1 rfl
  have qP2 : W1.cell? ⟨w.heap.size, 2, none⟩ = some (.slice A2 fs.length c2) := M.cell 0 2 rfl
  have qP3 : W1.cell? ⟨w.heap.size, 3, none⟩ = some (.int .i64 tn) := M.cell 0 3 rfl
  have qP4 : W1.cell? ⟨w.heap.size, 4, none⟩ = some (.bool st) := M.cell 0 4 rfl
  go_wp2_with fail
  go_call (readyLine_p ts w.heap.size A0 c0 _ hlen (M.cell 0 0 rfl) (H.out.below M.below)) as r W2 ⟨lb, A, c, ps, rfl, hle, hh, hp, g1⟩
  clear tP qP0 qP1 qP2 qP3 qP4
  replace M : Sep [] w W2 (lineL lb A c ps ++ [.blk (w.heap.size) 34 #[.slice A0 ts.length c0, .slice A1 ks.length c1, .slice A2 fs.length c2, .int .i64 tn, .bool st]]) := Sep.new M g1
  clear g1
  have HP := hide (⟨hh, hp⟩ : _ ∧ _)
  clear hh hp
  have qL : W2.cell? ⟨lb, 0, none⟩ = some (.slice A ps.length c) := M.cell 0 0 rfl
  go_wp2_with fail
  go_call (first_any ps A c (by omega) _ (M.rowS 1 rfl)) as r W9 ⟨rfl, rfl⟩
  clear qL
  rw [ready_line HP.out.1 HP.out.2, show (readyM ts).headD (-1) = firstM ts from rfl]
  clear HP
  go_wp2_with fail
  go_ret
  exact ⟨rfl, M.below⟩

set_option maxRecDepth 100000 in
set_option maxHeartbeats 2000000 in
theorem gWaitersOn_any (ts : List T7) (ks : List Int) (fs : List F2) (A0 A1 A2 : Option Addr) (c0 c1 c2 : Nat) (tn : Int) (st : Bool) (wk on2 : Int) (w : World) (hlen : ts.length ≤ 1048576) (h : Row w A0 (tcells ts)) :
    Calls Try.prog 29 #[.agg #[.slice A0 ts.length c0, .slice A1 ks.length c1, .slice A2 fs.length c2, .int .i64 tn, .bool st], .int .i64 wk, .int .i64 on2] w fun r w' => ∃ (B : Option Addr) (d : Nat), r = .returned (.slice B (waitersM ts wk on2).length d) ∧ Sep [] w w' [rK (waitersM ts wk on2).length B d (waitersM ts wk on2)] := by
  have H := hide h
  clear h
  go_enter Try.func29, Try.ntmps29
  go_wp2_with fail
  have M : Sep [] w (w.alloc (.cells #[.slice A0 ts.length c0, .slice A1 ks.length c1, .slice A2 fs.length c2, .int .i64 tn, .bool st] 34)) [.blk (w.heap.size) 34 #[.slice A0 ts.length c0, .slice A1 ks.length c1, .slice A2 fs.length c2, .int .i64 tn, .bool st]] := Sep.enter1 w
  generalize w.alloc (.cells #[.slice A0 ts.length c0, .slice A1 ks.length c1, .slice A2 fs.length c2, .int .i64 tn, .bool st] 34) = W1 at M ⊢
  have tP : w.heap.size < W1.heap.size := M.lt 0 rfl
  have qP0 : W1.cell? ⟨w.heap.size, 0, none⟩ = some (.slice A0 ts.length c0) := M.cell 0 0 rfl
  have qP1 : W1.cell? ⟨w.heap.size, 1, none⟩ = some (.slice A1 ks.length c1) := M.cell 0 1 rfl
  have qP2 : W1.cell? ⟨w.heap.size, 2, none⟩ = some (.slice A2 fs.length c2) := M.cell 0 2 rfl
  have qP3 : W1.cell? ⟨w.heap.size, 3, none⟩ = some (.int .i64 tn) := M.cell 0 3 rfl
  have qP4 : W1.cell? ⟨w.heap.size, 4, none⟩ = some (.bool st) := M.cell 0 4 rfl
  go_wp2_with fail
  go_call (waitersOn_p ts w.heap.size A0 c0 wk on2 _ hlen (M.cell 0 0 rfl) (H.out.below M.below)) as r W2 ⟨lb, A, c, ps, rfl, hle, hh, hp, g1⟩
  clear tP qP0 qP1 qP2 qP3 qP4
  replace M : Sep [] w W2 (lineL lb A c ps ++ [.blk (w.heap.size) 34 #[.slice A0 ts.length c0, .slice A1 ks.length c1, .slice A2 fs.length c2, .int .i64 tn, .bool st]]) := Sep.new M g1
  clear g1
  have HP := hide (⟨hh, hp⟩ : _ ∧ _)
  clear hh hp
  go_wp2_with fail
  go_call (leave_any ps lb A c (by omega) _ HP.out.1 (LineIn.of M)) as r W3 ⟨B, d, out, rfl, hs, hq, g1⟩
  replace M := Sep.comp (ps := lineL lb A c ps) M g1
  clear g1
  have hE : out.map P3.i = waitersM ts wk on2 := wait_eq hs (hq.trans HP.out.2)
  have hL : out.length = (waitersM ts wk on2).length := by rw [← hE]; simp
  rw [hE, hL] at M
  rw [hL]
  clear hE hL hs hq HP
  go_wp2_with fail
  go_ret
  exact ⟨B, d, rfl, M.take 1⟩

theorem sReadyLine_s (ts : List T7) (ks : List Int) (fs : List F2) (A0 A1 A2 : Option Addr) (c0 c1 c2 : Nat) (tn : Int) (st : Bool) (w : World) (hlen : ts.length ≤ 1048576) (h : Row w A0 (tcells ts)) :
    Calls Try.prog 26 #[.agg #[.slice A0 ts.length c0, .slice A1 ks.length c1, .slice A2 fs.length c2, .int .i64 tn, .bool st]] w fun r w' => ∃ (B : Option Addr) (d : Nat), r = .returned (.slice B (readyM ts).length d) ∧ Sep [] w w' [rK (readyM ts).length B d (readyM ts)] :=
  (readyLine_any ts A0 A1 A2 c0 ks.length c1 fs.length c2 tn st w hlen h).mono fun r w' ⟨A, c, hr, ho, hb⟩ => ⟨A, c, hr, sepRow hb ho⟩
theorem sWaitersOn_s (ts : List T7) (ks : List Int) (fs : List F2) (A0 A1 A2 : Option Addr) (c0 c1 c2 : Nat) (tn : Int) (st : Bool) (wk on2 : Int) (w : World) (hlen : ts.length ≤ 1048576) (h : Row w A0 (tcells ts)) :
    Calls Try.prog 30 #[.agg #[.slice A0 ts.length c0, .slice A1 ks.length c1, .slice A2 fs.length c2, .int .i64 tn, .bool st], .int .i64 wk, .int .i64 on2] w fun r w' => ∃ (B : Option Addr) (d : Nat), r = .returned (.slice B (waitersM ts wk on2).length d) ∧ Sep [] w w' [rK (waitersM ts wk on2).length B d (waitersM ts wk on2)] :=
  (waitersOn_any ts A0 A1 A2 c0 ks.length c1 fs.length c2 tn st wk on2 w hlen h).mono fun r w' ⟨A, c, hr, ho, hb⟩ => ⟨A, c, hr, sepRow hb ho⟩
theorem sFirstReady_s (ts : List T7) (ks : List Int) (fs : List F2) (A0 A1 A2 : Option Addr) (c0 c1 c2 : Nat) (tn : Int) (st : Bool) (w : World) (hlen : ts.length ≤ 1048576) (h : Row w A0 (tcells ts)) :
    Calls Try.prog 38 #[.agg #[.slice A0 ts.length c0, .slice A1 ks.length c1, .slice A2 fs.length c2, .int .i64 tn, .bool st]] w fun r w' => r = .returned (.int .i64 (firstM ts)) ∧ Below w.heap.size w w' :=
  firstReady_any ts A0 A1 A2 c0 ks.length c1 fs.length c2 tn st w hlen h
end Go.Proofs.Ytgbckcidmojnoaa
