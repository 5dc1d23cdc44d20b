/- What the exact laws call, by things in memory: copies of pools, marks. No condition. -/
import Derived.Test.YtgbckcidmojnoaaSepS
import Derived.Test.YtgbckcidmojnoaaMark
namespace Go.Proofs.Ytgbckcidmojnoaa
open Go.RowKit
set_option linter.unusedVariables false

theorem Sep.enter1 {o1 : Array Value} {t1 : TypeId} (w : World) : Sep [] w (w.alloc (.cells o1 t1)) [.blk w.heap.size t1 o1] := (Sep.start w).alloc t1 o1 w.heap.size rfl
theorem szPoolM_pos' {n0 n1 n2 : Nat} (h : n0 + n1 + n2 ≤ 1048576) : szPoolM n0 n1 n2 = 1048576 - ((n0 : Int) + n1 + n2) := by simp [szPoolM, h]
theorem szPoolM_neg' {n0 n1 n2 : Nat} (h : ¬ n0 + n1 + n2 ≤ 1048576) : szPoolM n0 n1 n2 = -1 := by simp [szPoolM, h]
theorem toPool_s (ts : List T7) (ks : List Int) (fs : List F2) (A0 A1 A2 : Option Addr) (c0 c1 c2 : Nat) (tn : Int) (st : Bool) (w : World) (hl : ts.length + ks.length + fs.length ≤ 1048576) (h : InPool w ts ks fs A0 A1 A2) :
    Calls Try.prog 32 #[.agg #[.slice A0 ts.length c0, .slice A1 ks.length c1, .slice A2 fs.length c2, .int .i64 tn, .bool st]] w fun r w' => ∃ (B0 B1 B2 : Option Addr) (d0 d1 d2 : Nat), r = .returned (.agg #[.slice B0 ts.length d0, .slice B1 ks.length d1, .slice B2 fs.length d2, .int .i64 tn, .bool st]) ∧ Sep [] w w' [rT ts.length B0 d0 ts, rK ks.length B1 d1 ks, rF fs.length B2 d2 fs] :=
  (toPool_any ts ks fs A0 A1 A2 c0 c1 c2 tn st w hl h).mono fun r w' ⟨B0, B1, B2, d0, d1, d2, hr, ho, hb⟩ => ⟨B0, B1, B2, d0, d1, d2, hr, sepPool (Nat.le_refl _) hb ho⟩
theorem markT_s (ts : List T7) (A : Option Addr) (c : Nat) (q : Int) (w : World) (hlen : ts.length ≤ 1048576) (hq0 : 0 ≤ q) (hq1 : q ≤ 100000000) (h : (rT ts.length A c ts).here w) :
    Calls Try.prog 78 #[.slice A ts.length c, .int .i64 q] w fun r w' => r = .returned (.int .i64 (q + 7 * ts.length)) ∧ Sep (fps [rT ts.length A c ts]) w w' [rT ts.length A c (markT q ts.length)] :=
  (markT_any ts A c 0 w.heap.size q w hlen hq0 hq1 (OwnR.of h (Nat.le_refl _))).mono fun r w' ⟨hr, ho, hg⟩ => ⟨hr, sepOne (fun _ h => .inl h) hg ho.1⟩
theorem markK_s (ks : List Int) (A : Option Addr) (c : Nat) (q : Int) (w : World) (hlen : ks.length ≤ 1048576) (hq0 : 0 ≤ q) (hq1 : q ≤ 100000000) (h : (rK ks.length A c ks).here w) :
    Calls Try.prog 36 #[.slice A ks.length c, .int .i64 q] w fun r w' => r = .returned (.int .i64 (q + ks.length)) ∧ Sep (fps [rK ks.length A c ks]) w w' [rK ks.length A c (markK q ks.length)] :=
  (markK_any ks A c 0 w.heap.size q w hlen hq0 hq1 (OwnR.of h (Nat.le_refl _))).mono fun r w' ⟨hr, ho, hg⟩ => ⟨hr, sepOne (fun _ h => .inl h) hg ho.1⟩
theorem markF_s (fs : List F2) (A : Option Addr) (c : Nat) (q : Int) (w : World) (hlen : fs.length ≤ 1048576) (hq0 : 0 ≤ q) (hq1 : q ≤ 100000000) (h : (rF fs.length A c fs).here w) :
    Calls Try.prog 79 #[.slice A fs.length c, .int .i64 q] w fun r w' => r = .returned (.int .i64 (q + 2 * fs.length)) ∧ Sep (fps [rF fs.length A c fs]) w w' [rF fs.length A c (markF q fs.length)] :=
  (markF_any fs A c 0 w.heap.size q w hlen hq0 hq1 (OwnR.of h (Nat.le_refl _))).mono fun r w' ⟨hr, ho, hg⟩ => ⟨hr, sepOne (fun _ h => .inl h) hg ho.1⟩
/-- A pool's rows. -/
def poolL (n0 n1 n2 : Nat) (A0 A1 A2 : Option Addr) (c0 c1 c2 : Nat) (ts : List T7) (ks : List Int) (fs : List F2) : List Res := [rT n0 A0 c0 ts, rK n1 A1 c1 ks, rF n2 A2 c2 fs]

set_option maxRecDepth 100000 in
set_option maxHeartbeats 2000000 in
theorem markPool_s (ts : List T7) (ks : List Int) (fs : List F2) (A0 A1 A2 : Option Addr) (c0 c1 c2 : Nat) (tn : Int) (st : Bool) (q : Int) (w : World) (hlen : ts.length + ks.length + fs.length ≤ 1048576) (hq0 : 0 ≤ q) (hq1 : q ≤ 50000000) (h : Sep (fps [rT ts.length A0 c0 ts, rK ks.length A1 c1 ks, rF fs.length A2 c2 fs]) w w [rT ts.length A0 c0 ts, rK ks.length A1 c1 ks, rF fs.length A2 c2 fs]) :
    Calls Try.prog 35 #[.agg #[.slice A0 ts.length c0, .slice A1 ks.length c1, .slice A2 fs.length c2, .int .i64 tn, .bool st], .int .i64 q] w fun r w' => r = .returned (.int .i64 (q + 7 * ts.length + ks.length + 2 * fs.length)) ∧ Sep (fps [rT ts.length A0 c0 ts, rK ks.length A1 c1 ks, rF fs.length A2 c2 fs]) w w' [rT ts.length A0 c0 (markT q ts.length), rK ks.length A1 c1 (markK (q + 7 * ts.length) ks.length), rF fs.length A2 c2 (markF (q + 7 * ts.length + ks.length) fs.length)] := by
  have H := hide h
  clear h
  go_enter Try.func35, Try.ntmps35
  go_wp2_with fail
  have M : Sep (fps [rT ts.length A0 c0 ts, rK ks.length A1 c1 ks, rF fs.length A2 c2 fs]) w (w.alloc (.cells #[.slice A0 ts.length c0, .slice A1 ks.length c1, .slice A2 fs.length c2, .int .i64 tn, .bool st] 34)) [.blk (w.heap.size) 34 #[.slice A0 ts.length c0, .slice A1 ks.length c1, .slice A2 fs.length c2, .int .i64 tn, .bool st], rT ts.length A0 c0 ts, rK ks.length A1 c1 ks, rF fs.length A2 c2 fs] := Sep.allocN H.out 34 #[.slice A0 ts.length c0, .slice A1 ks.length c1, .slice A2 fs.length c2, .int .i64 tn, .bool st]
  generalize w.alloc (.cells #[.slice A0 ts.length c0, .slice A1 ks.length c1, .slice A2 fs.length c2, .int .i64 tn, .bool st] 34) = W0 at M ⊢
  obtain ⟨tP, qP0, qP1, qP2, qP3, qP4⟩ := M.q5 0 rfl
  go_wp2_with fail
  replace M : Sep (fps [rT ts.length A0 c0 ts, rK ks.length A1 c1 ks, rF fs.length A2 c2 fs]) w W0 [rT ts.length A0 c0 ts, .blk (w.heap.size) 34 #[.slice A0 ts.length c0, .slice A1 ks.length c1, .slice A2 fs.length c2, .int .i64 tn, .bool st], rK ks.length A1 c1 ks, rF fs.length A2 c2 fs] := M.front 1 rfl
  go_call (markT_s ts A0 c0 q _ (by omega) hq0 (by omega) (M.rowAt 0 rfl)) as r W1 ⟨rfl, g1⟩
  clear tP qP0 qP1 qP2 qP3 qP4
  replace M : Sep (fps [rT ts.length A0 c0 ts, rK ks.length A1 c1 ks, rF fs.length A2 c2 fs]) w W1 [rT ts.length A0 c0 (markT q ts.length), .blk (w.heap.size) 34 #[.slice A0 ts.length c0, .slice A1 ks.length c1, .slice A2 fs.length c2, .int .i64 tn, .bool st], rK ks.length A1 c1 ks, rF fs.length A2 c2 fs] := Sep.comp (ps := [rT ts.length A0 c0 ts]) (rs := [.blk (w.heap.size) 34 #[.slice A0 ts.length c0, .slice A1 ks.length c1, .slice A2 fs.length c2, .int .i64 tn, .bool st], rK ks.length A1 c1 ks, rF fs.length A2 c2 fs]) M g1
  clear g1
  obtain ⟨tP, qP0, qP1, qP2, qP3, qP4⟩ := M.q5 1 rfl
  go_wp2_with fail
  replace M : Sep (fps [rT ts.length A0 c0 ts, rK ks.length A1 c1 ks, rF fs.length A2 c2 fs]) w W1 [rK ks.length A1 c1 ks, rT ts.length A0 c0 (markT q ts.length), .blk (w.heap.size) 34 #[.slice A0 ts.length c0, .slice A1 ks.length c1, .slice A2 fs.length c2, .int .i64 tn, .bool st], rF fs.length A2 c2 fs] := M.front 2 rfl
  go_call (markK_s ks A1 c1 (q + 7 * ts.length) _ (by omega) (by omega) (by omega) (M.rowAt 0 rfl)) as r W2 ⟨rfl, g1⟩
  clear tP qP0 qP1 qP2 qP3 qP4
  replace M : Sep (fps [rT ts.length A0 c0 ts, rK ks.length A1 c1 ks, rF fs.length A2 c2 fs]) w W2 [rK ks.length A1 c1 (markK (q + 7 * ts.length) ks.length), rT ts.length A0 c0 (markT q ts.length), .blk (w.heap.size) 34 #[.slice A0 ts.length c0, .slice A1 ks.length c1, .slice A2 fs.length c2, .int .i64 tn, .bool st], rF fs.length A2 c2 fs] := Sep.comp (ps := [rK ks.length A1 c1 ks]) (rs := [rT ts.length A0 c0 (markT q ts.length), .blk (w.heap.size) 34 #[.slice A0 ts.length c0, .slice A1 ks.length c1, .slice A2 fs.length c2, .int .i64 tn, .bool st], rF fs.length A2 c2 fs]) M g1
  clear g1
  obtain ⟨tP, qP0, qP1, qP2, qP3, qP4⟩ := M.q5 2 rfl
  go_wp2_with fail
  replace M : Sep (fps [rT ts.length A0 c0 ts, rK ks.length A1 c1 ks, rF fs.length A2 c2 fs]) w W2 [rF fs.length A2 c2 fs, rK ks.length A1 c1 (markK (q + 7 * ts.length) ks.length), rT ts.length A0 c0 (markT q ts.length), .blk (w.heap.size) 34 #[.slice A0 ts.length c0, .slice A1 ks.length c1, .slice A2 fs.length c2, .int .i64 tn, .bool st]] := M.front 3 rfl
  go_call (markF_s fs A2 c2 (q + 7 * ts.length + ks.length) _ (by omega) (by omega) (by omega) (M.rowAt 0 rfl)) as r W3 ⟨rfl, g1⟩
  clear tP qP0 qP1 qP2 qP3 qP4
  replace M : Sep (fps [rT ts.length A0 c0 ts, rK ks.length A1 c1 ks, rF fs.length A2 c2 fs]) w W3 [rF fs.length A2 c2 (markF (q + 7 * ts.length + ks.length) fs.length), rK ks.length A1 c1 (markK (q + 7 * ts.length) ks.length), rT ts.length A0 c0 (markT q ts.length), .blk (w.heap.size) 34 #[.slice A0 ts.length c0, .slice A1 ks.length c1, .slice A2 fs.length c2, .int .i64 tn, .bool st]] := Sep.comp (ps := [rF fs.length A2 c2 fs]) (rs := [rK ks.length A1 c1 (markK (q + 7 * ts.length) ks.length), rT ts.length A0 c0 (markT q ts.length), .blk (w.heap.size) 34 #[.slice A0 ts.length c0, .slice A1 ks.length c1, .slice A2 fs.length c2, .int .i64 tn, .bool st]]) M g1
  clear g1
  obtain ⟨tP, qP0, qP1, qP2, qP3, qP4⟩ := M.q5 3 rfl
  go_wp2_with fail
  go_ret
  refine ⟨rfl, ?_⟩
  replace M := M.front 1 rfl
  replace M := M.front 2 rfl
  exact M.take 3
end Go.Proofs.Ytgbckcidmojnoaa
