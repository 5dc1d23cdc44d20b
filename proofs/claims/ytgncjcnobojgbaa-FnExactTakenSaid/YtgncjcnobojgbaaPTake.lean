/- The program's take, way by way. Lists no longer than a million. -/
import Derived.Test.YtgncjcnobojgbaaPLifeH
import Derived.Test.YtgncjcnobojgbaaPLines
namespace Go.Proofs.Ytgncjcnobojgbaa
open Go.RowKit
set_option linter.unusedVariables false

set_option maxRecDepth 100000 in
set_option maxHeartbeats 800000 in
theorem take_busy (ts : List T7) (ks : List Int) (fs : List F2) (A0 A1 A2 : Option Addr) (c0 c1 c2 : Nat) (tn : Int) (st : Bool) (g : Nat) (wk me : Int) (w : World) (ht : ts.length ≤ 1048576) (hk : ks.length ≤ 1048576) (hf : fs.length ≤ 1048576) (h : Sep (fps [.blk g 34 #[.slice A0 ts.length c0, .slice A1 ks.length c1, .slice A2 fs.length c2, .int .i64 tn, .bool st], rT ts.length A0 c0 ts, rK ks.length A1 c1 ks, rF fs.length A2 c2 fs]) w w [.blk g 34 #[.slice A0 ts.length c0, .slice A1 ks.length c1, .slice A2 fs.length c2, .int .i64 tn, .bool st], rT ts.length A0 c0 ts, rK ks.length A1 c1 ks, rF fs.length A2 c2 fs]) (hr : runM ts wk 0 = me) (hm : 0 ≤ me) :
    Calls Try.prog 99 #[.pointer (some ⟨g, 0, none⟩), .int .i64 wk] w (fun r w' => r = .panicked [{ v := .iface 148 (.int .i64 3), recovered := false }] ∧ Sep (fps [.blk g 34 #[.slice A0 ts.length c0, .slice A1 ks.length c1, .slice A2 fs.length c2, .int .i64 tn, .bool st], rT ts.length A0 c0 ts, rK ks.length A1 c1 ks, rF fs.length A2 c2 fs]) w w' []) := by
  obtain ⟨S, hS⟩ : ∃ S, S = fps [.blk g 34 #[.slice A0 ts.length c0, .slice A1 ks.length c1, .slice A2 fs.length c2, .int .i64 tn, .bool st], rT ts.length A0 c0 ts, rK ks.length A1 c1 ks, rF fs.length A2 c2 fs] := ⟨_, rfl⟩
  rw [← hS] at h ⊢
  clear hS
  have M0 := hide h
  clear h
  have hne : (me != -1) = true := by rw [bne_iff_ne]; omega
  go_enter Try.func99, Try.ntmps99
  go_wp2_with fail
  have M := M0.out.allocN 65 #[.int .i64 0, .int .i64 0]
  clear M0
  generalize w.alloc (.cells #[.int .i64 0, .int .i64 0] 65) = W1 at M ⊢
  have hR := runBy_any ts A0 A1 A2 c0 ks.length c1 fs.length c2 tn st wk g W1 ht (M.blk 1 rfl) (M.rowS 2 rfl)
  rw [hr] at hR
  refine Calls.mono (by with_reducible exact hR) ?_
  clear hR
  rintro r W2 ⟨rfl, g1⟩
  replace M := M.call g1
  clear g1
  go_wp2_with fail
  go_call (giveUp_yes 3 _) as r W ⟨rfl, rfl⟩
  go_wp2_with fail
  exact ⟨rfl, rfl, M.drop 5⟩

set_option maxRecDepth 100000 in
set_option maxHeartbeats 800000 in
theorem take_stop (ts : List T7) (ks : List Int) (fs : List F2) (A0 A1 A2 : Option Addr) (c0 c1 c2 : Nat) (tn : Int) (g : Nat) (wk : Int) (w : World) (ht : ts.length ≤ 1048576) (hk : ks.length ≤ 1048576) (hf : fs.length ≤ 1048576) (h : Sep (fps [.blk g 34 #[.slice A0 ts.length c0, .slice A1 ks.length c1, .slice A2 fs.length c2, .int .i64 tn, .bool true], rT ts.length A0 c0 ts, rK ks.length A1 c1 ks, rF fs.length A2 c2 fs]) w w [.blk g 34 #[.slice A0 ts.length c0, .slice A1 ks.length c1, .slice A2 fs.length c2, .int .i64 tn, .bool true], rT ts.length A0 c0 ts, rK ks.length A1 c1 ks, rF fs.length A2 c2 fs]) (hr : runM ts wk 0 = -1) (hfr : firstM ts = -1) :
    Calls Try.prog 99 #[.pointer (some ⟨g, 0, none⟩), .int .i64 wk] w (fun r w' => r = .panicked [{ v := .iface 148 (.int .i64 6), recovered := false }] ∧ Sep (fps [.blk g 34 #[.slice A0 ts.length c0, .slice A1 ks.length c1, .slice A2 fs.length c2, .int .i64 tn, .bool true], rT ts.length A0 c0 ts, rK ks.length A1 c1 ks, rF fs.length A2 c2 fs]) w w' []) := by
  obtain ⟨S, hS⟩ : ∃ S, S = fps [.blk g 34 #[.slice A0 ts.length c0, .slice A1 ks.length c1, .slice A2 fs.length c2, .int .i64 tn, .bool true], rT ts.length A0 c0 ts, rK ks.length A1 c1 ks, rF fs.length A2 c2 fs] := ⟨_, rfl⟩
  rw [← hS] at h ⊢
  clear hS
  have M0 := hide h
  clear h
  go_enter Try.func99, Try.ntmps99
  go_wp2_with fail
  have M := M0.out.allocN 65 #[.int .i64 0, .int .i64 0]
  clear M0
  generalize w.alloc (.cells #[.int .i64 0, .int .i64 0] 65) = W1 at M ⊢
  have hR := runBy_any ts A0 A1 A2 c0 ks.length c1 fs.length c2 tn true wk g W1 ht (M.blk 1 rfl) (M.rowS 2 rfl)
  rw [hr] at hR
  refine Calls.mono (by with_reducible exact hR) ?_
  clear hR
  rintro r W2 ⟨rfl, g1⟩
  replace M := M.call g1
  clear g1
  go_wp2_with fail
  go_call (giveUp_no 3 _) as r W ⟨rfl, rfl⟩
  obtain ⟨tY, qY0, qY1, qY2, qY3, qY4⟩ := M.q5 1 rfl
  go_wp2_with fail
  have hL := readyLine_p ts g A0 c0 W2 ht (M.cell 1 0 rfl) (M.rowS 2 rfl)
  refine Calls.mono (by with_reducible exact hL) ?_
  clear hL
  rintro r W3 ⟨lb, LA, lc, ps, rfl, hl, hh, hp, g1⟩
  clear tY qY0 qY1 qY2 qY3 qY4
  replace M : Sep S w W3 [.blk (lb) 132 #[.slice LA ps.length lc], rP ps.length LA lc ps, .blk (w.heap.size) 65 #[.int .i64 0, .int .i64 0], .blk (g) 34 #[.slice A0 ts.length c0, .slice A1 ks.length c1, .slice A2 fs.length c2, .int .i64 tn, .bool true], rT ts.length A0 c0 ts, rK ks.length A1 c1 ks, rF fs.length A2 c2 fs] := Sep.new M g1
  clear g1
  have hF := first_any ps LA lc (by omega) W3 (M.rowS 1 rfl)
  rw [ready_line hh hp] at hF
  change Calls _ _ _ _ (fun r w' => r = .returned (.int .i64 (firstM ts)) ∧ w' = W3) at hF
  rw [hfr] at hF
  have HF := hide hF
  clear hF hh hp hl
  obtain ⟨tLB, qLB0⟩ := M.q1 0 rfl
  obtain ⟨tY, qY0, qY1, qY2, qY3, qY4⟩ := M.q5 3 rfl
  go_wp2_with fail
  refine Calls.mono (by with_reducible exact HF.out) ?_
  clear HF
  rintro r WF ⟨rfl, hWF⟩
  subst hWF
  go_wp2_with fail
  go_call (giveUp_yes 6 _) as r W ⟨rfl, rfl⟩
  clear tLB qLB0 tY qY0 qY1 qY2 qY3 qY4
  go_wp2_with fail
  exact ⟨rfl, rfl, M.drop 7⟩

set_option maxRecDepth 100000 in
set_option maxHeartbeats 800000 in
theorem take_none (ts : List T7) (ks : List Int) (fs : List F2) (A0 A1 A2 : Option Addr) (c0 c1 c2 : Nat) (tn : Int) (g : Nat) (wk : Int) (w : World) (ht : ts.length ≤ 1048576) (hk : ks.length ≤ 1048576) (hf : fs.length ≤ 1048576) (h : Sep (fps [.blk g 34 #[.slice A0 ts.length c0, .slice A1 ks.length c1, .slice A2 fs.length c2, .int .i64 tn, .bool false], rT ts.length A0 c0 ts, rK ks.length A1 c1 ks, rF fs.length A2 c2 fs]) w w [.blk g 34 #[.slice A0 ts.length c0, .slice A1 ks.length c1, .slice A2 fs.length c2, .int .i64 tn, .bool false], rT ts.length A0 c0 ts, rK ks.length A1 c1 ks, rF fs.length A2 c2 fs]) (hr : runM ts wk 0 = -1) (hfr : firstM ts = -1) :
    Calls Try.prog 99 #[.pointer (some ⟨g, 0, none⟩), .int .i64 wk] w (fun r w' => r = .panicked [{ v := .iface 148 (.int .i64 2), recovered := false }] ∧ Sep (fps [.blk g 34 #[.slice A0 ts.length c0, .slice A1 ks.length c1, .slice A2 fs.length c2, .int .i64 tn, .bool false], rT ts.length A0 c0 ts, rK ks.length A1 c1 ks, rF fs.length A2 c2 fs]) w w' []) := by
  obtain ⟨S, hS⟩ : ∃ S, S = fps [.blk g 34 #[.slice A0 ts.length c0, .slice A1 ks.length c1, .slice A2 fs.length c2, .int .i64 tn, .bool false], rT ts.length A0 c0 ts, rK ks.length A1 c1 ks, rF fs.length A2 c2 fs] := ⟨_, rfl⟩
  rw [← hS] at h ⊢
  clear hS
  have M0 := hide h
  clear h
  go_enter Try.func99, Try.ntmps99
  go_wp2_with fail
  have M := M0.out.allocN 65 #[.int .i64 0, .int .i64 0]
  clear M0
  generalize w.alloc (.cells #[.int .i64 0, .int .i64 0] 65) = W1 at M ⊢
  have hR := runBy_any ts A0 A1 A2 c0 ks.length c1 fs.length c2 tn false wk g W1 ht (M.blk 1 rfl) (M.rowS 2 rfl)
  rw [hr] at hR
  refine Calls.mono (by with_reducible exact hR) ?_
  clear hR
  rintro r W2 ⟨rfl, g1⟩
  replace M := M.call g1
  clear g1
  go_wp2_with fail
  go_call (giveUp_no 3 _) as r W ⟨rfl, rfl⟩
  obtain ⟨tY, qY0, qY1, qY2, qY3, qY4⟩ := M.q5 1 rfl
  go_wp2_with fail
  have hL := readyLine_p ts g A0 c0 W2 ht (M.cell 1 0 rfl) (M.rowS 2 rfl)
  refine Calls.mono (by with_reducible exact hL) ?_
  clear hL
  rintro r W3 ⟨lb, LA, lc, ps, rfl, hl, hh, hp, g1⟩
  clear tY qY0 qY1 qY2 qY3 qY4
  replace M : Sep S w W3 [.blk (lb) 132 #[.slice LA ps.length lc], rP ps.length LA lc ps, .blk (w.heap.size) 65 #[.int .i64 0, .int .i64 0], .blk (g) 34 #[.slice A0 ts.length c0, .slice A1 ks.length c1, .slice A2 fs.length c2, .int .i64 tn, .bool false], rT ts.length A0 c0 ts, rK ks.length A1 c1 ks, rF fs.length A2 c2 fs] := Sep.new M g1
  clear g1
  have hF := first_any ps LA lc (by omega) W3 (M.rowS 1 rfl)
  rw [ready_line hh hp] at hF
  change Calls _ _ _ _ (fun r w' => r = .returned (.int .i64 (firstM ts)) ∧ w' = W3) at hF
  rw [hfr] at hF
  have HF := hide hF
  clear hF hh hp hl
  obtain ⟨tLB, qLB0⟩ := M.q1 0 rfl
  obtain ⟨tY, qY0, qY1, qY2, qY3, qY4⟩ := M.q5 3 rfl
  go_wp2_with fail
  refine Calls.mono (by with_reducible exact HF.out) ?_
  clear HF
  rintro r WF ⟨rfl, hWF⟩
  subst hWF
  go_wp2_with fail
  go_call (giveUp_no 6 _) as r W ⟨rfl, rfl⟩
  go_wp2_with fail
  go_call (giveUp_yes 2 _) as r W ⟨rfl, rfl⟩
  clear tLB qLB0 tY qY0 qY1 qY2 qY3 qY4
  go_wp2_with fail
  exact ⟨rfl, rfl, M.drop 7⟩

set_option maxRecDepth 100000 in
set_option maxHeartbeats 800000 in
theorem take_ok (ts : List T7) (ks : List Int) (fs : List F2) (A0 A1 A2 : Option Addr) (c0 c1 c2 : Nat) (tn : Int) (st : Bool) (g : Nat) (wk : Int) (w : World) (ht : ts.length ≤ 1048576) (hk : ks.length ≤ 1048576) (hf : fs.length ≤ 1048576) (h : Sep (fps [.blk g 34 #[.slice A0 ts.length c0, .slice A1 ks.length c1, .slice A2 fs.length c2, .int .i64 tn, .bool st], rT ts.length A0 c0 ts, rK ks.length A1 c1 ks, rF fs.length A2 c2 fs]) w w [.blk g 34 #[.slice A0 ts.length c0, .slice A1 ks.length c1, .slice A2 fs.length c2, .int .i64 tn, .bool st], rT ts.length A0 c0 ts, rK ks.length A1 c1 ks, rF fs.length A2 c2 fs]) (k : Nat) (s l o1 wt on v t : Int) (hts : ts[k]? = some ⟨s, l, o1, wt, on, v, t⟩) (hr : runM ts wk 0 = -1) (hfr : firstM ts = k) :
    Calls Try.prog 99 #[.pointer (some ⟨g, 0, none⟩), .int .i64 wk] w (fun r w' => ∃ (D0 D1 D2 : Option Addr) (f0 f1 f2 : Nat), r = .returned (.agg #[.int .i64 1, .int .i64 k]) ∧ Sep (fps [.blk g 34 #[.slice A0 ts.length c0, .slice A1 ks.length c1, .slice A2 fs.length c2, .int .i64 tn, .bool st], rT ts.length A0 c0 ts, rK ks.length A1 c1 ks, rF fs.length A2 c2 fs]) w w' [.blk g 34 #[.slice D0 ts.length f0, .slice D1 ks.length f1, .slice D2 fs.length f2, .int .i64 tn, .bool st], rT ts.length D0 f0 (ts.set k ⟨2, l, wk, wt, on, v, t⟩), rK ks.length D1 f1 ks, rF fs.length D2 f2 fs]) := by
  have hkl : k < ts.length := by
    rcases Nat.lt_or_ge k ts.length with h1 | h1
    · exact h1
    · rw [List.getElem?_eq_none h1] at hts; cases hts
  have hki : (k : Int) < (ts.length : Int) := by omega
  have hk0 : (0 : Int) ≤ (k : Int) := by omega
  have hr9 : (rT ts.length A0 c0 ts).here w := h.rowAt 1 rfl
  obtain ⟨gr, rfl, hgl, hfz9⟩ := rT_form hr9 (show 0 < ts.length by omega)
  clear hr9 hfz9 hgl
  obtain ⟨S, hS⟩ : ∃ S, S = fps [.blk g 34 #[.slice (some ⟨gr, 0, none⟩) ts.length c0, .slice A1 ks.length c1, .slice A2 fs.length c2, .int .i64 tn, .bool st], rT ts.length (some ⟨gr, 0, none⟩) c0 ts, rK ks.length A1 c1 ks, rF fs.length A2 c2 fs] := ⟨_, rfl⟩
  rw [← hS] at h ⊢
  clear hS
  have M0 := hide h
  clear h
  have hne : ((k : Int) == -1) = false := by rw [beq_eq_false_iff_ne]; omega
  have HT := hide hts
  clear hts
  go_enter Try.func99, Try.ntmps99
  go_wp2_with fail
  have M := M0.out.allocN 65 #[.int .i64 0, .int .i64 0]
  clear M0
  generalize w.alloc (.cells #[.int .i64 0, .int .i64 0] 65) = W1 at M ⊢
  have hR := runBy_any ts (some ⟨gr, 0, none⟩) A1 A2 c0 ks.length c1 fs.length c2 tn st wk g W1 ht (M.blk 1 rfl) (M.rowS 2 rfl)
  rw [hr] at hR
  refine Calls.mono (by with_reducible exact hR) ?_
  clear hR
  rintro r W2 ⟨rfl, g1⟩
  replace M := M.call g1
  clear g1
  go_wp2_with fail
  go_call (giveUp_no 3 _) as r W ⟨rfl, rfl⟩
  obtain ⟨tY, qY0, qY1, qY2, qY3, qY4⟩ := M.q5 1 rfl
  go_wp2_with fail
  have hL := readyLine_p ts g (some ⟨gr, 0, none⟩) c0 W2 ht (M.cell 1 0 rfl) (M.rowS 2 rfl)
  refine Calls.mono (by with_reducible exact hL) ?_
  clear hL
  rintro r W3 ⟨lb, LA, lc, ps, rfl, hl, hh, hp, g1⟩
  clear tY qY0 qY1 qY2 qY3 qY4
  replace M : Sep S w W3 [.blk (lb) 132 #[.slice LA ps.length lc], rP ps.length LA lc ps, .blk (w.heap.size) 65 #[.int .i64 0, .int .i64 0], .blk (g) 34 #[.slice (some ⟨gr, 0, none⟩) ts.length c0, .slice A1 ks.length c1, .slice A2 fs.length c2, .int .i64 tn, .bool st], rT ts.length (some ⟨gr, 0, none⟩) c0 ts, rK ks.length A1 c1 ks, rF fs.length A2 c2 fs] := Sep.new M g1
  clear g1
  have hF := first_any ps LA lc (by omega) W3 (M.rowS 1 rfl)
  rw [ready_line hh hp] at hF
  change Calls _ _ _ _ (fun r w' => r = .returned (.int .i64 (firstM ts)) ∧ w' = W3) at hF
  rw [hfr] at hF
  have HF := hide hF
  clear hF hh hp hl
  obtain ⟨tLB, qLB0⟩ := M.q1 0 rfl
  obtain ⟨tY, qY0, qY1, qY2, qY3, qY4⟩ := M.q5 3 rfl
  go_wp2_with fail
  refine Calls.mono (by with_reducible exact HF.out) ?_
  clear HF
  rintro r WF ⟨rfl, hWF⟩
  subst hWF
  go_wp2_with fail
  go_call (giveUp_no 6 _) as r W ⟨rfl, rfl⟩
  go_wp2_with fail
  go_call (giveUp_no 2 _) as r W ⟨rfl, rfl⟩
  clear tLB qLB0 tY qY0 qY1 qY2 qY3 qY4
  obtain ⟨tY, qY0, fY0, qY1, fY1, qY2, fY2, qY3, fY3, qY4, fY4⟩ := M.f5 3 rfl
  have fz0 : WF.frozen? ⟨gr, k * 7, none⟩ = false := Own.fz (M.rowAt 4 rfl) _
  have fz2 : WF.frozen? ⟨gr, k * 7 + 2, none⟩ = false := Own.fz (M.rowAt 4 rfl) _
  obtain ⟨s', l', o', wt', on', v', t', ht', y0, y1, y2, y3, y4, y5, y6⟩ := Own.t7 (M.rowAt 4 rfl) hkl
  go_wp2_with fail
  clear tY qY0 fY0 qY1 fY1 qY2 fY2 qY3 fY3 qY4 fY4 fz0 fz2 ht' y0 y1 y2 y3 y4 y5 y6
  have N : ∃ V, ((WF.setCell ⟨gr, k * 7, none⟩ (.int .i64 2)).setCell ⟨gr, k * 7 + 2, none⟩ (.int .i64 wk)) = V ∧ Sep S w V [.blk (lb) 132 #[.slice LA ps.length lc], rP ps.length LA lc ps, .blk (w.heap.size) 65 #[.int .i64 0, .int .i64 0], .blk (g) 34 #[.slice (some ⟨gr, 0, none⟩) ts.length c0, .slice A1 ks.length c1, .slice A2 fs.length c2, .int .i64 tn, .bool st], rT ts.length (some ⟨gr, 0, none⟩) c0 (ts.set k ⟨2, l, wk, wt, on, v, t⟩), rK ks.length A1 c1 ks, rF fs.length A2 c2 fs] := ⟨_, rfl, M.putT2 4 rfl k 0 2 (by omega) (by omega) ⟨s, l, o1, wt, on, v, t⟩ 2 wk HT.out⟩
  clear M
  obtain ⟨W4, eW, M⟩ := N
  rw [eW]
  clear eW
  go_call (okWith_any k _) as r WO ⟨rfl, g1⟩
  replace M := M.call g1
  clear g1
  obtain ⟨tR, qR0, fR0, qR1, fR1⟩ := M.f2 2 rfl
  go_wp2_with fail
  clear tR qR0 fR0 qR1 fR1
  have N := M.gset2 2 rfl (.int .i64 1) (.int .i64 k)
  clear M
  obtain ⟨W5, eW, M⟩ := N
  rw [eW]
  clear eW
  simp only [List.set_cons_zero, List.set_cons_succ] at M
  replace M := M.front 6 rfl
  simp only [List.eraseIdx_cons_succ, List.eraseIdx_cons_zero] at M
  replace M := M.front 6 rfl
  simp only [List.eraseIdx_cons_succ, List.eraseIdx_cons_zero] at M
  replace M := M.front 6 rfl
  simp only [List.eraseIdx_cons_succ, List.eraseIdx_cons_zero] at M
  replace M := M.front 6 rfl
  simp only [List.eraseIdx_cons_succ, List.eraseIdx_cons_zero] at M
  obtain ⟨tR, qR0, qR1⟩ := M.q2 6 rfl
  exact bodyPost_ret (v := .agg #[.int .i64 1, .int .i64 k]) (by simp [results, Try.results99, go_sem, qR0, qR1]) rfl ⟨(some ⟨gr, 0, none⟩), A1, A2, c0, c1, c2, rfl, M.take 4⟩
end Go.Proofs.Ytgncjcnobojgbaa
