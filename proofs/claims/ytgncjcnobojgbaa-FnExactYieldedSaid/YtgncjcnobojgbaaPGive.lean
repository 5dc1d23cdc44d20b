/- The program's giveBack, way by way. Lists no longer than a million. -/
import Derived.Test.YtgncjcnobojgbaaPLifeH
namespace Go.Proofs.Ytgncjcnobojgbaa
open Go.RowKit
set_option linter.unusedVariables false

set_option maxRecDepth 100000 in
set_option maxHeartbeats 800000 in
theorem giveBack_none (ts : List T7) (ks : List Int) (fs : List F2) (A0 A1 A2 : Option Addr) (c0 c1 c2 : Nat) (tn : Int) (st : Bool) (g : Nat) (wk : Int) (w : World) (ht : ts.length ≤ 1048576) (hk : ks.length ≤ 1048576) (hf : fs.length ≤ 1048576) (h : Sep (fps [.blk g 34 #[.slice A0 ts.length c0, .slice A1 ks.length c1, .slice A2 fs.length c2, .int .i64 tn, .bool st], rT ts.length A0 c0 ts, rK ks.length A1 c1 ks, rF fs.length A2 c2 fs]) w w [.blk g 34 #[.slice A0 ts.length c0, .slice A1 ks.length c1, .slice A2 fs.length c2, .int .i64 tn, .bool st], rT ts.length A0 c0 ts, rK ks.length A1 c1 ks, rF fs.length A2 c2 fs]) (hr : runM ts wk 0 = -1) :
    Calls Try.prog 101 #[.pointer (some ⟨g, 0, none⟩), .int .i64 wk] w (fun r w' => r = .panicked [{ v := .iface 148 (.int .i64 2), recovered := false }] ∧ Sep (fps [.blk g 34 #[.slice A0 ts.length c0, .slice A1 ks.length c1, .slice A2 fs.length c2, .int .i64 tn, .bool st], rT ts.length A0 c0 ts, rK ks.length A1 c1 ks, rF fs.length A2 c2 fs]) w w' []) := by
  obtain ⟨S, hS⟩ : ∃ S, S = fps [.blk g 34 #[.slice A0 ts.length c0, .slice A1 ks.length c1, .slice A2 fs.length c2, .int .i64 tn, .bool st], rT ts.length A0 c0 ts, rK ks.length A1 c1 ks, rF fs.length A2 c2 fs] := ⟨_, rfl⟩
  rw [← hS] at h ⊢
  clear hS
  have M0 := hide h
  clear h
  go_enter Try.func101, Try.ntmps101
  go_wp2_with fail
  have M := M0.out.allocN 65 #[.int .i64 0, .int .i64 0]
  clear M0
  generalize w.alloc (.cells #[.int .i64 0, .int .i64 0] 65) = W1 at M ⊢
  go_call (runNone_no ts A0 A1 A2 c0 ks.length c1 fs.length c2 tn st wk g _ ht (M.blk 1 rfl) (M.rowS 2 rfl) hr) as r W ⟨rfl, g1⟩
  replace M := M.call g1
  clear g1
  go_wp2_with fail
  exact ⟨rfl, rfl, M.drop 5⟩

set_option maxRecDepth 100000 in
set_option maxHeartbeats 800000 in
theorem giveBack_full (ts : List T7) (ks : List Int) (fs : List F2) (A0 A1 A2 : Option Addr) (c0 c1 c2 : Nat) (tn : Int) (st : Bool) (g : Nat) (wk : Int) (w : World) (ht : ts.length ≤ 1048576) (hk : ks.length ≤ 1048576) (hf : fs.length ≤ 1048576) (h : Sep (fps [.blk g 34 #[.slice A0 ts.length c0, .slice A1 ks.length c1, .slice A2 fs.length c2, .int .i64 tn, .bool st], rT ts.length A0 c0 ts, rK ks.length A1 c1 ks, rF fs.length A2 c2 fs]) w w [.blk g 34 #[.slice A0 ts.length c0, .slice A1 ks.length c1, .slice A2 fs.length c2, .int .i64 tn, .bool st], rT ts.length A0 c0 ts, rK ks.length A1 c1 ks, rF fs.length A2 c2 fs]) (k : Nat) (s l o1 wt on v t : Int) (hts : ts[k]? = some ⟨s, l, o1, wt, on, v, t⟩) (hr : runM ts wk 0 = k) (t1 : ¬ tn < 1000000) :
    Calls Try.prog 101 #[.pointer (some ⟨g, 0, none⟩), .int .i64 wk] w (fun r w' => r = .panicked [{ v := .iface 148 (.int .i64 4), recovered := false }] ∧ Sep (fps [.blk g 34 #[.slice A0 ts.length c0, .slice A1 ks.length c1, .slice A2 fs.length c2, .int .i64 tn, .bool st], rT ts.length A0 c0 ts, rK ks.length A1 c1 ks, rF fs.length A2 c2 fs]) w w' []) := by
  have hkl : k < ts.length := by
    rcases Nat.lt_or_ge k ts.length with h1 | h1
    · exact h1
    · rw [List.getElem?_eq_none h1] at hts; cases hts
  have hki : (k : Int) < (ts.length : Int) := by omega
  have hk0 : (0 : Int) ≤ (k : Int) := by omega
  have hr9 : (rT ts.length A0 c0 ts).here w := h.rowAt 1 rfl
  obtain ⟨gr, rfl, hgl, hfz9⟩ := rT_form hr9 (show 0 < ts.length by omega)
  clear hr9 hfz9 hgl
  obtain ⟨S, hS⟩ : ∃ S, S = fps [.blk g 34 #[.slice (some ⟨gr, 0, none⟩) ts.length c0, .slice A1 ks.length c1, .slice A2 fs.length c2, .int .i64 tn, .bool st], rT ts.length (some ⟨gr, 0, none⟩) c0 ts, rK ks.length A1 c1 ks, rF fs.length A2 c2 fs] := ⟨_, rfl⟩
  rw [← hS] at h ⊢
  clear hS
  have M0 := hide h
  clear h
  go_enter Try.func101, Try.ntmps101
  go_wp2_with fail
  have M := M0.out.allocN 65 #[.int .i64 0, .int .i64 0]
  clear M0
  generalize w.alloc (.cells #[.int .i64 0, .int .i64 0] 65) = W1 at M ⊢
  have HT := hide hts
  clear hts
  go_call (runNone_ok ts (some ⟨gr, 0, none⟩) A1 A2 c0 ks.length c1 fs.length c2 tn st wk g k _ ht (M.blk 1 rfl) (M.rowS 2 rfl) hr hk0) as r W2 ⟨rfl, g1⟩
  replace M := M.call g1
  clear g1
  obtain ⟨tY, qY0, fY0, qY1, fY1, qY2, fY2, qY3, fY3, qY4, fY4⟩ := M.f5 1 rfl
  have fz0 : W2.frozen? ⟨gr, k * 7, none⟩ = false := Own.fz (M.rowAt 2 rfl) _
  have fz2 : W2.frozen? ⟨gr, k * 7 + 2, none⟩ = false := Own.fz (M.rowAt 2 rfl) _
  obtain ⟨s', l', o', wt', on', v', t', ht', y0, y1, y2, y3, y4, y5, y6⟩ := Own.t7 (M.rowAt 2 rfl) hkl
  go_wp2_with fail
  clear tY qY0 fY0 qY1 fY1 qY2 fY2 qY3 fY3 qY4 fY4 fz0 fz2 ht' y0 y1 y2 y3 y4 y5 y6
  have N : ∃ V, ((W2.setCell ⟨gr, k * 7, none⟩ (.int .i64 1)).setCell ⟨gr, k * 7 + 2, none⟩ (.int .i64 (-1))) = V ∧ Sep S w V [.blk (w.heap.size) 65 #[.int .i64 0, .int .i64 0], .blk (g) 34 #[.slice (some ⟨gr, 0, none⟩) ts.length c0, .slice A1 ks.length c1, .slice A2 fs.length c2, .int .i64 tn, .bool st], rT ts.length (some ⟨gr, 0, none⟩) c0 (ts.set k ⟨1, l, -1, wt, on, v, t⟩), rK ks.length A1 c1 ks, rF fs.length A2 c2 fs] := ⟨_, rfl, M.putT2 2 rfl k 0 2 (by omega) (by omega) ⟨s, l, o1, wt, on, v, t⟩ 1 (-1) HT.out⟩
  clear M
  obtain ⟨W3, eW, M⟩ := N
  rw [eW]
  clear eW
  go_call (turn_full (some ⟨gr, 0, none⟩) A1 A2 ts.length c0 ks.length c1 fs.length c2 tn st g _ (by omega) (M.blk 1 rfl)) as r W8 ⟨rfl, rfl⟩
  go_wp2_with fail
  exact ⟨rfl, rfl, M.drop 5⟩

set_option maxRecDepth 100000 in
set_option maxHeartbeats 800000 in
theorem giveBack_ok (ts : List T7) (ks : List Int) (fs : List F2) (A0 A1 A2 : Option Addr) (c0 c1 c2 : Nat) (tn : Int) (st : Bool) (g : Nat) (wk : Int) (w : World) (ht : ts.length ≤ 1048576) (hk : ks.length ≤ 1048576) (hf : fs.length ≤ 1048576) (h : Sep (fps [.blk g 34 #[.slice A0 ts.length c0, .slice A1 ks.length c1, .slice A2 fs.length c2, .int .i64 tn, .bool st], rT ts.length A0 c0 ts, rK ks.length A1 c1 ks, rF fs.length A2 c2 fs]) w w [.blk g 34 #[.slice A0 ts.length c0, .slice A1 ks.length c1, .slice A2 fs.length c2, .int .i64 tn, .bool st], rT ts.length A0 c0 ts, rK ks.length A1 c1 ks, rF fs.length A2 c2 fs]) (k : Nat) (s l o1 wt on v t : Int) (hts : ts[k]? = some ⟨s, l, o1, wt, on, v, t⟩) (hr : runM ts wk 0 = k) (t0 : 0 ≤ tn) (t1 : tn < 1000000) :
    Calls Try.prog 101 #[.pointer (some ⟨g, 0, none⟩), .int .i64 wk] w (fun r w' => ∃ (D0 D1 D2 : Option Addr) (f0 f1 f2 : Nat), r = .returned (.agg #[.int .i64 1, .int .i64 k]) ∧ Sep (fps [.blk g 34 #[.slice A0 ts.length c0, .slice A1 ks.length c1, .slice A2 fs.length c2, .int .i64 tn, .bool st], rT ts.length A0 c0 ts, rK ks.length A1 c1 ks, rF fs.length A2 c2 fs]) w w' [.blk g 34 #[.slice D0 ts.length f0, .slice D1 ks.length f1, .slice D2 fs.length f2, .int .i64 (tn + 1), .bool st], rT ts.length D0 f0 (ts.set k ⟨1, l, -1, wt, on, v, tn⟩), rK ks.length D1 f1 ks, rF fs.length D2 f2 fs]) := by
  have hkl : k < ts.length := by
    rcases Nat.lt_or_ge k ts.length with h1 | h1
    · exact h1
    · rw [List.getElem?_eq_none h1] at hts; cases hts
  have hki : (k : Int) < (ts.length : Int) := by omega
  have hk0 : (0 : Int) ≤ (k : Int) := by omega
  have hr9 : (rT ts.length A0 c0 ts).here w := h.rowAt 1 rfl
  obtain ⟨gr, rfl, hgl, hfz9⟩ := rT_form hr9 (show 0 < ts.length by omega)
  clear hr9 hfz9 hgl
  obtain ⟨S, hS⟩ : ∃ S, S = fps [.blk g 34 #[.slice (some ⟨gr, 0, none⟩) ts.length c0, .slice A1 ks.length c1, .slice A2 fs.length c2, .int .i64 tn, .bool st], rT ts.length (some ⟨gr, 0, none⟩) c0 ts, rK ks.length A1 c1 ks, rF fs.length A2 c2 fs] := ⟨_, rfl⟩
  rw [← hS] at h ⊢
  clear hS
  have M0 := hide h
  clear h
  go_enter Try.func101, Try.ntmps101
  go_wp2_with fail
  have M := M0.out.allocN 65 #[.int .i64 0, .int .i64 0]
  clear M0
  generalize w.alloc (.cells #[.int .i64 0, .int .i64 0] 65) = W1 at M ⊢
  have HT := hide hts
  clear hts
  go_call (runNone_ok ts (some ⟨gr, 0, none⟩) A1 A2 c0 ks.length c1 fs.length c2 tn st wk g k _ ht (M.blk 1 rfl) (M.rowS 2 rfl) hr hk0) as r W2 ⟨rfl, g1⟩
  replace M := M.call g1
  clear g1
  obtain ⟨tY, qY0, fY0, qY1, fY1, qY2, fY2, qY3, fY3, qY4, fY4⟩ := M.f5 1 rfl
  have fz0 : W2.frozen? ⟨gr, k * 7, none⟩ = false := Own.fz (M.rowAt 2 rfl) _
  have fz2 : W2.frozen? ⟨gr, k * 7 + 2, none⟩ = false := Own.fz (M.rowAt 2 rfl) _
  obtain ⟨s', l', o', wt', on', v', t', ht', y0, y1, y2, y3, y4, y5, y6⟩ := Own.t7 (M.rowAt 2 rfl) hkl
  go_wp2_with fail
  clear tY qY0 fY0 qY1 fY1 qY2 fY2 qY3 fY3 qY4 fY4 fz0 fz2 ht' y0 y1 y2 y3 y4 y5 y6
  have N : ∃ V, ((W2.setCell ⟨gr, k * 7, none⟩ (.int .i64 1)).setCell ⟨gr, k * 7 + 2, none⟩ (.int .i64 (-1))) = V ∧ Sep S w V [.blk (w.heap.size) 65 #[.int .i64 0, .int .i64 0], .blk (g) 34 #[.slice (some ⟨gr, 0, none⟩) ts.length c0, .slice A1 ks.length c1, .slice A2 fs.length c2, .int .i64 tn, .bool st], rT ts.length (some ⟨gr, 0, none⟩) c0 (ts.set k ⟨1, l, -1, wt, on, v, t⟩), rK ks.length A1 c1 ks, rF fs.length A2 c2 fs] := ⟨_, rfl, M.putT2 2 rfl k 0 2 (by omega) (by omega) ⟨s, l, o1, wt, on, v, t⟩ 1 (-1) HT.out⟩
  clear M
  obtain ⟨W3, eW, M⟩ := N
  rw [eW]
  clear eW
  go_call (turn_ok (some ⟨gr, 0, none⟩) A1 A2 ts.length c0 ks.length c1 fs.length c2 tn st g _ t0 t1 (M.blk 1 rfl)) as r W8 ⟨rfl, rfl⟩
  replace M := M.set 1 rfl 3 (.int .i64 (tn + 1))
  generalize World.setCell W3 ⟨g, 3, none⟩ (.int .i64 (tn + 1)) = W4 at M ⊢
  have fz6 : W4.frozen? ⟨gr, k * 7 + 6, none⟩ = false := Own.fz (M.rowAt 2 rfl) _
  obtain ⟨s', l', o', wt', on', v', t', ht', y0, y1, y2, y3, y4, y5, y6⟩ := Own.t7 (M.rowAt 2 rfl) (show k < (ts.set k ⟨1, l, -1, wt, on, v, t⟩).length by simpa using hkl)
  go_wp2_with fail
  clear fz6 ht' y0 y1 y2 y3 y4 y5 y6
  have N : ∃ V, (W4.setCell ⟨gr, k * 7 + 6, none⟩ (.int .i64 tn)) = V ∧ Sep S w V [.blk (w.heap.size) 65 #[.int .i64 0, .int .i64 0], .blk (g) 34 #[.slice (some ⟨gr, 0, none⟩) ts.length c0, .slice A1 ks.length c1, .slice A2 fs.length c2, .int .i64 (tn + 1), .bool st], rT ts.length (some ⟨gr, 0, none⟩) c0 (ts.set k ⟨1, l, -1, wt, on, v, tn⟩), rK ks.length A1 c1 ks, rF fs.length A2 c2 fs] := ⟨_, rfl, by have h2 := M.putT 2 rfl k 6 (by omega) ⟨1, l, -1, wt, on, v, t⟩ tn (List.getElem?_set_self hkl); rw [List.set_set] at h2; exact h2⟩
  clear M
  obtain ⟨W5, eW, M⟩ := N
  rw [eW]
  clear eW
  go_call (okWith_any k _) as r WO ⟨rfl, g1⟩
  replace M := M.call g1
  clear g1
  obtain ⟨tR, qR0, fR0, qR1, fR1⟩ := M.f2 0 rfl
  go_wp2_with fail
  clear tR qR0 fR0 qR1 fR1
  have N := M.gset2 0 rfl (.int .i64 1) (.int .i64 k)
  clear M
  obtain ⟨W6, eW, M⟩ := N
  rw [eW]
  clear eW
  simp only [List.set_cons_zero] at M
  replace M := M.front 4 rfl
  simp only [List.eraseIdx_cons_succ, List.eraseIdx_cons_zero] at M
  replace M := M.front 4 rfl
  simp only [List.eraseIdx_cons_succ, List.eraseIdx_cons_zero] at M
  replace M := M.front 4 rfl
  simp only [List.eraseIdx_cons_succ, List.eraseIdx_cons_zero] at M
  replace M := M.front 4 rfl
  simp only [List.eraseIdx_cons_succ, List.eraseIdx_cons_zero] at M
  obtain ⟨tR, qR0, qR1⟩ := M.q2 4 rfl
  exact bodyPost_ret (v := .agg #[.int .i64 1, .int .i64 k]) (by simp [results, Try.results101, go_sem, qR0, qR1]) rfl ⟨(some ⟨gr, 0, none⟩), A1, A2, c0, c1, c2, rfl, M.take 4⟩
end Go.Proofs.Ytgncjcnobojgbaa
