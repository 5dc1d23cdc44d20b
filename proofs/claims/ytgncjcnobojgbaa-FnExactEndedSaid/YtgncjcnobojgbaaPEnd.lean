/- The program's end, way by way. Lists no longer than a million. -/
import Derived.Test.YtgncjcnobojgbaaPLifeH
import Derived.Test.YtgncjcnobojgbaaPWaiters
namespace Go.Proofs.Ytgncjcnobojgbaa
open Go.RowKit
set_option linter.unusedVariables false

set_option maxRecDepth 100000 in
set_option maxHeartbeats 800000 in
theorem end_val (ts : List T7) (ks : List Int) (fs : List F2) (A0 A1 A2 : Option Addr) (c0 c1 c2 : Nat) (tn : Int) (st : Bool) (g : Nat) (wk vv : Int) (w : World) (ht : ts.length ≤ 1048576) (hk : ks.length ≤ 1048576) (hf : fs.length ≤ 1048576) (h : Sep (fps [.blk g 34 #[.slice A0 ts.length c0, .slice A1 ks.length c1, .slice A2 fs.length c2, .int .i64 tn, .bool st], rT ts.length A0 c0 ts, rK ks.length A1 c1 ks, rF fs.length A2 c2 fs]) w w [.blk g 34 #[.slice A0 ts.length c0, .slice A1 ks.length c1, .slice A2 fs.length c2, .int .i64 tn, .bool st], rT ts.length A0 c0 ts, rK ks.length A1 c1 ks, rF fs.length A2 c2 fs]) (hv : btw vv 0 9999 = false) :
    Calls Try.prog 103 #[.pointer (some ⟨g, 0, none⟩), .int .i64 wk, .int .i64 vv] w (fun r w' => r = .panicked [{ v := .iface 148 (.int .i64 8), recovered := false }] ∧ Sep (fps [.blk g 34 #[.slice A0 ts.length c0, .slice A1 ks.length c1, .slice A2 fs.length c2, .int .i64 tn, .bool st], rT ts.length A0 c0 ts, rK ks.length A1 c1 ks, rF fs.length A2 c2 fs]) w w' []) := by
  obtain ⟨S, hS⟩ : ∃ S, S = fps [.blk g 34 #[.slice A0 ts.length c0, .slice A1 ks.length c1, .slice A2 fs.length c2, .int .i64 tn, .bool st], rT ts.length A0 c0 ts, rK ks.length A1 c1 ks, rF fs.length A2 c2 fs] := ⟨_, rfl⟩
  rw [← hS] at h ⊢
  clear hS
  have M0 := hide h
  clear h
  go_enter Try.func103, Try.ntmps103
  go_wp2_with fail
  have M := M0.out.allocN 65 #[.int .i64 0, .int .i64 0]
  clear M0
  generalize w.alloc (.cells #[.int .i64 0, .int .i64 0] 65) = W1 at M ⊢
  have hB := between_any vv 0 9999 W1
  rw [hv] at hB
  refine Calls.mono (by with_reducible exact hB) ?_
  clear hB
  rintro r WB ⟨rfl, rfl⟩
  go_wp2_with fail
  go_call (giveUp_yes 8 _) as r W ⟨rfl, rfl⟩
  go_wp2_with fail
  exact ⟨rfl, rfl, M.drop 5⟩

set_option maxRecDepth 100000 in
set_option maxHeartbeats 800000 in
theorem end_none (ts : List T7) (ks : List Int) (fs : List F2) (A0 A1 A2 : Option Addr) (c0 c1 c2 : Nat) (tn : Int) (st : Bool) (g : Nat) (wk vv : Int) (w : World) (ht : ts.length ≤ 1048576) (hk : ks.length ≤ 1048576) (hf : fs.length ≤ 1048576) (h : Sep (fps [.blk g 34 #[.slice A0 ts.length c0, .slice A1 ks.length c1, .slice A2 fs.length c2, .int .i64 tn, .bool st], rT ts.length A0 c0 ts, rK ks.length A1 c1 ks, rF fs.length A2 c2 fs]) w w [.blk g 34 #[.slice A0 ts.length c0, .slice A1 ks.length c1, .slice A2 fs.length c2, .int .i64 tn, .bool st], rT ts.length A0 c0 ts, rK ks.length A1 c1 ks, rF fs.length A2 c2 fs]) (hv : btw vv 0 9999 = true) (hr : runM ts wk 0 = -1) :
    Calls Try.prog 103 #[.pointer (some ⟨g, 0, none⟩), .int .i64 wk, .int .i64 vv] w (fun r w' => r = .panicked [{ v := .iface 148 (.int .i64 2), recovered := false }] ∧ Sep (fps [.blk g 34 #[.slice A0 ts.length c0, .slice A1 ks.length c1, .slice A2 fs.length c2, .int .i64 tn, .bool st], rT ts.length A0 c0 ts, rK ks.length A1 c1 ks, rF fs.length A2 c2 fs]) w w' []) := by
  obtain ⟨S, hS⟩ : ∃ S, S = fps [.blk g 34 #[.slice A0 ts.length c0, .slice A1 ks.length c1, .slice A2 fs.length c2, .int .i64 tn, .bool st], rT ts.length A0 c0 ts, rK ks.length A1 c1 ks, rF fs.length A2 c2 fs] := ⟨_, rfl⟩
  rw [← hS] at h ⊢
  clear hS
  have M0 := hide h
  clear h
  go_enter Try.func103, Try.ntmps103
  go_wp2_with fail
  have M := M0.out.allocN 65 #[.int .i64 0, .int .i64 0]
  clear M0
  generalize w.alloc (.cells #[.int .i64 0, .int .i64 0] 65) = W1 at M ⊢
  have hB := between_any vv 0 9999 W1
  rw [hv] at hB
  refine Calls.mono (by with_reducible exact hB) ?_
  clear hB
  rintro r WB ⟨rfl, rfl⟩
  go_wp2_with fail
  go_call (giveUp_no 8 _) as r W ⟨rfl, rfl⟩
  go_wp2_with fail
  go_call (runNone_no ts A0 A1 A2 c0 ks.length c1 fs.length c2 tn st wk g _ ht (M.blk 1 rfl) (M.rowS 2 rfl) hr) as r W2 ⟨rfl, g1⟩
  replace M := M.call g1
  clear g1
  go_wp2_with fail
  exact ⟨rfl, rfl, M.drop 5⟩

set_option maxRecDepth 100000 in
set_option maxHeartbeats 800000 in
theorem end_full (ts : List T7) (ks : List Int) (fs : List F2) (A0 A1 A2 : Option Addr) (c0 c1 c2 : Nat) (tn : Int) (st : Bool) (g : Nat) (wk vv : Int) (w : World) (ht : ts.length ≤ 1048576) (hk : ks.length ≤ 1048576) (hf : fs.length ≤ 1048576) (h : Sep (fps [.blk g 34 #[.slice A0 ts.length c0, .slice A1 ks.length c1, .slice A2 fs.length c2, .int .i64 tn, .bool st], rT ts.length A0 c0 ts, rK ks.length A1 c1 ks, rF fs.length A2 c2 fs]) w w [.blk g 34 #[.slice A0 ts.length c0, .slice A1 ks.length c1, .slice A2 fs.length c2, .int .i64 tn, .bool st], rT ts.length A0 c0 ts, rK ks.length A1 c1 ks, rF fs.length A2 c2 fs]) (k : Nat) (s l o1 wt on v t : Int) (hts : ts[k]? = some ⟨s, l, o1, wt, on, v, t⟩) (hv : btw vv 0 9999 = true) (hr : runM ts wk 0 = k) (t0 : 0 ≤ tn) (t1 : tn ≤ 1000000) (ho : okAll (waitersM (ts.set k ⟨4, l, -1, wt, on, vv, t⟩) 1 k) vv tn = false) :
    Calls Try.prog 103 #[.pointer (some ⟨g, 0, none⟩), .int .i64 wk, .int .i64 vv] w (fun r w' => r = .panicked [{ v := .iface 148 (.int .i64 4), recovered := false }] ∧ Sep (fps [.blk g 34 #[.slice A0 ts.length c0, .slice A1 ks.length c1, .slice A2 fs.length c2, .int .i64 tn, .bool st], rT ts.length A0 c0 ts, rK ks.length A1 c1 ks, rF fs.length A2 c2 fs]) w w' []) := by
  have hkl : k < ts.length := by
    rcases Nat.lt_or_ge k ts.length with h1 | h1
    · exact h1
    · rw [List.getElem?_eq_none h1] at hts; cases hts
  have hki : (k : Int) < (ts.length : Int) := by omega
  have hk0 : (0 : Int) ≤ (k : Int) := by omega
  have hr9 : (rT ts.length A0 c0 ts).here w := h.rowAt 1 rfl
  obtain ⟨gr, rfl, hgl, hfz9⟩ := rT_form hr9 (show 0 < ts.length by omega)
  clear hr9 hfz9 hgl
  obtain ⟨S, hS⟩ : ∃ S, S = fps [.blk g 34 #[.slice (some ⟨gr, 0, none⟩) ts.length c0, .slice A1 ks.length c1, .slice A2 fs.length c2, .int .i64 tn, .bool st], rT ts.length (some ⟨gr, 0, none⟩) c0 ts, rK ks.length A1 c1 ks, rF fs.length A2 c2 fs] := ⟨_, rfl⟩
  rw [← hS] at h ⊢
  clear hS
  have M0 := hide h
  clear h
  have HT := hide hts
  clear hts
  go_enter Try.func103, Try.ntmps103
  go_wp2_with fail
  have M := M0.out.allocN 65 #[.int .i64 0, .int .i64 0]
  clear M0
  generalize w.alloc (.cells #[.int .i64 0, .int .i64 0] 65) = W1 at M ⊢
  have hB := between_any vv 0 9999 W1
  rw [hv] at hB
  refine Calls.mono (by with_reducible exact hB) ?_
  clear hB
  rintro r WB ⟨rfl, rfl⟩
  go_wp2_with fail
  go_call (giveUp_no 8 _) as r W ⟨rfl, rfl⟩
  go_wp2_with fail
  go_call (runNone_ok ts (some ⟨gr, 0, none⟩) A1 A2 c0 ks.length c1 fs.length c2 tn st wk g k _ ht (M.blk 1 rfl) (M.rowS 2 rfl) hr hk0) as r W2 ⟨rfl, g1⟩
  replace M := M.call g1
  clear g1
  obtain ⟨tY, qY0, fY0, qY1, fY1, qY2, fY2, qY3, fY3, qY4, fY4⟩ := M.f5 1 rfl
  have fz0 : W2.frozen? ⟨gr, k * 7, none⟩ = false := Own.fz (M.rowAt 2 rfl) _
  have fz2 : W2.frozen? ⟨gr, k * 7 + 2, none⟩ = false := Own.fz (M.rowAt 2 rfl) _
  have fz5 : W2.frozen? ⟨gr, k * 7 + 5, none⟩ = false := Own.fz (M.rowAt 2 rfl) _
  obtain ⟨s', l', o', wt', on', v', t', ht', y0, y1, y2, y3, y4, y5, y6⟩ := Own.t7 (M.rowAt 2 rfl) hkl
  go_wp2_with fail
  clear tY qY0 fY0 qY1 fY1 qY2 fY2 qY3 fY3 qY4 fY4 fz0 fz2 fz5 ht' y0 y1 y2 y3 y4 y5 y6
  have N : ∃ V, (((W2.setCell ⟨gr, k * 7, none⟩ (.int .i64 4)).setCell ⟨gr, k * 7 + 2, none⟩ (.int .i64 (-1))).setCell ⟨gr, k * 7 + 5, none⟩ (.int .i64 vv)) = V ∧ Sep S w V [.blk (w.heap.size) 65 #[.int .i64 0, .int .i64 0], .blk (g) 34 #[.slice (some ⟨gr, 0, none⟩) ts.length c0, .slice A1 ks.length c1, .slice A2 fs.length c2, .int .i64 tn, .bool st], rT ts.length (some ⟨gr, 0, none⟩) c0 (ts.set k ⟨4, l, -1, wt, on, vv, t⟩), rK ks.length A1 c1 ks, rF fs.length A2 c2 fs] := ⟨_, rfl, by have h2 := (M.putT2 2 rfl k 0 2 (by omega) (by omega) ⟨s, l, o1, wt, on, v, t⟩ 4 (-1) HT.out).putT 2 rfl k 5 (by omega) ⟨4, l, -1, wt, on, v, t⟩ vv (List.getElem?_set_self hkl); simp only [List.set_set] at h2; exact h2⟩
  clear M
  obtain ⟨W3, eW, M⟩ := N
  rw [eW]
  clear eW
  replace M := M.front 2 rfl
  simp only [List.eraseIdx_cons_succ, List.eraseIdx_cons_zero] at M
  replace M := M.front 2 rfl
  simp only [List.eraseIdx_cons_succ, List.eraseIdx_cons_zero] at M
  obtain ⟨us1, hus1⟩ : ∃ us1, us1 = ts.set k ⟨4, l, -1, wt, on, vv, t⟩ := ⟨_, rfl⟩
  rw [← hus1] at M ho
  have hl1 : us1.length = ts.length := by rw [hus1]; simp
  have hA := wakeAll_any us1 (some ⟨gr, 0, none⟩) A1 A2 c0 ks.length c1 fs.length c2 tn st g 1 k vv W3 (by omega) t0 t1 (by rw [hl1]; exact Sep.same (ps := [.blk (g) 34 #[.slice (some ⟨gr, 0, none⟩) ts.length c0, .slice A1 ks.length c1, .slice A2 fs.length c2, .int .i64 tn, .bool st], rT ts.length (some ⟨gr, 0, none⟩) c0 us1]) (rs := [.blk (w.heap.size) 65 #[.int .i64 0, .int .i64 0], rK ks.length A1 c1 ks, rF fs.length A2 c2 fs]) M (Below.refl _ _))
  rw [hl1] at hA
  refine Calls.mono (by with_reducible exact hA) ?_
  clear hA
  rintro r W4 ⟨us, tn', cnt, rfl, hul, g1, hR⟩
  replace M : Sep S w W4 [.blk (g) 34 #[.slice (some ⟨gr, 0, none⟩) ts.length c0, .slice A1 ks.length c1, .slice A2 fs.length c2, .int .i64 tn', .bool st], rT ts.length (some ⟨gr, 0, none⟩) c0 us, .blk (w.heap.size) 65 #[.int .i64 0, .int .i64 0], rK ks.length A1 c1 ks, rF fs.length A2 c2 fs] := Sep.comp (ps := [.blk (g) 34 #[.slice (some ⟨gr, 0, none⟩) ts.length c0, .slice A1 ks.length c1, .slice A2 fs.length c2, .int .i64 tn, .bool st], rT ts.length (some ⟨gr, 0, none⟩) c0 us1]) (rs := [.blk (w.heap.size) 65 #[.int .i64 0, .int .i64 0], rK ks.length A1 c1 ks, rF fs.length A2 c2 fs]) M g1
  clear g1
  obtain rfl : cnt = -1 := hR.elim (fun h => by rw [ho] at h; cases h.1) (fun h => h.2)
  clear hR hul hl1
  go_wp2_with fail
  go_call (giveUp_yes 4 _) as r W ⟨rfl, rfl⟩
  go_wp2_with fail
  exact ⟨rfl, rfl, M.drop 5⟩

set_option maxRecDepth 100000 in
set_option maxHeartbeats 800000 in
theorem end_ok (ts : List T7) (ks : List Int) (fs : List F2) (A0 A1 A2 : Option Addr) (c0 c1 c2 : Nat) (tn : Int) (st : Bool) (g : Nat) (wk vv : Int) (w : World) (ht : ts.length ≤ 1048576) (hk : ks.length ≤ 1048576) (hf : fs.length ≤ 1048576) (h : Sep (fps [.blk g 34 #[.slice A0 ts.length c0, .slice A1 ks.length c1, .slice A2 fs.length c2, .int .i64 tn, .bool st], rT ts.length A0 c0 ts, rK ks.length A1 c1 ks, rF fs.length A2 c2 fs]) w w [.blk g 34 #[.slice A0 ts.length c0, .slice A1 ks.length c1, .slice A2 fs.length c2, .int .i64 tn, .bool st], rT ts.length A0 c0 ts, rK ks.length A1 c1 ks, rF fs.length A2 c2 fs]) (k : Nat) (s l o1 wt on v t : Int) (hts : ts[k]? = some ⟨s, l, o1, wt, on, v, t⟩) (hv : btw vv 0 9999 = true) (hr : runM ts wk 0 = k) (t0 : 0 ≤ tn) (t1 : tn ≤ 1000000) (ho : okAll (waitersM (ts.set k ⟨4, l, -1, wt, on, vv, t⟩) 1 k) vv tn = true) :
    Calls Try.prog 103 #[.pointer (some ⟨g, 0, none⟩), .int .i64 wk, .int .i64 vv] w (fun r w' => ∃ (D0 D1 D2 : Option Addr) (f0 f1 f2 : Nat), r = .returned (.agg #[.int .i64 1, .int .i64 ((waitersM (ts.set k ⟨4, l, -1, wt, on, vv, t⟩) 1 k).length : Int)]) ∧ Sep (fps [.blk g 34 #[.slice A0 ts.length c0, .slice A1 ks.length c1, .slice A2 fs.length c2, .int .i64 tn, .bool st], rT ts.length A0 c0 ts, rK ks.length A1 c1 ks, rF fs.length A2 c2 fs]) w w' [.blk g 34 #[.slice D0 ts.length f0, .slice D1 ks.length f1, .slice D2 fs.length f2, .int .i64 (tn + ((waitersM (ts.set k ⟨4, l, -1, wt, on, vv, t⟩) 1 k).length : Int)), .bool st], rT ts.length D0 f0 (wakeAllT (waitersM (ts.set k ⟨4, l, -1, wt, on, vv, t⟩) 1 k) (ts.set k ⟨4, l, -1, wt, on, vv, t⟩) tn vv), rK ks.length D1 f1 ks, rF fs.length D2 f2 fs]) := by
  have hkl : k < ts.length := by
    rcases Nat.lt_or_ge k ts.length with h1 | h1
    · exact h1
    · rw [List.getElem?_eq_none h1] at hts; cases hts
  have hki : (k : Int) < (ts.length : Int) := by omega
  have hk0 : (0 : Int) ≤ (k : Int) := by omega
  have hr9 : (rT ts.length A0 c0 ts).here w := h.rowAt 1 rfl
  obtain ⟨gr, rfl, hgl, hfz9⟩ := rT_form hr9 (show 0 < ts.length by omega)
  clear hr9 hfz9 hgl
  obtain ⟨S, hS⟩ : ∃ S, S = fps [.blk g 34 #[.slice (some ⟨gr, 0, none⟩) ts.length c0, .slice A1 ks.length c1, .slice A2 fs.length c2, .int .i64 tn, .bool st], rT ts.length (some ⟨gr, 0, none⟩) c0 ts, rK ks.length A1 c1 ks, rF fs.length A2 c2 fs] := ⟨_, rfl⟩
  rw [← hS] at h ⊢
  clear hS
  have M0 := hide h
  clear h
  have HT := hide hts
  clear hts
  go_enter Try.func103, Try.ntmps103
  go_wp2_with fail
  have M := M0.out.allocN 65 #[.int .i64 0, .int .i64 0]
  clear M0
  generalize w.alloc (.cells #[.int .i64 0, .int .i64 0] 65) = W1 at M ⊢
  have hB := between_any vv 0 9999 W1
  rw [hv] at hB
  refine Calls.mono (by with_reducible exact hB) ?_
  clear hB
  rintro r WB ⟨rfl, rfl⟩
  go_wp2_with fail
  go_call (giveUp_no 8 _) as r W ⟨rfl, rfl⟩
  go_wp2_with fail
  go_call (runNone_ok ts (some ⟨gr, 0, none⟩) A1 A2 c0 ks.length c1 fs.length c2 tn st wk g k _ ht (M.blk 1 rfl) (M.rowS 2 rfl) hr hk0) as r W2 ⟨rfl, g1⟩
  replace M := M.call g1
  clear g1
  obtain ⟨tY, qY0, fY0, qY1, fY1, qY2, fY2, qY3, fY3, qY4, fY4⟩ := M.f5 1 rfl
  have fz0 : W2.frozen? ⟨gr, k * 7, none⟩ = false := Own.fz (M.rowAt 2 rfl) _
  have fz2 : W2.frozen? ⟨gr, k * 7 + 2, none⟩ = false := Own.fz (M.rowAt 2 rfl) _
  have fz5 : W2.frozen? ⟨gr, k * 7 + 5, none⟩ = false := Own.fz (M.rowAt 2 rfl) _
  obtain ⟨s', l', o', wt', on', v', t', ht', y0, y1, y2, y3, y4, y5, y6⟩ := Own.t7 (M.rowAt 2 rfl) hkl
  go_wp2_with fail
  clear tY qY0 fY0 qY1 fY1 qY2 fY2 qY3 fY3 qY4 fY4 fz0 fz2 fz5 ht' y0 y1 y2 y3 y4 y5 y6
  have N : ∃ V, (((W2.setCell ⟨gr, k * 7, none⟩ (.int .i64 4)).setCell ⟨gr, k * 7 + 2, none⟩ (.int .i64 (-1))).setCell ⟨gr, k * 7 + 5, none⟩ (.int .i64 vv)) = V ∧ Sep S w V [.blk (w.heap.size) 65 #[.int .i64 0, .int .i64 0], .blk (g) 34 #[.slice (some ⟨gr, 0, none⟩) ts.length c0, .slice A1 ks.length c1, .slice A2 fs.length c2, .int .i64 tn, .bool st], rT ts.length (some ⟨gr, 0, none⟩) c0 (ts.set k ⟨4, l, -1, wt, on, vv, t⟩), rK ks.length A1 c1 ks, rF fs.length A2 c2 fs] := ⟨_, rfl, by have h2 := (M.putT2 2 rfl k 0 2 (by omega) (by omega) ⟨s, l, o1, wt, on, v, t⟩ 4 (-1) HT.out).putT 2 rfl k 5 (by omega) ⟨4, l, -1, wt, on, v, t⟩ vv (List.getElem?_set_self hkl); simp only [List.set_set] at h2; exact h2⟩
  clear M
  obtain ⟨W3, eW, M⟩ := N
  rw [eW]
  clear eW
  replace M := M.front 2 rfl
  simp only [List.eraseIdx_cons_succ, List.eraseIdx_cons_zero] at M
  replace M := M.front 2 rfl
  simp only [List.eraseIdx_cons_succ, List.eraseIdx_cons_zero] at M
  obtain ⟨us1, hus1⟩ : ∃ us1, us1 = ts.set k ⟨4, l, -1, wt, on, vv, t⟩ := ⟨_, rfl⟩
  rw [← hus1] at M ho
  have hl1 : us1.length = ts.length := by rw [hus1]; simp
  have hA := wakeAll_any us1 (some ⟨gr, 0, none⟩) A1 A2 c0 ks.length c1 fs.length c2 tn st g 1 k vv W3 (by omega) t0 t1 (by rw [hl1]; exact Sep.same (ps := [.blk (g) 34 #[.slice (some ⟨gr, 0, none⟩) ts.length c0, .slice A1 ks.length c1, .slice A2 fs.length c2, .int .i64 tn, .bool st], rT ts.length (some ⟨gr, 0, none⟩) c0 us1]) (rs := [.blk (w.heap.size) 65 #[.int .i64 0, .int .i64 0], rK ks.length A1 c1 ks, rF fs.length A2 c2 fs]) M (Below.refl _ _))
  rw [hl1] at hA
  refine Calls.mono (by with_reducible exact hA) ?_
  clear hA
  rintro r W4 ⟨us, tn', cnt, rfl, hul, g1, hR⟩
  replace M : Sep S w W4 [.blk (g) 34 #[.slice (some ⟨gr, 0, none⟩) ts.length c0, .slice A1 ks.length c1, .slice A2 fs.length c2, .int .i64 tn', .bool st], rT ts.length (some ⟨gr, 0, none⟩) c0 us, .blk (w.heap.size) 65 #[.int .i64 0, .int .i64 0], rK ks.length A1 c1 ks, rF fs.length A2 c2 fs] := Sep.comp (ps := [.blk (g) 34 #[.slice (some ⟨gr, 0, none⟩) ts.length c0, .slice A1 ks.length c1, .slice A2 fs.length c2, .int .i64 tn, .bool st], rT ts.length (some ⟨gr, 0, none⟩) c0 us1]) (rs := [.blk (w.heap.size) 65 #[.int .i64 0, .int .i64 0], rK ks.length A1 c1 ks, rF fs.length A2 c2 fs]) M g1
  clear g1
  have HR : Hid (us = wakeAllT (waitersM us1 1 k) us1 tn vv ∧ us1 = ts.set k ⟨4, l, -1, wt, on, vv, t⟩) := hide ⟨hR.elim (fun h => h.2.2.1) (fun h => by rw [ho] at h; cases h.1), hus1⟩
  obtain ⟨hcn, htn⟩ : cnt = ((waitersM us1 1 k).length : Int) ∧ tn' = tn + ((waitersM us1 1 k).length : Int) := hR.elim (fun h => ⟨h.2.1, h.2.2.2⟩) (fun h => by rw [ho] at h; cases h.1)
  clear hR hus1 ho
  obtain ⟨nL, hnL⟩ : ∃ nL, nL = (waitersM us1 1 k).length := ⟨_, rfl⟩
  rw [← hnL] at hcn htn
  subst hcn htn
  have HN := hide hnL
  clear hnL hul hl1
  have hne : ((nL : Int) == -1) = false := by rw [beq_eq_false_iff_ne]; omega
  go_wp2_with fail
  go_call (giveUp_no 4 _) as r W ⟨rfl, rfl⟩
  go_wp2_with fail
  go_call (okWith_any nL _) as r WO ⟨rfl, g1⟩
  replace M := M.call g1
  clear g1
  obtain ⟨tR, qR0, fR0, qR1, fR1⟩ := M.f2 2 rfl
  go_wp2_with fail
  clear tR qR0 fR0 qR1 fR1
  have N := M.gset2 2 rfl (.int .i64 1) (.int .i64 nL)
  clear M
  obtain ⟨W5, eW, M⟩ := N
  rw [eW]
  clear eW
  simp only [List.set_cons_zero, List.set_cons_succ] at M
  replace M := M.front 4 rfl
  simp only [List.eraseIdx_cons_succ, List.eraseIdx_cons_zero] at M
  replace M := M.front 4 rfl
  simp only [List.eraseIdx_cons_succ, List.eraseIdx_cons_zero] at M
  replace M := M.front 3 rfl
  simp only [List.eraseIdx_cons_succ, List.eraseIdx_cons_zero] at M
  replace M := M.front 3 rfl
  simp only [List.eraseIdx_cons_succ, List.eraseIdx_cons_zero] at M
  obtain ⟨tR, qR0, qR1⟩ := M.q2 4 rfl
  have hfin : us = wakeAllT (waitersM (ts.set k ⟨4, l, -1, wt, on, vv, t⟩) 1 k) (ts.set k ⟨4, l, -1, wt, on, vv, t⟩) tn vv := by rw [← HR.out.2]; exact HR.out.1
  have hnn : nL = (waitersM (ts.set k ⟨4, l, -1, wt, on, vv, t⟩) 1 k).length := by rw [← HR.out.2]; exact HN.out
  exact bodyPost_ret (v := .agg #[.int .i64 1, .int .i64 nL]) (by simp [results, Try.results103, go_sem, qR0, qR1]) rfl (by rw [← hfin, ← hnn]; exact ⟨(some ⟨gr, 0, none⟩), A1, A2, c0, c1, c2, rfl, M.take 4⟩)
end Go.Proofs.Ytgncjcnobojgbaa
