/- Ended of the program and of the model answer alike. Lists no longer than a million. -/
import Derived.Test.YtfkdfkoigojciaaQExactEnded01
import Derived.Test.YtfkdfkoigojciaaQB15
import Derived.Test.YtfkdfkoigojciaaQB09
import Derived.Test.YtfkdfkoigojciaaQB07
import Derived.Shelf.Abstract

namespace Go.Proofs.Ytfkdfkoigojciaa
open Go.RowKit
set_option linter.unusedVariables false
set_option maxRecDepth 100000
set_option maxHeartbeats 800000 in
theorem end_val (ts : List T7) (ks : List Int) (fs : List F2) (A0 A1 A2 : Option Addr) (c0 c1 c2 : Nat) (tn : Int) (st : Bool) (g : Nat) (wk vv : Int) (w : World) (ht : ts.length ≤ 1048576) (hk : ks.length ≤ 1048576) (hf : fs.length ≤ 1048576) (h : Sep (fps [.blk g 33 #[.slice A0 ts.length c0, .slice A1 ks.length c1, .slice A2 fs.length c2, .int .i64 tn, .bool st], rT ts.length A0 c0 ts, rK ks.length A1 c1 ks, rF fs.length A2 c2 fs]) w w [.blk g 33 #[.slice A0 ts.length c0, .slice A1 ks.length c1, .slice A2 fs.length c2, .int .i64 tn, .bool st], rT ts.length A0 c0 ts, rK ks.length A1 c1 ks, rF fs.length A2 c2 fs]) (hv : btw vv 0 9999 = false) :
 Calls Try.prog 56 #[.pointer (some ⟨g, 0, none⟩), .int .i64 wk, .int .i64 vv] w (fun r w' => r = .panicked [{ v := .iface 102 (.int .i64 8), recovered := false }] ∧ Sep (fps [.blk g 33 #[.slice A0 ts.length c0, .slice A1 ks.length c1, .slice A2 fs.length c2, .int .i64 tn, .bool st], rT ts.length A0 c0 ts, rK ks.length A1 c1 ks, rF fs.length A2 c2 fs]) w w' []) := by
 obtain ⟨S, hS⟩ : ∃ S, S = fps [.blk g 33 #[.slice A0 ts.length c0, .slice A1 ks.length c1, .slice A2 fs.length c2, .int .i64 tn, .bool st], rT ts.length A0 c0 ts, rK ks.length A1 c1 ks, rF fs.length A2 c2 fs] := ⟨_, rfl⟩
 rw [← hS] at h ⊢
 clear hS
 have M0 := hide h
 clear h
 go_enter Try.func56, Try.ntmps56
 go_wp2_with fail
 have M := M0.out.allocN 47 #[.int .i64 0, .int .i64 0]
 clear M0
 generalize w.alloc (.cells #[.int .i64 0, .int .i64 0] 47) = W1 at M ⊢
 have hB := between_any vv 0 9999 W1
 rw [hv] at hB
 refine Calls.mono (by with_reducible exact hB) ?_
 clear hB
 rintro r WB ⟨rfl, rfl⟩
 go_wp2_with fail
 go_call (giveUp_yes 8 _) as r W ⟨rfl, rfl⟩
 go_wp2_with fail
 exact ⟨rfl, rfl, M.drop 5⟩
set_option maxHeartbeats 800000 in
theorem end_none (ts : List T7) (ks : List Int) (fs : List F2) (A0 A1 A2 : Option Addr) (c0 c1 c2 : Nat) (tn : Int) (st : Bool) (g : Nat) (wk vv : Int) (w : World) (ht : ts.length ≤ 1048576) (hk : ks.length ≤ 1048576) (hf : fs.length ≤ 1048576) (h : Sep (fps [.blk g 33 #[.slice A0 ts.length c0, .slice A1 ks.length c1, .slice A2 fs.length c2, .int .i64 tn, .bool st], rT ts.length A0 c0 ts, rK ks.length A1 c1 ks, rF fs.length A2 c2 fs]) w w [.blk g 33 #[.slice A0 ts.length c0, .slice A1 ks.length c1, .slice A2 fs.length c2, .int .i64 tn, .bool st], rT ts.length A0 c0 ts, rK ks.length A1 c1 ks, rF fs.length A2 c2 fs]) (hv : btw vv 0 9999 = true) (hr : runM ts wk 0 = -1) :
 Calls Try.prog 56 #[.pointer (some ⟨g, 0, none⟩), .int .i64 wk, .int .i64 vv] w (fun r w' => r = .panicked [{ v := .iface 102 (.int .i64 2), recovered := false }] ∧ Sep (fps [.blk g 33 #[.slice A0 ts.length c0, .slice A1 ks.length c1, .slice A2 fs.length c2, .int .i64 tn, .bool st], rT ts.length A0 c0 ts, rK ks.length A1 c1 ks, rF fs.length A2 c2 fs]) w w' []) := by
 obtain ⟨S, hS⟩ : ∃ S, S = fps [.blk g 33 #[.slice A0 ts.length c0, .slice A1 ks.length c1, .slice A2 fs.length c2, .int .i64 tn, .bool st], rT ts.length A0 c0 ts, rK ks.length A1 c1 ks, rF fs.length A2 c2 fs] := ⟨_, rfl⟩
 rw [← hS] at h ⊢
 clear hS
 have M0 := hide h
 clear h
 go_enter Try.func56, Try.ntmps56
 go_wp2_with fail
 have M := M0.out.allocN 47 #[.int .i64 0, .int .i64 0]
 clear M0
 generalize w.alloc (.cells #[.int .i64 0, .int .i64 0] 47) = W1 at M ⊢
 have hB := between_any vv 0 9999 W1
 rw [hv] at hB
 refine Calls.mono (by with_reducible exact hB) ?_
 clear hB
 rintro r WB ⟨rfl, rfl⟩
 go_wp2_with fail
 go_call (giveUp_no 8 _) as r W ⟨rfl, rfl⟩
 go_wp2_with fail
 go_call (runNone_no ts A0 A1 A2 c0 ks.length c1 fs.length c2 tn st wk g _ ht (M.blk 1 rfl) (M.rowS 2 rfl) hr) as r W2 ⟨rfl, g1⟩
 replace M := M.call g1
 clear g1
 go_wp2_with fail
 exact ⟨rfl, rfl, M.drop 5⟩
set_option maxHeartbeats 800000 in
theorem end_full (ts : List T7) (ks : List Int) (fs : List F2) (A0 A1 A2 : Option Addr) (c0 c1 c2 : Nat) (tn : Int) (st : Bool) (g : Nat) (wk vv : Int) (w : World) (ht : ts.length ≤ 1048576) (hk : ks.length ≤ 1048576) (hf : fs.length ≤ 1048576) (h : Sep (fps [.blk g 33 #[.slice A0 ts.length c0, .slice A1 ks.length c1, .slice A2 fs.length c2, .int .i64 tn, .bool st], rT ts.length A0 c0 ts, rK ks.length A1 c1 ks, rF fs.length A2 c2 fs]) w w [.blk g 33 #[.slice A0 ts.length c0, .slice A1 ks.length c1, .slice A2 fs.length c2, .int .i64 tn, .bool st], rT ts.length A0 c0 ts, rK ks.length A1 c1 ks, rF fs.length A2 c2 fs]) (k : Nat) (s l o1 wt on v t : Int) (hts : ts[k]? = some ⟨s, l, o1, wt, on, v, t⟩) (hv : btw vv 0 9999 = true) (hr : runM ts wk 0 = k) (t0 : 0 ≤ tn) (t1 : tn ≤ 1000000) (ho : okAll (waitersM (ts.set k ⟨4, l, -1, wt, on, vv, t⟩) 1 k) vv tn = false) :
 Calls Try.prog 56 #[.pointer (some ⟨g, 0, none⟩), .int .i64 wk, .int .i64 vv] w (fun r w' => r = .panicked [{ v := .iface 102 (.int .i64 4), recovered := false }] ∧ Sep (fps [.blk g 33 #[.slice A0 ts.length c0, .slice A1 ks.length c1, .slice A2 fs.length c2, .int .i64 tn, .bool st], rT ts.length A0 c0 ts, rK ks.length A1 c1 ks, rF fs.length A2 c2 fs]) w w' []) := by
 have hkl : k < ts.length := by
  rcases Nat.lt_or_ge k ts.length with h1 | h1
  ·exact h1
  ·rw [List.getElem?_eq_none h1] at hts; cases hts
 have hki : (k : Int) < (ts.length : Int) := by omega
 have hk0 : (0 : Int) ≤ (k : Int) := by omega
 have hr9 : (rT ts.length A0 c0 ts).here w := h.rowAt 1 rfl
 obtain ⟨gr, rfl, hgl, hfz9⟩ := rT_form hr9 (show 0 < ts.length by omega)
 clear hr9 hfz9 hgl
 obtain ⟨S, hS⟩ : ∃ S, S = fps [.blk g 33 #[.slice (some ⟨gr, 0, none⟩) ts.length c0, .slice A1 ks.length c1, .slice A2 fs.length c2, .int .i64 tn, .bool st], rT ts.length (some ⟨gr, 0, none⟩) c0 ts, rK ks.length A1 c1 ks, rF fs.length A2 c2 fs] := ⟨_, rfl⟩
 rw [← hS] at h ⊢
 clear hS
 have M0 := hide h
 clear h
 have HT := hide hts
 clear hts
 go_enter Try.func56, Try.ntmps56
 go_wp2_with fail
 have M := M0.out.allocN 47 #[.int .i64 0, .int .i64 0]
 clear M0
 generalize w.alloc (.cells #[.int .i64 0, .int .i64 0] 47) = W1 at M ⊢
 have hB := between_any vv 0 9999 W1
 rw [hv] at hB
 refine Calls.mono (by with_reducible exact hB) ?_
 clear hB
 rintro r WB ⟨rfl, rfl⟩
 go_wp2_with fail
 go_call (giveUp_no 8 _) as r W ⟨rfl, rfl⟩
 go_wp2_with fail
 go_call (runNone_ok ts (some ⟨gr, 0, none⟩) A1 A2 c0 ks.length c1 fs.length c2 tn st wk g k _ ht (M.blk 1 rfl) (M.rowS 2 rfl) hr hk0) as r W2 ⟨rfl, g1⟩
 replace M := M.call g1
 clear g1
 obtain ⟨tY, Aa, Ak, Af, Aj, Ai, Ad, Ab, Ah, Ac, Al⟩ := M.f5 1 rfl
 have fz0 : W2.frozen? ⟨gr, k * 7, none⟩ = false := Own.fz (M.rowAt 2 rfl) _
 have fz2 : W2.frozen? ⟨gr, k * 7 + 2, none⟩ = false := Own.fz (M.rowAt 2 rfl) _
 have fz5 : W2.frozen? ⟨gr, k * 7 + 5, none⟩ = false := Own.fz (M.rowAt 2 rfl) _
 obtain ⟨s', l', o', wt', on', v', t', ht', y0, y1, y2, y3, y4, y5, y6⟩ := Own.t7 (M.rowAt 2 rfl) hkl
 go_wp2_with fail
 clear tY Aa Ak Af Aj Ai Ad Ab Ah Ac Al fz0 fz2 fz5 ht' y0 y1 y2 y3 y4 y5 y6
 have N : ∃ V, (((W2.setCell ⟨gr, k * 7, none⟩ (.int .i64 4)).setCell ⟨gr, k * 7 + 2, none⟩ (.int .i64 (-1))).setCell ⟨gr, k * 7 + 5, none⟩ (.int .i64 vv)) = V ∧ Sep S w V [.blk (w.heap.size) 47 #[.int .i64 0, .int .i64 0], .blk (g) 33 #[.slice (some ⟨gr, 0, none⟩) ts.length c0, .slice A1 ks.length c1, .slice A2 fs.length c2, .int .i64 tn, .bool st], rT ts.length (some ⟨gr, 0, none⟩) c0 (ts.set k ⟨4, l, -1, wt, on, vv, t⟩), rK ks.length A1 c1 ks, rF fs.length A2 c2 fs] := ⟨_, rfl, by have h2 := (M.putT2 2 rfl k 0 2 (by omega) (by omega) ⟨s, l, o1, wt, on, v, t⟩ 4 (-1) HT.out).putT 2 rfl k 5 (by omega) ⟨4, l, -1, wt, on, v, t⟩ vv (List.getElem?_set_self hkl); simp only [List.set_set] at h2; exact h2⟩
 clear M
 obtain ⟨W3, eW, M⟩ := N
 rw [eW]
 clear eW
 replace M := M.front 2 rfl
 simp only [List.eraseIdx_cons_succ, List.eraseIdx_cons_zero] at M
 replace M := M.front 2 rfl
 simp only [List.eraseIdx_cons_succ, List.eraseIdx_cons_zero] at M
 obtain ⟨us1, hus1⟩ : ∃ us1, us1 = ts.set k ⟨4, l, -1, wt, on, vv, t⟩ := ⟨_, rfl⟩
 rw [← hus1] at M ho
 have hl1 : us1.length = ts.length := by rw [hus1]; simp
 have hA := wakeAll_any us1 (some ⟨gr, 0, none⟩) A1 A2 c0 ks.length c1 fs.length c2 tn st g 1 k vv W3 (by omega) t0 t1 (by rw [hl1]; exact Sep.same (ps := [.blk (g) 33 #[.slice (some ⟨gr, 0, none⟩) ts.length c0, .slice A1 ks.length c1, .slice A2 fs.length c2, .int .i64 tn, .bool st], rT ts.length (some ⟨gr, 0, none⟩) c0 us1]) (rs := [.blk (w.heap.size) 47 #[.int .i64 0, .int .i64 0], rK ks.length A1 c1 ks, rF fs.length A2 c2 fs]) M (Below.refl _ _))
 rw [hl1] at hA
 refine Calls.mono (by with_reducible exact hA) ?_
 clear hA
 rintro r W4 ⟨us, tn', cnt, rfl, hul, g1, hR⟩
 replace M : Sep S w W4 [.blk (g) 33 #[.slice (some ⟨gr, 0, none⟩) ts.length c0, .slice A1 ks.length c1, .slice A2 fs.length c2, .int .i64 tn', .bool st], rT ts.length (some ⟨gr, 0, none⟩) c0 us, .blk (w.heap.size) 47 #[.int .i64 0, .int .i64 0], rK ks.length A1 c1 ks, rF fs.length A2 c2 fs] := Sep.comp (ps := [.blk (g) 33 #[.slice (some ⟨gr, 0, none⟩) ts.length c0, .slice A1 ks.length c1, .slice A2 fs.length c2, .int .i64 tn, .bool st], rT ts.length (some ⟨gr, 0, none⟩) c0 us1]) (rs := [.blk (w.heap.size) 47 #[.int .i64 0, .int .i64 0], rK ks.length A1 c1 ks, rF fs.length A2 c2 fs]) M g1
 clear g1
 obtain rfl : cnt = -1 := hR.elim (fun h => by rw [ho] at h; cases h.1) (fun h => h.2)
 clear hR hul hl1
 go_wp2_with fail
 go_call (giveUp_yes 4 _) as r W ⟨rfl, rfl⟩
 go_wp2_with fail
 exact ⟨rfl, rfl, M.drop 5⟩
set_option maxHeartbeats 800000 in
theorem end_ok (ts : List T7) (ks : List Int) (fs : List F2) (A0 A1 A2 : Option Addr) (c0 c1 c2 : Nat) (tn : Int) (st : Bool) (g : Nat) (wk vv : Int) (w : World) (ht : ts.length ≤ 1048576) (hk : ks.length ≤ 1048576) (hf : fs.length ≤ 1048576) (h : Sep (fps [.blk g 33 #[.slice A0 ts.length c0, .slice A1 ks.length c1, .slice A2 fs.length c2, .int .i64 tn, .bool st], rT ts.length A0 c0 ts, rK ks.length A1 c1 ks, rF fs.length A2 c2 fs]) w w [.blk g 33 #[.slice A0 ts.length c0, .slice A1 ks.length c1, .slice A2 fs.length c2, .int .i64 tn, .bool st], rT ts.length A0 c0 ts, rK ks.length A1 c1 ks, rF fs.length A2 c2 fs]) (k : Nat) (s l o1 wt on v t : Int) (hts : ts[k]? = some ⟨s, l, o1, wt, on, v, t⟩) (hv : btw vv 0 9999 = true) (hr : runM ts wk 0 = k) (t0 : 0 ≤ tn) (t1 : tn ≤ 1000000) (ho : okAll (waitersM (ts.set k ⟨4, l, -1, wt, on, vv, t⟩) 1 k) vv tn = true) :
 Calls Try.prog 56 #[.pointer (some ⟨g, 0, none⟩), .int .i64 wk, .int .i64 vv] w (fun r w' => ∃ (D0 D1 D2 : Option Addr) (f0 f1 f2 : Nat), r = .returned (.agg #[.int .i64 1, .int .i64 ((waitersM (ts.set k ⟨4, l, -1, wt, on, vv, t⟩) 1 k).length : Int)]) ∧ Sep (fps [.blk g 33 #[.slice A0 ts.length c0, .slice A1 ks.length c1, .slice A2 fs.length c2, .int .i64 tn, .bool st], rT ts.length A0 c0 ts, rK ks.length A1 c1 ks, rF fs.length A2 c2 fs]) w w' [.blk g 33 #[.slice D0 ts.length f0, .slice D1 ks.length f1, .slice D2 fs.length f2, .int .i64 (tn + ((waitersM (ts.set k ⟨4, l, -1, wt, on, vv, t⟩) 1 k).length : Int)), .bool st], rT ts.length D0 f0 (wakeAllT (waitersM (ts.set k ⟨4, l, -1, wt, on, vv, t⟩) 1 k) (ts.set k ⟨4, l, -1, wt, on, vv, t⟩) tn vv), rK ks.length D1 f1 ks, rF fs.length D2 f2 fs]) := by
 have hkl : k < ts.length := by
  rcases Nat.lt_or_ge k ts.length with h1 | h1
  ·exact h1
  ·rw [List.getElem?_eq_none h1] at hts; cases hts
 have hki : (k : Int) < (ts.length : Int) := by omega
 have hk0 : (0 : Int) ≤ (k : Int) := by omega
 have hr9 : (rT ts.length A0 c0 ts).here w := h.rowAt 1 rfl
 obtain ⟨gr, rfl, hgl, hfz9⟩ := rT_form hr9 (show 0 < ts.length by omega)
 clear hr9 hfz9 hgl
 obtain ⟨S, hS⟩ : ∃ S, S = fps [.blk g 33 #[.slice (some ⟨gr, 0, none⟩) ts.length c0, .slice A1 ks.length c1, .slice A2 fs.length c2, .int .i64 tn, .bool st], rT ts.length (some ⟨gr, 0, none⟩) c0 ts, rK ks.length A1 c1 ks, rF fs.length A2 c2 fs] := ⟨_, rfl⟩
 rw [← hS] at h ⊢
 clear hS
 have M0 := hide h
 clear h
 have HT := hide hts
 clear hts
 go_enter Try.func56, Try.ntmps56
 go_wp2_with fail
 have M := M0.out.allocN 47 #[.int .i64 0, .int .i64 0]
 clear M0
 generalize w.alloc (.cells #[.int .i64 0, .int .i64 0] 47) = W1 at M ⊢
 have hB := between_any vv 0 9999 W1
 rw [hv] at hB
 refine Calls.mono (by with_reducible exact hB) ?_
 clear hB
 rintro r WB ⟨rfl, rfl⟩
 go_wp2_with fail
 go_call (giveUp_no 8 _) as r W ⟨rfl, rfl⟩
 go_wp2_with fail
 go_call (runNone_ok ts (some ⟨gr, 0, none⟩) A1 A2 c0 ks.length c1 fs.length c2 tn st wk g k _ ht (M.blk 1 rfl) (M.rowS 2 rfl) hr hk0) as r W2 ⟨rfl, g1⟩
 replace M := M.call g1
 clear g1
 obtain ⟨tY, Aa, Ak, Af, Aj, Ai, Ad, Ab, Ah, Ac, Al⟩ := M.f5 1 rfl
 have fz0 : W2.frozen? ⟨gr, k * 7, none⟩ = false := Own.fz (M.rowAt 2 rfl) _
 have fz2 : W2.frozen? ⟨gr, k * 7 + 2, none⟩ = false := Own.fz (M.rowAt 2 rfl) _
 have fz5 : W2.frozen? ⟨gr, k * 7 + 5, none⟩ = false := Own.fz (M.rowAt 2 rfl) _
 obtain ⟨s', l', o', wt', on', v', t', ht', y0, y1, y2, y3, y4, y5, y6⟩ := Own.t7 (M.rowAt 2 rfl) hkl
 go_wp2_with fail
 clear tY Aa Ak Af Aj Ai Ad Ab Ah Ac Al fz0 fz2 fz5 ht' y0 y1 y2 y3 y4 y5 y6
 have N : ∃ V, (((W2.setCell ⟨gr, k * 7, none⟩ (.int .i64 4)).setCell ⟨gr, k * 7 + 2, none⟩ (.int .i64 (-1))).setCell ⟨gr, k * 7 + 5, none⟩ (.int .i64 vv)) = V ∧ Sep S w V [.blk (w.heap.size) 47 #[.int .i64 0, .int .i64 0], .blk (g) 33 #[.slice (some ⟨gr, 0, none⟩) ts.length c0, .slice A1 ks.length c1, .slice A2 fs.length c2, .int .i64 tn, .bool st], rT ts.length (some ⟨gr, 0, none⟩) c0 (ts.set k ⟨4, l, -1, wt, on, vv, t⟩), rK ks.length A1 c1 ks, rF fs.length A2 c2 fs] := ⟨_, rfl, by have h2 := (M.putT2 2 rfl k 0 2 (by omega) (by omega) ⟨s, l, o1, wt, on, v, t⟩ 4 (-1) HT.out).putT 2 rfl k 5 (by omega) ⟨4, l, -1, wt, on, v, t⟩ vv (List.getElem?_set_self hkl); simp only [List.set_set] at h2; exact h2⟩
 clear M
 obtain ⟨W3, eW, M⟩ := N
 rw [eW]
 clear eW
 replace M := M.front 2 rfl
 simp only [List.eraseIdx_cons_succ, List.eraseIdx_cons_zero] at M
 replace M := M.front 2 rfl
 simp only [List.eraseIdx_cons_succ, List.eraseIdx_cons_zero] at M
 obtain ⟨us1, hus1⟩ : ∃ us1, us1 = ts.set k ⟨4, l, -1, wt, on, vv, t⟩ := ⟨_, rfl⟩
 rw [← hus1] at M ho
 have hl1 : us1.length = ts.length := by rw [hus1]; simp
 have hA := wakeAll_any us1 (some ⟨gr, 0, none⟩) A1 A2 c0 ks.length c1 fs.length c2 tn st g 1 k vv W3 (by omega) t0 t1 (by rw [hl1]; exact Sep.same (ps := [.blk (g) 33 #[.slice (some ⟨gr, 0, none⟩) ts.length c0, .slice A1 ks.length c1, .slice A2 fs.length c2, .int .i64 tn, .bool st], rT ts.length (some ⟨gr, 0, none⟩) c0 us1]) (rs := [.blk (w.heap.size) 47 #[.int .i64 0, .int .i64 0], rK ks.length A1 c1 ks, rF fs.length A2 c2 fs]) M (Below.refl _ _))
 rw [hl1] at hA
 refine Calls.mono (by with_reducible exact hA) ?_
 clear hA
 rintro r W4 ⟨us, tn', cnt, rfl, hul, g1, hR⟩
 replace M : Sep S w W4 [.blk (g) 33 #[.slice (some ⟨gr, 0, none⟩) ts.length c0, .slice A1 ks.length c1, .slice A2 fs.length c2, .int .i64 tn', .bool st], rT ts.length (some ⟨gr, 0, none⟩) c0 us, .blk (w.heap.size) 47 #[.int .i64 0, .int .i64 0], rK ks.length A1 c1 ks, rF fs.length A2 c2 fs] := Sep.comp (ps := [.blk (g) 33 #[.slice (some ⟨gr, 0, none⟩) ts.length c0, .slice A1 ks.length c1, .slice A2 fs.length c2, .int .i64 tn, .bool st], rT ts.length (some ⟨gr, 0, none⟩) c0 us1]) (rs := [.blk (w.heap.size) 47 #[.int .i64 0, .int .i64 0], rK ks.length A1 c1 ks, rF fs.length A2 c2 fs]) M g1
 clear g1
 have HR : Hid (us = wakeAllT (waitersM us1 1 k) us1 tn vv ∧ us1 = ts.set k ⟨4, l, -1, wt, on, vv, t⟩) := hide ⟨hR.elim (fun h => h.2.2.1) (fun h => by rw [ho] at h; cases h.1), hus1⟩
 obtain ⟨hcn, htn⟩ : cnt = ((waitersM us1 1 k).length : Int) ∧ tn' = tn + ((waitersM us1 1 k).length : Int) := hR.elim (fun h => ⟨h.2.1, h.2.2.2⟩) (fun h => by rw [ho] at h; cases h.1)
 clear hR hus1 ho
 obtain ⟨nL, hnL⟩ : ∃ nL, nL = (waitersM us1 1 k).length := ⟨_, rfl⟩
 rw [← hnL] at hcn htn
 subst hcn htn
 have HN := hide hnL
 clear hnL hul hl1
 have hne : ((nL : Int) == -1) = false := by rw [beq_eq_false_iff_ne]; omega
 go_wp2_with fail
 go_call (giveUp_no 4 _) as r W ⟨rfl, rfl⟩
 go_wp2_with fail
 go_call (okWith_any nL _) as r WO ⟨rfl, g1⟩
 replace M := M.call g1
 clear g1
 obtain ⟨tR, Ag, An, Ae, Am⟩ := M.f2 2 rfl
 go_wp2_with fail
 clear tR Ag An Ae Am
 have N := M.gset2 2 rfl (.int .i64 1) (.int .i64 nL)
 clear M
 obtain ⟨W5, eW, M⟩ := N
 rw [eW]
 clear eW
 simp only [List.set_cons_zero, List.set_cons_succ] at M
 replace M := M.front 4 rfl
 simp only [List.eraseIdx_cons_succ, List.eraseIdx_cons_zero] at M
 replace M := M.front 4 rfl
 simp only [List.eraseIdx_cons_succ, List.eraseIdx_cons_zero] at M
 replace M := M.front 3 rfl
 simp only [List.eraseIdx_cons_succ, List.eraseIdx_cons_zero] at M
 replace M := M.front 3 rfl
 simp only [List.eraseIdx_cons_succ, List.eraseIdx_cons_zero] at M
 obtain ⟨tR, Ag, Ae⟩ := M.q2 4 rfl
 have hfin : us = wakeAllT (waitersM (ts.set k ⟨4, l, -1, wt, on, vv, t⟩) 1 k) (ts.set k ⟨4, l, -1, wt, on, vv, t⟩) tn vv := by rw [← HR.out.2]; exact HR.out.1
 have hnn : nL = (waitersM (ts.set k ⟨4, l, -1, wt, on, vv, t⟩) 1 k).length := by rw [← HR.out.2]; exact HN.out
 exact bodyPost_ret (v := .agg #[.int .i64 1, .int .i64 nL]) (by simp [results, Try.results56, go_sem, Ag, Ae]) rfl (by rw [← hfin, ← hnn]; exact ⟨(some ⟨gr, 0, none⟩), A1, A2, c0, c1, c2, rfl, M.take 4⟩)
set_option maxRecDepth 100000
set_option maxHeartbeats 4000000 in
theorem ended_may (a b c d e : Int) (ts : List T7) (ks : List Int) (fs : List F2) (A0 A1 A2 : Option Addr) (c0 c1 c2 : Nat) (tn : Int) (st : Bool) (wk : Int) (vv : Int) (w : World) (ht : ts.length ≤ 1048576) (hk : ks.length ≤ 1048576) (hf : fs.length ≤ 1048576) (h : InPool w ts ks fs A0 A1 A2) (me : Int) (hme : runM ts wk 0 = me) (hm : mayB a b c d e ts ks fs tn wk = false) :
 Calls Try.prog 19 #[.agg #[.int .i64 a, .int .i64 b, .int .i64 c, .int .i64 d, .int .i64 e], .agg #[.slice A0 ts.length c0, .slice A1 ks.length c1, .slice A2 fs.length c2, .int .i64 tn, .bool st], .int .i64 wk, .int .i64 vv] w (GaveS [] w (noO (poolB a b c d e ts ks fs tn) ts ks fs tn st 8)) := by
 have H := hide h
 clear h
 have hNo := hide (fun (V : World) (hV : InPool V ts ks fs A0 A1 A2) => l6No_s a b c d e ts ks fs A0 A1 A2 c0 c1 c2 tn st 8 V ht hk hf hV)
 generalize noO (poolB a b c d e ts ks fs tn) ts ks fs tn st 8 = o at hNo ⊢
 have HY := hide (⟨hme, hm, trivial⟩ : _ ∧ _ ∧ True)
 clear hme hm
 go_enter Try.func19, Try.ntmps19
 go_wp2_with fail
 generalize hW : (((w.alloc _).alloc _).alloc _).alloc _ = W1
 have M := Sep.e4 hW
 clear hW
 obtain ⟨tX, Ai, Ac, Aa, Ah, Af⟩ := M.q5 2 rfl
 obtain ⟨tP, Aj, Ae, Ab, Ag, Ad⟩ := M.q5 3 rfl
 go_call (sRunBy_v ts A0 A1 A2 c0 ks.length c1 fs.length c2 tn st wk me HY.out.1 _ ht (H.out.below M.below).1) as r W2 ⟨rfl, g1⟩
 clear tX Ai Ac Aa Ah Af tP Aj Ae Ab Ag Ad
 replace M := M.call g1
 clear g1
 obtain ⟨tX, Ai, Ac, Aa, Ah, Af⟩ := M.q5 2 rfl
 obtain ⟨tP, Aj, Ae, Ab, Ag, Ad⟩ := M.q5 3 rfl
 go_wp2_with fail
 go_call (l6May_v a b c d e ts ks fs A0 A1 A2 c0 c1 c2 tn st wk false HY.out.2.1 _ ht hk hf (H.out.below M.below)) as r W3 ⟨rfl, g1⟩
 clear tX Ai Ac Aa Ah Af tP Aj Ae Ab Ag Ad
 replace M := M.call g1
 clear g1
 obtain ⟨tX, Ai, Ac, Aa, Ah, Af⟩ := M.q5 2 rfl
 obtain ⟨tP, Aj, Ae, Ab, Ag, Ad⟩ := M.q5 3 rfl
 go_wp2_with fail
 go_call (hNo.out _ (H.out.below M.below)) as r W4 ⟨B0, B1, B2, d0, d1, d2, rfl, g1⟩
 clear tX Ai Ac Aa Ah Af tP Aj Ae Ab Ag Ad
 replace M := Sep.new M g1
 simp only [List.cons_append, List.nil_append] at M
 clear g1
 obtain ⟨tS, Aq, Av, Ap, As⟩ := M.f2 3 rfl
 obtain ⟨tR, Am, Aw, Al, Ar, Ao, At, Ak, Ax, An, Au⟩ := M.f5 4 rfl
 go_wp2_with fail
 clear tS Aq Av Ap As tR Am Aw Al Ar Ao At Ak Ax An Au
 have N := M.gset5 4 rfl (.slice B0 o.ts.length d0) (.slice B1 o.ks.length d1) (.slice B2 o.fs.length d2) (.int .i64 o.tn) (.bool o.st)
 clear M
 obtain ⟨W5, eW, M⟩ := N
 rw [eW]
 clear eW
 simp only [List.set_cons_zero, List.set_cons_succ] at M
 have N := M.gset2 3 rfl (.int .i64 o.rp) (.int .i64 o.ou)
 clear M
 obtain ⟨W6, eW, M⟩ := N
 rw [eW]
 clear eW
 simp only [List.set_cons_zero, List.set_cons_succ] at M
 obtain ⟨tS, Aq, Ap⟩ := M.q2 3 rfl
 obtain ⟨tR, Am, Al, Ao, Ak, An⟩ := M.q5 4 rfl
 exact bodyPost_ret (by simp [results, Try.results19, go_sem, Am, Al, Ao, Ak, An, Aq, Ap]) rfl ⟨B0, B1, B2, d0, d1, d2, rfl, M.take 3⟩
set_option maxHeartbeats 4000000 in
theorem ended_val (a b c d e : Int) (ts : List T7) (ks : List Int) (fs : List F2) (A0 A1 A2 : Option Addr) (c0 c1 c2 : Nat) (tn : Int) (st : Bool) (wk : Int) (vv : Int) (w : World) (ht : ts.length ≤ 1048576) (hk : ks.length ≤ 1048576) (hf : fs.length ≤ 1048576) (h : InPool w ts ks fs A0 A1 A2) (me : Int) (hme : runM ts wk 0 = me) (hm : mayB a b c d e ts ks fs tn wk = true) (hv : btw vv 0 9999 = false) :
 Calls Try.prog 19 #[.agg #[.int .i64 a, .int .i64 b, .int .i64 c, .int .i64 d, .int .i64 e], .agg #[.slice A0 ts.length c0, .slice A1 ks.length c1, .slice A2 fs.length c2, .int .i64 tn, .bool st], .int .i64 wk, .int .i64 vv] w (GaveS [] w (noO (poolB a b c d e ts ks fs tn) ts ks fs tn st 8)) := by
 have H := hide h
 clear h
 have hNo := hide (fun (V : World) (hV : InPool V ts ks fs A0 A1 A2) => l6No_s a b c d e ts ks fs A0 A1 A2 c0 c1 c2 tn st 8 V ht hk hf hV)
 generalize noO (poolB a b c d e ts ks fs tn) ts ks fs tn st 8 = o at hNo ⊢
 have HY := hide (⟨hme, hm, hv, trivial⟩ : _ ∧ _ ∧ _ ∧ True)
 clear hme hm hv
 go_enter Try.func19, Try.ntmps19
 go_wp2_with fail
 generalize hW : (((w.alloc _).alloc _).alloc _).alloc _ = W1
 have M := Sep.e4 hW
 clear hW
 obtain ⟨tX, Ai, Ac, Aa, Ah, Af⟩ := M.q5 2 rfl
 obtain ⟨tP, Aj, Ae, Ab, Ag, Ad⟩ := M.q5 3 rfl
 go_call (sRunBy_v ts A0 A1 A2 c0 ks.length c1 fs.length c2 tn st wk me HY.out.1 _ ht (H.out.below M.below).1) as r W2 ⟨rfl, g1⟩
 clear tX Ai Ac Aa Ah Af tP Aj Ae Ab Ag Ad
 replace M := M.call g1
 clear g1
 obtain ⟨tX, Ai, Ac, Aa, Ah, Af⟩ := M.q5 2 rfl
 obtain ⟨tP, Aj, Ae, Ab, Ag, Ad⟩ := M.q5 3 rfl
 go_wp2_with fail
 go_call (l6May_v a b c d e ts ks fs A0 A1 A2 c0 c1 c2 tn st wk true HY.out.2.1 _ ht hk hf (H.out.below M.below)) as r W3 ⟨rfl, g1⟩
 clear tX Ai Ac Aa Ah Af tP Aj Ae Ab Ag Ad
 replace M := M.call g1
 clear g1
 obtain ⟨tX, Ai, Ac, Aa, Ah, Af⟩ := M.q5 2 rfl
 obtain ⟨tP, Aj, Ae, Ab, Ag, Ad⟩ := M.q5 3 rfl
 go_wp2_with fail
 go_call (l1Value_v vv false HY.out.2.2.1 _) as r W ⟨rfl, rfl⟩
 go_wp2_with fail
 go_call (hNo.out _ (H.out.below M.below)) as r W4 ⟨B0, B1, B2, d0, d1, d2, rfl, g1⟩
 clear tX Ai Ac Aa Ah Af tP Aj Ae Ab Ag Ad
 replace M := Sep.new M g1
 simp only [List.cons_append, List.nil_append] at M
 clear g1
 obtain ⟨tS, Aq, Av, Ap, As⟩ := M.f2 3 rfl
 obtain ⟨tR, Am, Aw, Al, Ar, Ao, At, Ak, Ax, An, Au⟩ := M.f5 4 rfl
 go_wp2_with fail
 clear tS Aq Av Ap As tR Am Aw Al Ar Ao At Ak Ax An Au
 have N := M.gset5 4 rfl (.slice B0 o.ts.length d0) (.slice B1 o.ks.length d1) (.slice B2 o.fs.length d2) (.int .i64 o.tn) (.bool o.st)
 clear M
 obtain ⟨W5, eW, M⟩ := N
 rw [eW]
 clear eW
 simp only [List.set_cons_zero, List.set_cons_succ] at M
 have N := M.gset2 3 rfl (.int .i64 o.rp) (.int .i64 o.ou)
 clear M
 obtain ⟨W6, eW, M⟩ := N
 rw [eW]
 clear eW
 simp only [List.set_cons_zero, List.set_cons_succ] at M
 obtain ⟨tS, Aq, Ap⟩ := M.q2 3 rfl
 obtain ⟨tR, Am, Al, Ao, Ak, An⟩ := M.q5 4 rfl
 exact bodyPost_ret (by simp [results, Try.results19, go_sem, Am, Al, Ao, Ak, An, Aq, Ap]) rfl ⟨B0, B1, B2, d0, d1, d2, rfl, M.take 3⟩
set_option maxHeartbeats 4000000 in
theorem ended_none (a b c d e : Int) (ts : List T7) (ks : List Int) (fs : List F2) (A0 A1 A2 : Option Addr) (c0 c1 c2 : Nat) (tn : Int) (st : Bool) (wk : Int) (vv : Int) (w : World) (ht : ts.length ≤ 1048576) (hk : ks.length ≤ 1048576) (hf : fs.length ≤ 1048576) (h : InPool w ts ks fs A0 A1 A2) (me : Int) (hme : runM ts wk 0 = me) (h0 : me < 0) (hm : mayB a b c d e ts ks fs tn wk = true) (hv : btw vv 0 9999 = true) :
 Calls Try.prog 19 #[.agg #[.int .i64 a, .int .i64 b, .int .i64 c, .int .i64 d, .int .i64 e], .agg #[.slice A0 ts.length c0, .slice A1 ks.length c1, .slice A2 fs.length c2, .int .i64 tn, .bool st], .int .i64 wk, .int .i64 vv] w (GaveS [] w (noO (poolB a b c d e ts ks fs tn) ts ks fs tn st 2)) := by
 have H := hide h
 clear h
 have hNo := hide (fun (V : World) (hV : InPool V ts ks fs A0 A1 A2) => l6No_s a b c d e ts ks fs A0 A1 A2 c0 c1 c2 tn st 2 V ht hk hf hV)
 generalize noO (poolB a b c d e ts ks fs tn) ts ks fs tn st 2 = o at hNo ⊢
 have HY := hide (⟨hme, hm, hv, trivial⟩ : _ ∧ _ ∧ _ ∧ True)
 clear hme hm hv
 go_enter Try.func19, Try.ntmps19
 go_wp2_with fail
 generalize hW : (((w.alloc _).alloc _).alloc _).alloc _ = W1
 have M := Sep.e4 hW
 clear hW
 obtain ⟨tX, Ai, Ac, Aa, Ah, Af⟩ := M.q5 2 rfl
 obtain ⟨tP, Aj, Ae, Ab, Ag, Ad⟩ := M.q5 3 rfl
 go_call (sRunBy_v ts A0 A1 A2 c0 ks.length c1 fs.length c2 tn st wk me HY.out.1 _ ht (H.out.below M.below).1) as r W2 ⟨rfl, g1⟩
 clear tX Ai Ac Aa Ah Af tP Aj Ae Ab Ag Ad
 replace M := M.call g1
 clear g1
 obtain ⟨tX, Ai, Ac, Aa, Ah, Af⟩ := M.q5 2 rfl
 obtain ⟨tP, Aj, Ae, Ab, Ag, Ad⟩ := M.q5 3 rfl
 go_wp2_with fail
 go_call (l6May_v a b c d e ts ks fs A0 A1 A2 c0 c1 c2 tn st wk true HY.out.2.1 _ ht hk hf (H.out.below M.below)) as r W3 ⟨rfl, g1⟩
 clear tX Ai Ac Aa Ah Af tP Aj Ae Ab Ag Ad
 replace M := M.call g1
 clear g1
 obtain ⟨tX, Ai, Ac, Aa, Ah, Af⟩ := M.q5 2 rfl
 obtain ⟨tP, Aj, Ae, Ab, Ag, Ad⟩ := M.q5 3 rfl
 go_wp2_with fail
 go_call (l1Value_v vv true HY.out.2.2.1 _) as r W ⟨rfl, rfl⟩
 go_wp2_with fail
 go_call (hNo.out _ (H.out.below M.below)) as r W4 ⟨B0, B1, B2, d0, d1, d2, rfl, g1⟩
 clear tX Ai Ac Aa Ah Af tP Aj Ae Ab Ag Ad
 replace M := Sep.new M g1
 simp only [List.cons_append, List.nil_append] at M
 clear g1
 obtain ⟨tS, Aq, Av, Ap, As⟩ := M.f2 3 rfl
 obtain ⟨tR, Am, Aw, Al, Ar, Ao, At, Ak, Ax, An, Au⟩ := M.f5 4 rfl
 go_wp2_with fail
 clear tS Aq Av Ap As tR Am Aw Al Ar Ao At Ak Ax An Au
 have N := M.gset5 4 rfl (.slice B0 o.ts.length d0) (.slice B1 o.ks.length d1) (.slice B2 o.fs.length d2) (.int .i64 o.tn) (.bool o.st)
 clear M
 obtain ⟨W5, eW, M⟩ := N
 rw [eW]
 clear eW
 simp only [List.set_cons_zero, List.set_cons_succ] at M
 have N := M.gset2 3 rfl (.int .i64 o.rp) (.int .i64 o.ou)
 clear M
 obtain ⟨W6, eW, M⟩ := N
 rw [eW]
 clear eW
 simp only [List.set_cons_zero, List.set_cons_succ] at M
 obtain ⟨tS, Aq, Ap⟩ := M.q2 3 rfl
 obtain ⟨tR, Am, Al, Ao, Ak, An⟩ := M.q5 4 rfl
 exact bodyPost_ret (by simp [results, Try.results19, go_sem, Am, Al, Ao, Ak, An, Aq, Ap]) rfl ⟨B0, B1, B2, d0, d1, d2, rfl, M.take 3⟩
set_option maxHeartbeats 4000000 in
theorem ended_main (a b c d e : Int) (ts : List T7) (ks : List Int) (fs : List F2) (A0 A1 A2 : Option Addr) (c0 c1 c2 : Nat) (tn : Int) (st : Bool) (wk : Int) (vv : Int) (w : World) (ht : ts.length ≤ 1048576) (hk : ks.length ≤ 1048576) (hf : fs.length ≤ 1048576) (h : InPool w ts ks fs A0 A1 A2) (k : Nat) (s l o1 wt on v t : Int) (hts : ts[k]? = some ⟨s, l, o1, wt, on, v, t⟩) (hme : runM ts wk 0 = k) (hm : mayB a b c d e ts ks fs tn wk = true) (hv : btw vv 0 9999 = true) :
 Calls Try.prog 19 #[.agg #[.int .i64 a, .int .i64 b, .int .i64 c, .int .i64 d, .int .i64 e], .agg #[.slice A0 ts.length c0, .slice A1 ks.length c1, .slice A2 fs.length c2, .int .i64 tn, .bool st], .int .i64 wk, .int .i64 vv] w (GaveS [] w (doneO (poolB a b c d e (wakeAllT (waitersM (ts.set k ⟨4, l, -1, wt, on, vv, t⟩) 1 k) (ts.set k ⟨4, l, -1, wt, on, vv, t⟩) tn vv) ks fs (tn + ((waitersM (ts.set k ⟨4, l, -1, wt, on, vv, t⟩) 1 k).length : Nat))) ts ks fs tn st (wakeAllT (waitersM (ts.set k ⟨4, l, -1, wt, on, vv, t⟩) 1 k) (ts.set k ⟨4, l, -1, wt, on, vv, t⟩) tn vv) ks fs (tn + ((waitersM (ts.set k ⟨4, l, -1, wt, on, vv, t⟩) 1 k).length : Nat)) st 1 ((waitersM (ts.set k ⟨4, l, -1, wt, on, vv, t⟩) 1 k).length : Nat))) := by
 have hkl : k < ts.length := by
  rcases Nat.lt_or_ge k ts.length with h1 | h1
  ·exact h1
  ·rw [List.getElem?_eq_none h1] at hts; cases hts
 have H := hide h
 clear h
 have hpo : poolB a b c d e ts ks fs tn = true := by
  have h1 := hm
  simp only [mayB, Bool.and_eq_true] at h1
  exact h1.1
 have tb : 0 ≤ tn ∧ tn ≤ 1000000 := by
  have h1 := hpo
  simp only [poolB, Bool.and_eq_true] at h1
  have h2 := h1.2.1
  simp [btw] at h2
  exact h2
 obtain ⟨tb0, tb1⟩ := tb
 obtain ⟨wm, hwm⟩ : ∃ wm, wm = waitersM (ts.set k ⟨4, l, -1, wt, on, vv, t⟩) 1 k := ⟨_, rfl⟩
 have hwl : wm.length ≤ ts.length := by
  have h1 := lineM_length (waitQ (ts.set k ⟨4, l, -1, wt, on, vv, t⟩) 1 k) (waitP (ts.set k ⟨4, l, -1, wt, on, vv, t⟩)) (ts.set k ⟨4, l, -1, wt, on, vv, t⟩).length
  rw [hwm]
  simpa [waitersM] using h1
 obtain ⟨tz, htz⟩ : ∃ tz, tz = wakeAllT wm (ts.set k ⟨4, l, -1, wt, on, vv, t⟩) tn vv := ⟨_, rfl⟩
 have htzl : tz.length = ts.length := by rw [htz, wakeAllT_length]; first | done | simp
 have hWk : Hid (∀ (A0x A1x A2x : Option Addr) (c0x n1 c1x n2 c2x : Nat) (V : World), (rT ts.length A0x c0x (ts.set k ⟨4, l, -1, wt, on, vv, t⟩)).here V → Calls Try.prog 46 #[.agg #[.slice A0x ts.length c0x, .slice A1x n1 c1x, .slice A2x n2 c2x, .int .i64 tn, .bool st], .int .i64 1, .int .i64 k, .int .i64 vv] V fun r w' => r = .returned (.tuple #[.agg #[.slice A0x ts.length c0x, .slice A1x n1 c1x, .slice A2x n2 c2x, .int .i64 (tn + (wm.length : Nat)), .bool st], .int .i64 (wm.length : Nat)]) ∧ Sep (fps [rT ts.length A0x c0x (ts.set k ⟨4, l, -1, wt, on, vv, t⟩)]) V w' [rT ts.length A0x c0x tz]) := hide (fun A0x A1x A2x c0x n1 c1x n2 c2x V h1 => by
  have h2 := l5WakeAll_s (ts.set k ⟨4, l, -1, wt, on, vv, t⟩) ts.length (by simp) A0x A1x A2x c0x n1 c1x n2 c2x tn st 1 k vv V ht (by omega) (by omega) h1
  rw [← hwm, ← htz] at h2
  exact h2)
 have hDn := hide (fun (A0x A1x A2x : Option Addr) (c0x c1x c2x : Nat) (rs : List Res) (V : World) (h1 : InPool V ts ks fs A0 A1 A2) (h2 : Sep [] w V ([rT ts.length A0x c0x tz, rK ks.length A1x c1x ks, rF fs.length A2x c2x fs] ++ rs)) => l6Done_s a b c d e ts ks fs A0 A1 A2 c0 c1 c2 tn st ts.length ks.length fs.length tz ks fs A0x A1x A2x c0x c1x c2x ((tn + (wm.length : Nat))) st 1 ((wm.length : Nat)) V htzl rfl rfl hpo ht hk hf ht hk hf h1 h2)
 clear hpo
 rw [← hwm, ← htz]
 clear hwm htz
 generalize doneO (poolB a b c d e tz ks fs (tn + (wm.length : Nat))) ts ks fs tn st tz ks fs (tn + (wm.length : Nat)) st 1 (wm.length : Nat) = o at hDn ⊢
 have HY := hide (⟨hme, hm, hv, hts, htzl, trivial⟩ : _ ∧ _ ∧ _ ∧ _ ∧ _ ∧ True)
 clear hme hm hv hts htzl
 go_enter Try.func19, Try.ntmps19
 go_wp2_with fail
 generalize hW : (((w.alloc _).alloc _).alloc _).alloc _ = W1
 have M := Sep.e4 hW
 clear hW
 obtain ⟨tX, Ai, Ac, Aa, Ah, Af⟩ := M.q5 2 rfl
 obtain ⟨tP, Aj, Ae, Ab, Ag, Ad⟩ := M.q5 3 rfl
 go_call (sRunBy_v ts A0 A1 A2 c0 ks.length c1 fs.length c2 tn st wk k HY.out.1 _ ht (H.out.below M.below).1) as r W2 ⟨rfl, g1⟩
 clear tX Ai Ac Aa Ah Af tP Aj Ae Ab Ag Ad
 replace M := M.call g1
 clear g1
 obtain ⟨tX, Ai, Ac, Aa, Ah, Af⟩ := M.q5 2 rfl
 obtain ⟨tP, Aj, Ae, Ab, Ag, Ad⟩ := M.q5 3 rfl
 go_wp2_with fail
 go_call (l6May_v a b c d e ts ks fs A0 A1 A2 c0 c1 c2 tn st wk true HY.out.2.1 _ ht hk hf (H.out.below M.below)) as r W3 ⟨rfl, g1⟩
 clear tX Ai Ac Aa Ah Af tP Aj Ae Ab Ag Ad
 replace M := M.call g1
 clear g1
 obtain ⟨tX, Ai, Ac, Aa, Ah, Af⟩ := M.q5 2 rfl
 obtain ⟨tP, Aj, Ae, Ab, Ag, Ad⟩ := M.q5 3 rfl
 go_wp2_with fail
 go_call (l1Value_v vv true HY.out.2.2.1 _) as r W ⟨rfl, rfl⟩
 go_wp2_with fail
 go_call (l3Copy_s ts ks fs A0 A1 A2 c0 c1 c2 tn st _ ht hk hf (H.out.below M.below)) as r W4 ⟨C0, C1, C2, e0, e1, e2, rfl, g1⟩
 clear tX Ai Ac Aa Ah Af tP Aj Ae Ab Ag Ad
 replace M := Sep.new M g1
 simp only [List.cons_append, List.nil_append] at M
 clear g1
 obtain ⟨g, rfl, hgl, hfz⟩ := rT_form (M.here _ (List.mem_of_getElem? (show _ = some _ from rfl : [rT ts.length C0 e0 ts, rK ks.length C1 e1 ks, rF fs.length C2 e2 fs, .blk (w.heap.size + 3) 47 #[.int .i64 0, .int .i64 0], .blk (w.heap.size + 2) 33 #[.slice none 0 0, .slice none 0 0, .slice none 0 0, .int .i64 0, .bool false], .blk (w.heap.size + 1) 33 #[.slice A0 ts.length c0, .slice A1 ks.length c1, .slice A2 fs.length c2, .int .i64 tn, .bool st], .blk (w.heap.size) 36 #[.int .i64 a, .int .i64 b, .int .i64 c, .int .i64 d, .int .i64 e]][0]? = some (rT ts.length C0 e0 ts)))) (by omega)
 obtain ⟨tX, Ai, Ac, Aa, Ah, Af⟩ := M.q5 5 rfl
 obtain ⟨tP, Aj, Ae, Ab, Ag, Ad⟩ := M.q5 6 rfl
 have nS := M.ne 0 3 (by omega) rfl rfl rfl rfl
 have nR := M.ne 0 4 (by omega) rfl rfl rfl rfl
 have nX := M.ne 0 5 (by omega) rfl rfl rfl rfl
 have nP := M.ne 0 6 (by omega) rfl rfl rfl rfl
 have fz0 : W4.frozen? ⟨g, k * 7, none⟩ = false := hfz _
 have fz2 : W4.frozen? ⟨g, k * 7 + 2, none⟩ = false := hfz _
 have fz5 : W4.frozen? ⟨g, k * 7 + 5, none⟩ = false := hfz _
 clear hfz
 obtain ⟨s', l', o', wt', on', v', t', ht', y0, y1, y2, y3, y4, y5, y6⟩ := Own.t7 (M.rowAt 0 rfl) hkl
 clear ht' y1 y3 y4 y6
 go_wp2_with fail
 clear tX Ai Ac Aa Ah Af tP Aj Ae Ab Ag Ad nS nR nX nP
 replace M : Sep [] w (((W4.setCell ⟨g, k * 7, none⟩ (.int .i64 4)).setCell ⟨g, k * 7 + 2, none⟩ (.int .i64 (-1))).setCell ⟨g, k * 7 + 5, none⟩ (.int .i64 vv)) [rT ts.length (some ⟨g, 0, none⟩) e0 (ts.set k ⟨4, l, -1, wt, on, vv, t⟩), rK ks.length C1 e1 ks, rF fs.length C2 e2 fs, .blk (w.heap.size + 3) 47 #[.int .i64 0, .int .i64 0], .blk (w.heap.size + 2) 33 #[.slice none 0 0, .slice none 0 0, .slice none 0 0, .int .i64 0, .bool false], .blk (w.heap.size + 1) 33 #[.slice A0 ts.length c0, .slice A1 ks.length c1, .slice A2 fs.length c2, .int .i64 tn, .bool st], .blk (w.heap.size) 36 #[.int .i64 a, .int .i64 b, .int .i64 c, .int .i64 d, .int .i64 e]] := M.putT3 0 rfl k 0 2 5 (by omega) (by omega) (by omega)  ⟨s, l, o1, wt, on, v, t⟩ 4 (-1) vv HY.out.2.2.2.1
 replace M : Sep [] w ((((W4.setCell ⟨g, k * 7, none⟩ (.int .i64 4)).setCell ⟨g, k * 7 + 2, none⟩ (.int .i64 (-1))).setCell ⟨g, k * 7 + 5, none⟩ (.int .i64 vv)).alloc (.cells #[.slice (some ⟨g, 0, none⟩) ts.length e0, .slice C1 ks.length e1, .slice C2 fs.length e2, .int .i64 tn, .bool st] 33)) [.blk (W4.heap.size) 33 #[.slice (some ⟨g, 0, none⟩) ts.length e0, .slice C1 ks.length e1, .slice C2 fs.length e2, .int .i64 tn, .bool st], rT ts.length (some ⟨g, 0, none⟩) e0 (ts.set k ⟨4, l, -1, wt, on, vv, t⟩), rK ks.length C1 e1 ks, rF fs.length C2 e2 fs, .blk (w.heap.size + 3) 47 #[.int .i64 0, .int .i64 0], .blk (w.heap.size + 2) 33 #[.slice none 0 0, .slice none 0 0, .slice none 0 0, .int .i64 0, .bool false], .blk (w.heap.size + 1) 33 #[.slice A0 ts.length c0, .slice A1 ks.length c1, .slice A2 fs.length c2, .int .i64 tn, .bool st], .blk (w.heap.size) 36 #[.int .i64 a, .int .i64 b, .int .i64 c, .int .i64 d, .int .i64 e]] := M.alloc 33 #[.slice (some ⟨g, 0, none⟩) ts.length e0, .slice C1 ks.length e1, .slice C2 fs.length e2, .int .i64 tn, .bool st] _ (by simp [World.setCell])
 generalize (((W4.setCell ⟨g, k * 7, none⟩ (.int .i64 4)).setCell ⟨g, k * 7 + 2, none⟩ (.int .i64 (-1))).setCell ⟨g, k * 7 + 5, none⟩ (.int .i64 vv)).alloc (.cells #[.slice (some ⟨g, 0, none⟩) ts.length e0, .slice C1 ks.length e1, .slice C2 fs.length e2, .int .i64 tn, .bool st] 33) = W5 at M ⊢
 clear fz0 fz2 fz5 y0 y2 y5
 replace M : Sep [] w W5 [rT ts.length (some ⟨g, 0, none⟩) e0 (ts.set k ⟨4, l, -1, wt, on, vv, t⟩), rK ks.length C1 e1 ks, rF fs.length C2 e2 fs, .blk (W4.heap.size) 33 #[.slice (some ⟨g, 0, none⟩) ts.length e0, .slice C1 ks.length e1, .slice C2 fs.length e2, .int .i64 tn, .bool st], .blk (w.heap.size + 3) 47 #[.int .i64 0, .int .i64 0], .blk (w.heap.size + 2) 33 #[.slice none 0 0, .slice none 0 0, .slice none 0 0, .int .i64 0, .bool false], .blk (w.heap.size + 1) 33 #[.slice A0 ts.length c0, .slice A1 ks.length c1, .slice A2 fs.length c2, .int .i64 tn, .bool st], .blk (w.heap.size) 36 #[.int .i64 a, .int .i64 b, .int .i64 c, .int .i64 d, .int .i64 e]] := Sep.back (l1 := [rT ts.length (some ⟨g, 0, none⟩) e0 (ts.set k ⟨4, l, -1, wt, on, vv, t⟩), rK ks.length C1 e1 ks, rF fs.length C2 e2 fs]) M
 obtain ⟨tY, Bb, Ay, Az, Be, Bh, Bc, Bf, Bd, Bg, Ba⟩ := M.f5 3 rfl
 obtain ⟨tX, Ai, Ac, Aa, Ah, Af⟩ := M.q5 6 rfl
 obtain ⟨tP, Aj, Ae, Ab, Ag, Ad⟩ := M.q5 7 rfl
 go_wp2_with fail
 go_call (hWk.out _ _ _ _ _ _ _ _ _ (M.here _ (List.mem_cons_self))) as r W6 ⟨rfl, g1⟩
 clear tY Bb Ay Az Be Bh Bc Bf Bd Bg Ba tX Ai Ac Aa Ah Af tP Aj Ae Ab Ag Ad
 replace M := Sep.comp (ps := [rT ts.length (some ⟨g, 0, none⟩) e0 (ts.set k ⟨4, l, -1, wt, on, vv, t⟩)]) M g1
 simp only [List.cons_append, List.nil_append] at M
 clear g1
 obtain ⟨tY, Bb, Ay, Az, Be, Bh, Bc, Bf, Bd, Bg, Ba⟩ := M.f5 3 rfl
 obtain ⟨tX, Ai, Ac, Aa, Ah, Af⟩ := M.q5 6 rfl
 obtain ⟨tP, Aj, Ae, Ab, Ag, Ad⟩ := M.q5 7 rfl
 have nS := M.ne 3 4 (by omega) rfl rfl rfl rfl
 have nR := M.ne 3 5 (by omega) rfl rfl rfl rfl
 have nX := M.ne 3 6 (by omega) rfl rfl rfl rfl
 have nP := M.ne 3 7 (by omega) rfl rfl rfl rfl
 go_wp2_with fail
 clear tY Bb Ay Az Be Bh Bc Bf Bd Bg Ba tX Ai Ac Aa Ah Af tP Aj Ae Ab Ag Ad nS nR nX nP
 have N := M.gset5 3 rfl (.slice (some ⟨g, 0, none⟩) ts.length e0) (.slice C1 ks.length e1) (.slice C2 fs.length e2) (.int .i64 (tn + (wm.length : Nat))) (.bool st)
 clear M
 obtain ⟨W7, eW, M⟩ := N
 rw [eW]
 clear eW
 simp only [List.set_cons_zero, List.set_cons_succ] at M
 obtain ⟨tY, Bb, Ay, Az, Be, Bh, Bc, Bf, Bd, Bg, Ba⟩ := M.f5 3 rfl
 obtain ⟨tX, Ai, Ac, Aa, Ah, Af⟩ := M.q5 6 rfl
 obtain ⟨tP, Aj, Ae, Ab, Ag, Ad⟩ := M.q5 7 rfl
 go_wp2_with fail
 go_call (hDn.out _ _ _ _ _ _ [.blk (W4.heap.size) 33 #[.slice (some ⟨g, 0, none⟩) ts.length e0, .slice C1 ks.length e1, .slice C2 fs.length e2, .int .i64 (tn + (wm.length : Nat)), .bool st], .blk (w.heap.size + 3) 47 #[.int .i64 0, .int .i64 0], .blk (w.heap.size + 2) 33 #[.slice none 0 0, .slice none 0 0, .slice none 0 0, .int .i64 0, .bool false], .blk (w.heap.size + 1) 33 #[.slice A0 ts.length c0, .slice A1 ks.length c1, .slice A2 fs.length c2, .int .i64 tn, .bool st], .blk (w.heap.size) 36 #[.int .i64 a, .int .i64 b, .int .i64 c, .int .i64 d, .int .i64 e]] _ (H.out.below M.below) M) as r W8 ⟨B0, B1, B2, d0, d1, d2, rfl, g1⟩
 clear tY Bb Ay Az Be Bh Bc Bf Bd Bg Ba tX Ai Ac Aa Ah Af tP Aj Ae Ab Ag Ad
 replace M := Sep.comp (ps := [rT ts.length (some ⟨g, 0, none⟩) e0 tz, rK ks.length C1 e1 ks, rF fs.length C2 e2 fs]) M g1
 simp only [List.cons_append, List.nil_append] at M
 clear g1
 obtain ⟨tS, Aq, Av, Ap, As⟩ := M.f2 4 rfl
 obtain ⟨tR, Am, Aw, Al, Ar, Ao, At, Ak, Ax, An, Au⟩ := M.f5 5 rfl
 go_wp2_with fail
 clear tS Aq Av Ap As tR Am Aw Al Ar Ao At Ak Ax An Au
 have N := M.gset5 5 rfl (.slice B0 o.ts.length d0) (.slice B1 o.ks.length d1) (.slice B2 o.fs.length d2) (.int .i64 o.tn) (.bool o.st)
 clear M
 obtain ⟨W9, eW, M⟩ := N
 rw [eW]
 clear eW
 simp only [List.set_cons_zero, List.set_cons_succ] at M
 have N := M.gset2 4 rfl (.int .i64 o.rp) (.int .i64 o.ou)
 clear M
 obtain ⟨W10, eW, M⟩ := N
 rw [eW]
 clear eW
 simp only [List.set_cons_zero, List.set_cons_succ] at M
 obtain ⟨tS, Aq, Ap⟩ := M.q2 4 rfl
 obtain ⟨tR, Am, Al, Ao, Ak, An⟩ := M.q5 5 rfl
 exact bodyPost_ret (by simp [results, Try.results19, go_sem, Am, Al, Ao, Ak, An, Aq, Ap]) rfl ⟨B0, B1, B2, d0, d1, d2, rfl, M.take 3⟩
set_option maxRecDepth 100000
theorem Sep.enter6 {o1 o2 o3 o4 o5 o6 : Array Value} {t1 t2 t3 t4 t5 t6 : TypeId} (w : World) : Sep [] w ((((((w.alloc (.cells o1 t1)).alloc (.cells o2 t2)).alloc (.cells o3 t3)).alloc (.cells o4 t4)).alloc (.cells o5 t5)).alloc (.cells o6 t6)) [.blk (w.heap.size + 5) t6 o6, .blk (w.heap.size + 4) t5 o5, .blk (w.heap.size + 3) t4 o4, .blk (w.heap.size + 2) t3 o3, .blk (w.heap.size + 1) t2 o2, .blk w.heap.size t1 o1] :=
 (Sep.enter5 w).alloc t6 o6 _ (by simp)
set_option maxHeartbeats 400000 in
theorem endedC_no (ts : List T7) (ks : List Int) (fs : List F2) (C0 C1 C2 : Option Addr) (e0 e1 e2 : Nat) (tn : Int) (st : Bool) (g : Nat) (wk : Int) (vv : Int) (bwk : Nat) (bvv : Nat) (rp : Int) (V : World) (h : Sep (fps [.blk g 33 #[.slice C0 ts.length e0, .slice C1 ks.length e1, .slice C2 fs.length e2, .int .i64 tn, .bool st], rT ts.length C0 e0 ts, rK ks.length C1 e1 ks, rF fs.length C2 e2 fs]) V V [.blk g 33 #[.slice C0 ts.length e0, .slice C1 ks.length e1, .slice C2 fs.length e2, .int .i64 tn, .bool st], rT ts.length C0 e0 ts, rK ks.length C1 e1 ks, rF fs.length C2 e2 fs]) (hwk : V.cell? ⟨bwk, 0, none⟩ = some (.int .i64 wk)) (lwk : bwk < V.heap.size) (hvv : V.cell? ⟨bvv, 0, none⟩ = some (.int .i64 vv)) (lvv : bvv < V.heap.size)
 (hb : ∀ V', Sep (fps [.blk g 33 #[.slice C0 ts.length e0, .slice C1 ks.length e1, .slice C2 fs.length e2, .int .i64 tn, .bool st], rT ts.length C0 e0 ts, rK ks.length C1 e1 ks, rF fs.length C2 e2 fs]) V' V' [.blk g 33 #[.slice C0 ts.length e0, .slice C1 ks.length e1, .slice C2 fs.length e2, .int .i64 tn, .bool st], rT ts.length C0 e0 ts, rK ks.length C1 e1 ks, rF fs.length C2 e2 fs] → Calls Try.prog 56 #[.pointer (some ⟨g, 0, none⟩), .int .i64 wk, .int .i64 vv] V' (fun r w' => r = .panicked [{ v := .iface 102 (.int .i64 rp), recovered := false }] ∧ Sep (fps [.blk g 33 #[.slice C0 ts.length e0, .slice C1 ks.length e1, .slice C2 fs.length e2, .int .i64 tn, .bool st], rT ts.length C0 e0 ts, rK ks.length C1 e1 ks, rF fs.length C2 e2 fs]) V' w' [])) :
 Calls Try.prog 55 (#[.pointer (some ⟨g, 0, none⟩)] ++ #[.pointer (some ⟨bwk, 0, none⟩), .pointer (some ⟨bvv, 0, none⟩)]) V (fun r w' => r = .panicked [{ v := .iface 102 (.int .i64 rp), recovered := false }] ∧ Sep (fps [.blk g 33 #[.slice C0 ts.length e0, .slice C1 ks.length e1, .slice C2 fs.length e2, .int .i64 tn, .bool st], rT ts.length C0 e0 ts, rK ks.length C1 e1 ks, rF fs.length C2 e2 fs]) V w' []) := by
 have H := hide h
 clear h
 show Calls Try.prog 55 #[.pointer (some ⟨g, 0, none⟩), .pointer (some ⟨bwk, 0, none⟩), .pointer (some ⟨bvv, 0, none⟩)] V _
 go_enter Try.func55, Try.ntmps55
 go_wp2_with fail
 have M := (H.out.allocN 47 #[.int .i64 0, .int .i64 0]).rot
 generalize V.alloc (.cells #[.int .i64 0, .int .i64 0] 47) = W1 at M ⊢
 refine Calls.mono (by with_reducible exact (hb W1 (Sep.same M (Below.refl _ _)))) ?_
 rintro r W2 ⟨rfl, g1⟩
 have M2 := Sep.comp M g1
 clear M g1
 go_wp2_with fail
 exact ⟨rfl, rfl, M2.drop 1⟩
set_option maxHeartbeats 400000 in
theorem endedC_yes (ts : List T7) (ks : List Int) (fs : List F2) (C0 C1 C2 : Option Addr) (e0 e1 e2 : Nat) (tn : Int) (st : Bool) (g : Nat) (wk : Int) (vv : Int) (bwk : Nat) (bvv : Nat) (o : OutP) (V : World) (h : Sep (fps [.blk g 33 #[.slice C0 ts.length e0, .slice C1 ks.length e1, .slice C2 fs.length e2, .int .i64 tn, .bool st], rT ts.length C0 e0 ts, rK ks.length C1 e1 ks, rF fs.length C2 e2 fs]) V V [.blk g 33 #[.slice C0 ts.length e0, .slice C1 ks.length e1, .slice C2 fs.length e2, .int .i64 tn, .bool st], rT ts.length C0 e0 ts, rK ks.length C1 e1 ks, rF fs.length C2 e2 fs]) (hwk : V.cell? ⟨bwk, 0, none⟩ = some (.int .i64 wk)) (lwk : bwk < V.heap.size) (hvv : V.cell? ⟨bvv, 0, none⟩ = some (.int .i64 vv)) (lvv : bvv < V.heap.size)
 (hb : ∀ V', Sep (fps [.blk g 33 #[.slice C0 ts.length e0, .slice C1 ks.length e1, .slice C2 fs.length e2, .int .i64 tn, .bool st], rT ts.length C0 e0 ts, rK ks.length C1 e1 ks, rF fs.length C2 e2 fs]) V' V' [.blk g 33 #[.slice C0 ts.length e0, .slice C1 ks.length e1, .slice C2 fs.length e2, .int .i64 tn, .bool st], rT ts.length C0 e0 ts, rK ks.length C1 e1 ks, rF fs.length C2 e2 fs] → Calls Try.prog 56 #[.pointer (some ⟨g, 0, none⟩), .int .i64 wk, .int .i64 vv] V' (fun r w' => ∃ (D0 D1 D2 : Option Addr) (f0 f1 f2 : Nat), r = .returned (.agg #[.int .i64 o.rp, .int .i64 o.ou]) ∧ Sep (fps [.blk g 33 #[.slice C0 ts.length e0, .slice C1 ks.length e1, .slice C2 fs.length e2, .int .i64 tn, .bool st], rT ts.length C0 e0 ts, rK ks.length C1 e1 ks, rF fs.length C2 e2 fs]) V' w' [.blk g 33 #[.slice D0 o.ts.length f0, .slice D1 o.ks.length f1, .slice D2 o.fs.length f2, .int .i64 o.tn, .bool o.st], rT o.ts.length D0 f0 o.ts, rK o.ks.length D1 f1 o.ks, rF o.fs.length D2 f2 o.fs])) :
 Calls Try.prog 55 (#[.pointer (some ⟨g, 0, none⟩)] ++ #[.pointer (some ⟨bwk, 0, none⟩), .pointer (some ⟨bvv, 0, none⟩)]) V (fun r w' => ∃ (D0 D1 D2 : Option Addr) (f0 f1 f2 : Nat), r = .returned (.agg #[.int .i64 o.rp, .int .i64 o.ou]) ∧ Sep (fps [.blk g 33 #[.slice C0 ts.length e0, .slice C1 ks.length e1, .slice C2 fs.length e2, .int .i64 tn, .bool st], rT ts.length C0 e0 ts, rK ks.length C1 e1 ks, rF fs.length C2 e2 fs]) V w' [.blk g 33 #[.slice D0 o.ts.length f0, .slice D1 o.ks.length f1, .slice D2 o.fs.length f2, .int .i64 o.tn, .bool o.st], rT o.ts.length D0 f0 o.ts, rK o.ks.length D1 f1 o.ks, rF o.fs.length D2 f2 o.fs]) := by
 have H := hide h
 clear h
 show Calls Try.prog 55 #[.pointer (some ⟨g, 0, none⟩), .pointer (some ⟨bwk, 0, none⟩), .pointer (some ⟨bvv, 0, none⟩)] V _
 go_enter Try.func55, Try.ntmps55
 go_wp2_with fail
 have M := (H.out.allocN 47 #[.int .i64 0, .int .i64 0]).rot
 generalize V.alloc (.cells #[.int .i64 0, .int .i64 0] 47) = W1 at M ⊢
 refine Calls.mono (by with_reducible exact (hb W1 (Sep.same M (Below.refl _ _)))) ?_
 rintro r W2 ⟨D0, D1, D2, f0, f1, f2, rfl, g1⟩
 have M2 := Sep.comp M g1
 clear M g1
 simp only [List.cons_append, List.nil_append] at M2
 obtain ⟨tR, Ab, Ah, Aa, Ad⟩ := M2.f2 4 rfl
 go_wp2_with fail
 have N := M2.gset2 4 rfl (.int .i64 o.rp) (.int .i64 o.ou)
 clear M2 Ab Aa Ah Ad tR
 obtain ⟨W3, eW, M⟩ := N
 rw [eW]
 clear eW
 simp only [List.set_cons_zero, List.set_cons_succ] at M
 obtain ⟨tR, Ab, Aa⟩ := M.q2 4 rfl
 exact bodyPost_ret (by simp [results, Try.results55, go_sem, Ab, Aa]) rfl ⟨D0, D1, D2, f0, f1, f2, rfl, M.take 4⟩
set_option maxHeartbeats 800000 in
theorem gEnded_face (a b c d e : Int) (ts : List T7) (ks : List Int) (fs : List F2) (A0 A1 A2 : Option Addr) (c0 c1 c2 : Nat) (tn : Int) (st : Bool) (wk : Int) (vv : Int) (w : World) (ht : ts.length ≤ 1048576) (hk : ks.length ≤ 1048576) (hf : fs.length ≤ 1048576) (h : InPool w ts ks fs A0 A1 A2) (o : OutP)
 (hL : ∀ (V : World) (bwk bvv : Nat), Below w.heap.size w V → V.cell? ⟨bwk, 0, none⟩ = some (.int .i64 wk) → bwk < V.heap.size → V.cell? ⟨bvv, 0, none⟩ = some (.int .i64 vv) → bvv < V.heap.size → Calls Try.prog 54 #[.agg #[.int .i64 a, .int .i64 b, .int .i64 c, .int .i64 d, .int .i64 e], .agg #[.slice A0 ts.length c0, .slice A1 ks.length c1, .slice A2 fs.length c2, .int .i64 tn, .bool st], .int .i64 wk, .func (.func 55) #[] #[.pointer (some ⟨bwk, 0, none⟩), .pointer (some ⟨bvv, 0, none⟩)]] V (GaveS [] V o)) :
 Calls Try.prog 20 #[.agg #[.int .i64 a, .int .i64 b, .int .i64 c, .int .i64 d, .int .i64 e], .agg #[.slice A0 ts.length c0, .slice A1 ks.length c1, .slice A2 fs.length c2, .int .i64 tn, .bool st], .int .i64 wk, .int .i64 vv] w (GaveS [] w o) := by
 have hmf : ∀ (fn : Fn) (first cap : Array Value) (w : World), (Instr.makeFunc fn first cap).run Try.prog w = .ok (.func fn first cap) w := fun _ _ _ _ => rfl
 have HL := hide hL
 have H := hide h
 clear h hL
 go_enter Try.func20, Try.ntmps20
 go_wp2_with fail
 have M : Sep [] w ((((((w.alloc (.cells #[.int .i64 a, .int .i64 b, .int .i64 c, .int .i64 d, .int .i64 e] 36)).alloc (.cells #[.slice A0 ts.length c0, .slice A1 ks.length c1, .slice A2 fs.length c2, .int .i64 tn, .bool st] 33)).alloc (.cells #[.int .i64 wk] 2)).alloc (.cells #[.int .i64 vv] 2)).alloc (.cells #[.slice none 0 0, .slice none 0 0, .slice none 0 0, .int .i64 0, .bool false] 33)).alloc (.cells #[.int .i64 0, .int .i64 0] 47)) [.blk (w.heap.size + 5) 47 #[.int .i64 0, .int .i64 0], .blk (w.heap.size + 4) 33 #[.slice none 0 0, .slice none 0 0, .slice none 0 0, .int .i64 0, .bool false], .blk (w.heap.size + 3) 2 #[.int .i64 vv], .blk (w.heap.size + 2) 2 #[.int .i64 wk], .blk (w.heap.size + 1) 33 #[.slice A0 ts.length c0, .slice A1 ks.length c1, .slice A2 fs.length c2, .int .i64 tn, .bool st], .blk (w.heap.size) 36 #[.int .i64 a, .int .i64 b, .int .i64 c, .int .i64 d, .int .i64 e]] := Sep.enter6 w
 generalize (((((w.alloc (.cells #[.int .i64 a, .int .i64 b, .int .i64 c, .int .i64 d, .int .i64 e] 36)).alloc (.cells #[.slice A0 ts.length c0, .slice A1 ks.length c1, .slice A2 fs.length c2, .int .i64 tn, .bool st] 33)).alloc (.cells #[.int .i64 wk] 2)).alloc (.cells #[.int .i64 vv] 2)).alloc (.cells #[.slice none 0 0, .slice none 0 0, .slice none 0 0, .int .i64 0, .bool false] 33)).alloc (.cells #[.int .i64 0, .int .i64 0] 47) = W1 at M ⊢
 obtain ⟨tS, Ai, Am, Ag, Aj⟩ := M.f2 0 rfl
 obtain ⟨tR, Ab, Ah, Aa, Ad, Af, Ak, Ac, An, Ae, Al⟩ := M.f5 1 rfl
 obtain ⟨tVvv, qVvv0, fVvv0⟩ := M.f1 2 rfl
 obtain ⟨tVwk, qVwk0, fVwk0⟩ := M.f1 3 rfl
 obtain ⟨tX, Bf, Ax, As, Aq, Ao, Aw, Be, Bg, Bb, Bd⟩ := M.f5 4 rfl
 obtain ⟨tP, Bh, Au, Ay, Ba, Ap, Av, Bc, Az, At, Ar⟩ := M.f5 5 rfl
 go_wp2_with fail
 have hC := HL.out _ (w.heap.size + 2) (w.heap.size + 3) M.below (M.cell 3 0 rfl) (M.lt 3 rfl) (M.cell 2 0 rfl) (M.lt 2 rfl)
 refine Calls.mono (by with_reducible exact hC) ?_
 clear hC
 rintro r W2 ⟨B0, B1, B2, d0, d1, d2, rfl, g1⟩
 clear tS Ai Am Ag Aj tR Ab Ah Aa Ad Af Ak Ac An Ae Al tVvv qVvv0 fVvv0 tVwk qVwk0 fVwk0 tX Bf Ax As Aq Ao Aw Be Bg Bb Bd tP Bh Au Ay Ba Ap Av Bc Az At Ar
 replace M := Sep.new M g1
 simp only [List.cons_append, List.nil_append] at M
 clear g1
 obtain ⟨tS, Ai, Am, Ag, Aj⟩ := M.f2 3 rfl
 obtain ⟨tR, Ab, Ah, Aa, Ad, Af, Ak, Ac, An, Ae, Al⟩ := M.f5 4 rfl
 go_wp2_with fail
 clear tS Ai Am Ag Aj tR Ab Ah Aa Ad Af Ak Ac An Ae Al
 have N := M.gset5 4 rfl (.slice B0 o.ts.length d0) (.slice B1 o.ks.length d1) (.slice B2 o.fs.length d2) (.int .i64 o.tn) (.bool o.st)
 clear M
 obtain ⟨W3, eW, M⟩ := N
 rw [eW]
 clear eW
 simp only [List.set_cons_zero, List.set_cons_succ] at M
 have N := M.gset2 3 rfl (.int .i64 o.rp) (.int .i64 o.ou)
 clear M
 obtain ⟨W4, eW, M⟩ := N
 rw [eW]
 clear eW
 simp only [List.set_cons_zero, List.set_cons_succ] at M
 obtain ⟨tS, Ai, Ag⟩ := M.q2 3 rfl
 obtain ⟨tR, Ab, Aa, Af, Ac, Ae⟩ := M.q5 4 rfl
 exact bodyPost_ret (by simp [results, Try.results20, go_sem, Ab, Aa, Af, Ac, Ae, Ai, Ag]) rfl ⟨B0, B1, B2, d0, d1, d2, rfl, M.take 3⟩
theorem ended_told (a b c d e : Int) (ts : List T7) (ks : List Int) (fs : List F2) (tn : Int) (st : Bool) (wk : Int) (vv : Int) (hl : ts.length + ks.length + fs.length ≤ 1048576) :
 ∃ (us : List T7) (ks2 : List Int) (fs2 : List F2) (tn2 : Int) (st2 : Bool) (rp ou : Int), us.length + ks2.length + fs2.length ≤ 1048576 ∧
 ((rp = 1 → poolB a b c d e ts ks fs tn = true ∧ ∃ (k : Nat) (x : T7), runM ts wk 0 = k ∧ ts[k]? = some x ∧ x.s = 2 ∧ x.o = wk ∧ us = wakeAllT (waitersM (ts.set k ⟨4, x.l, -1, x.wt, x.on, vv, x.t⟩) 1 k) (ts.set k ⟨4, x.l, -1, x.wt, x.on, vv, x.t⟩) tn vv ∧ ou = ((waitersM (ts.set k ⟨4, x.l, -1, x.wt, x.on, vv, x.t⟩) 1 k).length : Int)) ∧ (rp ≠ 1 → poolB a b c d e ts ks fs tn = true → us = ts ∧ ks2 = ks ∧ fs2 = fs ∧ tn2 = tn ∧ st2 = st)) ∧
 Hid (∀ (A0 A1 A2 : Option Addr) (c0 c1 c2 : Nat) (w : World), InPool w ts ks fs A0 A1 A2 → Calls Try.prog 19 #[.agg #[.int .i64 a, .int .i64 b, .int .i64 c, .int .i64 d, .int .i64 e], .agg #[.slice A0 ts.length c0, .slice A1 ks.length c1, .slice A2 fs.length c2, .int .i64 tn, .bool st], .int .i64 wk, .int .i64 vv] w (GaveA us ks2 fs2 tn2 st2 rp ou w)) ∧
 Hid (∀ (A0 A1 A2 : Option Addr) (c0 c1 c2 : Nat) (w : World), InPool w ts ks fs A0 A1 A2 → Calls Try.prog 20 #[.agg #[.int .i64 a, .int .i64 b, .int .i64 c, .int .i64 d, .int .i64 e], .agg #[.slice A0 ts.length c0, .slice A1 ks.length c1, .slice A2 fs.length c2, .int .i64 tn, .bool st], .int .i64 wk, .int .i64 vv] w (GaveA us ks2 fs2 tn2 st2 rp ou w)) := by
 have ht : ts.length ≤ 1048576 := by omega
 have hk : ks.length ≤ 1048576 := by omega
 have hf : fs.length ≤ 1048576 := by omega
 cases hp : poolB a b c d e ts ks fs tn
 ·exact ⟨[], [], [], 0, false, 8, 0, by simp, ⟨(fun h => by omega), (fun _ h => by cases h)⟩, hide (fun A0 A1 A2 c0 c1 c2 w h => (ended_may a b c d e ts ks fs A0 A1 A2 c0 c1 c2 tn st wk vv w ht hk hf h _ rfl (by simp [mayB, hp])).mono (fun r w' hh => by rw [hp] at hh; exact hh)), hide (fun A0 A1 A2 c0 c1 c2 w h => gEnded_face a b c d e ts ks fs A0 A1 A2 c0 c1 c2 tn st wk vv w ht hk hf h ⟨[], [], [], 0, false, 8, 0⟩ (fun V bwk bvv hV hwk lwk hvv lvv => lived_bad a b c d e ts ks fs A0 A1 A2 c0 c1 c2 tn st wk 55 #[.pointer (some ⟨bwk, 0, none⟩), .pointer (some ⟨bvv, 0, none⟩)] (Go.Proofs.enters_of Try.func55 (by kernel_rfl) rfl) V ht hk hf (h.below hV) hp))⟩
 have hpl := (poolB_parts hp).1
 have hT := (poolB_parts hp).2.1
 cases hw : btw wk 0 (a - 1)
 ·exact ⟨ts, ks, fs, tn, st, 8, 0, hl, ⟨(fun h => by omega), fun _ _ => ⟨rfl, rfl, rfl, rfl, rfl⟩⟩, hide (fun A0 A1 A2 c0 c1 c2 w h => (ended_may a b c d e ts ks fs A0 A1 A2 c0 c1 c2 tn st wk vv w ht hk hf h _ rfl (by simp [mayB, workB, hp, hw])).mono (fun r w' hh => by rw [hp] at hh; exact hh)), hide (fun A0 A1 A2 c0 c1 c2 w h => gEnded_face a b c d e ts ks fs A0 A1 A2 c0 c1 c2 tn st wk vv w ht hk hf h ⟨ts, ks, fs, tn, st, 8, 0⟩ (fun V bwk bvv hV hwk lwk hvv lvv => lived_worker a b c d e ts ks fs A0 A1 A2 c0 c1 c2 tn st wk 55 #[.pointer (some ⟨bwk, 0, none⟩), .pointer (some ⟨bvv, 0, none⟩)] (Go.Proofs.enters_of Try.func55 (by kernel_rfl) rfl) V ht hk hf (h.below hV) hp hw))⟩
 have hm : mayB a b c d e ts ks fs tn wk = true := by simp [mayB, workB, hp, hw, hpl]
 cases hv : btw vv 0 9999
 ·exact ⟨ts, ks, fs, tn, st, 8, 0, hl, ⟨(fun h => by omega), fun _ _ => ⟨rfl, rfl, rfl, rfl, rfl⟩⟩, hide (fun A0 A1 A2 c0 c1 c2 w h => (ended_val a b c d e ts ks fs A0 A1 A2 c0 c1 c2 tn st wk vv w ht hk hf h _ rfl hm hv).mono (fun r w' hh => by rw [hp] at hh; exact hh)), hide (fun A0 A1 A2 c0 c1 c2 w h => gEnded_face a b c d e ts ks fs A0 A1 A2 c0 c1 c2 tn st wk vv w ht hk hf h ⟨ts, ks, fs, tn, st, 8, 0⟩ (fun V bwk bvv hV hwk lwk hvv lvv => lived_no a b c d e ts ks fs A0 A1 A2 c0 c1 c2 tn st wk 55 #[.pointer (some ⟨bwk, 0, none⟩), .pointer (some ⟨bvv, 0, none⟩)] (Go.Proofs.enters_of Try.func55 (by kernel_rfl) rfl) V ht hk hf (h.below hV) hp hw 8 (fun V2 g C0 C1 C2 e0 e1 e2 hV2 hM => endedC_no ts ks fs C0 C1 C2 e0 e1 e2 tn st g wk vv bwk bvv 8 V2 hM ((hV2.cell (p := ⟨bwk, 0, none⟩) lwk).trans hwk) (Nat.lt_of_lt_of_le lwk hV2.size) ((hV2.cell (p := ⟨bvv, 0, none⟩) lvv).trans hvv) (Nat.lt_of_lt_of_le lvv hV2.size) (fun V3 hM3 => end_val ts ks fs C0 C1 C2 e0 e1 e2 tn st g wk vv V3 ht hk hf hM3 hv))))⟩
 by_cases h0 : runM ts wk 0 < 0
 ·have hr := runM_none h0
  exact ⟨ts, ks, fs, tn, st, 2, 0, hl, ⟨(fun h => by omega), fun _ _ => ⟨rfl, rfl, rfl, rfl, rfl⟩⟩, hide (fun A0 A1 A2 c0 c1 c2 w h => (ended_none a b c d e ts ks fs A0 A1 A2 c0 c1 c2 tn st wk vv w ht hk hf h _ rfl h0 hm hv).mono (fun r w' hh => by rw [hp] at hh; exact hh)), hide (fun A0 A1 A2 c0 c1 c2 w h => gEnded_face a b c d e ts ks fs A0 A1 A2 c0 c1 c2 tn st wk vv w ht hk hf h ⟨ts, ks, fs, tn, st, 2, 0⟩ (fun V bwk bvv hV hwk lwk hvv lvv => lived_no a b c d e ts ks fs A0 A1 A2 c0 c1 c2 tn st wk 55 #[.pointer (some ⟨bwk, 0, none⟩), .pointer (some ⟨bvv, 0, none⟩)] (Go.Proofs.enters_of Try.func55 (by kernel_rfl) rfl) V ht hk hf (h.below hV) hp hw 2 (fun V2 g C0 C1 C2 e0 e1 e2 hV2 hM => endedC_no ts ks fs C0 C1 C2 e0 e1 e2 tn st g wk vv bwk bvv 2 V2 hM ((hV2.cell (p := ⟨bwk, 0, none⟩) lwk).trans hwk) (Nat.lt_of_lt_of_le lwk hV2.size) ((hV2.cell (p := ⟨bvv, 0, none⟩) lvv).trans hvv) (Nat.lt_of_lt_of_le lvv hV2.size) (fun V3 hM3 => end_none ts ks fs C0 C1 C2 e0 e1 e2 tn st g wk vv V3 ht hk hf hM3 hv hr))))⟩
 obtain ⟨k, hr⟩ : ∃ k : Nat, runM ts wk 0 = k := ⟨(runM ts wk 0).toNat, by omega⟩
 obtain ⟨⟨s, l, o1, wt, on, v, t⟩, hts, hs2, ho1⟩ := runM_runs (Int.le_refl 0) (show runM ts wk 0 = 0 + (k : Int) by omega)
 simp only at hs2 ho1
 have hz0 := wakeAll_ok (wt := 1) (on := k) hv (end_right (vv := vv) hp hts hs2 hv)
 cases ho : okAll (waitersM (ts.set k ⟨4, l, -1, wt, on, vv, t⟩) 1 k) vv tn
 ·have hz := hz0.trans ho
  exact ⟨ts, ks, fs, tn, st, 4, 0, hl, ⟨(fun h => by omega), fun _ _ => ⟨rfl, rfl, rfl, rfl, rfl⟩⟩, hide (fun A0 A1 A2 c0 c1 c2 w h => (ended_main a b c d e ts ks fs A0 A1 A2 c0 c1 c2 tn st wk vv w ht hk hf h k s l o1 wt on v t hts hr hm hv).mono (fun r w' hh => by rw [hz] at hh; exact hh)), hide (fun A0 A1 A2 c0 c1 c2 w h => gEnded_face a b c d e ts ks fs A0 A1 A2 c0 c1 c2 tn st wk vv w ht hk hf h ⟨ts, ks, fs, tn, st, 4, 0⟩ (fun V bwk bvv hV hwk lwk hvv lvv => lived_no a b c d e ts ks fs A0 A1 A2 c0 c1 c2 tn st wk 55 #[.pointer (some ⟨bwk, 0, none⟩), .pointer (some ⟨bvv, 0, none⟩)] (Go.Proofs.enters_of Try.func55 (by kernel_rfl) rfl) V ht hk hf (h.below hV) hp hw 4 (fun V2 g C0 C1 C2 e0 e1 e2 hV2 hM => endedC_no ts ks fs C0 C1 C2 e0 e1 e2 tn st g wk vv bwk bvv 4 V2 hM ((hV2.cell (p := ⟨bwk, 0, none⟩) lwk).trans hwk) (Nat.lt_of_lt_of_le lwk hV2.size) ((hV2.cell (p := ⟨bvv, 0, none⟩) lvv).trans hvv) (Nat.lt_of_lt_of_le lvv hV2.size) (fun V3 hM3 => end_full ts ks fs C0 C1 C2 e0 e1 e2 tn st g wk vv V3 ht hk hf hM3 k s l o1 wt on v t hts hv hr hT.1 hT.2 ho))))⟩
 ·have hz := hz0.trans ho
  exact ⟨(wakeAllT (waitersM (ts.set k ⟨4, l, -1, wt, on, vv, t⟩) 1 k) (ts.set k ⟨4, l, -1, wt, on, vv, t⟩) tn vv), ks, fs, tn + ((waitersM (ts.set k ⟨4, l, -1, wt, on, vv, t⟩) 1 k).length : Int), st, 1, ((waitersM (ts.set k ⟨4, l, -1, wt, on, vv, t⟩) 1 k).length : Int), by rw [wakeAllT_length, List.length_set]; exact hl, ⟨fun _ => ⟨rfl, k, ⟨s, l, o1, wt, on, v, t⟩, hr, hts, hs2, ho1, rfl, rfl⟩, fun h => absurd rfl h⟩, hide (fun A0 A1 A2 c0 c1 c2 w h => (ended_main a b c d e ts ks fs A0 A1 A2 c0 c1 c2 tn st wk vv w ht hk hf h k s l o1 wt on v t hts hr hm hv).mono (fun r w' hh => by rw [hz] at hh; exact hh)), hide (fun A0 A1 A2 c0 c1 c2 w h => gEnded_face a b c d e ts ks fs A0 A1 A2 c0 c1 c2 tn st wk vv w ht hk hf h ⟨(wakeAllT (waitersM (ts.set k ⟨4, l, -1, wt, on, vv, t⟩) 1 k) (ts.set k ⟨4, l, -1, wt, on, vv, t⟩) tn vv), ks, fs, tn + ((waitersM (ts.set k ⟨4, l, -1, wt, on, vv, t⟩) 1 k).length : Int), st, 1, ((waitersM (ts.set k ⟨4, l, -1, wt, on, vv, t⟩) 1 k).length : Int)⟩ (fun V bwk bvv hV hwk lwk hvv lvv => lived_yes a b c d e ts ks fs A0 A1 A2 c0 c1 c2 tn st wk 55 #[.pointer (some ⟨bwk, 0, none⟩), .pointer (some ⟨bvv, 0, none⟩)] (Go.Proofs.enters_of Try.func55 (by kernel_rfl) rfl) V ht hk hf (h.below hV) hp hw _ (fun V2 g C0 C1 C2 e0 e1 e2 hV2 hM => endedC_yes ts ks fs C0 C1 C2 e0 e1 e2 tn st g wk vv bwk bvv _ V2 hM ((hV2.cell (p := ⟨bwk, 0, none⟩) lwk).trans hwk) (Nat.lt_of_lt_of_le lwk hV2.size) ((hV2.cell (p := ⟨bvv, 0, none⟩) lvv).trans hvv) (Nat.lt_of_lt_of_le lvv hV2.size) (fun V3 hM3 => by have h9 := end_ok ts ks fs C0 C1 C2 e0 e1 e2 tn st g wk vv V3 ht hk hf hM3 k s l o1 wt on v t hts hv hr hT.1 hT.2 ho; rw [show (wakeAllT (waitersM (ts.set k ⟨4, l, -1, wt, on, vv, t⟩) 1 k) (ts.set k ⟨4, l, -1, wt, on, vv, t⟩) tn vv).length = ts.length from (wakeAllT_length ..).trans List.length_set]; exact h9))))⟩
theorem ended_both (a b c d e : Int) (ts : List T7) (ks : List Int) (fs : List F2) (tn : Int) (st : Bool) (wk : Int) (vv : Int) (hl : ts.length + ks.length + fs.length ≤ 1048576) :
 ∃ (us : List T7) (ks2 : List Int) (fs2 : List F2) (tn2 : Int) (st2 : Bool) (rp ou : Int), us.length + ks2.length + fs2.length ≤ 1048576 ∧
 Hid (∀ (A0 A1 A2 : Option Addr) (c0 c1 c2 : Nat) (w : World), InPool w ts ks fs A0 A1 A2 → Calls Try.prog 19 #[.agg #[.int .i64 a, .int .i64 b, .int .i64 c, .int .i64 d, .int .i64 e], .agg #[.slice A0 ts.length c0, .slice A1 ks.length c1, .slice A2 fs.length c2, .int .i64 tn, .bool st], .int .i64 wk, .int .i64 vv] w (GaveA us ks2 fs2 tn2 st2 rp ou w)) ∧
 Hid (∀ (A0 A1 A2 : Option Addr) (c0 c1 c2 : Nat) (w : World), InPool w ts ks fs A0 A1 A2 → Calls Try.prog 20 #[.agg #[.int .i64 a, .int .i64 b, .int .i64 c, .int .i64 d, .int .i64 e], .agg #[.slice A0 ts.length c0, .slice A1 ks.length c1, .slice A2 fs.length c2, .int .i64 tn, .bool st], .int .i64 wk, .int .i64 vv] w (GaveA us ks2 fs2 tn2 st2 rp ou w)) := by
 obtain ⟨us, ks2, fs2, tn2, st2, rp, ou, h0, _, h1, h2⟩ := ended_told a b c d e ts ks fs tn st wk vv hl
 exact ⟨us, ks2, fs2, tn2, st2, rp, ou, h0, h1, h2⟩
end Go.Proofs.Ytfkdfkoigojciaa
