/- The laws' likePool, at pools that are the same. Lists shorter than a million. -/
import Derived.Test.YtfjgelegojbmgaaGreatQFnTaken01
import Derived.Test.YtfjgelegojbmgaaGreatQFnTaken05
import Derived.Shelf.Abstract
import Derived.Test.YtfjgelegojbmgaaGreatQFnTaken03
import Derived.Test.YtfjgelegojbmgaaGreatQFnTaken06
import Derived.Test.YtfjgelegojbmgaaGreatQB16
import Derived.Test.YtfjgelegojbmgaaGreatQB04
import Derived.Test.YtfjgelegojbmgaaGreatQB05
import Derived.Test.YtfjgelegojbmgaaGreatQB11

namespace Go.Proofs.YtfjgelegojbmgaaGreat
open Go.RowKit
set_option linter.unusedVariables false
set_option maxRecDepth 100000
set_option maxHeartbeats 800000 in
theorem giveBack_none (ts : List T7) (ks : List Int) (fs : List F2) (A0 A1 A2 : Option Addr) (c0 c1 c2 : Nat) (tn : Int) (st : Bool) (g : Nat) (wk : Int) (w : World) (ht : ts.length ≤ 1048576) (hk : ks.length ≤ 1048576) (hf : fs.length ≤ 1048576) (h : Sep (fps [.blk g 30 #[.slice A0 ts.length c0, .slice A1 ks.length c1, .slice A2 fs.length c2, .int .i64 tn, .bool st], rT ts.length A0 c0 ts, rK ks.length A1 c1 ks, rF fs.length A2 c2 fs]) w w [.blk g 30 #[.slice A0 ts.length c0, .slice A1 ks.length c1, .slice A2 fs.length c2, .int .i64 tn, .bool st], rT ts.length A0 c0 ts, rK ks.length A1 c1 ks, rF fs.length A2 c2 fs]) (hr : runM ts wk 0 = -1) :
 Calls Tryz.prog 76 #[.pointer (some ⟨g, 0, none⟩), .int .i64 wk] w (fun r w' => r = .panicked [{ v := .iface 128 (.int .i64 2), recovered := false }] ∧ Sep (fps [.blk g 30 #[.slice A0 ts.length c0, .slice A1 ks.length c1, .slice A2 fs.length c2, .int .i64 tn, .bool st], rT ts.length A0 c0 ts, rK ks.length A1 c1 ks, rF fs.length A2 c2 fs]) w w' []) := by
 obtain ⟨S, hS⟩ : ∃ S, S = fps [.blk g 30 #[.slice A0 ts.length c0, .slice A1 ks.length c1, .slice A2 fs.length c2, .int .i64 tn, .bool st], rT ts.length A0 c0 ts, rK ks.length A1 c1 ks, rF fs.length A2 c2 fs] := ⟨_, rfl⟩
 rw [← hS] at h ⊢
 clear hS
 have M0 := hide h
 clear h
 go_enter Tryz.func76, Tryz.ntmps76
 go_wp2_with fail
 have M := M0.out.allocN 55 #[.int .i64 0, .int .i64 0]
 clear M0
 generalize w.alloc (.cells #[.int .i64 0, .int .i64 0] 55) = W1 at M ⊢
 go_call (runNone_no ts A0 A1 A2 c0 ks.length c1 fs.length c2 tn st wk g _ ht (M.blk 1 rfl) (M.rowS 2 rfl) hr) as r W ⟨rfl, g1⟩
 replace M := M.call g1
 clear g1
 go_wp2_with fail
 exact ⟨rfl, rfl, M.drop 5⟩
set_option maxHeartbeats 800000 in
theorem giveBack_full (ts : List T7) (ks : List Int) (fs : List F2) (A0 A1 A2 : Option Addr) (c0 c1 c2 : Nat) (tn : Int) (st : Bool) (g : Nat) (wk : Int) (w : World) (ht : ts.length ≤ 1048576) (hk : ks.length ≤ 1048576) (hf : fs.length ≤ 1048576) (h : Sep (fps [.blk g 30 #[.slice A0 ts.length c0, .slice A1 ks.length c1, .slice A2 fs.length c2, .int .i64 tn, .bool st], rT ts.length A0 c0 ts, rK ks.length A1 c1 ks, rF fs.length A2 c2 fs]) w w [.blk g 30 #[.slice A0 ts.length c0, .slice A1 ks.length c1, .slice A2 fs.length c2, .int .i64 tn, .bool st], rT ts.length A0 c0 ts, rK ks.length A1 c1 ks, rF fs.length A2 c2 fs]) (k : Nat) (s l o1 wt on v t : Int) (hts : ts[k]? = some ⟨s, l, o1, wt, on, v, t⟩) (hr : runM ts wk 0 = k) (t1 : ¬ tn < 1000000) :
 Calls Tryz.prog 76 #[.pointer (some ⟨g, 0, none⟩), .int .i64 wk] w (fun r w' => r = .panicked [{ v := .iface 128 (.int .i64 4), recovered := false }] ∧ Sep (fps [.blk g 30 #[.slice A0 ts.length c0, .slice A1 ks.length c1, .slice A2 fs.length c2, .int .i64 tn, .bool st], rT ts.length A0 c0 ts, rK ks.length A1 c1 ks, rF fs.length A2 c2 fs]) w w' []) := by
 have hkl : k < ts.length := by
  rcases Nat.lt_or_ge k ts.length with h1 | h1
  ·exact h1
  ·rw [List.getElem?_eq_none h1] at hts; cases hts
 have hki : (k : Int) < (ts.length : Int) := by omega
 have hk0 : (0 : Int) ≤ (k : Int) := by omega
 have hr9 : (rT ts.length A0 c0 ts).here w := h.rowAt 1 rfl
 obtain ⟨gr, rfl, hgl, hfz9⟩ := rT_form hr9 (show 0 < ts.length by omega)
 clear hr9 hfz9 hgl
 obtain ⟨S, hS⟩ : ∃ S, S = fps [.blk g 30 #[.slice (some ⟨gr, 0, none⟩) ts.length c0, .slice A1 ks.length c1, .slice A2 fs.length c2, .int .i64 tn, .bool st], rT ts.length (some ⟨gr, 0, none⟩) c0 ts, rK ks.length A1 c1 ks, rF fs.length A2 c2 fs] := ⟨_, rfl⟩
 rw [← hS] at h ⊢
 clear hS
 have M0 := hide h
 clear h
 go_enter Tryz.func76, Tryz.ntmps76
 go_wp2_with fail
 have M := M0.out.allocN 55 #[.int .i64 0, .int .i64 0]
 clear M0
 generalize w.alloc (.cells #[.int .i64 0, .int .i64 0] 55) = W1 at M ⊢
 have HT := hide hts
 clear hts
 go_call (runNone_ok ts (some ⟨gr, 0, none⟩) A1 A2 c0 ks.length c1 fs.length c2 tn st wk g k _ ht (M.blk 1 rfl) (M.rowS 2 rfl) hr hk0) as r W2 ⟨rfl, g1⟩
 replace M := M.call g1
 clear g1
 obtain ⟨tY, Ad, Ab, Aj, Ak, Ac, Af, Aa, Ae, Al, Ag⟩ := M.f5 1 rfl
 have fz0 : W2.frozen? ⟨gr, k * 7, none⟩ = false := Own.fz (M.rowAt 2 rfl) _
 have fz2 : W2.frozen? ⟨gr, k * 7 + 2, none⟩ = false := Own.fz (M.rowAt 2 rfl) _
 obtain ⟨s', l', o', wt', on', v', t', ht', y0, y1, y2, y3, y4, y5, y6⟩ := Own.t7 (M.rowAt 2 rfl) hkl
 go_wp2_with fail
 clear tY Ad Ab Aj Ak Ac Af Aa Ae Al Ag fz0 fz2 ht' y0 y1 y2 y3 y4 y5 y6
 have N : ∃ V, ((W2.setCell ⟨gr, k * 7, none⟩ (.int .i64 1)).setCell ⟨gr, k * 7 + 2, none⟩ (.int .i64 (-1))) = V ∧ Sep S w V [.blk (w.heap.size) 55 #[.int .i64 0, .int .i64 0], .blk (g) 30 #[.slice (some ⟨gr, 0, none⟩) ts.length c0, .slice A1 ks.length c1, .slice A2 fs.length c2, .int .i64 tn, .bool st], rT ts.length (some ⟨gr, 0, none⟩) c0 (ts.set k ⟨1, l, -1, wt, on, v, t⟩), rK ks.length A1 c1 ks, rF fs.length A2 c2 fs] := ⟨_, rfl, M.putT2 2 rfl k 0 2 (by omega) (by omega) ⟨s, l, o1, wt, on, v, t⟩ 1 (-1) HT.out⟩
 clear M
 obtain ⟨W3, eW, M⟩ := N
 rw [eW]
 clear eW
 go_call (turn_full (some ⟨gr, 0, none⟩) A1 A2 ts.length c0 ks.length c1 fs.length c2 tn st g _ (by omega) (M.blk 1 rfl)) as r W8 ⟨rfl, rfl⟩
 go_wp2_with fail
 exact ⟨rfl, rfl, M.drop 5⟩
set_option maxHeartbeats 800000 in
theorem giveBack_ok (ts : List T7) (ks : List Int) (fs : List F2) (A0 A1 A2 : Option Addr) (c0 c1 c2 : Nat) (tn : Int) (st : Bool) (g : Nat) (wk : Int) (w : World) (ht : ts.length ≤ 1048576) (hk : ks.length ≤ 1048576) (hf : fs.length ≤ 1048576) (h : Sep (fps [.blk g 30 #[.slice A0 ts.length c0, .slice A1 ks.length c1, .slice A2 fs.length c2, .int .i64 tn, .bool st], rT ts.length A0 c0 ts, rK ks.length A1 c1 ks, rF fs.length A2 c2 fs]) w w [.blk g 30 #[.slice A0 ts.length c0, .slice A1 ks.length c1, .slice A2 fs.length c2, .int .i64 tn, .bool st], rT ts.length A0 c0 ts, rK ks.length A1 c1 ks, rF fs.length A2 c2 fs]) (k : Nat) (s l o1 wt on v t : Int) (hts : ts[k]? = some ⟨s, l, o1, wt, on, v, t⟩) (hr : runM ts wk 0 = k) (t0 : 0 ≤ tn) (t1 : tn < 1000000) :
 Calls Tryz.prog 76 #[.pointer (some ⟨g, 0, none⟩), .int .i64 wk] w (fun r w' => ∃ (D0 D1 D2 : Option Addr) (f0 f1 f2 : Nat), r = .returned (.agg #[.int .i64 1, .int .i64 k]) ∧ Sep (fps [.blk g 30 #[.slice A0 ts.length c0, .slice A1 ks.length c1, .slice A2 fs.length c2, .int .i64 tn, .bool st], rT ts.length A0 c0 ts, rK ks.length A1 c1 ks, rF fs.length A2 c2 fs]) w w' [.blk g 30 #[.slice D0 ts.length f0, .slice D1 ks.length f1, .slice D2 fs.length f2, .int .i64 (tn + 1), .bool st], rT ts.length D0 f0 (ts.set k ⟨1, l, -1, wt, on, v, tn⟩), rK ks.length D1 f1 ks, rF fs.length D2 f2 fs]) := by
 have hkl : k < ts.length := by
  rcases Nat.lt_or_ge k ts.length with h1 | h1
  ·exact h1
  ·rw [List.getElem?_eq_none h1] at hts; cases hts
 have hki : (k : Int) < (ts.length : Int) := by omega
 have hk0 : (0 : Int) ≤ (k : Int) := by omega
 have hr9 : (rT ts.length A0 c0 ts).here w := h.rowAt 1 rfl
 obtain ⟨gr, rfl, hgl, hfz9⟩ := rT_form hr9 (show 0 < ts.length by omega)
 clear hr9 hfz9 hgl
 obtain ⟨S, hS⟩ : ∃ S, S = fps [.blk g 30 #[.slice (some ⟨gr, 0, none⟩) ts.length c0, .slice A1 ks.length c1, .slice A2 fs.length c2, .int .i64 tn, .bool st], rT ts.length (some ⟨gr, 0, none⟩) c0 ts, rK ks.length A1 c1 ks, rF fs.length A2 c2 fs] := ⟨_, rfl⟩
 rw [← hS] at h ⊢
 clear hS
 have M0 := hide h
 clear h
 go_enter Tryz.func76, Tryz.ntmps76
 go_wp2_with fail
 have M := M0.out.allocN 55 #[.int .i64 0, .int .i64 0]
 clear M0
 generalize w.alloc (.cells #[.int .i64 0, .int .i64 0] 55) = W1 at M ⊢
 have HT := hide hts
 clear hts
 go_call (runNone_ok ts (some ⟨gr, 0, none⟩) A1 A2 c0 ks.length c1 fs.length c2 tn st wk g k _ ht (M.blk 1 rfl) (M.rowS 2 rfl) hr hk0) as r W2 ⟨rfl, g1⟩
 replace M := M.call g1
 clear g1
 obtain ⟨tY, Ad, Ab, Aj, Ak, Ac, Af, Aa, Ae, Al, Ag⟩ := M.f5 1 rfl
 have fz0 : W2.frozen? ⟨gr, k * 7, none⟩ = false := Own.fz (M.rowAt 2 rfl) _
 have fz2 : W2.frozen? ⟨gr, k * 7 + 2, none⟩ = false := Own.fz (M.rowAt 2 rfl) _
 obtain ⟨s', l', o', wt', on', v', t', ht', y0, y1, y2, y3, y4, y5, y6⟩ := Own.t7 (M.rowAt 2 rfl) hkl
 go_wp2_with fail
 clear tY Ad Ab Aj Ak Ac Af Aa Ae Al Ag fz0 fz2 ht' y0 y1 y2 y3 y4 y5 y6
 have N : ∃ V, ((W2.setCell ⟨gr, k * 7, none⟩ (.int .i64 1)).setCell ⟨gr, k * 7 + 2, none⟩ (.int .i64 (-1))) = V ∧ Sep S w V [.blk (w.heap.size) 55 #[.int .i64 0, .int .i64 0], .blk (g) 30 #[.slice (some ⟨gr, 0, none⟩) ts.length c0, .slice A1 ks.length c1, .slice A2 fs.length c2, .int .i64 tn, .bool st], rT ts.length (some ⟨gr, 0, none⟩) c0 (ts.set k ⟨1, l, -1, wt, on, v, t⟩), rK ks.length A1 c1 ks, rF fs.length A2 c2 fs] := ⟨_, rfl, M.putT2 2 rfl k 0 2 (by omega) (by omega) ⟨s, l, o1, wt, on, v, t⟩ 1 (-1) HT.out⟩
 clear M
 obtain ⟨W3, eW, M⟩ := N
 rw [eW]
 clear eW
 go_call (turn_ok (some ⟨gr, 0, none⟩) A1 A2 ts.length c0 ks.length c1 fs.length c2 tn st g _ t0 t1 (M.blk 1 rfl)) as r W8 ⟨rfl, rfl⟩
 replace M := M.set 1 rfl 3 (.int .i64 (tn + 1))
 generalize World.setCell W3 ⟨g, 3, none⟩ (.int .i64 (tn + 1)) = W4 at M ⊢
 have fz6 : W4.frozen? ⟨gr, k * 7 + 6, none⟩ = false := Own.fz (M.rowAt 2 rfl) _
 obtain ⟨s', l', o', wt', on', v', t', ht', y0, y1, y2, y3, y4, y5, y6⟩ := Own.t7 (M.rowAt 2 rfl) (show k < (ts.set k ⟨1, l, -1, wt, on, v, t⟩).length by simpa using hkl)
 go_wp2_with fail
 clear fz6 ht' y0 y1 y2 y3 y4 y5 y6
 have N : ∃ V, (W4.setCell ⟨gr, k * 7 + 6, none⟩ (.int .i64 tn)) = V ∧ Sep S w V [.blk (w.heap.size) 55 #[.int .i64 0, .int .i64 0], .blk (g) 30 #[.slice (some ⟨gr, 0, none⟩) ts.length c0, .slice A1 ks.length c1, .slice A2 fs.length c2, .int .i64 (tn + 1), .bool st], rT ts.length (some ⟨gr, 0, none⟩) c0 (ts.set k ⟨1, l, -1, wt, on, v, tn⟩), rK ks.length A1 c1 ks, rF fs.length A2 c2 fs] := ⟨_, rfl, by have h2 := M.putT 2 rfl k 6 (by omega) ⟨1, l, -1, wt, on, v, t⟩ tn (List.getElem?_set_self hkl); rw [List.set_set] at h2; exact h2⟩
 clear M
 obtain ⟨W5, eW, M⟩ := N
 rw [eW]
 clear eW
 go_call (okWith_any k _) as r WO ⟨rfl, g1⟩
 replace M := M.call g1
 clear g1
 obtain ⟨tR, Ai, Am, Ah, An⟩ := M.f2 0 rfl
 go_wp2_with fail
 clear tR Ai Am Ah An
 have N := M.gset2 0 rfl (.int .i64 1) (.int .i64 k)
 clear M
 obtain ⟨W6, eW, M⟩ := N
 rw [eW]
 clear eW
 simp only [List.set_cons_zero] at M
 replace M := M.front 4 rfl
 simp only [List.eraseIdx_cons_succ, List.eraseIdx_cons_zero] at M
 replace M := M.front 4 rfl
 simp only [List.eraseIdx_cons_succ, List.eraseIdx_cons_zero] at M
 replace M := M.front 4 rfl
 simp only [List.eraseIdx_cons_succ, List.eraseIdx_cons_zero] at M
 replace M := M.front 4 rfl
 simp only [List.eraseIdx_cons_succ, List.eraseIdx_cons_zero] at M
 obtain ⟨tR, Ai, Ah⟩ := M.q2 4 rfl
 exact bodyPost_ret (by simp [results, Tryz.results76, go_sem, Ai, Ah]) rfl ⟨(some ⟨gr, 0, none⟩), A1, A2, c0, c1, c2, rfl, M.take 4⟩
set_option maxRecDepth 100000
set_option maxHeartbeats 400000 in
theorem yieldedC_no (ts : List T7) (ks : List Int) (fs : List F2) (C0 C1 C2 : Option Addr) (e0 e1 e2 : Nat) (tn : Int) (st : Bool) (g : Nat) (wk : Int) (bwk : Nat) (rp : Int) (V : World) (h : Sep (fps [.blk g 30 #[.slice C0 ts.length e0, .slice C1 ks.length e1, .slice C2 fs.length e2, .int .i64 tn, .bool st], rT ts.length C0 e0 ts, rK ks.length C1 e1 ks, rF fs.length C2 e2 fs]) V V [.blk g 30 #[.slice C0 ts.length e0, .slice C1 ks.length e1, .slice C2 fs.length e2, .int .i64 tn, .bool st], rT ts.length C0 e0 ts, rK ks.length C1 e1 ks, rF fs.length C2 e2 fs]) (hwk : V.cell? ⟨bwk, 0, none⟩ = some (.int .i64 wk)) (lwk : bwk < V.heap.size)
 (hb : ∀ V', Sep (fps [.blk g 30 #[.slice C0 ts.length e0, .slice C1 ks.length e1, .slice C2 fs.length e2, .int .i64 tn, .bool st], rT ts.length C0 e0 ts, rK ks.length C1 e1 ks, rF fs.length C2 e2 fs]) V' V' [.blk g 30 #[.slice C0 ts.length e0, .slice C1 ks.length e1, .slice C2 fs.length e2, .int .i64 tn, .bool st], rT ts.length C0 e0 ts, rK ks.length C1 e1 ks, rF fs.length C2 e2 fs] → Calls Tryz.prog 76 #[.pointer (some ⟨g, 0, none⟩), .int .i64 wk] V' (fun r w' => r = .panicked [{ v := .iface 128 (.int .i64 rp), recovered := false }] ∧ Sep (fps [.blk g 30 #[.slice C0 ts.length e0, .slice C1 ks.length e1, .slice C2 fs.length e2, .int .i64 tn, .bool st], rT ts.length C0 e0 ts, rK ks.length C1 e1 ks, rF fs.length C2 e2 fs]) V' w' [])) :
 Calls Tryz.prog 75 (#[.pointer (some ⟨g, 0, none⟩)] ++ #[.pointer (some ⟨bwk, 0, none⟩)]) V (fun r w' => r = .panicked [{ v := .iface 128 (.int .i64 rp), recovered := false }] ∧ Sep (fps [.blk g 30 #[.slice C0 ts.length e0, .slice C1 ks.length e1, .slice C2 fs.length e2, .int .i64 tn, .bool st], rT ts.length C0 e0 ts, rK ks.length C1 e1 ks, rF fs.length C2 e2 fs]) V w' []) := by
 have H := hide h
 clear h
 show Calls Tryz.prog 75 #[.pointer (some ⟨g, 0, none⟩), .pointer (some ⟨bwk, 0, none⟩)] V _
 go_enter Tryz.func75, Tryz.ntmps75
 go_wp2_with fail
 have M := (H.out.allocN 55 #[.int .i64 0, .int .i64 0]).rot
 generalize V.alloc (.cells #[.int .i64 0, .int .i64 0] 55) = W1 at M ⊢
 refine Calls.mono (by with_reducible exact (hb W1 (Sep.same M (Below.refl _ _)))) ?_
 rintro r W2 ⟨rfl, g1⟩
 have M2 := Sep.comp M g1
 clear M g1
 go_wp2_with fail
 exact ⟨rfl, rfl, M2.drop 1⟩
set_option maxHeartbeats 400000 in
theorem yieldedC_yes (ts : List T7) (ks : List Int) (fs : List F2) (C0 C1 C2 : Option Addr) (e0 e1 e2 : Nat) (tn : Int) (st : Bool) (g : Nat) (wk : Int) (bwk : Nat) (o : OutP) (V : World) (h : Sep (fps [.blk g 30 #[.slice C0 ts.length e0, .slice C1 ks.length e1, .slice C2 fs.length e2, .int .i64 tn, .bool st], rT ts.length C0 e0 ts, rK ks.length C1 e1 ks, rF fs.length C2 e2 fs]) V V [.blk g 30 #[.slice C0 ts.length e0, .slice C1 ks.length e1, .slice C2 fs.length e2, .int .i64 tn, .bool st], rT ts.length C0 e0 ts, rK ks.length C1 e1 ks, rF fs.length C2 e2 fs]) (hwk : V.cell? ⟨bwk, 0, none⟩ = some (.int .i64 wk)) (lwk : bwk < V.heap.size)
 (hb : ∀ V', Sep (fps [.blk g 30 #[.slice C0 ts.length e0, .slice C1 ks.length e1, .slice C2 fs.length e2, .int .i64 tn, .bool st], rT ts.length C0 e0 ts, rK ks.length C1 e1 ks, rF fs.length C2 e2 fs]) V' V' [.blk g 30 #[.slice C0 ts.length e0, .slice C1 ks.length e1, .slice C2 fs.length e2, .int .i64 tn, .bool st], rT ts.length C0 e0 ts, rK ks.length C1 e1 ks, rF fs.length C2 e2 fs] → Calls Tryz.prog 76 #[.pointer (some ⟨g, 0, none⟩), .int .i64 wk] V' (fun r w' => ∃ (D0 D1 D2 : Option Addr) (f0 f1 f2 : Nat), r = .returned (.agg #[.int .i64 o.rp, .int .i64 o.ou]) ∧ Sep (fps [.blk g 30 #[.slice C0 ts.length e0, .slice C1 ks.length e1, .slice C2 fs.length e2, .int .i64 tn, .bool st], rT ts.length C0 e0 ts, rK ks.length C1 e1 ks, rF fs.length C2 e2 fs]) V' w' [.blk g 30 #[.slice D0 o.ts.length f0, .slice D1 o.ks.length f1, .slice D2 o.fs.length f2, .int .i64 o.tn, .bool o.st], rT o.ts.length D0 f0 o.ts, rK o.ks.length D1 f1 o.ks, rF o.fs.length D2 f2 o.fs])) :
 Calls Tryz.prog 75 (#[.pointer (some ⟨g, 0, none⟩)] ++ #[.pointer (some ⟨bwk, 0, none⟩)]) V (fun r w' => ∃ (D0 D1 D2 : Option Addr) (f0 f1 f2 : Nat), r = .returned (.agg #[.int .i64 o.rp, .int .i64 o.ou]) ∧ Sep (fps [.blk g 30 #[.slice C0 ts.length e0, .slice C1 ks.length e1, .slice C2 fs.length e2, .int .i64 tn, .bool st], rT ts.length C0 e0 ts, rK ks.length C1 e1 ks, rF fs.length C2 e2 fs]) V w' [.blk g 30 #[.slice D0 o.ts.length f0, .slice D1 o.ks.length f1, .slice D2 o.fs.length f2, .int .i64 o.tn, .bool o.st], rT o.ts.length D0 f0 o.ts, rK o.ks.length D1 f1 o.ks, rF o.fs.length D2 f2 o.fs]) := by
 have H := hide h
 clear h
 show Calls Tryz.prog 75 #[.pointer (some ⟨g, 0, none⟩), .pointer (some ⟨bwk, 0, none⟩)] V _
 go_enter Tryz.func75, Tryz.ntmps75
 go_wp2_with fail
 have M := (H.out.allocN 55 #[.int .i64 0, .int .i64 0]).rot
 generalize V.alloc (.cells #[.int .i64 0, .int .i64 0] 55) = W1 at M ⊢
 refine Calls.mono (by with_reducible exact (hb W1 (Sep.same M (Below.refl _ _)))) ?_
 rintro r W2 ⟨D0, D1, D2, f0, f1, f2, rfl, g1⟩
 have M2 := Sep.comp M g1
 clear M g1
 simp only [List.cons_append, List.nil_append] at M2
 obtain ⟨tR, Ab, Ae, Aa, Ai⟩ := M2.f2 4 rfl
 go_wp2_with fail
 have N := M2.gset2 4 rfl (.int .i64 o.rp) (.int .i64 o.ou)
 clear M2 Ab Aa Ae Ai tR
 obtain ⟨W3, eW, M⟩ := N
 rw [eW]
 clear eW
 simp only [List.set_cons_zero, List.set_cons_succ] at M
 obtain ⟨tR, Ab, Aa⟩ := M.q2 4 rfl
 exact bodyPost_ret (by simp [results, Tryz.results75, go_sem, Ab, Aa]) rfl ⟨D0, D1, D2, f0, f1, f2, rfl, M.take 4⟩
set_option maxHeartbeats 800000 in
theorem gYielded_face (a b c d e : Int) (ts : List T7) (ks : List Int) (fs : List F2) (A0 A1 A2 : Option Addr) (c0 c1 c2 : Nat) (tn : Int) (st : Bool) (wk : Int) (w : World) (ht : ts.length ≤ 1048576) (hk : ks.length ≤ 1048576) (hf : fs.length ≤ 1048576) (h : InPool w ts ks fs A0 A1 A2) (o : OutP)
 (hL : ∀ (V : World) (bwk : Nat), Below w.heap.size w V → V.cell? ⟨bwk, 0, none⟩ = some (.int .i64 wk) → bwk < V.heap.size → Calls Tryz.prog 68 #[.agg #[.int .i64 a, .int .i64 b, .int .i64 c, .int .i64 d, .int .i64 e], .agg #[.slice A0 ts.length c0, .slice A1 ks.length c1, .slice A2 fs.length c2, .int .i64 tn, .bool st], .int .i64 wk, .func (.func 75) #[] #[.pointer (some ⟨bwk, 0, none⟩)]] V (GaveS [] V o)) :
 Calls Tryz.prog 30 #[.agg #[.int .i64 a, .int .i64 b, .int .i64 c, .int .i64 d, .int .i64 e], .agg #[.slice A0 ts.length c0, .slice A1 ks.length c1, .slice A2 fs.length c2, .int .i64 tn, .bool st], .int .i64 wk] w (GaveS [] w o) := by
 have hmf : ∀ (fn : Fn) (first cap : Array Value) (w : World), (Instr.makeFunc fn first cap).run Tryz.prog w = .ok (.func fn first cap) w := fun _ _ _ _ => rfl
 have HL := hide hL
 have H := hide h
 clear h hL
 go_enter Tryz.func30, Tryz.ntmps30
 go_wp2_with fail
 generalize hW : ((((w.alloc _).alloc _).alloc _).alloc _).alloc _ = W1
 have M := Sep.e5 hW
 clear hW
 obtain ⟨tS, Ah, Al, Ad, Aj⟩ := M.f2 0 rfl
 obtain ⟨tR, Ab, Ae, Aa, Ai, Ag, An, Ac, Ak, Af, Am⟩ := M.f5 1 rfl
 obtain ⟨tVwk, qVwk0, fVwk0⟩ := M.f1 2 rfl
 obtain ⟨tX, Ar, Bh, Ap, Bb, Be, Aq, Ba, Bg, As, Ay⟩ := M.f5 3 rfl
 obtain ⟨tP, Az, Bc, Bd, Av, Bf, Ao, Au, Ax, At, Aw⟩ := M.f5 4 rfl
 go_wp2_with fail
 have hC := HL.out _ (w.heap.size + 2) M.below (M.cell 2 0 rfl) (M.lt 2 rfl)
 refine Calls.mono (by with_reducible exact hC) ?_
 clear hC
 rintro r W2 ⟨B0, B1, B2, d0, d1, d2, rfl, g1⟩
 clear tS Ah Al Ad Aj tR Ab Ae Aa Ai Ag An Ac Ak Af Am tVwk qVwk0 fVwk0 tX Ar Bh Ap Bb Be Aq Ba Bg As Ay tP Az Bc Bd Av Bf Ao Au Ax At Aw
 replace M := Sep.new M g1
 simp only [List.cons_append, List.nil_append] at M
 clear g1
 obtain ⟨tS, Ah, Al, Ad, Aj⟩ := M.f2 3 rfl
 obtain ⟨tR, Ab, Ae, Aa, Ai, Ag, An, Ac, Ak, Af, Am⟩ := M.f5 4 rfl
 go_wp2_with fail
 clear tS Ah Al Ad Aj tR Ab Ae Aa Ai Ag An Ac Ak Af Am
 have N := M.gset5 4 rfl (.slice B0 o.ts.length d0) (.slice B1 o.ks.length d1) (.slice B2 o.fs.length d2) (.int .i64 o.tn) (.bool o.st)
 clear M
 obtain ⟨W3, eW, M⟩ := N
 rw [eW]
 clear eW
 simp only [List.set_cons_zero, List.set_cons_succ] at M
 have N := M.gset2 3 rfl (.int .i64 o.rp) (.int .i64 o.ou)
 clear M
 obtain ⟨W4, eW, M⟩ := N
 rw [eW]
 clear eW
 simp only [List.set_cons_zero, List.set_cons_succ] at M
 obtain ⟨tS, Ah, Ad⟩ := M.q2 3 rfl
 obtain ⟨tR, Ab, Aa, Ag, Ac, Af⟩ := M.q5 4 rfl
 exact bodyPost_ret (by simp [results, Tryz.results30, go_sem, Ab, Aa, Ag, Ac, Af, Ah, Ad]) rfl ⟨B0, B1, B2, d0, d1, d2, rfl, M.take 3⟩
theorem yielded_told (a b c d e : Int) (ts : List T7) (ks : List Int) (fs : List F2) (tn : Int) (st : Bool) (wk : Int) (hl : ts.length + ks.length + fs.length ≤ 1048576) :
 ∃ (us : List T7) (ks2 : List Int) (fs2 : List F2) (tn2 : Int) (st2 : Bool) (rp ou : Int), us.length + ks2.length + fs2.length ≤ 1048576 ∧
 (poolB a b c d e ts ks fs tn = true → btw wk 0 (a - 1) = true → (runM ts wk 0 = -1 → rp = 2) ∧ (∀ (k : Nat) (x : T7), runM ts wk 0 = k → ts[k]? = some x → tn < 1000000 → rp = 1 ∧ ou = k ∧ us = ts.set k ⟨1, x.l, -1, x.wt, x.on, x.v, tn⟩ ∧ ks2 = ks ∧ fs2 = fs ∧ tn2 = tn + 1 ∧ st2 = st ∧ poolB a b c d e us ks2 fs2 tn2 = true)) ∧
 Hid (∀ (A0 A1 A2 : Option Addr) (c0 c1 c2 : Nat) (w : World), InPool w ts ks fs A0 A1 A2 → Calls Tryz.prog 131 #[.agg #[.int .i64 a, .int .i64 b, .int .i64 c, .int .i64 d, .int .i64 e], .agg #[.slice A0 ts.length c0, .slice A1 ks.length c1, .slice A2 fs.length c2, .int .i64 tn, .bool st], .int .i64 wk] w (GaveA us ks2 fs2 tn2 st2 rp ou w)) ∧
 Hid (∀ (A0 A1 A2 : Option Addr) (c0 c1 c2 : Nat) (w : World), InPool w ts ks fs A0 A1 A2 → Calls Tryz.prog 30 #[.agg #[.int .i64 a, .int .i64 b, .int .i64 c, .int .i64 d, .int .i64 e], .agg #[.slice A0 ts.length c0, .slice A1 ks.length c1, .slice A2 fs.length c2, .int .i64 tn, .bool st], .int .i64 wk] w (GaveA us ks2 fs2 tn2 st2 rp ou w)) := by
 have ht : ts.length ≤ 1048576 := by omega
 have hk : ks.length ≤ 1048576 := by omega
 have hf : fs.length ≤ 1048576 := by omega
 cases hp : poolB a b c d e ts ks fs tn
 ·exact ⟨[], [], [], 0, false, 8, 0, by simp, (fun h => by cases h), hide (fun A0 A1 A2 c0 c1 c2 w h => (yielded_may a b c d e ts ks fs A0 A1 A2 c0 c1 c2 tn st wk w ht hk hf h _ rfl (by simp [mayB, hp])).mono (fun r w' hh => by rw [hp] at hh; exact hh)), hide (fun A0 A1 A2 c0 c1 c2 w h => gYielded_face a b c d e ts ks fs A0 A1 A2 c0 c1 c2 tn st wk w ht hk hf h ⟨[], [], [], 0, false, 8, 0⟩ (fun V bwk hV hwk lwk => lived_bad a b c d e ts ks fs A0 A1 A2 c0 c1 c2 tn st wk 75 #[.pointer (some ⟨bwk, 0, none⟩)] (Go.Proofs.enters_of Tryz.func75 (by kernel_rfl) rfl) V ht hk hf (h.below hV) hp))⟩
 have hpl := (poolB_parts hp).1
 have hT := (poolB_parts hp).2.1
 cases hw : btw wk 0 (a - 1)
 ·exact ⟨ts, ks, fs, tn, st, 8, 0, hl, (fun _ h => by cases h), hide (fun A0 A1 A2 c0 c1 c2 w h => (yielded_may a b c d e ts ks fs A0 A1 A2 c0 c1 c2 tn st wk w ht hk hf h _ rfl (by simp [mayB, workB, hp, hw])).mono (fun r w' hh => by rw [hp] at hh; exact hh)), hide (fun A0 A1 A2 c0 c1 c2 w h => gYielded_face a b c d e ts ks fs A0 A1 A2 c0 c1 c2 tn st wk w ht hk hf h ⟨ts, ks, fs, tn, st, 8, 0⟩ (fun V bwk hV hwk lwk => lived_worker a b c d e ts ks fs A0 A1 A2 c0 c1 c2 tn st wk 75 #[.pointer (some ⟨bwk, 0, none⟩)] (Go.Proofs.enters_of Tryz.func75 (by kernel_rfl) rfl) V ht hk hf (h.below hV) hp hw))⟩
 have hm : mayB a b c d e ts ks fs tn wk = true := by simp [mayB, workB, hp, hw, hpl]
 by_cases h0 : runM ts wk 0 < 0
 ·have hr := runM_none h0
  exact ⟨ts, ks, fs, tn, st, 2, 0, hl, (fun _ _ => ⟨fun _ => rfl, fun k2 x2 h2 => by omega⟩), hide (fun A0 A1 A2 c0 c1 c2 w h => (yielded_none a b c d e ts ks fs A0 A1 A2 c0 c1 c2 tn st wk w ht hk hf h _ rfl h0 hm).mono (fun r w' hh => by rw [hp] at hh; exact hh)), hide (fun A0 A1 A2 c0 c1 c2 w h => gYielded_face a b c d e ts ks fs A0 A1 A2 c0 c1 c2 tn st wk w ht hk hf h ⟨ts, ks, fs, tn, st, 2, 0⟩ (fun V bwk hV hwk lwk => lived_no a b c d e ts ks fs A0 A1 A2 c0 c1 c2 tn st wk 75 #[.pointer (some ⟨bwk, 0, none⟩)] (Go.Proofs.enters_of Tryz.func75 (by kernel_rfl) rfl) V ht hk hf (h.below hV) hp hw 2 (fun V2 g C0 C1 C2 e0 e1 e2 hV2 hM => yieldedC_no ts ks fs C0 C1 C2 e0 e1 e2 tn st g wk bwk 2 V2 hM ((hV2.cell (p := ⟨bwk, 0, none⟩) lwk).trans hwk) (Nat.lt_of_lt_of_le lwk hV2.size) (fun V3 hM3 => giveBack_none ts ks fs C0 C1 C2 e0 e1 e2 tn st g wk V3 ht hk hf hM3 hr))))⟩
 obtain ⟨k, hr⟩ : ∃ k : Nat, runM ts wk 0 = k := ⟨(runM ts wk 0).toNat, by omega⟩
 obtain ⟨⟨s, l, o1, wt, on, v, t⟩, hts, hs2, _⟩ := runM_runs (Int.le_refl 0) (show runM ts wk 0 = 0 + (k : Int) by omega)
 simp only at hs2
 by_cases t1 : tn < 1000000
 ·have hz := give_right hp hts hs2 t1
  exact ⟨(ts.set k ⟨1, l, -1, wt, on, v, tn⟩), ks, fs, tn + 1, st, 1, k, by simpa using hl, (fun _ _ => ⟨fun h2 => by omega, fun k2 x2 h2 h3 _ => by obtain rfl : k2 = k := (by omega); rw [hts] at h3; injection h3 with h3; subst h3; exact ⟨rfl, rfl, rfl, rfl, rfl, rfl, rfl, hz⟩⟩), hide (fun A0 A1 A2 c0 c1 c2 w h => (yielded_main a b c d e ts ks fs A0 A1 A2 c0 c1 c2 tn st wk w ht hk hf h k s l o1 wt on v t hts hr hm).mono (fun r w' hh => by rw [hz] at hh; exact hh)), hide (fun A0 A1 A2 c0 c1 c2 w h => gYielded_face a b c d e ts ks fs A0 A1 A2 c0 c1 c2 tn st wk w ht hk hf h ⟨(ts.set k ⟨1, l, -1, wt, on, v, tn⟩), ks, fs, tn + 1, st, 1, k⟩ (fun V bwk hV hwk lwk => lived_yes a b c d e ts ks fs A0 A1 A2 c0 c1 c2 tn st wk 75 #[.pointer (some ⟨bwk, 0, none⟩)] (Go.Proofs.enters_of Tryz.func75 (by kernel_rfl) rfl) V ht hk hf (h.below hV) hp hw _ (fun V2 g C0 C1 C2 e0 e1 e2 hV2 hM => yieldedC_yes ts ks fs C0 C1 C2 e0 e1 e2 tn st g wk bwk _ V2 hM ((hV2.cell (p := ⟨bwk, 0, none⟩) lwk).trans hwk) (Nat.lt_of_lt_of_le lwk hV2.size) (fun V3 hM3 => by have h9 := giveBack_ok ts ks fs C0 C1 C2 e0 e1 e2 tn st g wk V3 ht hk hf hM3 k s l o1 wt on v t hts hr hT.1 t1; rw [show (ts.set k ⟨1, l, -1, wt, on, v, tn⟩).length = ts.length from List.length_set]; exact h9))))⟩
 ·have hz : poolB a b c d e (ts.set k ⟨1, l, -1, wt, on, v, tn⟩) ks fs (tn + 1) = false := turn_over (by omega)
  exact ⟨ts, ks, fs, tn, st, 4, 0, hl, (fun _ _ => ⟨fun h2 => by omega, fun k2 x2 h2 h3 h4 => absurd h4 t1⟩), hide (fun A0 A1 A2 c0 c1 c2 w h => (yielded_main a b c d e ts ks fs A0 A1 A2 c0 c1 c2 tn st wk w ht hk hf h k s l o1 wt on v t hts hr hm).mono (fun r w' hh => by rw [hz] at hh; exact hh)), hide (fun A0 A1 A2 c0 c1 c2 w h => gYielded_face a b c d e ts ks fs A0 A1 A2 c0 c1 c2 tn st wk w ht hk hf h ⟨ts, ks, fs, tn, st, 4, 0⟩ (fun V bwk hV hwk lwk => lived_no a b c d e ts ks fs A0 A1 A2 c0 c1 c2 tn st wk 75 #[.pointer (some ⟨bwk, 0, none⟩)] (Go.Proofs.enters_of Tryz.func75 (by kernel_rfl) rfl) V ht hk hf (h.below hV) hp hw 4 (fun V2 g C0 C1 C2 e0 e1 e2 hV2 hM => yieldedC_no ts ks fs C0 C1 C2 e0 e1 e2 tn st g wk bwk 4 V2 hM ((hV2.cell (p := ⟨bwk, 0, none⟩) lwk).trans hwk) (Nat.lt_of_lt_of_le lwk hV2.size) (fun V3 hM3 => giveBack_full ts ks fs C0 C1 C2 e0 e1 e2 tn st g wk V3 ht hk hf hM3 k s l o1 wt on v t hts hr t1))))⟩
theorem pick_count (ts : List T7) (n : Nat) (hn : n ≤ ts.length) : (pick (readyQ ts) n).length = countM (ts.take n) 1 := by
 induction n with
 | zero => simp [pick, countM]
 | succ n ih =>
  have hlt : n < ts.length := by omega
  have h1 := ih (by omega)
  have h2 := countM_take ts 1 n
  have h3 := countM_take ts 1 (n + 1)
  rw [List.drop_eq_getElem_cons hlt] at h2
  have hq : readyQ ts n = (ts[n].s == 1) := by simp [readyQ, List.getD_eq_getElem?_getD, List.getElem?_eq_getElem hlt]
  simp only [countM] at h2
  simp only [pick, hq]
  by_cases hs : ts[n].s = 1
  ·rw [if_pos hs] at h2
   simp only [hs, beq_self_eq_true, if_true, List.length_append, List.length_singleton]
   omega
  ·rw [if_neg hs] at h2
   have hb : (ts[n].s == 1) = false := by simpa using hs
   simp only [hb, Bool.false_eq_true, if_false]
   omega
theorem ready_count (ts : List T7) : (readyM ts).length = countM ts 1 := by
 have h := (lineM_perm (readyQ ts) (readyP ts) ts.length).length_eq
 rw [List.length_map, pick_count ts ts.length (Nat.le_refl _), List.take_length] at h
 exact h
theorem ready_pair {ts : List T7} {i : Nat} (h : i + 1 < (readyM ts).length) : ∃ (x y : Nat) (tx ty : T7), (readyM ts)[i]? = some (x : Int) ∧ (readyM ts)[i + 1]? = some (y : Int) ∧ x < ts.length ∧ y < ts.length ∧ ts[x]? = some tx ∧ ts[y]? = some ty ∧ ty.l ≤ tx.l ∧ (tx.l = ty.l → tx.t ≤ ty.t) := by
 have hs : ((readyM ts).map (readyPl ts)).Pairwise leP := lineM_sorted (readyQ ts) (readyP ts) (readyPl ts) (fun k j _ => rfl) ts.length
 have hm : ∀ x ∈ readyM ts, ∃ j : Nat, x = j ∧ j < ts.length := lineM_mem (readyQ ts) (readyP ts) ts.length
 have hi : i < (readyM ts).length := by omega
 obtain ⟨x, ex, hx⟩ := hm _ (List.getElem_mem hi)
 obtain ⟨y, ey, hy⟩ := hm _ (List.getElem_mem h)
 have hp := (List.pairwise_iff_getElem.1 hs) i (i + 1) (by simpa using hi) (by simpa using h) (by omega)
 rw [List.getElem_map, List.getElem_map] at hp
 rw [ex, ey] at hp
 have tx : taskAt ts (x : Int) = ts[x] := by simp [taskAt, List.getD_eq_getElem?_getD, List.getElem?_eq_getElem hx]
 have ty : taskAt ts (y : Int) = ts[y] := by simp [taskAt, List.getD_eq_getElem?_getD, List.getElem?_eq_getElem hy]
 refine ⟨x, y, ts[x], ts[y], by rw [List.getElem?_eq_getElem hi]; exact congrArg some ex, by rw [List.getElem?_eq_getElem h]; exact congrArg some ey, hx, hy, List.getElem?_eq_getElem hx, List.getElem?_eq_getElem hy, ?_⟩
 simp only [leP, aheadP, readyPl, tx, ty] at hp
 split at hp
 ·rename_i hl
  split at hp
  ·rename_i ht
   exact ⟨by omega, fun _ => by omega⟩
  ·simp at hp
   exact ⟨by omega, fun _ => by omega⟩
 ·rename_i hl
  simp at hp
  exact ⟨by omega, fun e => absurd e.symm hl⟩
theorem mem_pick {q : Nat → Bool} {n k : Nat} (hk : k < n) (hq : q k = true) : k ∈ pick q n := by
 induction n with
 | zero => omega
 | succ n ih =>
  simp only [pick]
  by_cases h : k = n
  ·subst h; simp [hq]
  ·have h2 := ih (by omega)
   split
   ·exact List.mem_append_left _ h2
   ·exact h2
theorem mem_line {q : Nat → Bool} {P : Nat → Int → Bool} {n k : Nat} (hk : k < n) (hq : q k = true) : (k : Int) ∈ lineM q P n :=
 (lineM_perm q P n).mem_iff.2 (List.mem_map.2 ⟨k, mem_pick hk hq, rfl⟩)
theorem get_lt {α : Type} {ts : List α} {k : Nat} {x : α} (h : ts[k]? = some x) : k < ts.length := (List.getElem?_eq_some_iff.1 h).1
theorem mem_ready {ts : List T7} {k : Nat} {x : T7} (h : ts[k]? = some x) (hs : x.s = 1) : (k : Int) ∈ readyM ts := by
 refine mem_line (get_lt h) ?_
 simp [readyQ, List.getD_eq_getElem?_getD, h, hs]
theorem ready_nodup (ts : List T7) : (readyM ts).Nodup := by
 refine (lineM_perm _ _ _).nodup_iff.2 ?_
 exact List.Pairwise.map _ (fun a b h e => h (Int.ofNat.inj e)) (pick_nodup _ _)
theorem runM_no {ts : List T7} {wk : Int} (i : Int) (h : ∀ u ∈ ts, u.s = 2 → u.o ≠ wk) : runM ts wk i = -1 := by
 induction ts generalizing i with
 | nil => rfl
 | cons t r ih =>
  simp only [runM]
  rw [if_neg (fun hh => h t (List.mem_cons_self ..) hh.1 hh.2)]
  exact ih (i + 1) (fun u hu => h u (List.mem_cons_of_mem _ hu))
theorem runM_at {ts : List T7} {wk : Int} {k : Nat} {x : T7} (i : Int) (hx : ts[k]? = some x) (hs : x.s = 2) (ho : x.o = wk) (h : ∀ (j : Nat) (u : T7), j < k → ts[j]? = some u → u.s = 2 → u.o ≠ wk) : runM ts wk i = i + k := by
 induction ts generalizing i k with
 | nil => simp at hx
 | cons t r ih =>
  simp only [runM]
  cases k with
  | zero =>
   simp at hx
   subst hx
   rw [if_pos ⟨hs, ho⟩]
   simp
  | succ k =>
   rw [if_neg (fun hh => h 0 t (by omega) rfl hh.1 hh.2)]
   rw [ih (i + 1) (by simpa using hx) (fun j u hj hu => h (j + 1) u (by omega) (by simpa using hu))]
   push_cast
   omega
/-- Two that run in a right pool have two owners. -/
theorem right_two {a b c d e : Int} {ts : List T7} {ks : List Int} {fs : List F2} {tn : Int} (h : poolB a b c d e ts ks fs tn = true) {i j : Nat} {x y : T7} (hx : ts[i]? = some x) (hy : ts[j]? = some y) (hij : i ≠ j) (hs : x.s = 2) (hs2 : y.s = 2) : x.o ≠ y.o := by
 have key : ∀ {i j : Nat} {x y : T7}, ts[i]? = some x → ts[j]? = some y → i < j → x.s = 2 → y.s = 2 → x.o ≠ y.o := fun {i j x y} hx hy hij hs hs2 e => by
  obtain ⟨_, _, _, _, _, _, _, _, g9, _⟩ := fit_parts (pool_fit h hy)
  simp only [soloTo, hs2, Bool.or_eq_true, List.all_eq_true] at g9
  rcases g9 with g9 | g9
  ·simp at g9
  ·have hm : x ∈ ts.take j := List.mem_of_getElem? (i := i) (by rw [List.getElem?_take_of_lt hij]; exact hx)
   have := g9 x hm
   simp [hs, e] at this
 rcases Nat.lt_or_ge i j with h1 | h1
 ·exact key hx hy h1 hs hs2
 ·exact fun e => key hy hx (by omega) hs2 hs e.symm
theorem right_turn {a b c d e : Int} {ts : List T7} {ks : List Int} {fs : List F2} {tn : Int} (h : poolB a b c d e ts ks fs tn = true) {k : Nat} {x : T7} (hx : ts[k]? = some x) : x.t < tn := by
 obtain ⟨_, _, _, _, _, _, _, h8, _⟩ := fit_parts (pool_fit h hx)
 exact h8
/-- Whoever ran and runs no more leaves its worker free. -/
theorem run_free {a b c d e : Int} {ts : List T7} {ks : List Int} {fs : List F2} {tn : Int} (h : poolB a b c d e ts ks fs tn = true) {k : Nat} {x y : T7} (hx : ts[k]? = some x) (hs : x.s = 2) (hy : y.s ≠ 2) : runM (ts.set k y) x.o 0 = -1 := by
 refine runM_no 0 fun u hu hu2 => ?_
 obtain ⟨j, hj, rfl⟩ := List.getElem_of_mem hu
 have hju : (ts.set k y)[j]? = some (ts.set k y)[j] := List.getElem?_eq_getElem hj
 generalize (ts.set k y)[j] = u at *
 by_cases e : k = j
 ·subst e
  rw [List.getElem?_set_self (get_lt hx)] at hju
  injection hju with hju
  subst hju
  exact absurd hu2 hy
 ·rw [List.getElem?_set_ne e] at hju
  exact fun e2 => right_two h hju hx (by omega) hu2 hs e2
theorem ready_lt2 (ts : List T7) : (readyM ts).length ≤ ts.length := lineM_length _ _ _
theorem run_taken {ts : List T7} {wk : Int} {k : Nat} {x y : T7} (hr : runM ts wk 0 = -1) (hx : ts[k]? = some x) (hs : y.s = 2) (ho : y.o = wk) : runM (ts.set k y) wk 0 = k := by
 have hno := runM_nobody (Int.le_refl 0) hr
 have h := runM_at (ts := ts.set k y) (wk := wk) (k := k) (x := y) 0 (List.getElem?_set_self (get_lt hx)) hs ho (fun j u hj hu hu2 e => by
  rw [List.getElem?_set_ne (by omega)] at hu
  have h1 := hno u (List.mem_of_getElem? hu)
  simp [hu2, e] at h1)
 simpa using h
theorem countM_same {k : Nat} {x y : T7} {s : Int} : ∀ (ts : List T7), ts[k]? = some x → x.s = y.s → countM (ts.set k y) s = countM ts s := by
 induction k with
 | zero =>
  intro ts h e
  cases ts with
  | nil => simp at h
  | cons t r =>
   simp at h
   subst h
   simp only [List.set_cons_zero, countM, e]
 | succ k ih =>
  intro ts h e
  cases ts with
  | nil => simp at h
  | cons t r =>
   have := ih r (by simpa using h) e
   simp only [List.set_cons_succ, countM, this]
/-- Whoever gives back stands behind all others of its level. -/
theorem give_order {us : List T7} {k : Nat} {z : T7} (hz : us[k]? = some z) (hall : ∀ (j : Nat) (y : T7), j ≠ k → us[j]? = some y → y.t < z.t) {i : Nat} (h : i + 1 < (readyM us).length) :
 ∃ (x y : Nat) (tx ty : T7), (readyM us)[i]? = some (x : Int) ∧ (readyM us)[i + 1]? = some (y : Int) ∧ us[x]? = some tx ∧ us[y]? = some ty ∧ (x = k → ty.l ≠ tx.l) := by
 obtain ⟨x, y, tx, ty, h1, h2, _, _, hx, hy, h3, h4⟩ := ready_pair h
 refine ⟨x, y, tx, ty, h1, h2, hx, hy, fun e hl => ?_⟩
 subst e
 rw [hz] at hx
 injection hx with hx
 subst hx
 have hne : y ≠ x := fun e => by
  subst e
  have hn := ready_nodup us
  have h5 := (List.pairwise_iff_getElem.1 hn) i (i + 1) (by omega) h (by omega)
  rw [List.getElem?_eq_getElem (by omega)] at h1
  rw [List.getElem?_eq_getElem h] at h2
  injection h1 with h1
  injection h2 with h2
  exact h5 (h1.trans h2.symm)
 have := hall y ty hne hy
 have := h4 hl.symm
 omega
set_option maxRecDepth 100000 in
set_option maxHeartbeats 1000000 in
theorem likeInts_same (ks : List Int) (A B : Option Addr) (c d : Nat) (w : World) (hlen : ks.length ≤ 1048576) (h0 : Row w A (icells ks)) (h1 : Row w B (icells ks)) :
 Calls Tryz.prog 54 #[.slice A ks.length c, .slice B ks.length d] w fun r w' => r = .returned (.bool true) ∧ Below w.heap.size w w' := by
 have H0 := hide h0
 have H1 := hide h1
 clear h0 h1
 go_enter Tryz.func54, Tryz.ntmps54
 go_wp2
 go_loopw [5] (fun i wr => ∃ (k : Nat), k ≤ ks.length ∧ i = .int .i64 k ∧ Below w.heap.size w wr) (fun i _ => ks.length - (intOf i).toNat)
 case atStart => exact ⟨0, Nat.zero_le _, rfl, by go_grown⟩
 case round =>
  obtain ⟨k, hk, rfl, hbel⟩ := hrel
  have hz := hbel.size
  by_cases hlt : k < ks.length
  ·obtain ⟨b, off, v, rfl, _, hx, hb1, z0⟩ := (H0.out.below hbel).ks_at hlt
   obtain ⟨b2, off2, v', rfl, _, hx2, hb2, y0⟩ := (H1.out.below hbel).ks_at hlt
   rw [hx] at hx2
   injection hx2 with hx2
   subst hx2
   clear hx
   have c0 := KeptW.cell (W0 := wr) (b := b) (o := off + k) (z0)
   have e0 := KeptW.cell (W0 := wr) (b := b2) (o := off2 + k) (y0)
   clear z0 y0
   go_wp2_with fail
   have hx0 := KeptW.mk'_w (Below.refl wr.heap.size wr)
   generalize KeptW.mk' (Below.refl wr.heap.size wr) = x at hx0
   rw [← hx0]
   clear hx0
   refine region_kept (by kernel_rfl) (by kernel_rfl) ?_
   repeat (go_big_quiet_step (fail))
   refine wpQuiet_nil ?_
   rintro _ ⟨x, rfl⟩
   have hgx := hbel.trans (x.below.mono hz)
   go_wp2
   go_roundw
   case rel => exact ⟨k + 1, by omega, by go_num, hgx⟩
   case measure => simp [intOf]; omega
  ·go_wp2
   go_ret
   exact ⟨rfl, hbel⟩
set_option maxRecDepth 100000 in
set_option maxHeartbeats 1000000 in
theorem likePool_same (ts : List T7) (ks : List Int) (fs : List F2) (A0 A1 A2 B0 B1 B2 : Option Addr) (c0 c1 c2 d0 d1 d2 : Nat) (tn : Int) (st : Bool) (w : World) (hl : ts.length + ks.length + fs.length ≤ 1048576) (hA : InPool w ts ks fs A0 A1 A2) (hB : InPool w ts ks fs B0 B1 B2) :
 Calls Tryz.prog 14 #[.agg #[.slice A0 ts.length c0, .slice A1 ks.length c1, .slice A2 fs.length c2, .int .i64 tn, .bool st], .agg #[.slice B0 ts.length d0, .slice B1 ks.length d1, .slice B2 fs.length d2, .int .i64 tn, .bool st]] w fun r w' => r = .returned (.bool true) ∧ Below w.heap.size w w' := by
 have HA := hide hA
 have HB := hide hB
 clear hA hB
 go_enter Tryz.func14, Tryz.ntmps14
 go_wp2_with fail
 generalize hW : (w.alloc _).alloc _ = W1
 have M := Sep.e2 hW
 clear hW
 have HV := hide M.below
 obtain ⟨xb, hxb⟩ : ∃ xb, xb = w.heap.size := ⟨_, rfl⟩
 obtain ⟨yb, hyb⟩ : ∃ yb, yb = w.heap.size + 1 := ⟨_, rfl⟩
 rw [← hyb, ← hxb] at M ⊢
 obtain ⟨tX, Aa, Af, Ag, Ad, Ab⟩ := M.q5 1 rfl
 obtain ⟨tY, Ah, Ai, Ae, Ac, Aj⟩ := M.q5 0 rfl
 have HA2 := hide (InPool.below HA.out M.below)
 have HB2 := hide (InPool.below HB.out M.below)
 clear M HA HB hxb hyb tX tY
 have cX0 := fun (x : KeptW W1) => KeptW.cell Aa x
 have cX1 := fun (x : KeptW W1) => KeptW.cell Af x
 have cX2 := fun (x : KeptW W1) => KeptW.cell Ag x
 have cX3 := fun (x : KeptW W1) => KeptW.cell Ad x
 have cX4 := fun (x : KeptW W1) => KeptW.cell Ab x
 have cY0 := fun (x : KeptW W1) => KeptW.cell Ah x
 have cY1 := fun (x : KeptW W1) => KeptW.cell Ai x
 have cY2 := fun (x : KeptW W1) => KeptW.cell Ae x
 have cY3 := fun (x : KeptW W1) => KeptW.cell Ac x
 have cY4 := fun (x : KeptW W1) => KeptW.cell Aj x
 clear Aa Af Ag Ad Ab Ah Ai Ae Ac Aj
 have hx0 := KeptW.mk'_w (Below.refl W1.heap.size W1)
 generalize KeptW.mk' (Below.refl W1.heap.size W1) = x0 at hx0
 rw [← hx0]
 clear hx0
 go_wp2_with fail
 go_call (likeInts_same ks A1 B1 c1 d1 x0.w (by omega) (InPool.below HA2.out x0.below).2.1 (InPool.below HB2.out x0.below).2.1) as r Wq ⟨rfl, g3⟩
 obtain ⟨x1, rfl⟩ : ∃ y : KeptW W1, Wq = y.w := ⟨KeptW.mk' (x0.below.trans (g3.mono x0.below.size)), rfl⟩
 clear g3
 go_wp2_with fail
 go_loopw [5] (fun i wr => ∃ (k : Nat) (x : KeptW W1), k ≤ ts.length ∧ i = .int .i64 k ∧ wr = x.w) (fun i _ => ts.length - (intOf i).toNat)
 case atStart => exact ⟨0, x1, Nat.zero_le _, rfl, rfl⟩
 case round =>
  obtain ⟨k, x, hk, rfl, rfl⟩ := hrel
  by_cases hlt : k < ts.length
  ·obtain ⟨b, off, s, l, o, wt, on, v, t, eA, _, hx, hb1, z0, z1, z2, z3, z4, z5, z6⟩ := (InPool.below HA2.out x.below).1.ts_at hlt
   obtain ⟨b2, off2, s', l', o', wt', on', v', t', eB, _, hx2, hb2, y0, y1, y2, y3, y4, y5, y6⟩ := (InPool.below HB2.out x.below).1.ts_at hlt
   rw [hx] at hx2
   injection hx2 with hx2
   injection hx2 with u0 u1 u2 u3 u4 u5 u6
   subst u0 u1 u2 u3 u4 u5 u6 eA eB
   clear hx
   have e0 := KeptW.cell (W0 := x.w) (b := b) (o := off + k * 7) (z0)
   have f0 := KeptW.cell (W0 := x.w) (b := b2) (o := off2 + k * 7) (y0)
   have e1 := KeptW.cell (W0 := x.w) (b := b) (o := off + k * 7 + 1) (z1)
   have f1 := KeptW.cell (W0 := x.w) (b := b2) (o := off2 + k * 7 + 1) (y1)
   have e2 := KeptW.cell (W0 := x.w) (b := b) (o := off + k * 7 + 2) (z2)
   have f2 := KeptW.cell (W0 := x.w) (b := b2) (o := off2 + k * 7 + 2) (y2)
   have e3 := KeptW.cell (W0 := x.w) (b := b) (o := off + k * 7 + 3) (z3)
   have f3 := KeptW.cell (W0 := x.w) (b := b2) (o := off2 + k * 7 + 3) (y3)
   have e4 := KeptW.cell (W0 := x.w) (b := b) (o := off + k * 7 + 4) (z4)
   have f4 := KeptW.cell (W0 := x.w) (b := b2) (o := off2 + k * 7 + 4) (y4)
   have e5 := KeptW.cell (W0 := x.w) (b := b) (o := off + k * 7 + 5) (z5)
   have f5 := KeptW.cell (W0 := x.w) (b := b2) (o := off2 + k * 7 + 5) (y5)
   have e6 := KeptW.cell (W0 := x.w) (b := b) (o := off + k * 7 + 6) (z6)
   have f6 := KeptW.cell (W0 := x.w) (b := b2) (o := off2 + k * 7 + 6) (y6)
   clear z0 y0 z1 y1 z2 y2 z3 y3 z4 y4 z5 y5 z6 y6
   have dX0 := fun (y : KeptW x.w) => KeptW.cell (cX0 x) y
   have dX2 := fun (y : KeptW x.w) => KeptW.cell (cX2 x) y
   have dY0 := fun (y : KeptW x.w) => KeptW.cell (cY0 x) y
   have dY2 := fun (y : KeptW x.w) => KeptW.cell (cY2 x) y
   clear HA2 HB2
   go_wp2_with fail
   have hx0 := KeptW.mk'_w (Below.refl x.w.heap.size x.w)
   generalize KeptW.mk' (Below.refl x.w.heap.size x.w) = x2 at hx0
   rw [← hx0]
   clear hx0
   refine region_kept (by kernel_rfl) (by kernel_rfl) ?_
   repeat (go_big_quiet_step (fail))
   refine wpQuiet_nil ?_
   rintro _ ⟨x2, rfl⟩
   obtain ⟨y, hy⟩ : ∃ y : KeptW W1, x2.w = y.w := ⟨KeptW.mk' (x.below.trans (x2.below.mono x.below.size)), rfl⟩
   rw [hy]
   clear hy
   go_wp2
   go_roundw
   case rel => exact ⟨k + 1, y, by omega, by go_num, rfl⟩
   case measure => simp [intOf]; omega
  ·go_wp2_with fail
   go_loopw [6] (fun i wr => ∃ (k : Nat) (x : KeptW W1), k ≤ fs.length ∧ i = .int .i64 k ∧ wr = x.w) (fun i _ => fs.length - (intOf i).toNat)
   case atStart => exact ⟨0, x, Nat.zero_le _, rfl, rfl⟩
   case round =>
    clear hk hlt
    obtain ⟨k, x, hk, rfl, rfl⟩ := hrel
    by_cases hlt : k < fs.length
    ·obtain ⟨b, off, s, v, eA, _, hx, hb1, z0, z1⟩ := (InPool.below HA2.out x.below).2.2.fs_at hlt
     obtain ⟨b2, off2, s', v', eB, _, hx2, hb2, y0, y1⟩ := (InPool.below HB2.out x.below).2.2.fs_at hlt
     rw [hx] at hx2
     injection hx2 with hx2
     injection hx2 with u0 u1
     subst u0 u1 eA eB
     clear hx
     have e0 := KeptW.cell (W0 := x.w) (b := b) (o := off + k * 2) (z0)
     have f0 := KeptW.cell (W0 := x.w) (b := b2) (o := off2 + k * 2) (y0)
     have e1 := KeptW.cell (W0 := x.w) (b := b) (o := off + k * 2 + 1) (z1)
     have f1 := KeptW.cell (W0 := x.w) (b := b2) (o := off2 + k * 2 + 1) (y1)
     clear z0 y0 z1 y1
     have dX0 := fun (y : KeptW x.w) => KeptW.cell (cX0 x) y
     have dX2 := fun (y : KeptW x.w) => KeptW.cell (cX2 x) y
     have dY0 := fun (y : KeptW x.w) => KeptW.cell (cY0 x) y
     have dY2 := fun (y : KeptW x.w) => KeptW.cell (cY2 x) y
     clear HA2 HB2
     go_wp2_with fail
     have hx0 := KeptW.mk'_w (Below.refl x.w.heap.size x.w)
     generalize KeptW.mk' (Below.refl x.w.heap.size x.w) = x2 at hx0
     rw [← hx0]
     clear hx0
     refine region_kept (by kernel_rfl) (by kernel_rfl) ?_
     repeat (go_big_quiet_step (fail))
     refine wpQuiet_nil ?_
     rintro _ ⟨x2, rfl⟩
     obtain ⟨y, hy⟩ : ∃ y : KeptW W1, x2.w = y.w := ⟨KeptW.mk' (x.below.trans (x2.below.mono x.below.size)), rfl⟩
     rw [hy]
     clear hy
     go_wp2
     go_roundw
     case rel => exact ⟨k + 1, y, by omega, by go_num, rfl⟩
     case measure => simp [intOf]; omega
    ·go_wp2
     go_ret
     exact ⟨rfl, HV.out.trans (x.below.mono HV.out.size)⟩
end Go.Proofs.YtfjgelegojbmgaaGreat
