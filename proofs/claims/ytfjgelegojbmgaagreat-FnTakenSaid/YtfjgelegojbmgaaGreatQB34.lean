/- A call by dice: what was in memory stays as it was, but for the dice. The plan has levels, tokens and futures. -/
import Derived.Test.YtfjgelegojbmgaaGreatQB33

namespace Go.Proofs.YtfjgelegojbmgaaGreat
open Go.RowKit
set_option linter.unusedVariables false
/-- A call out of the dice. -/
def GaveCall (B : Nat) (w : World) (g : Nat) (A : Option Addr) (len cap : Nat) (r : Ending) (w' : World) : Prop :=
 ∃ k x y : Int, r = .returned (.agg #[.int .i64 k, .int .i64 x, .int .i64 y]) ∧ Moved B w w' g A len cap
set_option maxRecDepth 100000 in
set_option maxHeartbeats 8000000 in
theorem wish_any (B : Nat) (w : World) (g : Nat) (A : Option Addr) (len cap : Nat) (a b c dd ee : Int) (hc1 : 1 ≤ c) (hc2 : c ≤ 30) (hd1 : 1 ≤ dd) (hd2 : dd ≤ 30) (he1 : 1 ≤ ee) (he2 : ee ≤ 30) (d0 : DiceAt B w g A len cap) :
 Calls Tryz.prog 66 #[.pointer (some ⟨g, 0, none⟩), .agg #[.int .i64 a, .int .i64 b, .int .i64 c, .int .i64 dd, .int .i64 ee]] w (GaveCall B w g A len cap) := by
 have hg := d0.lt
 go_enter Tryz.func66, Tryz.ntmps66
 go_wp2_with fail
 obtain ⟨cs0, hc, M⟩ := dice_start d0
 replace M : Sep [g] w ((w.alloc (.cells #[.int .i64 a, .int .i64 b, .int .i64 c, .int .i64 dd, .int .i64 ee] 25)).alloc (.cells #[.int .i64 0, .int .i64 0, .int .i64 0] 91)) [.blk (w.heap.size + 1) 91 #[.int .i64 0, .int .i64 0, .int .i64 0], .blk (w.heap.size) 25 #[.int .i64 a, .int .i64 b, .int .i64 c, .int .i64 dd, .int .i64 ee], .blk g 87 cs0] := ((M.alloc 25 #[.int .i64 a, .int .i64 b, .int .i64 c, .int .i64 dd, .int .i64 ee] (w.heap.size) rfl).alloc 91 #[.int .i64 0, .int .i64 0, .int .i64 0] (w.heap.size + 1) (by simp))
 generalize (w.alloc (.cells #[.int .i64 a, .int .i64 b, .int .i64 c, .int .i64 dd, .int .i64 ee] 25)).alloc (.cells #[.int .i64 0, .int .i64 0, .int .i64 0] 91) = W1 at M ⊢
 go_call (below_any B _ g A len cap 4 (by omega) (by omega) (M.diceAt 2 rfl d0 hc)) as r W2 ⟨id, rfl, id1, id2, gg, d⟩
 have MM := M.diceMoved 2 rfl gg d
 clear M hc gg d
 obtain ⟨cs1, hc, M⟩ := MM
 replace M : Sep [g] w W2 [.blk (w.heap.size + 1) 91 #[.int .i64 0, .int .i64 0, .int .i64 0], .blk (w.heap.size) 25 #[.int .i64 a, .int .i64 b, .int .i64 c, .int .i64 dd, .int .i64 ee], .blk g 87 cs1] := M
 obtain ⟨tR, Ab, Ai, Ac, Al, Aa, Ah⟩ := M.f3 0 rfl
 obtain ⟨tP, Af, Ag, Aj, Am, Ak, Ad, Ae, Ao, An, Ap⟩ := M.f5 1 rfl
 go_wp2_with fail
 go_call (below_any B _ g A len cap 20 (by omega) (by omega) (M.diceAt 2 rfl d0 hc)) as r W3 ⟨t, rfl, t1, t2, gg, d⟩
 clear tR Ab Ai Ac Al Aa Ah tP Af Ag Aj Am Ak Ad Ae Ao An Ap
 have MM := M.diceMoved 2 rfl gg d
 clear M hc gg d
 obtain ⟨cs2, hc, M⟩ := MM
 replace M : Sep [g] w W3 [.blk (w.heap.size + 1) 91 #[.int .i64 0, .int .i64 0, .int .i64 0], .blk (w.heap.size) 25 #[.int .i64 a, .int .i64 b, .int .i64 c, .int .i64 dd, .int .i64 ee], .blk g 87 cs2] := M
 have ht : t = 0 ∨ t = 1 ∨ t = 2 ∨ t = 3 ∨ t = 4 ∨ t = 5 ∨ t = 6 ∨ t = 7 ∨ t = 8 ∨ t = 9 ∨ t = 10 ∨ t = 11 ∨ t = 12 ∨ t = 13 ∨ t = 14 ∨ t = 15 ∨ t = 16 ∨ t = 17 ∨ t = 18 ∨ t = 19 := by omega
 clear t1 t2
 rcases ht with rfl | rfl | rfl | rfl | rfl | rfl | rfl | rfl | rfl | rfl | rfl | rfl | rfl | rfl | rfl | rfl | rfl | rfl | rfl | rfl
 ·obtain ⟨tR, Ab, Ai, Ac, Al, Aa, Ah⟩ := M.f3 0 rfl
  obtain ⟨tP, Af, Ag, Aj, Am, Ak, Ad, Ae, Ao, An, Ap⟩ := M.f5 1 rfl
  go_wp2_with fail
  go_call (below_any B _ g A len cap c (by omega) (by omega) (M.diceAt 2 rfl d0 hc)) as r W4 ⟨u, rfl, u1, u2, gg, d⟩
  clear tR Ab Ai Ac Al Aa Ah tP Af Ag Aj Am Ak Ad Ae Ao An Ap
  have MM := M.diceMoved 2 rfl gg d
  clear M hc gg d
  obtain ⟨cs3, hc, M⟩ := MM
  replace M : Sep [g] w W4 [.blk (w.heap.size + 1) 91 #[.int .i64 0, .int .i64 0, .int .i64 0], .blk (w.heap.size) 25 #[.int .i64 a, .int .i64 b, .int .i64 c, .int .i64 dd, .int .i64 ee], .blk g 87 cs3] := M
  obtain ⟨tR, Ab, Ai, Ac, Al, Aa, Ah⟩ := M.f3 0 rfl
  obtain ⟨tP, Af, Ag, Aj, Am, Ak, Ad, Ae, Ao, An, Ap⟩ := M.f5 1 rfl
  go_wp2_with fail
  clear tR Ab Ai Ac Al Aa Ah tP Af Ag Aj Am Ak Ad Ae Ao An Ap
  have N := M.gset3 0 rfl (.int .i64 1) (.int .i64 u) (.int .i64 0)
  clear M
  obtain ⟨W5, eW, M⟩ := N
  rw [eW]
  clear eW
  simp only [List.set_cons_zero] at M
  obtain ⟨tR, Ab, Ac, Aa⟩ := M.q3 0 rfl
  exact bodyPost_ret (v := .agg #[.int .i64 1, .int .i64 u, .int .i64 0]) (by simp [results, Tryz.results66, go_sem, Ab, Ac, Aa]) rfl ⟨_, _, _, rfl, M.grown1, M.diceAt 2 rfl d0 hc⟩
 ·obtain ⟨tR, Ab, Ai, Ac, Al, Aa, Ah⟩ := M.f3 0 rfl
  obtain ⟨tP, Af, Ag, Aj, Am, Ak, Ad, Ae, Ao, An, Ap⟩ := M.f5 1 rfl
  go_wp2_with fail
  go_call (below_any B _ g A len cap c (by omega) (by omega) (M.diceAt 2 rfl d0 hc)) as r W4 ⟨u, rfl, u1, u2, gg, d⟩
  clear tR Ab Ai Ac Al Aa Ah tP Af Ag Aj Am Ak Ad Ae Ao An Ap
  have MM := M.diceMoved 2 rfl gg d
  clear M hc gg d
  obtain ⟨cs3, hc, M⟩ := MM
  replace M : Sep [g] w W4 [.blk (w.heap.size + 1) 91 #[.int .i64 0, .int .i64 0, .int .i64 0], .blk (w.heap.size) 25 #[.int .i64 a, .int .i64 b, .int .i64 c, .int .i64 dd, .int .i64 ee], .blk g 87 cs3] := M
  obtain ⟨tR, Ab, Ai, Ac, Al, Aa, Ah⟩ := M.f3 0 rfl
  obtain ⟨tP, Af, Ag, Aj, Am, Ak, Ad, Ae, Ao, An, Ap⟩ := M.f5 1 rfl
  go_wp2_with fail
  clear tR Ab Ai Ac Al Aa Ah tP Af Ag Aj Am Ak Ad Ae Ao An Ap
  have N := M.gset3 0 rfl (.int .i64 1) (.int .i64 u) (.int .i64 0)
  clear M
  obtain ⟨W5, eW, M⟩ := N
  rw [eW]
  clear eW
  simp only [List.set_cons_zero] at M
  obtain ⟨tR, Ab, Ac, Aa⟩ := M.q3 0 rfl
  exact bodyPost_ret (v := .agg #[.int .i64 1, .int .i64 u, .int .i64 0]) (by simp [results, Tryz.results66, go_sem, Ab, Ac, Aa]) rfl ⟨_, _, _, rfl, M.grown1, M.diceAt 2 rfl d0 hc⟩
 ·obtain ⟨tR, Ab, Ai, Ac, Al, Aa, Ah⟩ := M.f3 0 rfl
  obtain ⟨tP, Af, Ag, Aj, Am, Ak, Ad, Ae, Ao, An, Ap⟩ := M.f5 1 rfl
  go_wp2_with fail
  go_call (below_any B _ g A len cap c (by omega) (by omega) (M.diceAt 2 rfl d0 hc)) as r W4 ⟨u, rfl, u1, u2, gg, d⟩
  clear tR Ab Ai Ac Al Aa Ah tP Af Ag Aj Am Ak Ad Ae Ao An Ap
  have MM := M.diceMoved 2 rfl gg d
  clear M hc gg d
  obtain ⟨cs3, hc, M⟩ := MM
  replace M : Sep [g] w W4 [.blk (w.heap.size + 1) 91 #[.int .i64 0, .int .i64 0, .int .i64 0], .blk (w.heap.size) 25 #[.int .i64 a, .int .i64 b, .int .i64 c, .int .i64 dd, .int .i64 ee], .blk g 87 cs3] := M
  obtain ⟨tR, Ab, Ai, Ac, Al, Aa, Ah⟩ := M.f3 0 rfl
  obtain ⟨tP, Af, Ag, Aj, Am, Ak, Ad, Ae, Ao, An, Ap⟩ := M.f5 1 rfl
  go_wp2_with fail
  clear tR Ab Ai Ac Al Aa Ah tP Af Ag Aj Am Ak Ad Ae Ao An Ap
  have N := M.gset3 0 rfl (.int .i64 1) (.int .i64 u) (.int .i64 0)
  clear M
  obtain ⟨W5, eW, M⟩ := N
  rw [eW]
  clear eW
  simp only [List.set_cons_zero] at M
  obtain ⟨tR, Ab, Ac, Aa⟩ := M.q3 0 rfl
  exact bodyPost_ret (v := .agg #[.int .i64 1, .int .i64 u, .int .i64 0]) (by simp [results, Tryz.results66, go_sem, Ab, Ac, Aa]) rfl ⟨_, _, _, rfl, M.grown1, M.diceAt 2 rfl d0 hc⟩
 ·obtain ⟨tR, Ab, Ai, Ac, Al, Aa, Ah⟩ := M.f3 0 rfl
  obtain ⟨tP, Af, Ag, Aj, Am, Ak, Ad, Ae, Ao, An, Ap⟩ := M.f5 1 rfl
  go_wp2_with fail
  go_call (below_any B _ g A len cap c (by omega) (by omega) (M.diceAt 2 rfl d0 hc)) as r W4 ⟨u, rfl, u1, u2, gg, d⟩
  clear tR Ab Ai Ac Al Aa Ah tP Af Ag Aj Am Ak Ad Ae Ao An Ap
  have MM := M.diceMoved 2 rfl gg d
  clear M hc gg d
  obtain ⟨cs3, hc, M⟩ := MM
  replace M : Sep [g] w W4 [.blk (w.heap.size + 1) 91 #[.int .i64 0, .int .i64 0, .int .i64 0], .blk (w.heap.size) 25 #[.int .i64 a, .int .i64 b, .int .i64 c, .int .i64 dd, .int .i64 ee], .blk g 87 cs3] := M
  obtain ⟨tR, Ab, Ai, Ac, Al, Aa, Ah⟩ := M.f3 0 rfl
  obtain ⟨tP, Af, Ag, Aj, Am, Ak, Ad, Ae, Ao, An, Ap⟩ := M.f5 1 rfl
  go_wp2_with fail
  clear tR Ab Ai Ac Al Aa Ah tP Af Ag Aj Am Ak Ad Ae Ao An Ap
  have N := M.gset3 0 rfl (.int .i64 1) (.int .i64 u) (.int .i64 0)
  clear M
  obtain ⟨W5, eW, M⟩ := N
  rw [eW]
  clear eW
  simp only [List.set_cons_zero] at M
  obtain ⟨tR, Ab, Ac, Aa⟩ := M.q3 0 rfl
  exact bodyPost_ret (v := .agg #[.int .i64 1, .int .i64 u, .int .i64 0]) (by simp [results, Tryz.results66, go_sem, Ab, Ac, Aa]) rfl ⟨_, _, _, rfl, M.grown1, M.diceAt 2 rfl d0 hc⟩
 ·obtain ⟨tR, Ab, Ai, Ac, Al, Aa, Ah⟩ := M.f3 0 rfl
  obtain ⟨tP, Af, Ag, Aj, Am, Ak, Ad, Ae, Ao, An, Ap⟩ := M.f5 1 rfl
  go_wp2_with fail
  clear tR Ab Ai Ac Al Aa Ah tP Af Ag Aj Am Ak Ad Ae Ao An Ap
  have N := M.gset3 0 rfl (.int .i64 2) (.int .i64 0) (.int .i64 0)
  clear M
  obtain ⟨W4, eW, M⟩ := N
  rw [eW]
  clear eW
  simp only [List.set_cons_zero] at M
  obtain ⟨tR, Ab, Ac, Aa⟩ := M.q3 0 rfl
  exact bodyPost_ret (v := .agg #[.int .i64 2, .int .i64 0, .int .i64 0]) (by simp [results, Tryz.results66, go_sem, Ab, Ac, Aa]) rfl ⟨_, _, _, rfl, M.grown1, M.diceAt 2 rfl d0 hc⟩
 ·obtain ⟨tR, Ab, Ai, Ac, Al, Aa, Ah⟩ := M.f3 0 rfl
  obtain ⟨tP, Af, Ag, Aj, Am, Ak, Ad, Ae, Ao, An, Ap⟩ := M.f5 1 rfl
  go_wp2_with fail
  clear tR Ab Ai Ac Al Aa Ah tP Af Ag Aj Am Ak Ad Ae Ao An Ap
  have N := M.gset3 0 rfl (.int .i64 2) (.int .i64 0) (.int .i64 0)
  clear M
  obtain ⟨W4, eW, M⟩ := N
  rw [eW]
  clear eW
  simp only [List.set_cons_zero] at M
  obtain ⟨tR, Ab, Ac, Aa⟩ := M.q3 0 rfl
  exact bodyPost_ret (v := .agg #[.int .i64 2, .int .i64 0, .int .i64 0]) (by simp [results, Tryz.results66, go_sem, Ab, Ac, Aa]) rfl ⟨_, _, _, rfl, M.grown1, M.diceAt 2 rfl d0 hc⟩
 ·obtain ⟨tR, Ab, Ai, Ac, Al, Aa, Ah⟩ := M.f3 0 rfl
  obtain ⟨tP, Af, Ag, Aj, Am, Ak, Ad, Ae, Ao, An, Ap⟩ := M.f5 1 rfl
  go_wp2_with fail
  clear tR Ab Ai Ac Al Aa Ah tP Af Ag Aj Am Ak Ad Ae Ao An Ap
  have N := M.gset3 0 rfl (.int .i64 2) (.int .i64 0) (.int .i64 0)
  clear M
  obtain ⟨W4, eW, M⟩ := N
  rw [eW]
  clear eW
  simp only [List.set_cons_zero] at M
  obtain ⟨tR, Ab, Ac, Aa⟩ := M.q3 0 rfl
  exact bodyPost_ret (v := .agg #[.int .i64 2, .int .i64 0, .int .i64 0]) (by simp [results, Tryz.results66, go_sem, Ab, Ac, Aa]) rfl ⟨_, _, _, rfl, M.grown1, M.diceAt 2 rfl d0 hc⟩
 ·obtain ⟨tR, Ab, Ai, Ac, Al, Aa, Ah⟩ := M.f3 0 rfl
  obtain ⟨tP, Af, Ag, Aj, Am, Ak, Ad, Ae, Ao, An, Ap⟩ := M.f5 1 rfl
  go_wp2_with fail
  clear tR Ab Ai Ac Al Aa Ah tP Af Ag Aj Am Ak Ad Ae Ao An Ap
  have N := M.gset3 0 rfl (.int .i64 2) (.int .i64 0) (.int .i64 0)
  clear M
  obtain ⟨W4, eW, M⟩ := N
  rw [eW]
  clear eW
  simp only [List.set_cons_zero] at M
  obtain ⟨tR, Ab, Ac, Aa⟩ := M.q3 0 rfl
  exact bodyPost_ret (v := .agg #[.int .i64 2, .int .i64 0, .int .i64 0]) (by simp [results, Tryz.results66, go_sem, Ab, Ac, Aa]) rfl ⟨_, _, _, rfl, M.grown1, M.diceAt 2 rfl d0 hc⟩
 ·obtain ⟨tR, Ab, Ai, Ac, Al, Aa, Ah⟩ := M.f3 0 rfl
  obtain ⟨tP, Af, Ag, Aj, Am, Ak, Ad, Ae, Ao, An, Ap⟩ := M.f5 1 rfl
  go_wp2_with fail
  clear tR Ab Ai Ac Al Aa Ah tP Af Ag Aj Am Ak Ad Ae Ao An Ap
  have N := M.gset3 0 rfl (.int .i64 3) (.int .i64 0) (.int .i64 0)
  clear M
  obtain ⟨W4, eW, M⟩ := N
  rw [eW]
  clear eW
  simp only [List.set_cons_zero] at M
  obtain ⟨tR, Ab, Ac, Aa⟩ := M.q3 0 rfl
  exact bodyPost_ret (v := .agg #[.int .i64 3, .int .i64 0, .int .i64 0]) (by simp [results, Tryz.results66, go_sem, Ab, Ac, Aa]) rfl ⟨_, _, _, rfl, M.grown1, M.diceAt 2 rfl d0 hc⟩
 ·obtain ⟨tR, Ab, Ai, Ac, Al, Aa, Ah⟩ := M.f3 0 rfl
  obtain ⟨tP, Af, Ag, Aj, Am, Ak, Ad, Ae, Ao, An, Ap⟩ := M.f5 1 rfl
  go_wp2_with fail
  go_call (below_any B _ g A len cap 100 (by omega) (by omega) (M.diceAt 2 rfl d0 hc)) as r W4 ⟨u, rfl, u1, u2, gg, d⟩
  clear tR Ab Ai Ac Al Aa Ah tP Af Ag Aj Am Ak Ad Ae Ao An Ap
  have MM := M.diceMoved 2 rfl gg d
  clear M hc gg d
  obtain ⟨cs3, hc, M⟩ := MM
  replace M : Sep [g] w W4 [.blk (w.heap.size + 1) 91 #[.int .i64 0, .int .i64 0, .int .i64 0], .blk (w.heap.size) 25 #[.int .i64 a, .int .i64 b, .int .i64 c, .int .i64 dd, .int .i64 ee], .blk g 87 cs3] := M
  obtain ⟨tR, Ab, Ai, Ac, Al, Aa, Ah⟩ := M.f3 0 rfl
  obtain ⟨tP, Af, Ag, Aj, Am, Ak, Ad, Ae, Ao, An, Ap⟩ := M.f5 1 rfl
  go_wp2_with fail
  clear tR Ab Ai Ac Al Aa Ah tP Af Ag Aj Am Ak Ad Ae Ao An Ap
  have N := M.gset3 0 rfl (.int .i64 4) (.int .i64 u) (.int .i64 0)
  clear M
  obtain ⟨W5, eW, M⟩ := N
  rw [eW]
  clear eW
  simp only [List.set_cons_zero] at M
  obtain ⟨tR, Ab, Ac, Aa⟩ := M.q3 0 rfl
  exact bodyPost_ret (v := .agg #[.int .i64 4, .int .i64 u, .int .i64 0]) (by simp [results, Tryz.results66, go_sem, Ab, Ac, Aa]) rfl ⟨_, _, _, rfl, M.grown1, M.diceAt 2 rfl d0 hc⟩
 ·obtain ⟨tR, Ab, Ai, Ac, Al, Aa, Ah⟩ := M.f3 0 rfl
  obtain ⟨tP, Af, Ag, Aj, Am, Ak, Ad, Ae, Ao, An, Ap⟩ := M.f5 1 rfl
  go_wp2_with fail
  go_call (below_any B _ g A len cap 100 (by omega) (by omega) (M.diceAt 2 rfl d0 hc)) as r W4 ⟨u, rfl, u1, u2, gg, d⟩
  clear tR Ab Ai Ac Al Aa Ah tP Af Ag Aj Am Ak Ad Ae Ao An Ap
  have MM := M.diceMoved 2 rfl gg d
  clear M hc gg d
  obtain ⟨cs3, hc, M⟩ := MM
  replace M : Sep [g] w W4 [.blk (w.heap.size + 1) 91 #[.int .i64 0, .int .i64 0, .int .i64 0], .blk (w.heap.size) 25 #[.int .i64 a, .int .i64 b, .int .i64 c, .int .i64 dd, .int .i64 ee], .blk g 87 cs3] := M
  obtain ⟨tR, Ab, Ai, Ac, Al, Aa, Ah⟩ := M.f3 0 rfl
  obtain ⟨tP, Af, Ag, Aj, Am, Ak, Ad, Ae, Ao, An, Ap⟩ := M.f5 1 rfl
  go_wp2_with fail
  clear tR Ab Ai Ac Al Aa Ah tP Af Ag Aj Am Ak Ad Ae Ao An Ap
  have N := M.gset3 0 rfl (.int .i64 4) (.int .i64 u) (.int .i64 0)
  clear M
  obtain ⟨W5, eW, M⟩ := N
  rw [eW]
  clear eW
  simp only [List.set_cons_zero] at M
  obtain ⟨tR, Ab, Ac, Aa⟩ := M.q3 0 rfl
  exact bodyPost_ret (v := .agg #[.int .i64 4, .int .i64 u, .int .i64 0]) (by simp [results, Tryz.results66, go_sem, Ab, Ac, Aa]) rfl ⟨_, _, _, rfl, M.grown1, M.diceAt 2 rfl d0 hc⟩
 ·obtain ⟨tR, Ab, Ai, Ac, Al, Aa, Ah⟩ := M.f3 0 rfl
  obtain ⟨tP, Af, Ag, Aj, Am, Ak, Ad, Ae, Ao, An, Ap⟩ := M.f5 1 rfl
  go_wp2_with fail
  go_call (below_any B _ g A len cap 100 (by omega) (by omega) (M.diceAt 2 rfl d0 hc)) as r W4 ⟨u, rfl, u1, u2, gg, d⟩
  clear tR Ab Ai Ac Al Aa Ah tP Af Ag Aj Am Ak Ad Ae Ao An Ap
  have MM := M.diceMoved 2 rfl gg d
  clear M hc gg d
  obtain ⟨cs3, hc, M⟩ := MM
  replace M : Sep [g] w W4 [.blk (w.heap.size + 1) 91 #[.int .i64 0, .int .i64 0, .int .i64 0], .blk (w.heap.size) 25 #[.int .i64 a, .int .i64 b, .int .i64 c, .int .i64 dd, .int .i64 ee], .blk g 87 cs3] := M
  obtain ⟨tR, Ab, Ai, Ac, Al, Aa, Ah⟩ := M.f3 0 rfl
  obtain ⟨tP, Af, Ag, Aj, Am, Ak, Ad, Ae, Ao, An, Ap⟩ := M.f5 1 rfl
  go_wp2_with fail
  clear tR Ab Ai Ac Al Aa Ah tP Af Ag Aj Am Ak Ad Ae Ao An Ap
  have N := M.gset3 0 rfl (.int .i64 4) (.int .i64 u) (.int .i64 0)
  clear M
  obtain ⟨W5, eW, M⟩ := N
  rw [eW]
  clear eW
  simp only [List.set_cons_zero] at M
  obtain ⟨tR, Ab, Ac, Aa⟩ := M.q3 0 rfl
  exact bodyPost_ret (v := .agg #[.int .i64 4, .int .i64 u, .int .i64 0]) (by simp [results, Tryz.results66, go_sem, Ab, Ac, Aa]) rfl ⟨_, _, _, rfl, M.grown1, M.diceAt 2 rfl d0 hc⟩
 ·obtain ⟨tR, Ab, Ai, Ac, Al, Aa, Ah⟩ := M.f3 0 rfl
  obtain ⟨tP, Af, Ag, Aj, Am, Ak, Ad, Ae, Ao, An, Ap⟩ := M.f5 1 rfl
  go_wp2_with fail
  clear tR Ab Ai Ac Al Aa Ah tP Af Ag Aj Am Ak Ad Ae Ao An Ap
  have N := M.gset3 0 rfl (.int .i64 5) (.int .i64 id) (.int .i64 0)
  clear M
  obtain ⟨W4, eW, M⟩ := N
  rw [eW]
  clear eW
  simp only [List.set_cons_zero] at M
  obtain ⟨tR, Ab, Ac, Aa⟩ := M.q3 0 rfl
  exact bodyPost_ret (v := .agg #[.int .i64 5, .int .i64 id, .int .i64 0]) (by simp [results, Tryz.results66, go_sem, Ab, Ac, Aa]) rfl ⟨_, _, _, rfl, M.grown1, M.diceAt 2 rfl d0 hc⟩
 ·obtain ⟨tR, Ab, Ai, Ac, Al, Aa, Ah⟩ := M.f3 0 rfl
  obtain ⟨tP, Af, Ag, Aj, Am, Ak, Ad, Ae, Ao, An, Ap⟩ := M.f5 1 rfl
  go_wp2_with fail
  clear tR Ab Ai Ac Al Aa Ah tP Af Ag Aj Am Ak Ad Ae Ao An Ap
  have N := M.gset3 0 rfl (.int .i64 5) (.int .i64 id) (.int .i64 0)
  clear M
  obtain ⟨W4, eW, M⟩ := N
  rw [eW]
  clear eW
  simp only [List.set_cons_zero] at M
  obtain ⟨tR, Ab, Ac, Aa⟩ := M.q3 0 rfl
  exact bodyPost_ret (v := .agg #[.int .i64 5, .int .i64 id, .int .i64 0]) (by simp [results, Tryz.results66, go_sem, Ab, Ac, Aa]) rfl ⟨_, _, _, rfl, M.grown1, M.diceAt 2 rfl d0 hc⟩
 ·obtain ⟨tR, Ab, Ai, Ac, Al, Aa, Ah⟩ := M.f3 0 rfl
  obtain ⟨tP, Af, Ag, Aj, Am, Ak, Ad, Ae, Ao, An, Ap⟩ := M.f5 1 rfl
  go_wp2_with fail
  clear tR Ab Ai Ac Al Aa Ah tP Af Ag Aj Am Ak Ad Ae Ao An Ap
  have N := M.gset3 0 rfl (.int .i64 6) (.int .i64 id) (.int .i64 0)
  clear M
  obtain ⟨W4, eW, M⟩ := N
  rw [eW]
  clear eW
  simp only [List.set_cons_zero] at M
  obtain ⟨tR, Ab, Ac, Aa⟩ := M.q3 0 rfl
  exact bodyPost_ret (v := .agg #[.int .i64 6, .int .i64 id, .int .i64 0]) (by simp [results, Tryz.results66, go_sem, Ab, Ac, Aa]) rfl ⟨_, _, _, rfl, M.grown1, M.diceAt 2 rfl d0 hc⟩
 ·obtain ⟨tR, Ab, Ai, Ac, Al, Aa, Ah⟩ := M.f3 0 rfl
  obtain ⟨tP, Af, Ag, Aj, Am, Ak, Ad, Ae, Ao, An, Ap⟩ := M.f5 1 rfl
  go_wp2_with fail
  go_call (below_any B _ g A len cap c (by omega) (by omega) (M.diceAt 2 rfl d0 hc)) as r W4 ⟨u, rfl, u1, u2, gg, d⟩
  clear tR Ab Ai Ac Al Aa Ah tP Af Ag Aj Am Ak Ad Ae Ao An Ap
  have MM := M.diceMoved 2 rfl gg d
  clear M hc gg d
  obtain ⟨cs3, hc, M⟩ := MM
  replace M : Sep [g] w W4 [.blk (w.heap.size + 1) 91 #[.int .i64 0, .int .i64 0, .int .i64 0], .blk (w.heap.size) 25 #[.int .i64 a, .int .i64 b, .int .i64 c, .int .i64 dd, .int .i64 ee], .blk g 87 cs3] := M
  obtain ⟨tR, Ab, Ai, Ac, Al, Aa, Ah⟩ := M.f3 0 rfl
  obtain ⟨tP, Af, Ag, Aj, Am, Ak, Ad, Ae, Ao, An, Ap⟩ := M.f5 1 rfl
  go_wp2_with fail
  clear tR Ab Ai Ac Al Aa Ah tP Af Ag Aj Am Ak Ad Ae Ao An Ap
  have N := M.gset3 0 rfl (.int .i64 7) (.int .i64 id) (.int .i64 u)
  clear M
  obtain ⟨W5, eW, M⟩ := N
  rw [eW]
  clear eW
  simp only [List.set_cons_zero] at M
  obtain ⟨tR, Ab, Ac, Aa⟩ := M.q3 0 rfl
  exact bodyPost_ret (v := .agg #[.int .i64 7, .int .i64 id, .int .i64 u]) (by simp [results, Tryz.results66, go_sem, Ab, Ac, Aa]) rfl ⟨_, _, _, rfl, M.grown1, M.diceAt 2 rfl d0 hc⟩
 ·obtain ⟨tR, Ab, Ai, Ac, Al, Aa, Ah⟩ := M.f3 0 rfl
  obtain ⟨tP, Af, Ag, Aj, Am, Ak, Ad, Ae, Ao, An, Ap⟩ := M.f5 1 rfl
  go_wp2_with fail
  go_call (below_any B _ g A len cap dd (by omega) (by omega) (M.diceAt 2 rfl d0 hc)) as r W4 ⟨u, rfl, u1, u2, gg, d⟩
  clear tR Ab Ai Ac Al Aa Ah tP Af Ag Aj Am Ak Ad Ae Ao An Ap
  have MM := M.diceMoved 2 rfl gg d
  clear M hc gg d
  obtain ⟨cs3, hc, M⟩ := MM
  replace M : Sep [g] w W4 [.blk (w.heap.size + 1) 91 #[.int .i64 0, .int .i64 0, .int .i64 0], .blk (w.heap.size) 25 #[.int .i64 a, .int .i64 b, .int .i64 c, .int .i64 dd, .int .i64 ee], .blk g 87 cs3] := M
  obtain ⟨tR, Ab, Ai, Ac, Al, Aa, Ah⟩ := M.f3 0 rfl
  obtain ⟨tP, Af, Ag, Aj, Am, Ak, Ad, Ae, Ao, An, Ap⟩ := M.f5 1 rfl
  go_wp2_with fail
  clear tR Ab Ai Ac Al Aa Ah tP Af Ag Aj Am Ak Ad Ae Ao An Ap
  have N := M.gset3 0 rfl (.int .i64 8) (.int .i64 u) (.int .i64 0)
  clear M
  obtain ⟨W5, eW, M⟩ := N
  rw [eW]
  clear eW
  simp only [List.set_cons_zero] at M
  obtain ⟨tR, Ab, Ac, Aa⟩ := M.q3 0 rfl
  exact bodyPost_ret (v := .agg #[.int .i64 8, .int .i64 u, .int .i64 0]) (by simp [results, Tryz.results66, go_sem, Ab, Ac, Aa]) rfl ⟨_, _, _, rfl, M.grown1, M.diceAt 2 rfl d0 hc⟩
 ·obtain ⟨tR, Ab, Ai, Ac, Al, Aa, Ah⟩ := M.f3 0 rfl
  obtain ⟨tP, Af, Ag, Aj, Am, Ak, Ad, Ae, Ao, An, Ap⟩ := M.f5 1 rfl
  go_wp2_with fail
  go_call (below_any B _ g A len cap dd (by omega) (by omega) (M.diceAt 2 rfl d0 hc)) as r W4 ⟨u, rfl, u1, u2, gg, d⟩
  clear tR Ab Ai Ac Al Aa Ah tP Af Ag Aj Am Ak Ad Ae Ao An Ap
  have MM := M.diceMoved 2 rfl gg d
  clear M hc gg d
  obtain ⟨cs3, hc, M⟩ := MM
  replace M : Sep [g] w W4 [.blk (w.heap.size + 1) 91 #[.int .i64 0, .int .i64 0, .int .i64 0], .blk (w.heap.size) 25 #[.int .i64 a, .int .i64 b, .int .i64 c, .int .i64 dd, .int .i64 ee], .blk g 87 cs3] := M
  obtain ⟨tR, Ab, Ai, Ac, Al, Aa, Ah⟩ := M.f3 0 rfl
  obtain ⟨tP, Af, Ag, Aj, Am, Ak, Ad, Ae, Ao, An, Ap⟩ := M.f5 1 rfl
  go_wp2_with fail
  clear tR Ab Ai Ac Al Aa Ah tP Af Ag Aj Am Ak Ad Ae Ao An Ap
  have N := M.gset3 0 rfl (.int .i64 9) (.int .i64 u) (.int .i64 0)
  clear M
  obtain ⟨W5, eW, M⟩ := N
  rw [eW]
  clear eW
  simp only [List.set_cons_zero] at M
  obtain ⟨tR, Ab, Ac, Aa⟩ := M.q3 0 rfl
  exact bodyPost_ret (v := .agg #[.int .i64 9, .int .i64 u, .int .i64 0]) (by simp [results, Tryz.results66, go_sem, Ab, Ac, Aa]) rfl ⟨_, _, _, rfl, M.grown1, M.diceAt 2 rfl d0 hc⟩
 ·obtain ⟨tR, Ab, Ai, Ac, Al, Aa, Ah⟩ := M.f3 0 rfl
  obtain ⟨tP, Af, Ag, Aj, Am, Ak, Ad, Ae, Ao, An, Ap⟩ := M.f5 1 rfl
  go_wp2_with fail
  go_call (below_any B _ g A len cap ee (by omega) (by omega) (M.diceAt 2 rfl d0 hc)) as r W4 ⟨u, rfl, u1, u2, gg, d⟩
  clear tR Ab Ai Ac Al Aa Ah tP Af Ag Aj Am Ak Ad Ae Ao An Ap
  have MM := M.diceMoved 2 rfl gg d
  clear M hc gg d
  obtain ⟨cs3, hc, M⟩ := MM
  replace M : Sep [g] w W4 [.blk (w.heap.size + 1) 91 #[.int .i64 0, .int .i64 0, .int .i64 0], .blk (w.heap.size) 25 #[.int .i64 a, .int .i64 b, .int .i64 c, .int .i64 dd, .int .i64 ee], .blk g 87 cs3] := M
  obtain ⟨tR, Ab, Ai, Ac, Al, Aa, Ah⟩ := M.f3 0 rfl
  obtain ⟨tP, Af, Ag, Aj, Am, Ak, Ad, Ae, Ao, An, Ap⟩ := M.f5 1 rfl
  go_wp2_with fail
  go_call (below_any B _ g A len cap 100 (by omega) (by omega) (M.diceAt 2 rfl d0 hc)) as r W5 ⟨v, rfl, v1, v2, gg, d⟩
  clear tR Ab Ai Ac Al Aa Ah tP Af Ag Aj Am Ak Ad Ae Ao An Ap
  have MM := M.diceMoved 2 rfl gg d
  clear M hc gg d
  obtain ⟨cs4, hc, M⟩ := MM
  replace M : Sep [g] w W5 [.blk (w.heap.size + 1) 91 #[.int .i64 0, .int .i64 0, .int .i64 0], .blk (w.heap.size) 25 #[.int .i64 a, .int .i64 b, .int .i64 c, .int .i64 dd, .int .i64 ee], .blk g 87 cs4] := M
  obtain ⟨tR, Ab, Ai, Ac, Al, Aa, Ah⟩ := M.f3 0 rfl
  obtain ⟨tP, Af, Ag, Aj, Am, Ak, Ad, Ae, Ao, An, Ap⟩ := M.f5 1 rfl
  go_wp2_with fail
  clear tR Ab Ai Ac Al Aa Ah tP Af Ag Aj Am Ak Ad Ae Ao An Ap
  have N := M.gset3 0 rfl (.int .i64 10) (.int .i64 u) (.int .i64 v)
  clear M
  obtain ⟨W6, eW, M⟩ := N
  rw [eW]
  clear eW
  simp only [List.set_cons_zero] at M
  obtain ⟨tR, Ab, Ac, Aa⟩ := M.q3 0 rfl
  exact bodyPost_ret (v := .agg #[.int .i64 10, .int .i64 u, .int .i64 v]) (by simp [results, Tryz.results66, go_sem, Ab, Ac, Aa]) rfl ⟨_, _, _, rfl, M.grown1, M.diceAt 2 rfl d0 hc⟩
 ·obtain ⟨tR, Ab, Ai, Ac, Al, Aa, Ah⟩ := M.f3 0 rfl
  obtain ⟨tP, Af, Ag, Aj, Am, Ak, Ad, Ae, Ao, An, Ap⟩ := M.f5 1 rfl
  go_wp2_with fail
  go_call (below_any B _ g A len cap 8 (by omega) (by omega) (M.diceAt 2 rfl d0 hc)) as r W4 ⟨z, rfl, z1, z2, gg, d⟩
  clear tR Ab Ai Ac Al Aa Ah tP Af Ag Aj Am Ak Ad Ae Ao An Ap
  have MM := M.diceMoved 2 rfl gg d
  clear M hc gg d
  obtain ⟨cs3, hc, M⟩ := MM
  replace M : Sep [g] w W4 [.blk (w.heap.size + 1) 91 #[.int .i64 0, .int .i64 0, .int .i64 0], .blk (w.heap.size) 25 #[.int .i64 a, .int .i64 b, .int .i64 c, .int .i64 dd, .int .i64 ee], .blk g 87 cs3] := M
  rcases Classical.em (z = 0) with rfl | hz
  ·obtain ⟨tR, Ab, Ai, Ac, Al, Aa, Ah⟩ := M.f3 0 rfl
   obtain ⟨tP, Af, Ag, Aj, Am, Ak, Ad, Ae, Ao, An, Ap⟩ := M.f5 1 rfl
   go_wp2_with fail
   clear tR Ab Ai Ac Al Aa Ah tP Af Ag Aj Am Ak Ad Ae Ao An Ap
   have N := M.gset3 0 rfl (.int .i64 12) (.int .i64 0) (.int .i64 0)
   clear M
   obtain ⟨W5, eW, M⟩ := N
   rw [eW]
   clear eW
   simp only [List.set_cons_zero] at M
   obtain ⟨tR, Ab, Ac, Aa⟩ := M.q3 0 rfl
   exact bodyPost_ret (v := .agg #[.int .i64 12, .int .i64 0, .int .i64 0]) (by simp [results, Tryz.results66, go_sem, Ab, Ac, Aa]) rfl ⟨_, _, _, rfl, M.grown1, M.diceAt 2 rfl d0 hc⟩
  ·obtain ⟨tR, Ab, Ai, Ac, Al, Aa, Ah⟩ := M.f3 0 rfl
   obtain ⟨tP, Af, Ag, Aj, Am, Ak, Ad, Ae, Ao, An, Ap⟩ := M.f5 1 rfl
   go_wp2_with fail
   go_call (below_any B _ g A len cap ee (by omega) (by omega) (M.diceAt 2 rfl d0 hc)) as r W5 ⟨u, rfl, u1, u2, gg, d⟩
   clear tR Ab Ai Ac Al Aa Ah tP Af Ag Aj Am Ak Ad Ae Ao An Ap
   have MM := M.diceMoved 2 rfl gg d
   clear M hc gg d
   obtain ⟨cs4, hc, M⟩ := MM
   replace M : Sep [g] w W5 [.blk (w.heap.size + 1) 91 #[.int .i64 0, .int .i64 0, .int .i64 0], .blk (w.heap.size) 25 #[.int .i64 a, .int .i64 b, .int .i64 c, .int .i64 dd, .int .i64 ee], .blk g 87 cs4] := M
   obtain ⟨tR, Ab, Ai, Ac, Al, Aa, Ah⟩ := M.f3 0 rfl
   obtain ⟨tP, Af, Ag, Aj, Am, Ak, Ad, Ae, Ao, An, Ap⟩ := M.f5 1 rfl
   go_wp2_with fail
   clear tR Ab Ai Ac Al Aa Ah tP Af Ag Aj Am Ak Ad Ae Ao An Ap
   have N := M.gset3 0 rfl (.int .i64 11) (.int .i64 u) (.int .i64 0)
   clear M
   obtain ⟨W6, eW, M⟩ := N
   rw [eW]
   clear eW
   simp only [List.set_cons_zero] at M
   obtain ⟨tR, Ab, Ac, Aa⟩ := M.q3 0 rfl
   exact bodyPost_ret (v := .agg #[.int .i64 11, .int .i64 u, .int .i64 0]) (by simp [results, Tryz.results66, go_sem, Ab, Ac, Aa]) rfl ⟨_, _, _, rfl, M.grown1, M.diceAt 2 rfl d0 hc⟩
end Go.Proofs.YtfjgelegojbmgaaGreat
