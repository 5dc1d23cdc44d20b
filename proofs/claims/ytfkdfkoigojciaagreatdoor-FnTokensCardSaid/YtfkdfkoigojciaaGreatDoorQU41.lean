import Derived.Test.YtfkdfkoigojciaaGreatDoorQU40

namespace Go.Proofs.YtfkdfkoigojciaaGreatDoor
open Go.RowKit
set_option linter.unusedVariables false
theorem l1Max_any (a b : Int) (w : World) :
 Calls Tryz.prog 177 #[.int .i64 a, .int .i64 b] w fun e w' => e = .returned (.int .i64 (if b < a then a else b)) ∧ w = w' := by
 by_cases h : b < a
 ·rw [if_pos h]
  go_enter Tryz.func177, Tryz.ntmps177
  go_wp2
  go_ret
  exact ⟨rfl, rfl⟩
 ·rw [if_neg h]
  go_enter Tryz.func177, Tryz.ntmps177
  go_wp2
  go_ret
  exact ⟨rfl, rfl⟩
theorem l1Max_v (a b n : Int) (h : (if b < a then a else b) = n) (w : World) : Calls Tryz.prog 177 #[.int .i64 a, .int .i64 b] w fun e w' => e = .returned (.int .i64 n) ∧ w = w' := h ▸ l1Max_any a b w
theorem l1Min_v (a b n : Int) (h : (if a < b then a else b) = n) (w : World) : Calls Tryz.prog 178 #[.int .i64 a, .int .i64 b] w fun e w' => e = .returned (.int .i64 n) ∧ w = w' := h ▸ l1Min_any a b w
def CGaveCall (B : Nat) (w : World) (g : Nat) (A : Option Addr) (len cap : Nat) (r : Ending) (w' : World) : Prop :=
 ∃ k x y : Int, r = .returned (.agg #[.int .i64 k, .int .i64 x, .int .i64 y]) ∧ CMoved B w w' g A len cap
set_option maxRecDepth 100000 in
set_option maxHeartbeats 8000000 in
theorem l10Draw_any (B : Nat) (w : World) (g : Nat) (A : Option Addr) (len cap : Nat) (a b c dd ee : Int) (hb2 : b ≤ 1000000) (hc2 : c ≤ 1000000) (d0 : CurAt B w g A len cap) :
 Calls Tryz.prog 195 #[.pointer (some ⟨g, 0, none⟩), .agg #[.int .i64 a, .int .i64 b, .int .i64 c, .int .i64 dd, .int .i64 ee]] w (CGaveCall B w g A len cap) := by
 have hg := d0.lt
 go_enter Tryz.func195, Tryz.ntmps195
 go_wp2_with fail
 obtain ⟨cs0, hc, M⟩ := cur_start d0
 replace M : Sep [g] w ((w.alloc (.cells #[.int .i64 a, .int .i64 b, .int .i64 c, .int .i64 dd, .int .i64 ee] 28)).alloc (.cells #[.int .i64 0, .int .i64 0, .int .i64 0] 72)) [.blk (w.heap.size + 1) 72 #[.int .i64 0, .int .i64 0, .int .i64 0], .blk (w.heap.size) 28 #[.int .i64 a, .int .i64 b, .int .i64 c, .int .i64 dd, .int .i64 ee], .blk g 143 cs0] := ((M.alloc 28 #[.int .i64 a, .int .i64 b, .int .i64 c, .int .i64 dd, .int .i64 ee] (w.heap.size) rfl).alloc 72 #[.int .i64 0, .int .i64 0, .int .i64 0] (w.heap.size + 1) (by simp))
 generalize (w.alloc (.cells #[.int .i64 a, .int .i64 b, .int .i64 c, .int .i64 dd, .int .i64 ee] 28)).alloc (.cells #[.int .i64 0, .int .i64 0, .int .i64 0] 72) = W1 at M ⊢
 obtain ⟨tR, Ac, Ap, Aa, Ae, Ab, Am⟩ := M.f3 0 rfl
 obtain ⟨tP, Ai, An, Aj, Ad, Al, Ag, Ao, Ah, Af, Ak⟩ := M.f5 1 rfl
 go_wp2_with fail
 obtain ⟨n1, hn1⟩ : ∃ n1, (if b < 5 then b else 5) = n1 := ⟨_, rfl⟩
 obtain ⟨n2, hn2⟩ : ∃ n2, (if n1 < 1 then 1 else n1) = n2 := ⟨_, rfl⟩
 have hn3 : 1 ≤ n2 ∧ n2 ≤ 1000000 := by rw [← hn2, ← hn1]; (split <;> split <;> omega)
 obtain ⟨hn4, hn5⟩ := hn3
 have HN := hide (⟨hn1, hn2⟩ : _ ∧ _)
 clear hn1 hn2
 go_call (l1Min_v b 5 n1 HN.out.1 _) as r W8 ⟨rfl, rfl⟩
 go_wp2_with fail
 go_call (l1Max_v 1 n1 n2 HN.out.2 _) as r W8 ⟨rfl, rfl⟩
 go_wp2_with fail
 go_call (l1Below_pos B _ g A len cap n2 (by omega) (by omega) (M.curAt 2 rfl d0 hc)) as r W2 ⟨id, rfl, id1, id2, gg, d⟩
 clear tR Ac Ap Aa Ae Ab Am tP Ai An Aj Ad Al Ag Ao Ah Af Ak
 have MM := M.curMoved 2 rfl gg d
 clear M hc gg d
 obtain ⟨cs1, hc, M⟩ := MM
 simp only [zZ, zS] at M
 obtain ⟨tR, Ac, Ap, Aa, Ae, Ab, Am⟩ := M.f3 0 rfl
 obtain ⟨tP, Ai, An, Aj, Ad, Al, Ag, Ao, Ah, Af, Ak⟩ := M.f5 1 rfl
 go_wp2_with fail
 go_call (l1Below_pos B _ g A len cap 20 (by omega) (by omega) (M.curAt 2 rfl d0 hc)) as r W3 ⟨t, rfl, t1, t2, gg, d⟩
 clear tR Ac Ap Aa Ae Ab Am tP Ai An Aj Ad Al Ag Ao Ah Af Ak
 have MM := M.curMoved 2 rfl gg d
 clear M hc gg d
 obtain ⟨cs2, hc, M⟩ := MM
 simp only [zZ, zS] at M
 have ht : t = 0 ∨ t = 1 ∨ t = 2 ∨ t = 3 ∨ t = 4 ∨ t = 5 ∨ t = 6 ∨ t = 7 ∨ t = 8 ∨ t = 9 ∨ t = 10 ∨ t = 11 ∨ t = 12 ∨ t = 13 ∨ t = 14 ∨ t = 15 ∨ t = 16 ∨ t = 17 ∨ t = 18 ∨ t = 19 := by omega
 clear t1 t2
 rcases ht with rfl | rfl | rfl | rfl | rfl | rfl | rfl | rfl | rfl | rfl | rfl | rfl | rfl | rfl | rfl | rfl | rfl | rfl | rfl | rfl
 ·obtain ⟨tR, Ac, Ap, Aa, Ae, Ab, Am⟩ := M.f3 0 rfl
  obtain ⟨tP, Ai, An, Aj, Ad, Al, Ag, Ao, Ah, Af, Ak⟩ := M.f5 1 rfl
  go_wp2_with fail
  obtain ⟨n6, hn6⟩ : ∃ n6, (if c < 1 then 1 else c) = n6 := ⟨_, rfl⟩
  have hn7 : 1 ≤ n6 ∧ n6 ≤ 1000000 := by rw [← hn6]; (split <;> omega)
  obtain ⟨hn8, hn9⟩ := hn7
  have HN6 := hide hn6
  clear hn6
  go_call (l1Max_v 1 c n6 HN6.out _) as r W8 ⟨rfl, rfl⟩
  go_wp2_with fail
  go_call (l1Below_pos B _ g A len cap n6 (by omega) (by omega) (M.curAt 2 rfl d0 hc)) as r W4 ⟨u, rfl, u1, u2, gg, d⟩
  clear tR Ac Ap Aa Ae Ab Am tP Ai An Aj Ad Al Ag Ao Ah Af Ak
  have MM := M.curMoved 2 rfl gg d
  clear M hc gg d
  obtain ⟨cs3, hc, M⟩ := MM
  simp only [zZ, zS] at M
  obtain ⟨tR, Ac, Ap, Aa, Ae, Ab, Am⟩ := M.f3 0 rfl
  obtain ⟨tP, Ai, An, Aj, Ad, Al, Ag, Ao, Ah, Af, Ak⟩ := M.f5 1 rfl
  go_wp2_with fail
  clear tR Ac Ap Aa Ae Ab Am tP Ai An Aj Ad Al Ag Ao Ah Af Ak
  replace M := M.gset3 0 rfl (.int .i64 1) (.int .i64 u) (.int .i64 0)
  obtain ⟨W5, eW, M⟩ := M
  rw [eW]
  clear eW
  simp only [List.set_cons_zero] at M
  obtain ⟨tR, Ac, Aa, Ab⟩ := M.q3 0 rfl
  exact bodyPost_ret (v := .agg #[.int .i64 1, .int .i64 u, .int .i64 0]) (by simp [results, Tryz.results195, go_sem, Ac, Aa, Ab]) rfl ⟨_, _, _, rfl, M.grown1, M.curAt 2 rfl d0 hc⟩
 ·obtain ⟨tR, Ac, Ap, Aa, Ae, Ab, Am⟩ := M.f3 0 rfl
  obtain ⟨tP, Ai, An, Aj, Ad, Al, Ag, Ao, Ah, Af, Ak⟩ := M.f5 1 rfl
  go_wp2_with fail
  obtain ⟨n6, hn6⟩ : ∃ n6, (if c < 1 then 1 else c) = n6 := ⟨_, rfl⟩
  have hn7 : 1 ≤ n6 ∧ n6 ≤ 1000000 := by rw [← hn6]; (split <;> omega)
  obtain ⟨hn8, hn9⟩ := hn7
  have HN6 := hide hn6
  clear hn6
  go_call (l1Max_v 1 c n6 HN6.out _) as r W8 ⟨rfl, rfl⟩
  go_wp2_with fail
  go_call (l1Below_pos B _ g A len cap n6 (by omega) (by omega) (M.curAt 2 rfl d0 hc)) as r W4 ⟨u, rfl, u1, u2, gg, d⟩
  clear tR Ac Ap Aa Ae Ab Am tP Ai An Aj Ad Al Ag Ao Ah Af Ak
  have MM := M.curMoved 2 rfl gg d
  clear M hc gg d
  obtain ⟨cs3, hc, M⟩ := MM
  simp only [zZ, zS] at M
  obtain ⟨tR, Ac, Ap, Aa, Ae, Ab, Am⟩ := M.f3 0 rfl
  obtain ⟨tP, Ai, An, Aj, Ad, Al, Ag, Ao, Ah, Af, Ak⟩ := M.f5 1 rfl
  go_wp2_with fail
  clear tR Ac Ap Aa Ae Ab Am tP Ai An Aj Ad Al Ag Ao Ah Af Ak
  replace M := M.gset3 0 rfl (.int .i64 1) (.int .i64 u) (.int .i64 0)
  obtain ⟨W5, eW, M⟩ := M
  rw [eW]
  clear eW
  simp only [List.set_cons_zero] at M
  obtain ⟨tR, Ac, Aa, Ab⟩ := M.q3 0 rfl
  exact bodyPost_ret (v := .agg #[.int .i64 1, .int .i64 u, .int .i64 0]) (by simp [results, Tryz.results195, go_sem, Ac, Aa, Ab]) rfl ⟨_, _, _, rfl, M.grown1, M.curAt 2 rfl d0 hc⟩
 ·obtain ⟨tR, Ac, Ap, Aa, Ae, Ab, Am⟩ := M.f3 0 rfl
  obtain ⟨tP, Ai, An, Aj, Ad, Al, Ag, Ao, Ah, Af, Ak⟩ := M.f5 1 rfl
  go_wp2_with fail
  obtain ⟨n6, hn6⟩ : ∃ n6, (if c < 1 then 1 else c) = n6 := ⟨_, rfl⟩
  have hn7 : 1 ≤ n6 ∧ n6 ≤ 1000000 := by rw [← hn6]; (split <;> omega)
  obtain ⟨hn8, hn9⟩ := hn7
  have HN6 := hide hn6
  clear hn6
  go_call (l1Max_v 1 c n6 HN6.out _) as r W8 ⟨rfl, rfl⟩
  go_wp2_with fail
  go_call (l1Below_pos B _ g A len cap n6 (by omega) (by omega) (M.curAt 2 rfl d0 hc)) as r W4 ⟨u, rfl, u1, u2, gg, d⟩
  clear tR Ac Ap Aa Ae Ab Am tP Ai An Aj Ad Al Ag Ao Ah Af Ak
  have MM := M.curMoved 2 rfl gg d
  clear M hc gg d
  obtain ⟨cs3, hc, M⟩ := MM
  simp only [zZ, zS] at M
  obtain ⟨tR, Ac, Ap, Aa, Ae, Ab, Am⟩ := M.f3 0 rfl
  obtain ⟨tP, Ai, An, Aj, Ad, Al, Ag, Ao, Ah, Af, Ak⟩ := M.f5 1 rfl
  go_wp2_with fail
  clear tR Ac Ap Aa Ae Ab Am tP Ai An Aj Ad Al Ag Ao Ah Af Ak
  replace M := M.gset3 0 rfl (.int .i64 1) (.int .i64 u) (.int .i64 0)
  obtain ⟨W5, eW, M⟩ := M
  rw [eW]
  clear eW
  simp only [List.set_cons_zero] at M
  obtain ⟨tR, Ac, Aa, Ab⟩ := M.q3 0 rfl
  exact bodyPost_ret (v := .agg #[.int .i64 1, .int .i64 u, .int .i64 0]) (by simp [results, Tryz.results195, go_sem, Ac, Aa, Ab]) rfl ⟨_, _, _, rfl, M.grown1, M.curAt 2 rfl d0 hc⟩
 ·obtain ⟨tR, Ac, Ap, Aa, Ae, Ab, Am⟩ := M.f3 0 rfl
  obtain ⟨tP, Ai, An, Aj, Ad, Al, Ag, Ao, Ah, Af, Ak⟩ := M.f5 1 rfl
  go_wp2_with fail
  obtain ⟨n6, hn6⟩ : ∃ n6, (if c < 1 then 1 else c) = n6 := ⟨_, rfl⟩
  have hn7 : 1 ≤ n6 ∧ n6 ≤ 1000000 := by rw [← hn6]; (split <;> omega)
  obtain ⟨hn8, hn9⟩ := hn7
  have HN6 := hide hn6
  clear hn6
  go_call (l1Max_v 1 c n6 HN6.out _) as r W8 ⟨rfl, rfl⟩
  go_wp2_with fail
  go_call (l1Below_pos B _ g A len cap n6 (by omega) (by omega) (M.curAt 2 rfl d0 hc)) as r W4 ⟨u, rfl, u1, u2, gg, d⟩
  clear tR Ac Ap Aa Ae Ab Am tP Ai An Aj Ad Al Ag Ao Ah Af Ak
  have MM := M.curMoved 2 rfl gg d
  clear M hc gg d
  obtain ⟨cs3, hc, M⟩ := MM
  simp only [zZ, zS] at M
  obtain ⟨tR, Ac, Ap, Aa, Ae, Ab, Am⟩ := M.f3 0 rfl
  obtain ⟨tP, Ai, An, Aj, Ad, Al, Ag, Ao, Ah, Af, Ak⟩ := M.f5 1 rfl
  go_wp2_with fail
  clear tR Ac Ap Aa Ae Ab Am tP Ai An Aj Ad Al Ag Ao Ah Af Ak
  replace M := M.gset3 0 rfl (.int .i64 1) (.int .i64 u) (.int .i64 0)
  obtain ⟨W5, eW, M⟩ := M
  rw [eW]
  clear eW
  simp only [List.set_cons_zero] at M
  obtain ⟨tR, Ac, Aa, Ab⟩ := M.q3 0 rfl
  exact bodyPost_ret (v := .agg #[.int .i64 1, .int .i64 u, .int .i64 0]) (by simp [results, Tryz.results195, go_sem, Ac, Aa, Ab]) rfl ⟨_, _, _, rfl, M.grown1, M.curAt 2 rfl d0 hc⟩
 ·obtain ⟨tR, Ac, Ap, Aa, Ae, Ab, Am⟩ := M.f3 0 rfl
  obtain ⟨tP, Ai, An, Aj, Ad, Al, Ag, Ao, Ah, Af, Ak⟩ := M.f5 1 rfl
  go_wp2_with fail
  clear tR Ac Ap Aa Ae Ab Am tP Ai An Aj Ad Al Ag Ao Ah Af Ak
  replace M := M.gset3 0 rfl (.int .i64 2) (.int .i64 0) (.int .i64 0)
  obtain ⟨W4, eW, M⟩ := M
  rw [eW]
  clear eW
  simp only [List.set_cons_zero] at M
  obtain ⟨tR, Ac, Aa, Ab⟩ := M.q3 0 rfl
  exact bodyPost_ret (v := .agg #[.int .i64 2, .int .i64 0, .int .i64 0]) (by simp [results, Tryz.results195, go_sem, Ac, Aa, Ab]) rfl ⟨_, _, _, rfl, M.grown1, M.curAt 2 rfl d0 hc⟩
 ·obtain ⟨tR, Ac, Ap, Aa, Ae, Ab, Am⟩ := M.f3 0 rfl
  obtain ⟨tP, Ai, An, Aj, Ad, Al, Ag, Ao, Ah, Af, Ak⟩ := M.f5 1 rfl
  go_wp2_with fail
  clear tR Ac Ap Aa Ae Ab Am tP Ai An Aj Ad Al Ag Ao Ah Af Ak
  replace M := M.gset3 0 rfl (.int .i64 2) (.int .i64 0) (.int .i64 0)
  obtain ⟨W4, eW, M⟩ := M
  rw [eW]
  clear eW
  simp only [List.set_cons_zero] at M
  obtain ⟨tR, Ac, Aa, Ab⟩ := M.q3 0 rfl
  exact bodyPost_ret (v := .agg #[.int .i64 2, .int .i64 0, .int .i64 0]) (by simp [results, Tryz.results195, go_sem, Ac, Aa, Ab]) rfl ⟨_, _, _, rfl, M.grown1, M.curAt 2 rfl d0 hc⟩
 ·obtain ⟨tR, Ac, Ap, Aa, Ae, Ab, Am⟩ := M.f3 0 rfl
  obtain ⟨tP, Ai, An, Aj, Ad, Al, Ag, Ao, Ah, Af, Ak⟩ := M.f5 1 rfl
  go_wp2_with fail
  clear tR Ac Ap Aa Ae Ab Am tP Ai An Aj Ad Al Ag Ao Ah Af Ak
  replace M := M.gset3 0 rfl (.int .i64 2) (.int .i64 0) (.int .i64 0)
  obtain ⟨W4, eW, M⟩ := M
  rw [eW]
  clear eW
  simp only [List.set_cons_zero] at M
  obtain ⟨tR, Ac, Aa, Ab⟩ := M.q3 0 rfl
  exact bodyPost_ret (v := .agg #[.int .i64 2, .int .i64 0, .int .i64 0]) (by simp [results, Tryz.results195, go_sem, Ac, Aa, Ab]) rfl ⟨_, _, _, rfl, M.grown1, M.curAt 2 rfl d0 hc⟩
 ·obtain ⟨tR, Ac, Ap, Aa, Ae, Ab, Am⟩ := M.f3 0 rfl
  obtain ⟨tP, Ai, An, Aj, Ad, Al, Ag, Ao, Ah, Af, Ak⟩ := M.f5 1 rfl
  go_wp2_with fail
  clear tR Ac Ap Aa Ae Ab Am tP Ai An Aj Ad Al Ag Ao Ah Af Ak
  replace M := M.gset3 0 rfl (.int .i64 2) (.int .i64 0) (.int .i64 0)
  obtain ⟨W4, eW, M⟩ := M
  rw [eW]
  clear eW
  simp only [List.set_cons_zero] at M
  obtain ⟨tR, Ac, Aa, Ab⟩ := M.q3 0 rfl
  exact bodyPost_ret (v := .agg #[.int .i64 2, .int .i64 0, .int .i64 0]) (by simp [results, Tryz.results195, go_sem, Ac, Aa, Ab]) rfl ⟨_, _, _, rfl, M.grown1, M.curAt 2 rfl d0 hc⟩
 ·obtain ⟨tR, Ac, Ap, Aa, Ae, Ab, Am⟩ := M.f3 0 rfl
  obtain ⟨tP, Ai, An, Aj, Ad, Al, Ag, Ao, Ah, Af, Ak⟩ := M.f5 1 rfl
  go_wp2_with fail
  clear tR Ac Ap Aa Ae Ab Am tP Ai An Aj Ad Al Ag Ao Ah Af Ak
  replace M := M.gset3 0 rfl (.int .i64 2) (.int .i64 0) (.int .i64 0)
  obtain ⟨W4, eW, M⟩ := M
  rw [eW]
  clear eW
  simp only [List.set_cons_zero] at M
  obtain ⟨tR, Ac, Aa, Ab⟩ := M.q3 0 rfl
  exact bodyPost_ret (v := .agg #[.int .i64 2, .int .i64 0, .int .i64 0]) (by simp [results, Tryz.results195, go_sem, Ac, Aa, Ab]) rfl ⟨_, _, _, rfl, M.grown1, M.curAt 2 rfl d0 hc⟩
 ·obtain ⟨tR, Ac, Ap, Aa, Ae, Ab, Am⟩ := M.f3 0 rfl
  obtain ⟨tP, Ai, An, Aj, Ad, Al, Ag, Ao, Ah, Af, Ak⟩ := M.f5 1 rfl
  go_wp2_with fail
  clear tR Ac Ap Aa Ae Ab Am tP Ai An Aj Ad Al Ag Ao Ah Af Ak
  replace M := M.gset3 0 rfl (.int .i64 3) (.int .i64 0) (.int .i64 0)
  obtain ⟨W4, eW, M⟩ := M
  rw [eW]
  clear eW
  simp only [List.set_cons_zero] at M
  obtain ⟨tR, Ac, Aa, Ab⟩ := M.q3 0 rfl
  exact bodyPost_ret (v := .agg #[.int .i64 3, .int .i64 0, .int .i64 0]) (by simp [results, Tryz.results195, go_sem, Ac, Aa, Ab]) rfl ⟨_, _, _, rfl, M.grown1, M.curAt 2 rfl d0 hc⟩
 ·obtain ⟨tR, Ac, Ap, Aa, Ae, Ab, Am⟩ := M.f3 0 rfl
  obtain ⟨tP, Ai, An, Aj, Ad, Al, Ag, Ao, Ah, Af, Ak⟩ := M.f5 1 rfl
  go_wp2_with fail
  go_call (l1Below_pos B _ g A len cap 9 (by omega) (by omega) (M.curAt 2 rfl d0 hc)) as r W4 ⟨u, rfl, u1, u2, gg, d⟩
  clear tR Ac Ap Aa Ae Ab Am tP Ai An Aj Ad Al Ag Ao Ah Af Ak
  have MM := M.curMoved 2 rfl gg d
  clear M hc gg d
  obtain ⟨cs3, hc, M⟩ := MM
  simp only [zZ, zS] at M
  obtain ⟨tR, Ac, Ap, Aa, Ae, Ab, Am⟩ := M.f3 0 rfl
  obtain ⟨tP, Ai, An, Aj, Ad, Al, Ag, Ao, Ah, Af, Ak⟩ := M.f5 1 rfl
  go_wp2_with fail
  clear tR Ac Ap Aa Ae Ab Am tP Ai An Aj Ad Al Ag Ao Ah Af Ak
  replace M := M.gset3 0 rfl (.int .i64 4) (.int .i64 u) (.int .i64 0)
  obtain ⟨W5, eW, M⟩ := M
  rw [eW]
  clear eW
  simp only [List.set_cons_zero] at M
  obtain ⟨tR, Ac, Aa, Ab⟩ := M.q3 0 rfl
  exact bodyPost_ret (v := .agg #[.int .i64 4, .int .i64 u, .int .i64 0]) (by simp [results, Tryz.results195, go_sem, Ac, Aa, Ab]) rfl ⟨_, _, _, rfl, M.grown1, M.curAt 2 rfl d0 hc⟩
 ·obtain ⟨tR, Ac, Ap, Aa, Ae, Ab, Am⟩ := M.f3 0 rfl
  obtain ⟨tP, Ai, An, Aj, Ad, Al, Ag, Ao, Ah, Af, Ak⟩ := M.f5 1 rfl
  go_wp2_with fail
  go_call (l1Below_pos B _ g A len cap 9 (by omega) (by omega) (M.curAt 2 rfl d0 hc)) as r W4 ⟨u, rfl, u1, u2, gg, d⟩
  clear tR Ac Ap Aa Ae Ab Am tP Ai An Aj Ad Al Ag Ao Ah Af Ak
  have MM := M.curMoved 2 rfl gg d
  clear M hc gg d
  obtain ⟨cs3, hc, M⟩ := MM
  simp only [zZ, zS] at M
  obtain ⟨tR, Ac, Ap, Aa, Ae, Ab, Am⟩ := M.f3 0 rfl
  obtain ⟨tP, Ai, An, Aj, Ad, Al, Ag, Ao, Ah, Af, Ak⟩ := M.f5 1 rfl
  go_wp2_with fail
  clear tR Ac Ap Aa Ae Ab Am tP Ai An Aj Ad Al Ag Ao Ah Af Ak
  replace M := M.gset3 0 rfl (.int .i64 4) (.int .i64 u) (.int .i64 0)
  obtain ⟨W5, eW, M⟩ := M
  rw [eW]
  clear eW
  simp only [List.set_cons_zero] at M
  obtain ⟨tR, Ac, Aa, Ab⟩ := M.q3 0 rfl
  exact bodyPost_ret (v := .agg #[.int .i64 4, .int .i64 u, .int .i64 0]) (by simp [results, Tryz.results195, go_sem, Ac, Aa, Ab]) rfl ⟨_, _, _, rfl, M.grown1, M.curAt 2 rfl d0 hc⟩
 ·obtain ⟨tR, Ac, Ap, Aa, Ae, Ab, Am⟩ := M.f3 0 rfl
  obtain ⟨tP, Ai, An, Aj, Ad, Al, Ag, Ao, Ah, Af, Ak⟩ := M.f5 1 rfl
  go_wp2_with fail
  clear tR Ac Ap Aa Ae Ab Am tP Ai An Aj Ad Al Ag Ao Ah Af Ak
  replace M := M.gset3 0 rfl (.int .i64 5) (.int .i64 id) (.int .i64 0)
  obtain ⟨W4, eW, M⟩ := M
  rw [eW]
  clear eW
  simp only [List.set_cons_zero] at M
  obtain ⟨tR, Ac, Aa, Ab⟩ := M.q3 0 rfl
  exact bodyPost_ret (v := .agg #[.int .i64 5, .int .i64 id, .int .i64 0]) (by simp [results, Tryz.results195, go_sem, Ac, Aa, Ab]) rfl ⟨_, _, _, rfl, M.grown1, M.curAt 2 rfl d0 hc⟩
 ·obtain ⟨tR, Ac, Ap, Aa, Ae, Ab, Am⟩ := M.f3 0 rfl
  obtain ⟨tP, Ai, An, Aj, Ad, Al, Ag, Ao, Ah, Af, Ak⟩ := M.f5 1 rfl
  go_wp2_with fail
  clear tR Ac Ap Aa Ae Ab Am tP Ai An Aj Ad Al Ag Ao Ah Af Ak
  replace M := M.gset3 0 rfl (.int .i64 6) (.int .i64 id) (.int .i64 0)
  obtain ⟨W4, eW, M⟩ := M
  rw [eW]
  clear eW
  simp only [List.set_cons_zero] at M
  obtain ⟨tR, Ac, Aa, Ab⟩ := M.q3 0 rfl
  exact bodyPost_ret (v := .agg #[.int .i64 6, .int .i64 id, .int .i64 0]) (by simp [results, Tryz.results195, go_sem, Ac, Aa, Ab]) rfl ⟨_, _, _, rfl, M.grown1, M.curAt 2 rfl d0 hc⟩
 ·obtain ⟨tR, Ac, Ap, Aa, Ae, Ab, Am⟩ := M.f3 0 rfl
  obtain ⟨tP, Ai, An, Aj, Ad, Al, Ag, Ao, Ah, Af, Ak⟩ := M.f5 1 rfl
  go_wp2_with fail
  go_call (l1Below_pos B _ g A len cap 3 (by omega) (by omega) (M.curAt 2 rfl d0 hc)) as r W4 ⟨u, rfl, u1, u2, gg, d⟩
  clear tR Ac Ap Aa Ae Ab Am tP Ai An Aj Ad Al Ag Ao Ah Af Ak
  have MM := M.curMoved 2 rfl gg d
  clear M hc gg d
  obtain ⟨cs3, hc, M⟩ := MM
  simp only [zZ, zS] at M
  obtain ⟨tR, Ac, Ap, Aa, Ae, Ab, Am⟩ := M.f3 0 rfl
  obtain ⟨tP, Ai, An, Aj, Ad, Al, Ag, Ao, Ah, Af, Ak⟩ := M.f5 1 rfl
  go_wp2_with fail
  clear tR Ac Ap Aa Ae Ab Am tP Ai An Aj Ad Al Ag Ao Ah Af Ak
  replace M := M.gset3 0 rfl (.int .i64 7) (.int .i64 id) (.int .i64 u)
  obtain ⟨W5, eW, M⟩ := M
  rw [eW]
  clear eW
  simp only [List.set_cons_zero] at M
  obtain ⟨tR, Ac, Aa, Ab⟩ := M.q3 0 rfl
  exact bodyPost_ret (v := .agg #[.int .i64 7, .int .i64 id, .int .i64 u]) (by simp [results, Tryz.results195, go_sem, Ac, Aa, Ab]) rfl ⟨_, _, _, rfl, M.grown1, M.curAt 2 rfl d0 hc⟩
 ·obtain ⟨tR, Ac, Ap, Aa, Ae, Ab, Am⟩ := M.f3 0 rfl
  obtain ⟨tP, Ai, An, Aj, Ad, Al, Ag, Ao, Ah, Af, Ak⟩ := M.f5 1 rfl
  go_wp2_with fail
  go_call (l1Below_pos B _ g A len cap 2 (by omega) (by omega) (M.curAt 2 rfl d0 hc)) as r W4 ⟨u, rfl, u1, u2, gg, d⟩
  clear tR Ac Ap Aa Ae Ab Am tP Ai An Aj Ad Al Ag Ao Ah Af Ak
  have MM := M.curMoved 2 rfl gg d
  clear M hc gg d
  obtain ⟨cs3, hc, M⟩ := MM
  simp only [zZ, zS] at M
  obtain ⟨tR, Ac, Ap, Aa, Ae, Ab, Am⟩ := M.f3 0 rfl
  obtain ⟨tP, Ai, An, Aj, Ad, Al, Ag, Ao, Ah, Af, Ak⟩ := M.f5 1 rfl
  go_wp2_with fail
  clear tR Ac Ap Aa Ae Ab Am tP Ai An Aj Ad Al Ag Ao Ah Af Ak
  replace M := M.gset3 0 rfl (.int .i64 8) (.int .i64 u) (.int .i64 0)
  obtain ⟨W5, eW, M⟩ := M
  rw [eW]
  clear eW
  simp only [List.set_cons_zero] at M
  obtain ⟨tR, Ac, Aa, Ab⟩ := M.q3 0 rfl
  exact bodyPost_ret (v := .agg #[.int .i64 8, .int .i64 u, .int .i64 0]) (by simp [results, Tryz.results195, go_sem, Ac, Aa, Ab]) rfl ⟨_, _, _, rfl, M.grown1, M.curAt 2 rfl d0 hc⟩
 ·obtain ⟨tR, Ac, Ap, Aa, Ae, Ab, Am⟩ := M.f3 0 rfl
  obtain ⟨tP, Ai, An, Aj, Ad, Al, Ag, Ao, Ah, Af, Ak⟩ := M.f5 1 rfl
  go_wp2_with fail
  go_call (l1Below_pos B _ g A len cap 2 (by omega) (by omega) (M.curAt 2 rfl d0 hc)) as r W4 ⟨u, rfl, u1, u2, gg, d⟩
  clear tR Ac Ap Aa Ae Ab Am tP Ai An Aj Ad Al Ag Ao Ah Af Ak
  have MM := M.curMoved 2 rfl gg d
  clear M hc gg d
  obtain ⟨cs3, hc, M⟩ := MM
  simp only [zZ, zS] at M
  obtain ⟨tR, Ac, Ap, Aa, Ae, Ab, Am⟩ := M.f3 0 rfl
  obtain ⟨tP, Ai, An, Aj, Ad, Al, Ag, Ao, Ah, Af, Ak⟩ := M.f5 1 rfl
  go_wp2_with fail
  clear tR Ac Ap Aa Ae Ab Am tP Ai An Aj Ad Al Ag Ao Ah Af Ak
  replace M := M.gset3 0 rfl (.int .i64 9) (.int .i64 u) (.int .i64 0)
  obtain ⟨W5, eW, M⟩ := M
  rw [eW]
  clear eW
  simp only [List.set_cons_zero] at M
  obtain ⟨tR, Ac, Aa, Ab⟩ := M.q3 0 rfl
  exact bodyPost_ret (v := .agg #[.int .i64 9, .int .i64 u, .int .i64 0]) (by simp [results, Tryz.results195, go_sem, Ac, Aa, Ab]) rfl ⟨_, _, _, rfl, M.grown1, M.curAt 2 rfl d0 hc⟩
 ·obtain ⟨tR, Ac, Ap, Aa, Ae, Ab, Am⟩ := M.f3 0 rfl
  obtain ⟨tP, Ai, An, Aj, Ad, Al, Ag, Ao, Ah, Af, Ak⟩ := M.f5 1 rfl
  go_wp2_with fail
  go_call (l1Below_pos B _ g A len cap 2 (by omega) (by omega) (M.curAt 2 rfl d0 hc)) as r W4 ⟨u, rfl, u1, u2, gg, d⟩
  clear tR Ac Ap Aa Ae Ab Am tP Ai An Aj Ad Al Ag Ao Ah Af Ak
  have MM := M.curMoved 2 rfl gg d
  clear M hc gg d
  obtain ⟨cs3, hc, M⟩ := MM
  simp only [zZ, zS] at M
  obtain ⟨tR, Ac, Ap, Aa, Ae, Ab, Am⟩ := M.f3 0 rfl
  obtain ⟨tP, Ai, An, Aj, Ad, Al, Ag, Ao, Ah, Af, Ak⟩ := M.f5 1 rfl
  go_wp2_with fail
  go_call (l1Below_pos B _ g A len cap 9 (by omega) (by omega) (M.curAt 2 rfl d0 hc)) as r W5 ⟨v, rfl, v1, v2, gg, d⟩
  clear tR Ac Ap Aa Ae Ab Am tP Ai An Aj Ad Al Ag Ao Ah Af Ak
  have MM := M.curMoved 2 rfl gg d
  clear M hc gg d
  obtain ⟨cs4, hc, M⟩ := MM
  simp only [zZ, zS] at M
  obtain ⟨tR, Ac, Ap, Aa, Ae, Ab, Am⟩ := M.f3 0 rfl
  obtain ⟨tP, Ai, An, Aj, Ad, Al, Ag, Ao, Ah, Af, Ak⟩ := M.f5 1 rfl
  go_wp2_with fail
  clear tR Ac Ap Aa Ae Ab Am tP Ai An Aj Ad Al Ag Ao Ah Af Ak
  replace M := M.gset3 0 rfl (.int .i64 10) (.int .i64 u) (.int .i64 v)
  obtain ⟨W6, eW, M⟩ := M
  rw [eW]
  clear eW
  simp only [List.set_cons_zero] at M
  obtain ⟨tR, Ac, Aa, Ab⟩ := M.q3 0 rfl
  exact bodyPost_ret (v := .agg #[.int .i64 10, .int .i64 u, .int .i64 v]) (by simp [results, Tryz.results195, go_sem, Ac, Aa, Ab]) rfl ⟨_, _, _, rfl, M.grown1, M.curAt 2 rfl d0 hc⟩
 ·obtain ⟨tR, Ac, Ap, Aa, Ae, Ab, Am⟩ := M.f3 0 rfl
  obtain ⟨tP, Ai, An, Aj, Ad, Al, Ag, Ao, Ah, Af, Ak⟩ := M.f5 1 rfl
  go_wp2_with fail
  go_call (l1Below_pos B _ g A len cap 2 (by omega) (by omega) (M.curAt 2 rfl d0 hc)) as r W4 ⟨u, rfl, u1, u2, gg, d⟩
  clear tR Ac Ap Aa Ae Ab Am tP Ai An Aj Ad Al Ag Ao Ah Af Ak
  have MM := M.curMoved 2 rfl gg d
  clear M hc gg d
  obtain ⟨cs3, hc, M⟩ := MM
  simp only [zZ, zS] at M
  obtain ⟨tR, Ac, Ap, Aa, Ae, Ab, Am⟩ := M.f3 0 rfl
  obtain ⟨tP, Ai, An, Aj, Ad, Al, Ag, Ao, Ah, Af, Ak⟩ := M.f5 1 rfl
  go_wp2_with fail
  clear tR Ac Ap Aa Ae Ab Am tP Ai An Aj Ad Al Ag Ao Ah Af Ak
  replace M := M.gset3 0 rfl (.int .i64 11) (.int .i64 u) (.int .i64 0)
  obtain ⟨W5, eW, M⟩ := M
  rw [eW]
  clear eW
  simp only [List.set_cons_zero] at M
  obtain ⟨tR, Ac, Aa, Ab⟩ := M.q3 0 rfl
  exact bodyPost_ret (v := .agg #[.int .i64 11, .int .i64 u, .int .i64 0]) (by simp [results, Tryz.results195, go_sem, Ac, Aa, Ab]) rfl ⟨_, _, _, rfl, M.grown1, M.curAt 2 rfl d0 hc⟩
 ·obtain ⟨tR, Ac, Ap, Aa, Ae, Ab, Am⟩ := M.f3 0 rfl
  obtain ⟨tP, Ai, An, Aj, Ad, Al, Ag, Ao, Ah, Af, Ak⟩ := M.f5 1 rfl
  go_wp2_with fail
  go_call (l1Once_any B _ g A len cap 6 (by omega) (by omega) (M.curAt 2 rfl d0 hc)) as r W4 ⟨z, rfl, gg, d⟩
  clear tR Ac Ap Aa Ae Ab Am tP Ai An Aj Ad Al Ag Ao Ah Af Ak
  have MM := M.curMoved 2 rfl gg d
  clear M hc gg d
  obtain ⟨cs3, hc, M⟩ := MM
  simp only [zZ, zS] at M
  cases z
  ·obtain ⟨tR, Ac, Ap, Aa, Ae, Ab, Am⟩ := M.f3 0 rfl
   obtain ⟨tP, Ai, An, Aj, Ad, Al, Ag, Ao, Ah, Af, Ak⟩ := M.f5 1 rfl
   go_wp2_with fail
   clear tR Ac Ap Aa Ae Ab Am tP Ai An Aj Ad Al Ag Ao Ah Af Ak
   replace M := M.gset3 0 rfl (.int .i64 2) (.int .i64 0) (.int .i64 0)
   obtain ⟨W5, eW, M⟩ := M
   rw [eW]
   clear eW
   simp only [List.set_cons_zero] at M
   obtain ⟨tR, Ac, Aa, Ab⟩ := M.q3 0 rfl
   exact bodyPost_ret (v := .agg #[.int .i64 2, .int .i64 0, .int .i64 0]) (by simp [results, Tryz.results195, go_sem, Ac, Aa, Ab]) rfl ⟨_, _, _, rfl, M.grown1, M.curAt 2 rfl d0 hc⟩
  ·obtain ⟨tR, Ac, Ap, Aa, Ae, Ab, Am⟩ := M.f3 0 rfl
   obtain ⟨tP, Ai, An, Aj, Ad, Al, Ag, Ao, Ah, Af, Ak⟩ := M.f5 1 rfl
   go_wp2_with fail
   clear tR Ac Ap Aa Ae Ab Am tP Ai An Aj Ad Al Ag Ao Ah Af Ak
   replace M := M.gset3 0 rfl (.int .i64 12) (.int .i64 0) (.int .i64 0)
   obtain ⟨W5, eW, M⟩ := M
   rw [eW]
   clear eW
   simp only [List.set_cons_zero] at M
   obtain ⟨tR, Ac, Aa, Ab⟩ := M.q3 0 rfl
   exact bodyPost_ret (v := .agg #[.int .i64 12, .int .i64 0, .int .i64 0]) (by simp [results, Tryz.results195, go_sem, Ac, Aa, Ab]) rfl ⟨_, _, _, rfl, M.grown1, M.curAt 2 rfl d0 hc⟩
end Go.Proofs.YtfkdfkoigojciaaGreatDoor
