/- A call by dice: what was in memory stays as it was, but for the dice. The plan has levels, tokens and futures. -/
import Derived.Test.YtfkdfkoigojciaaGreatDoorQJ04
import Derived.Test.YtfkdfkoigojciaaGreatDoorQJ32

namespace Go.Proofs.YtfkdfkoigojciaaGreatDoor
open Go.RowKit
set_option linter.unusedVariables false
theorem Sep.grown1 {g : Nat} {w W : World} {rs : List Res} (h : Sep [g] w W rs) : w.grownBy W (some g) := ⟨h.os, h.tape, h.output, h.size, fun b hb hne => h.block b hb (by simp; intro e; exact hne (by rw [e]))⟩
def diceC (A : Option Addr) (len cap : Nat) (cs : Array Value) : Prop := ∃ (i : Nat) (h : Int), cs = #[.slice A len cap, .int .i64 (i : Int), .int .u64 h] ∧ i ≤ len
section
variable {B g len cap : Nat} {A : Option Addr} {w W W' : World} {rs : List Res} {cs : Array Value}
theorem dice_start (d : DiceAt B w g A len cap) : ∃ cs, diceC A len cap cs ∧ Sep [g] w w [.blk g 68 cs] := by
 obtain ⟨h1, h2, h3, i, x, h4, h5⟩ := d
 exact ⟨_, ⟨i, x, rfl, h5⟩, rfl, rfl, rfl, Nat.le_refl _, fun _ _ _ => rfl, fun r hr => by rw [List.mem_singleton.1 hr]; exact h4, fun r hr b hb => by rw [List.mem_singleton.1 hr] at hb; injection hb with hb; subst hb; exact .inl (List.mem_singleton_self _), List.pairwise_singleton _ _⟩
theorem Sep.diceAt (h : Sep [g] w W rs) (i : Nat) (hi : rs[i]? = some (.blk g 68 cs)) (d0 : DiceAt B w g A len cap) (hc : diceC A len cap cs) : DiceAt B W g A len cap := by
 obtain ⟨h1, h2, h3, j, x, h4, h5⟩ := d0
 obtain ⟨k, y, rfl, hk⟩ := hc
 exact ⟨h1, h2, h3.keep fun b hb => h.block b (by have := h4.lt; omega) (by simp; omega), k, y, h.blk i hi, hk⟩
theorem Sep.diceMoved (h : Sep [g] w W rs) (i : Nat) (hi : rs[i]? = some (.blk g 68 cs)) (gg : W.grownBy W' (some g)) (d : DiceAt B W' g A len cap) : ∃ cs', diceC A len cap cs' ∧ Sep [g] w W' (rs.set i (.blk g 68 cs')) := by
 obtain ⟨h1, h2, h3, j, x, h4, h5⟩ := d
 exact ⟨_, ⟨j, x, rfl, h5⟩, h.upd i _ _ hi g rfl (fun y hy => by injection hy with hy; exact hy.symm) h4 gg.os gg.tape gg.output gg.size (fun b hb hne => gg.block b hb (by intro e; injection e with e; exact hne e))⟩
end
section
variable {B g len cap : Nat} {A : Option Addr} {w W W' : World} {rs : List Res} {cs : Array Value}
end
/-- A call out of the dice. -/
def GaveCall (B : Nat) (w : World) (g : Nat) (A : Option Addr) (len cap : Nat) (r : Ending) (w' : World) : Prop :=
 ∃ k x y : Int, r = .returned (.agg #[.int .i64 k, .int .i64 x, .int .i64 y]) ∧ Moved B w w' g A len cap
set_option maxRecDepth 100000 in
set_option maxHeartbeats 8000000 in
theorem wish_any (B : Nat) (w : World) (g : Nat) (A : Option Addr) (len cap : Nat) (a b c dd ee : Int) (hc1 : 1 ≤ c) (hc2 : c ≤ 30) (hd1 : 1 ≤ dd) (hd2 : dd ≤ 30) (he1 : 1 ≤ ee) (he2 : ee ≤ 30) (d0 : DiceAt B w g A len cap) :
 Calls Tryz.prog 50 #[.pointer (some ⟨g, 0, none⟩), .agg #[.int .i64 a, .int .i64 b, .int .i64 c, .int .i64 dd, .int .i64 ee]] w (GaveCall B w g A len cap) := by
 have hg := d0.lt
 go_enter Tryz.func50, Tryz.ntmps50
 go_wp2_with fail
 obtain ⟨cs0, hc, M⟩ := dice_start d0
 replace M : Sep [g] w ((w.alloc (.cells #[.int .i64 a, .int .i64 b, .int .i64 c, .int .i64 dd, .int .i64 ee] 28)).alloc (.cells #[.int .i64 0, .int .i64 0, .int .i64 0] 72)) [.blk (w.heap.size + 1) 72 #[.int .i64 0, .int .i64 0, .int .i64 0], .blk (w.heap.size) 28 #[.int .i64 a, .int .i64 b, .int .i64 c, .int .i64 dd, .int .i64 ee], .blk g 68 cs0] := ((M.alloc 28 #[.int .i64 a, .int .i64 b, .int .i64 c, .int .i64 dd, .int .i64 ee] (w.heap.size) rfl).alloc 72 #[.int .i64 0, .int .i64 0, .int .i64 0] (w.heap.size + 1) (by simp))
 generalize (w.alloc (.cells #[.int .i64 a, .int .i64 b, .int .i64 c, .int .i64 dd, .int .i64 ee] 28)).alloc (.cells #[.int .i64 0, .int .i64 0, .int .i64 0] 72) = W1 at M ⊢
 go_call (below_any B _ g A len cap 4 (by omega) (by omega) (M.diceAt 2 rfl d0 hc)) as r W2 ⟨id, rfl, id1, id2, gg, d⟩
 have MM := M.diceMoved 2 rfl gg d
 clear M hc gg d
 obtain ⟨cs1, hc, M⟩ := MM
 replace M : Sep [g] w W2 [.blk (w.heap.size + 1) 72 #[.int .i64 0, .int .i64 0, .int .i64 0], .blk (w.heap.size) 28 #[.int .i64 a, .int .i64 b, .int .i64 c, .int .i64 dd, .int .i64 ee], .blk g 68 cs1] := M
 obtain ⟨tR, Ac, Ag, Aa, Ai, Ab, Ao⟩ := M.f3 0 rfl
 obtain ⟨tP, Af, Ap, Ah, Ad, Al, Am, Aj, Ae, Ak, An⟩ := M.f5 1 rfl
 go_wp2_with fail
 go_call (below_any B _ g A len cap 20 (by omega) (by omega) (M.diceAt 2 rfl d0 hc)) as r W3 ⟨t, rfl, t1, t2, gg, d⟩
 clear tR Ac Ag Aa Ai Ab Ao tP Af Ap Ah Ad Al Am Aj Ae Ak An
 have MM := M.diceMoved 2 rfl gg d
 clear M hc gg d
 obtain ⟨cs2, hc, M⟩ := MM
 replace M : Sep [g] w W3 [.blk (w.heap.size + 1) 72 #[.int .i64 0, .int .i64 0, .int .i64 0], .blk (w.heap.size) 28 #[.int .i64 a, .int .i64 b, .int .i64 c, .int .i64 dd, .int .i64 ee], .blk g 68 cs2] := M
 have ht : t = 0 ∨ t = 1 ∨ t = 2 ∨ t = 3 ∨ t = 4 ∨ t = 5 ∨ t = 6 ∨ t = 7 ∨ t = 8 ∨ t = 9 ∨ t = 10 ∨ t = 11 ∨ t = 12 ∨ t = 13 ∨ t = 14 ∨ t = 15 ∨ t = 16 ∨ t = 17 ∨ t = 18 ∨ t = 19 := by omega
 clear t1 t2
 rcases ht with rfl | rfl | rfl | rfl | rfl | rfl | rfl | rfl | rfl | rfl | rfl | rfl | rfl | rfl | rfl | rfl | rfl | rfl | rfl | rfl
 ·obtain ⟨tR, Ac, Ag, Aa, Ai, Ab, Ao⟩ := M.f3 0 rfl
  obtain ⟨tP, Af, Ap, Ah, Ad, Al, Am, Aj, Ae, Ak, An⟩ := M.f5 1 rfl
  go_wp2_with fail
  go_call (below_any B _ g A len cap c (by omega) (by omega) (M.diceAt 2 rfl d0 hc)) as r W4 ⟨u, rfl, u1, u2, gg, d⟩
  clear tR Ac Ag Aa Ai Ab Ao tP Af Ap Ah Ad Al Am Aj Ae Ak An
  have MM := M.diceMoved 2 rfl gg d
  clear M hc gg d
  obtain ⟨cs3, hc, M⟩ := MM
  replace M : Sep [g] w W4 [.blk (w.heap.size + 1) 72 #[.int .i64 0, .int .i64 0, .int .i64 0], .blk (w.heap.size) 28 #[.int .i64 a, .int .i64 b, .int .i64 c, .int .i64 dd, .int .i64 ee], .blk g 68 cs3] := M
  obtain ⟨tR, Ac, Ag, Aa, Ai, Ab, Ao⟩ := M.f3 0 rfl
  obtain ⟨tP, Af, Ap, Ah, Ad, Al, Am, Aj, Ae, Ak, An⟩ := M.f5 1 rfl
  go_wp2_with fail
  clear tR Ac Ag Aa Ai Ab Ao tP Af Ap Ah Ad Al Am Aj Ae Ak An
  have N := M.gset3 0 rfl (.int .i64 1) (.int .i64 u) (.int .i64 0)
  clear M
  obtain ⟨W5, eW, M⟩ := N
  rw [eW]
  clear eW
  simp only [List.set_cons_zero] at M
  obtain ⟨tR, Ac, Aa, Ab⟩ := M.q3 0 rfl
  exact bodyPost_ret (v := .agg #[.int .i64 1, .int .i64 u, .int .i64 0]) (by simp [results, Tryz.results50, go_sem, Ac, Aa, Ab]) rfl ⟨_, _, _, rfl, M.grown1, M.diceAt 2 rfl d0 hc⟩
 ·obtain ⟨tR, Ac, Ag, Aa, Ai, Ab, Ao⟩ := M.f3 0 rfl
  obtain ⟨tP, Af, Ap, Ah, Ad, Al, Am, Aj, Ae, Ak, An⟩ := M.f5 1 rfl
  go_wp2_with fail
  go_call (below_any B _ g A len cap c (by omega) (by omega) (M.diceAt 2 rfl d0 hc)) as r W4 ⟨u, rfl, u1, u2, gg, d⟩
  clear tR Ac Ag Aa Ai Ab Ao tP Af Ap Ah Ad Al Am Aj Ae Ak An
  have MM := M.diceMoved 2 rfl gg d
  clear M hc gg d
  obtain ⟨cs3, hc, M⟩ := MM
  replace M : Sep [g] w W4 [.blk (w.heap.size + 1) 72 #[.int .i64 0, .int .i64 0, .int .i64 0], .blk (w.heap.size) 28 #[.int .i64 a, .int .i64 b, .int .i64 c, .int .i64 dd, .int .i64 ee], .blk g 68 cs3] := M
  obtain ⟨tR, Ac, Ag, Aa, Ai, Ab, Ao⟩ := M.f3 0 rfl
  obtain ⟨tP, Af, Ap, Ah, Ad, Al, Am, Aj, Ae, Ak, An⟩ := M.f5 1 rfl
  go_wp2_with fail
  clear tR Ac Ag Aa Ai Ab Ao tP Af Ap Ah Ad Al Am Aj Ae Ak An
  have N := M.gset3 0 rfl (.int .i64 1) (.int .i64 u) (.int .i64 0)
  clear M
  obtain ⟨W5, eW, M⟩ := N
  rw [eW]
  clear eW
  simp only [List.set_cons_zero] at M
  obtain ⟨tR, Ac, Aa, Ab⟩ := M.q3 0 rfl
  exact bodyPost_ret (v := .agg #[.int .i64 1, .int .i64 u, .int .i64 0]) (by simp [results, Tryz.results50, go_sem, Ac, Aa, Ab]) rfl ⟨_, _, _, rfl, M.grown1, M.diceAt 2 rfl d0 hc⟩
 ·obtain ⟨tR, Ac, Ag, Aa, Ai, Ab, Ao⟩ := M.f3 0 rfl
  obtain ⟨tP, Af, Ap, Ah, Ad, Al, Am, Aj, Ae, Ak, An⟩ := M.f5 1 rfl
  go_wp2_with fail
  go_call (below_any B _ g A len cap c (by omega) (by omega) (M.diceAt 2 rfl d0 hc)) as r W4 ⟨u, rfl, u1, u2, gg, d⟩
  clear tR Ac Ag Aa Ai Ab Ao tP Af Ap Ah Ad Al Am Aj Ae Ak An
  have MM := M.diceMoved 2 rfl gg d
  clear M hc gg d
  obtain ⟨cs3, hc, M⟩ := MM
  replace M : Sep [g] w W4 [.blk (w.heap.size + 1) 72 #[.int .i64 0, .int .i64 0, .int .i64 0], .blk (w.heap.size) 28 #[.int .i64 a, .int .i64 b, .int .i64 c, .int .i64 dd, .int .i64 ee], .blk g 68 cs3] := M
  obtain ⟨tR, Ac, Ag, Aa, Ai, Ab, Ao⟩ := M.f3 0 rfl
  obtain ⟨tP, Af, Ap, Ah, Ad, Al, Am, Aj, Ae, Ak, An⟩ := M.f5 1 rfl
  go_wp2_with fail
  clear tR Ac Ag Aa Ai Ab Ao tP Af Ap Ah Ad Al Am Aj Ae Ak An
  have N := M.gset3 0 rfl (.int .i64 1) (.int .i64 u) (.int .i64 0)
  clear M
  obtain ⟨W5, eW, M⟩ := N
  rw [eW]
  clear eW
  simp only [List.set_cons_zero] at M
  obtain ⟨tR, Ac, Aa, Ab⟩ := M.q3 0 rfl
  exact bodyPost_ret (v := .agg #[.int .i64 1, .int .i64 u, .int .i64 0]) (by simp [results, Tryz.results50, go_sem, Ac, Aa, Ab]) rfl ⟨_, _, _, rfl, M.grown1, M.diceAt 2 rfl d0 hc⟩
 ·obtain ⟨tR, Ac, Ag, Aa, Ai, Ab, Ao⟩ := M.f3 0 rfl
  obtain ⟨tP, Af, Ap, Ah, Ad, Al, Am, Aj, Ae, Ak, An⟩ := M.f5 1 rfl
  go_wp2_with fail
  go_call (below_any B _ g A len cap c (by omega) (by omega) (M.diceAt 2 rfl d0 hc)) as r W4 ⟨u, rfl, u1, u2, gg, d⟩
  clear tR Ac Ag Aa Ai Ab Ao tP Af Ap Ah Ad Al Am Aj Ae Ak An
  have MM := M.diceMoved 2 rfl gg d
  clear M hc gg d
  obtain ⟨cs3, hc, M⟩ := MM
  replace M : Sep [g] w W4 [.blk (w.heap.size + 1) 72 #[.int .i64 0, .int .i64 0, .int .i64 0], .blk (w.heap.size) 28 #[.int .i64 a, .int .i64 b, .int .i64 c, .int .i64 dd, .int .i64 ee], .blk g 68 cs3] := M
  obtain ⟨tR, Ac, Ag, Aa, Ai, Ab, Ao⟩ := M.f3 0 rfl
  obtain ⟨tP, Af, Ap, Ah, Ad, Al, Am, Aj, Ae, Ak, An⟩ := M.f5 1 rfl
  go_wp2_with fail
  clear tR Ac Ag Aa Ai Ab Ao tP Af Ap Ah Ad Al Am Aj Ae Ak An
  have N := M.gset3 0 rfl (.int .i64 1) (.int .i64 u) (.int .i64 0)
  clear M
  obtain ⟨W5, eW, M⟩ := N
  rw [eW]
  clear eW
  simp only [List.set_cons_zero] at M
  obtain ⟨tR, Ac, Aa, Ab⟩ := M.q3 0 rfl
  exact bodyPost_ret (v := .agg #[.int .i64 1, .int .i64 u, .int .i64 0]) (by simp [results, Tryz.results50, go_sem, Ac, Aa, Ab]) rfl ⟨_, _, _, rfl, M.grown1, M.diceAt 2 rfl d0 hc⟩
 ·obtain ⟨tR, Ac, Ag, Aa, Ai, Ab, Ao⟩ := M.f3 0 rfl
  obtain ⟨tP, Af, Ap, Ah, Ad, Al, Am, Aj, Ae, Ak, An⟩ := M.f5 1 rfl
  go_wp2_with fail
  clear tR Ac Ag Aa Ai Ab Ao tP Af Ap Ah Ad Al Am Aj Ae Ak An
  have N := M.gset3 0 rfl (.int .i64 2) (.int .i64 0) (.int .i64 0)
  clear M
  obtain ⟨W4, eW, M⟩ := N
  rw [eW]
  clear eW
  simp only [List.set_cons_zero] at M
  obtain ⟨tR, Ac, Aa, Ab⟩ := M.q3 0 rfl
  exact bodyPost_ret (v := .agg #[.int .i64 2, .int .i64 0, .int .i64 0]) (by simp [results, Tryz.results50, go_sem, Ac, Aa, Ab]) rfl ⟨_, _, _, rfl, M.grown1, M.diceAt 2 rfl d0 hc⟩
 ·obtain ⟨tR, Ac, Ag, Aa, Ai, Ab, Ao⟩ := M.f3 0 rfl
  obtain ⟨tP, Af, Ap, Ah, Ad, Al, Am, Aj, Ae, Ak, An⟩ := M.f5 1 rfl
  go_wp2_with fail
  clear tR Ac Ag Aa Ai Ab Ao tP Af Ap Ah Ad Al Am Aj Ae Ak An
  have N := M.gset3 0 rfl (.int .i64 2) (.int .i64 0) (.int .i64 0)
  clear M
  obtain ⟨W4, eW, M⟩ := N
  rw [eW]
  clear eW
  simp only [List.set_cons_zero] at M
  obtain ⟨tR, Ac, Aa, Ab⟩ := M.q3 0 rfl
  exact bodyPost_ret (v := .agg #[.int .i64 2, .int .i64 0, .int .i64 0]) (by simp [results, Tryz.results50, go_sem, Ac, Aa, Ab]) rfl ⟨_, _, _, rfl, M.grown1, M.diceAt 2 rfl d0 hc⟩
 ·obtain ⟨tR, Ac, Ag, Aa, Ai, Ab, Ao⟩ := M.f3 0 rfl
  obtain ⟨tP, Af, Ap, Ah, Ad, Al, Am, Aj, Ae, Ak, An⟩ := M.f5 1 rfl
  go_wp2_with fail
  clear tR Ac Ag Aa Ai Ab Ao tP Af Ap Ah Ad Al Am Aj Ae Ak An
  have N := M.gset3 0 rfl (.int .i64 2) (.int .i64 0) (.int .i64 0)
  clear M
  obtain ⟨W4, eW, M⟩ := N
  rw [eW]
  clear eW
  simp only [List.set_cons_zero] at M
  obtain ⟨tR, Ac, Aa, Ab⟩ := M.q3 0 rfl
  exact bodyPost_ret (v := .agg #[.int .i64 2, .int .i64 0, .int .i64 0]) (by simp [results, Tryz.results50, go_sem, Ac, Aa, Ab]) rfl ⟨_, _, _, rfl, M.grown1, M.diceAt 2 rfl d0 hc⟩
 ·obtain ⟨tR, Ac, Ag, Aa, Ai, Ab, Ao⟩ := M.f3 0 rfl
  obtain ⟨tP, Af, Ap, Ah, Ad, Al, Am, Aj, Ae, Ak, An⟩ := M.f5 1 rfl
  go_wp2_with fail
  clear tR Ac Ag Aa Ai Ab Ao tP Af Ap Ah Ad Al Am Aj Ae Ak An
  have N := M.gset3 0 rfl (.int .i64 2) (.int .i64 0) (.int .i64 0)
  clear M
  obtain ⟨W4, eW, M⟩ := N
  rw [eW]
  clear eW
  simp only [List.set_cons_zero] at M
  obtain ⟨tR, Ac, Aa, Ab⟩ := M.q3 0 rfl
  exact bodyPost_ret (v := .agg #[.int .i64 2, .int .i64 0, .int .i64 0]) (by simp [results, Tryz.results50, go_sem, Ac, Aa, Ab]) rfl ⟨_, _, _, rfl, M.grown1, M.diceAt 2 rfl d0 hc⟩
 ·obtain ⟨tR, Ac, Ag, Aa, Ai, Ab, Ao⟩ := M.f3 0 rfl
  obtain ⟨tP, Af, Ap, Ah, Ad, Al, Am, Aj, Ae, Ak, An⟩ := M.f5 1 rfl
  go_wp2_with fail
  clear tR Ac Ag Aa Ai Ab Ao tP Af Ap Ah Ad Al Am Aj Ae Ak An
  have N := M.gset3 0 rfl (.int .i64 3) (.int .i64 0) (.int .i64 0)
  clear M
  obtain ⟨W4, eW, M⟩ := N
  rw [eW]
  clear eW
  simp only [List.set_cons_zero] at M
  obtain ⟨tR, Ac, Aa, Ab⟩ := M.q3 0 rfl
  exact bodyPost_ret (v := .agg #[.int .i64 3, .int .i64 0, .int .i64 0]) (by simp [results, Tryz.results50, go_sem, Ac, Aa, Ab]) rfl ⟨_, _, _, rfl, M.grown1, M.diceAt 2 rfl d0 hc⟩
 ·obtain ⟨tR, Ac, Ag, Aa, Ai, Ab, Ao⟩ := M.f3 0 rfl
  obtain ⟨tP, Af, Ap, Ah, Ad, Al, Am, Aj, Ae, Ak, An⟩ := M.f5 1 rfl
  go_wp2_with fail
  go_call (below_any B _ g A len cap 100 (by omega) (by omega) (M.diceAt 2 rfl d0 hc)) as r W4 ⟨u, rfl, u1, u2, gg, d⟩
  clear tR Ac Ag Aa Ai Ab Ao tP Af Ap Ah Ad Al Am Aj Ae Ak An
  have MM := M.diceMoved 2 rfl gg d
  clear M hc gg d
  obtain ⟨cs3, hc, M⟩ := MM
  replace M : Sep [g] w W4 [.blk (w.heap.size + 1) 72 #[.int .i64 0, .int .i64 0, .int .i64 0], .blk (w.heap.size) 28 #[.int .i64 a, .int .i64 b, .int .i64 c, .int .i64 dd, .int .i64 ee], .blk g 68 cs3] := M
  obtain ⟨tR, Ac, Ag, Aa, Ai, Ab, Ao⟩ := M.f3 0 rfl
  obtain ⟨tP, Af, Ap, Ah, Ad, Al, Am, Aj, Ae, Ak, An⟩ := M.f5 1 rfl
  go_wp2_with fail
  clear tR Ac Ag Aa Ai Ab Ao tP Af Ap Ah Ad Al Am Aj Ae Ak An
  have N := M.gset3 0 rfl (.int .i64 4) (.int .i64 u) (.int .i64 0)
  clear M
  obtain ⟨W5, eW, M⟩ := N
  rw [eW]
  clear eW
  simp only [List.set_cons_zero] at M
  obtain ⟨tR, Ac, Aa, Ab⟩ := M.q3 0 rfl
  exact bodyPost_ret (v := .agg #[.int .i64 4, .int .i64 u, .int .i64 0]) (by simp [results, Tryz.results50, go_sem, Ac, Aa, Ab]) rfl ⟨_, _, _, rfl, M.grown1, M.diceAt 2 rfl d0 hc⟩
 ·obtain ⟨tR, Ac, Ag, Aa, Ai, Ab, Ao⟩ := M.f3 0 rfl
  obtain ⟨tP, Af, Ap, Ah, Ad, Al, Am, Aj, Ae, Ak, An⟩ := M.f5 1 rfl
  go_wp2_with fail
  go_call (below_any B _ g A len cap 100 (by omega) (by omega) (M.diceAt 2 rfl d0 hc)) as r W4 ⟨u, rfl, u1, u2, gg, d⟩
  clear tR Ac Ag Aa Ai Ab Ao tP Af Ap Ah Ad Al Am Aj Ae Ak An
  have MM := M.diceMoved 2 rfl gg d
  clear M hc gg d
  obtain ⟨cs3, hc, M⟩ := MM
  replace M : Sep [g] w W4 [.blk (w.heap.size + 1) 72 #[.int .i64 0, .int .i64 0, .int .i64 0], .blk (w.heap.size) 28 #[.int .i64 a, .int .i64 b, .int .i64 c, .int .i64 dd, .int .i64 ee], .blk g 68 cs3] := M
  obtain ⟨tR, Ac, Ag, Aa, Ai, Ab, Ao⟩ := M.f3 0 rfl
  obtain ⟨tP, Af, Ap, Ah, Ad, Al, Am, Aj, Ae, Ak, An⟩ := M.f5 1 rfl
  go_wp2_with fail
  clear tR Ac Ag Aa Ai Ab Ao tP Af Ap Ah Ad Al Am Aj Ae Ak An
  have N := M.gset3 0 rfl (.int .i64 4) (.int .i64 u) (.int .i64 0)
  clear M
  obtain ⟨W5, eW, M⟩ := N
  rw [eW]
  clear eW
  simp only [List.set_cons_zero] at M
  obtain ⟨tR, Ac, Aa, Ab⟩ := M.q3 0 rfl
  exact bodyPost_ret (v := .agg #[.int .i64 4, .int .i64 u, .int .i64 0]) (by simp [results, Tryz.results50, go_sem, Ac, Aa, Ab]) rfl ⟨_, _, _, rfl, M.grown1, M.diceAt 2 rfl d0 hc⟩
 ·obtain ⟨tR, Ac, Ag, Aa, Ai, Ab, Ao⟩ := M.f3 0 rfl
  obtain ⟨tP, Af, Ap, Ah, Ad, Al, Am, Aj, Ae, Ak, An⟩ := M.f5 1 rfl
  go_wp2_with fail
  go_call (below_any B _ g A len cap 100 (by omega) (by omega) (M.diceAt 2 rfl d0 hc)) as r W4 ⟨u, rfl, u1, u2, gg, d⟩
  clear tR Ac Ag Aa Ai Ab Ao tP Af Ap Ah Ad Al Am Aj Ae Ak An
  have MM := M.diceMoved 2 rfl gg d
  clear M hc gg d
  obtain ⟨cs3, hc, M⟩ := MM
  replace M : Sep [g] w W4 [.blk (w.heap.size + 1) 72 #[.int .i64 0, .int .i64 0, .int .i64 0], .blk (w.heap.size) 28 #[.int .i64 a, .int .i64 b, .int .i64 c, .int .i64 dd, .int .i64 ee], .blk g 68 cs3] := M
  obtain ⟨tR, Ac, Ag, Aa, Ai, Ab, Ao⟩ := M.f3 0 rfl
  obtain ⟨tP, Af, Ap, Ah, Ad, Al, Am, Aj, Ae, Ak, An⟩ := M.f5 1 rfl
  go_wp2_with fail
  clear tR Ac Ag Aa Ai Ab Ao tP Af Ap Ah Ad Al Am Aj Ae Ak An
  have N := M.gset3 0 rfl (.int .i64 4) (.int .i64 u) (.int .i64 0)
  clear M
  obtain ⟨W5, eW, M⟩ := N
  rw [eW]
  clear eW
  simp only [List.set_cons_zero] at M
  obtain ⟨tR, Ac, Aa, Ab⟩ := M.q3 0 rfl
  exact bodyPost_ret (v := .agg #[.int .i64 4, .int .i64 u, .int .i64 0]) (by simp [results, Tryz.results50, go_sem, Ac, Aa, Ab]) rfl ⟨_, _, _, rfl, M.grown1, M.diceAt 2 rfl d0 hc⟩
 ·obtain ⟨tR, Ac, Ag, Aa, Ai, Ab, Ao⟩ := M.f3 0 rfl
  obtain ⟨tP, Af, Ap, Ah, Ad, Al, Am, Aj, Ae, Ak, An⟩ := M.f5 1 rfl
  go_wp2_with fail
  clear tR Ac Ag Aa Ai Ab Ao tP Af Ap Ah Ad Al Am Aj Ae Ak An
  have N := M.gset3 0 rfl (.int .i64 5) (.int .i64 id) (.int .i64 0)
  clear M
  obtain ⟨W4, eW, M⟩ := N
  rw [eW]
  clear eW
  simp only [List.set_cons_zero] at M
  obtain ⟨tR, Ac, Aa, Ab⟩ := M.q3 0 rfl
  exact bodyPost_ret (v := .agg #[.int .i64 5, .int .i64 id, .int .i64 0]) (by simp [results, Tryz.results50, go_sem, Ac, Aa, Ab]) rfl ⟨_, _, _, rfl, M.grown1, M.diceAt 2 rfl d0 hc⟩
 ·obtain ⟨tR, Ac, Ag, Aa, Ai, Ab, Ao⟩ := M.f3 0 rfl
  obtain ⟨tP, Af, Ap, Ah, Ad, Al, Am, Aj, Ae, Ak, An⟩ := M.f5 1 rfl
  go_wp2_with fail
  clear tR Ac Ag Aa Ai Ab Ao tP Af Ap Ah Ad Al Am Aj Ae Ak An
  have N := M.gset3 0 rfl (.int .i64 5) (.int .i64 id) (.int .i64 0)
  clear M
  obtain ⟨W4, eW, M⟩ := N
  rw [eW]
  clear eW
  simp only [List.set_cons_zero] at M
  obtain ⟨tR, Ac, Aa, Ab⟩ := M.q3 0 rfl
  exact bodyPost_ret (v := .agg #[.int .i64 5, .int .i64 id, .int .i64 0]) (by simp [results, Tryz.results50, go_sem, Ac, Aa, Ab]) rfl ⟨_, _, _, rfl, M.grown1, M.diceAt 2 rfl d0 hc⟩
 ·obtain ⟨tR, Ac, Ag, Aa, Ai, Ab, Ao⟩ := M.f3 0 rfl
  obtain ⟨tP, Af, Ap, Ah, Ad, Al, Am, Aj, Ae, Ak, An⟩ := M.f5 1 rfl
  go_wp2_with fail
  clear tR Ac Ag Aa Ai Ab Ao tP Af Ap Ah Ad Al Am Aj Ae Ak An
  have N := M.gset3 0 rfl (.int .i64 6) (.int .i64 id) (.int .i64 0)
  clear M
  obtain ⟨W4, eW, M⟩ := N
  rw [eW]
  clear eW
  simp only [List.set_cons_zero] at M
  obtain ⟨tR, Ac, Aa, Ab⟩ := M.q3 0 rfl
  exact bodyPost_ret (v := .agg #[.int .i64 6, .int .i64 id, .int .i64 0]) (by simp [results, Tryz.results50, go_sem, Ac, Aa, Ab]) rfl ⟨_, _, _, rfl, M.grown1, M.diceAt 2 rfl d0 hc⟩
 ·obtain ⟨tR, Ac, Ag, Aa, Ai, Ab, Ao⟩ := M.f3 0 rfl
  obtain ⟨tP, Af, Ap, Ah, Ad, Al, Am, Aj, Ae, Ak, An⟩ := M.f5 1 rfl
  go_wp2_with fail
  go_call (below_any B _ g A len cap c (by omega) (by omega) (M.diceAt 2 rfl d0 hc)) as r W4 ⟨u, rfl, u1, u2, gg, d⟩
  clear tR Ac Ag Aa Ai Ab Ao tP Af Ap Ah Ad Al Am Aj Ae Ak An
  have MM := M.diceMoved 2 rfl gg d
  clear M hc gg d
  obtain ⟨cs3, hc, M⟩ := MM
  replace M : Sep [g] w W4 [.blk (w.heap.size + 1) 72 #[.int .i64 0, .int .i64 0, .int .i64 0], .blk (w.heap.size) 28 #[.int .i64 a, .int .i64 b, .int .i64 c, .int .i64 dd, .int .i64 ee], .blk g 68 cs3] := M
  obtain ⟨tR, Ac, Ag, Aa, Ai, Ab, Ao⟩ := M.f3 0 rfl
  obtain ⟨tP, Af, Ap, Ah, Ad, Al, Am, Aj, Ae, Ak, An⟩ := M.f5 1 rfl
  go_wp2_with fail
  clear tR Ac Ag Aa Ai Ab Ao tP Af Ap Ah Ad Al Am Aj Ae Ak An
  have N := M.gset3 0 rfl (.int .i64 7) (.int .i64 id) (.int .i64 u)
  clear M
  obtain ⟨W5, eW, M⟩ := N
  rw [eW]
  clear eW
  simp only [List.set_cons_zero] at M
  obtain ⟨tR, Ac, Aa, Ab⟩ := M.q3 0 rfl
  exact bodyPost_ret (v := .agg #[.int .i64 7, .int .i64 id, .int .i64 u]) (by simp [results, Tryz.results50, go_sem, Ac, Aa, Ab]) rfl ⟨_, _, _, rfl, M.grown1, M.diceAt 2 rfl d0 hc⟩
 ·obtain ⟨tR, Ac, Ag, Aa, Ai, Ab, Ao⟩ := M.f3 0 rfl
  obtain ⟨tP, Af, Ap, Ah, Ad, Al, Am, Aj, Ae, Ak, An⟩ := M.f5 1 rfl
  go_wp2_with fail
  go_call (below_any B _ g A len cap dd (by omega) (by omega) (M.diceAt 2 rfl d0 hc)) as r W4 ⟨u, rfl, u1, u2, gg, d⟩
  clear tR Ac Ag Aa Ai Ab Ao tP Af Ap Ah Ad Al Am Aj Ae Ak An
  have MM := M.diceMoved 2 rfl gg d
  clear M hc gg d
  obtain ⟨cs3, hc, M⟩ := MM
  replace M : Sep [g] w W4 [.blk (w.heap.size + 1) 72 #[.int .i64 0, .int .i64 0, .int .i64 0], .blk (w.heap.size) 28 #[.int .i64 a, .int .i64 b, .int .i64 c, .int .i64 dd, .int .i64 ee], .blk g 68 cs3] := M
  obtain ⟨tR, Ac, Ag, Aa, Ai, Ab, Ao⟩ := M.f3 0 rfl
  obtain ⟨tP, Af, Ap, Ah, Ad, Al, Am, Aj, Ae, Ak, An⟩ := M.f5 1 rfl
  go_wp2_with fail
  clear tR Ac Ag Aa Ai Ab Ao tP Af Ap Ah Ad Al Am Aj Ae Ak An
  have N := M.gset3 0 rfl (.int .i64 8) (.int .i64 u) (.int .i64 0)
  clear M
  obtain ⟨W5, eW, M⟩ := N
  rw [eW]
  clear eW
  simp only [List.set_cons_zero] at M
  obtain ⟨tR, Ac, Aa, Ab⟩ := M.q3 0 rfl
  exact bodyPost_ret (v := .agg #[.int .i64 8, .int .i64 u, .int .i64 0]) (by simp [results, Tryz.results50, go_sem, Ac, Aa, Ab]) rfl ⟨_, _, _, rfl, M.grown1, M.diceAt 2 rfl d0 hc⟩
 ·obtain ⟨tR, Ac, Ag, Aa, Ai, Ab, Ao⟩ := M.f3 0 rfl
  obtain ⟨tP, Af, Ap, Ah, Ad, Al, Am, Aj, Ae, Ak, An⟩ := M.f5 1 rfl
  go_wp2_with fail
  go_call (below_any B _ g A len cap dd (by omega) (by omega) (M.diceAt 2 rfl d0 hc)) as r W4 ⟨u, rfl, u1, u2, gg, d⟩
  clear tR Ac Ag Aa Ai Ab Ao tP Af Ap Ah Ad Al Am Aj Ae Ak An
  have MM := M.diceMoved 2 rfl gg d
  clear M hc gg d
  obtain ⟨cs3, hc, M⟩ := MM
  replace M : Sep [g] w W4 [.blk (w.heap.size + 1) 72 #[.int .i64 0, .int .i64 0, .int .i64 0], .blk (w.heap.size) 28 #[.int .i64 a, .int .i64 b, .int .i64 c, .int .i64 dd, .int .i64 ee], .blk g 68 cs3] := M
  obtain ⟨tR, Ac, Ag, Aa, Ai, Ab, Ao⟩ := M.f3 0 rfl
  obtain ⟨tP, Af, Ap, Ah, Ad, Al, Am, Aj, Ae, Ak, An⟩ := M.f5 1 rfl
  go_wp2_with fail
  clear tR Ac Ag Aa Ai Ab Ao tP Af Ap Ah Ad Al Am Aj Ae Ak An
  have N := M.gset3 0 rfl (.int .i64 9) (.int .i64 u) (.int .i64 0)
  clear M
  obtain ⟨W5, eW, M⟩ := N
  rw [eW]
  clear eW
  simp only [List.set_cons_zero] at M
  obtain ⟨tR, Ac, Aa, Ab⟩ := M.q3 0 rfl
  exact bodyPost_ret (v := .agg #[.int .i64 9, .int .i64 u, .int .i64 0]) (by simp [results, Tryz.results50, go_sem, Ac, Aa, Ab]) rfl ⟨_, _, _, rfl, M.grown1, M.diceAt 2 rfl d0 hc⟩
 ·obtain ⟨tR, Ac, Ag, Aa, Ai, Ab, Ao⟩ := M.f3 0 rfl
  obtain ⟨tP, Af, Ap, Ah, Ad, Al, Am, Aj, Ae, Ak, An⟩ := M.f5 1 rfl
  go_wp2_with fail
  go_call (below_any B _ g A len cap ee (by omega) (by omega) (M.diceAt 2 rfl d0 hc)) as r W4 ⟨u, rfl, u1, u2, gg, d⟩
  clear tR Ac Ag Aa Ai Ab Ao tP Af Ap Ah Ad Al Am Aj Ae Ak An
  have MM := M.diceMoved 2 rfl gg d
  clear M hc gg d
  obtain ⟨cs3, hc, M⟩ := MM
  replace M : Sep [g] w W4 [.blk (w.heap.size + 1) 72 #[.int .i64 0, .int .i64 0, .int .i64 0], .blk (w.heap.size) 28 #[.int .i64 a, .int .i64 b, .int .i64 c, .int .i64 dd, .int .i64 ee], .blk g 68 cs3] := M
  obtain ⟨tR, Ac, Ag, Aa, Ai, Ab, Ao⟩ := M.f3 0 rfl
  obtain ⟨tP, Af, Ap, Ah, Ad, Al, Am, Aj, Ae, Ak, An⟩ := M.f5 1 rfl
  go_wp2_with fail
  go_call (below_any B _ g A len cap 100 (by omega) (by omega) (M.diceAt 2 rfl d0 hc)) as r W5 ⟨v, rfl, v1, v2, gg, d⟩
  clear tR Ac Ag Aa Ai Ab Ao tP Af Ap Ah Ad Al Am Aj Ae Ak An
  have MM := M.diceMoved 2 rfl gg d
  clear M hc gg d
  obtain ⟨cs4, hc, M⟩ := MM
  replace M : Sep [g] w W5 [.blk (w.heap.size + 1) 72 #[.int .i64 0, .int .i64 0, .int .i64 0], .blk (w.heap.size) 28 #[.int .i64 a, .int .i64 b, .int .i64 c, .int .i64 dd, .int .i64 ee], .blk g 68 cs4] := M
  obtain ⟨tR, Ac, Ag, Aa, Ai, Ab, Ao⟩ := M.f3 0 rfl
  obtain ⟨tP, Af, Ap, Ah, Ad, Al, Am, Aj, Ae, Ak, An⟩ := M.f5 1 rfl
  go_wp2_with fail
  clear tR Ac Ag Aa Ai Ab Ao tP Af Ap Ah Ad Al Am Aj Ae Ak An
  have N := M.gset3 0 rfl (.int .i64 10) (.int .i64 u) (.int .i64 v)
  clear M
  obtain ⟨W6, eW, M⟩ := N
  rw [eW]
  clear eW
  simp only [List.set_cons_zero] at M
  obtain ⟨tR, Ac, Aa, Ab⟩ := M.q3 0 rfl
  exact bodyPost_ret (v := .agg #[.int .i64 10, .int .i64 u, .int .i64 v]) (by simp [results, Tryz.results50, go_sem, Ac, Aa, Ab]) rfl ⟨_, _, _, rfl, M.grown1, M.diceAt 2 rfl d0 hc⟩
 ·obtain ⟨tR, Ac, Ag, Aa, Ai, Ab, Ao⟩ := M.f3 0 rfl
  obtain ⟨tP, Af, Ap, Ah, Ad, Al, Am, Aj, Ae, Ak, An⟩ := M.f5 1 rfl
  go_wp2_with fail
  go_call (below_any B _ g A len cap 8 (by omega) (by omega) (M.diceAt 2 rfl d0 hc)) as r W4 ⟨z, rfl, z1, z2, gg, d⟩
  clear tR Ac Ag Aa Ai Ab Ao tP Af Ap Ah Ad Al Am Aj Ae Ak An
  have MM := M.diceMoved 2 rfl gg d
  clear M hc gg d
  obtain ⟨cs3, hc, M⟩ := MM
  replace M : Sep [g] w W4 [.blk (w.heap.size + 1) 72 #[.int .i64 0, .int .i64 0, .int .i64 0], .blk (w.heap.size) 28 #[.int .i64 a, .int .i64 b, .int .i64 c, .int .i64 dd, .int .i64 ee], .blk g 68 cs3] := M
  rcases Classical.em (z = 0) with rfl | hz
  ·obtain ⟨tR, Ac, Ag, Aa, Ai, Ab, Ao⟩ := M.f3 0 rfl
   obtain ⟨tP, Af, Ap, Ah, Ad, Al, Am, Aj, Ae, Ak, An⟩ := M.f5 1 rfl
   go_wp2_with fail
   clear tR Ac Ag Aa Ai Ab Ao tP Af Ap Ah Ad Al Am Aj Ae Ak An
   have N := M.gset3 0 rfl (.int .i64 12) (.int .i64 0) (.int .i64 0)
   clear M
   obtain ⟨W5, eW, M⟩ := N
   rw [eW]
   clear eW
   simp only [List.set_cons_zero] at M
   obtain ⟨tR, Ac, Aa, Ab⟩ := M.q3 0 rfl
   exact bodyPost_ret (v := .agg #[.int .i64 12, .int .i64 0, .int .i64 0]) (by simp [results, Tryz.results50, go_sem, Ac, Aa, Ab]) rfl ⟨_, _, _, rfl, M.grown1, M.diceAt 2 rfl d0 hc⟩
  ·obtain ⟨tR, Ac, Ag, Aa, Ai, Ab, Ao⟩ := M.f3 0 rfl
   obtain ⟨tP, Af, Ap, Ah, Ad, Al, Am, Aj, Ae, Ak, An⟩ := M.f5 1 rfl
   go_wp2_with fail
   go_call (below_any B _ g A len cap ee (by omega) (by omega) (M.diceAt 2 rfl d0 hc)) as r W5 ⟨u, rfl, u1, u2, gg, d⟩
   clear tR Ac Ag Aa Ai Ab Ao tP Af Ap Ah Ad Al Am Aj Ae Ak An
   have MM := M.diceMoved 2 rfl gg d
   clear M hc gg d
   obtain ⟨cs4, hc, M⟩ := MM
   replace M : Sep [g] w W5 [.blk (w.heap.size + 1) 72 #[.int .i64 0, .int .i64 0, .int .i64 0], .blk (w.heap.size) 28 #[.int .i64 a, .int .i64 b, .int .i64 c, .int .i64 dd, .int .i64 ee], .blk g 68 cs4] := M
   obtain ⟨tR, Ac, Ag, Aa, Ai, Ab, Ao⟩ := M.f3 0 rfl
   obtain ⟨tP, Af, Ap, Ah, Ad, Al, Am, Aj, Ae, Ak, An⟩ := M.f5 1 rfl
   go_wp2_with fail
   clear tR Ac Ag Aa Ai Ab Ao tP Af Ap Ah Ad Al Am Aj Ae Ak An
   have N := M.gset3 0 rfl (.int .i64 11) (.int .i64 u) (.int .i64 0)
   clear M
   obtain ⟨W6, eW, M⟩ := N
   rw [eW]
   clear eW
   simp only [List.set_cons_zero] at M
   obtain ⟨tR, Ac, Aa, Ab⟩ := M.q3 0 rfl
   exact bodyPost_ret (v := .agg #[.int .i64 11, .int .i64 u, .int .i64 0]) (by simp [results, Tryz.results50, go_sem, Ac, Aa, Ab]) rfl ⟨_, _, _, rfl, M.grown1, M.diceAt 2 rfl d0 hc⟩
end Go.Proofs.YtfkdfkoigojciaaGreatDoor
