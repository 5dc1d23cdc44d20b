/- The program's line: leave: all numbers, in order. The list of places no longer than a million. -/
import Derived.Test.YtfjgelegojbmgaaGreatQFnWoken04
import Derived.Test.YtfjgelegojbmgaaGreatQFnWoken08
import Derived.Test.YtfjgelegojbmgaaGreatQFnWoken09
import Derived.Test.YtfjgelegojbmgaaGreatQB13
import Derived.Test.YtfjgelegojbmgaaGreatQB11
import Derived.Defers
import Derived.Recover
import Derived.Test.YtfjgelegojbmgaaGreatQB14
import Derived.Test.YtfjgelegojbmgaaGreatQFnWoken07
import Derived.Test.YtfjgelegojbmgaaGreatQB04
import Derived.Test.YtfjgelegojbmgaaGreatQB05
import Derived.Test.YtfjgelegojbmgaaGreatQB08
import Derived.Test.YtfjgelegojbmgaaGreatQB09
import Derived.Test.YtfjgelegojbmgaaGreatQB02

namespace Go.Proofs.YtfjgelegojbmgaaGreat
open Go.RowKit
set_option linter.unusedVariables false
set_option maxRecDepth 100000
set_option maxHeartbeats 800000 in
theorem gWokenAll_bad (a b c d e : Int) (ts : List T7) (ks : List Int) (fs : List F2) (A0 A1 A2 : Option Addr) (c0 c1 c2 : Nat) (tn : Int) (st : Bool) (wa : Int) (oa : Int) (v0 : Int) (w : World) (ht : ts.length ≤ 1048576) (hk : ks.length ≤ 1048576) (hf : fs.length ≤ 1048576) (h : InPool w ts ks fs A0 A1 A2) (hp : poolB a b c d e ts ks fs tn = false) :
 Calls Tryz.prog 12 #[.agg #[.int .i64 a, .int .i64 b, .int .i64 c, .int .i64 d, .int .i64 e], .agg #[.slice A0 ts.length c0, .slice A1 ks.length c1, .slice A2 fs.length c2, .int .i64 tn, .bool st], .int .i64 wa, .int .i64 oa, .int .i64 v0] w (GaveI [] [] [] 0 false (-1) w) := by
 have HY := hide (⟨hp, trivial⟩ : _ ∧ True)
 clear hp
 have H := hide h
 clear h
 go_enter Tryz.func12, Tryz.ntmps12
 go_wp2_with fail
 generalize hW : ((w.alloc _).alloc _).alloc _ = W1
 have M := Sep.e3 hW
 clear hW
 obtain ⟨tR, Ab, Bc, Ae, Ai, Ad, As, Ac, Ar, Aa, Az⟩ := M.f5 0 rfl
 obtain ⟨tX, Bd, Al, Av, Aj, Ah, Au, Ak, An, Aq, Bb⟩ := M.f5 1 rfl
 obtain ⟨tP, Aw, Ag, At, Ap, Ao, Af, Am, Ay, Ba, Ax⟩ := M.f5 2 rfl
 go_wp2_with fail
 go_call (pright_v a b c d e ts ks fs A0 A1 A2 c0 c1 c2 tn st _ false HY.out.1 _ hk hf (M.blk 1 rfl) (H.out.below M.below)) as r W2 ⟨rfl, g1⟩
 clear tR Ab Bc Ae Ai Ad As Ac Ar Aa Az tX Bd Al Av Aj Ah Au Ak An Aq Bb tP Aw Ag At Ap Ao Af Am Ay Ba Ax
 replace M := M.call g1
 clear g1
 obtain ⟨tR, Ab, Bc, Ae, Ai, Ad, As, Ac, Ar, Aa, Az⟩ := M.f5 0 rfl
 obtain ⟨tX, Bd, Al, Av, Aj, Ah, Au, Ak, An, Aq, Bb⟩ := M.f5 1 rfl
 obtain ⟨tP, Aw, Ag, At, Ap, Ao, Af, Am, Ay, Ba, Ax⟩ := M.f5 2 rfl
 go_wp2_with fail
 clear tR Ab Bc Ae Ai Ad As Ac Ar Aa Az tX Bd Al Av Aj Ah Au Ak An Aq Bb tP Aw Ag At Ap Ao Af Am Ay Ba Ax
 have N := M.gset5 0 rfl (.slice none 0 0) (.slice none 0 0) (.slice none 0 0) (.int .i64 0) (.bool false)
 clear M
 obtain ⟨W3, eW, M⟩ := N
 rw [eW]
 clear eW
 simp only [List.set_cons_zero] at M
 obtain ⟨tR, Ab, Ae, Ad, Ac, Aa⟩ := M.q5 0 rfl
 exact bodyPost_ret (v := .tuple #[.agg #[.slice none 0 0, .slice none 0 0, .slice none 0 0, .int .i64 0, .bool false], .int .i64 (-1)]) (by simp [results, Tryz.results12, go_sem, Ab, Ae, Ad, Ac, Aa]) rfl ⟨none, none, none, 0, 0, 0, rfl, sep_zero M.below⟩
set_option maxHeartbeats 800000 in
theorem gWokenAll_yes (a b c d e : Int) (ts : List T7) (ks : List Int) (fs : List F2) (A0 A1 A2 : Option Addr) (c0 c1 c2 : Nat) (tn : Int) (st : Bool) (wa : Int) (oa : Int) (v0 : Int) (w : World) (ht : ts.length ≤ 1048576) (hk : ks.length ≤ 1048576) (hf : fs.length ≤ 1048576) (h : InPool w ts ks fs A0 A1 A2) (hp : poolB a b c d e ts ks fs tn = true) (ho : okAll (waitersM ts wa oa) v0 tn = true) :
 Calls Tryz.prog 12 #[.agg #[.int .i64 a, .int .i64 b, .int .i64 c, .int .i64 d, .int .i64 e], .agg #[.slice A0 ts.length c0, .slice A1 ks.length c1, .slice A2 fs.length c2, .int .i64 tn, .bool st], .int .i64 wa, .int .i64 oa, .int .i64 v0] w (GaveI (wakeAllT (waitersM ts wa oa) ts tn v0) ks fs (tn + ((waitersM ts wa oa).length : Int)) st ((waitersM ts wa oa).length : Int) w) := by
 have tb : 0 ≤ tn ∧ tn ≤ 1000000 := by
  have h1 := hp
  simp only [poolB, Bool.and_eq_true] at h1
  have h2 := h1.2.1
  simp [btw] at h2
  exact h2
 obtain ⟨tb0, tb1⟩ := tb
 have HY := hide (⟨hp, ho, trivial⟩ : _ ∧ _ ∧ True)
 clear hp ho
 have H := hide h
 clear h
 go_enter Tryz.func12, Tryz.ntmps12
 go_wp2_with fail
 generalize hW : ((w.alloc _).alloc _).alloc _ = W1
 have M := Sep.e3 hW
 clear hW
 obtain ⟨tR, Ab, Bc, Ae, Ai, Ad, As, Ac, Ar, Aa, Az⟩ := M.f5 0 rfl
 obtain ⟨tX, Bd, Al, Av, Aj, Ah, Au, Ak, An, Aq, Bb⟩ := M.f5 1 rfl
 obtain ⟨tP, Aw, Ag, At, Ap, Ao, Af, Am, Ay, Ba, Ax⟩ := M.f5 2 rfl
 go_wp2_with fail
 go_call (pright_v a b c d e ts ks fs A0 A1 A2 c0 c1 c2 tn st _ true HY.out.1 _ hk hf (M.blk 1 rfl) (H.out.below M.below)) as r W2 ⟨rfl, g1⟩
 clear tR Ab Bc Ae Ai Ad As Ac Ar Aa Az tX Bd Al Av Aj Ah Au Ak An Aq Bb tP Aw Ag At Ap Ao Af Am Ay Ba Ax
 replace M := M.call g1
 clear g1
 obtain ⟨tR, Ab, Bc, Ae, Ai, Ad, As, Ac, Ar, Aa, Az⟩ := M.f5 0 rfl
 obtain ⟨tX, Bd, Al, Av, Aj, Ah, Au, Ak, An, Aq, Bb⟩ := M.f5 1 rfl
 obtain ⟨tP, Aw, Ag, At, Ap, Ao, Af, Am, Ay, Ba, Ax⟩ := M.f5 2 rfl
 go_wp2_with fail
 go_call (copied_s ts ks fs A0 A1 A2 c0 c1 c2 tn st _ _ ht hk hf (M.blk 1 rfl) (H.out.below M.below)) as r W3 ⟨C0, C1, C2, e0, e1, e2, rfl, g1⟩
 clear tR Ab Bc Ae Ai Ad As Ac Ar Aa Az tX Bd Al Av Aj Ah Au Ak An Aq Bb tP Aw Ag At Ap Ao Af Am Ay Ba Ax
 replace M := Sep.new M g1
 simp only [List.cons_append, List.nil_append] at M
 clear g1
 obtain ⟨tR, Ab, Bc, Ae, Ai, Ad, As, Ac, Ar, Aa, Az⟩ := M.f5 3 rfl
 obtain ⟨tX, Bd, Al, Av, Aj, Ah, Au, Ak, An, Aq, Bb⟩ := M.f5 4 rfl
 obtain ⟨tP, Aw, Ag, At, Ap, Ao, Af, Am, Ay, Ba, Ax⟩ := M.f5 5 rfl
 go_wp2_with fail
 clear tR Ab Bc Ae Ai Ad As Ac Ar Aa Az tX Bd Al Av Aj Ah Au Ak An Aq Bb tP Aw Ag At Ap Ao Af Am Ay Ba Ax
 have N := M.galloc 30 #[.slice C0 ts.length e0, .slice C1 ks.length e1, .slice C2 fs.length e2, .int .i64 tn, .bool st]
 clear M
 obtain ⟨W4, eW, M⟩ := N
 rw [eW]
 clear eW
 obtain ⟨tY, Bi, Bj, Bf, Bg, Bh, Bn, Bk, Bm, Be, Bl⟩ := M.f5 0 rfl
 obtain ⟨tR, Ab, Bc, Ae, Ai, Ad, As, Ac, Ar, Aa, Az⟩ := M.f5 4 rfl
 obtain ⟨tX, Bd, Al, Av, Aj, Ah, Au, Ak, An, Aq, Bb⟩ := M.f5 5 rfl
 obtain ⟨tP, Aw, Ag, At, Ap, Ao, Af, Am, Ay, Ba, Ax⟩ := M.f5 6 rfl
 go_wp2_with fail
 replace M := M.front 1 rfl
 simp only [List.eraseIdx_cons_succ, List.eraseIdx_cons_zero] at M
 replace M := M.front 1 rfl
 simp only [List.eraseIdx_cons_succ, List.eraseIdx_cons_zero] at M
 have hA := wakeAll_any ts C0 C1 C2 e0 ks.length e1 fs.length e2 tn st _ wa oa v0 _ ht tb0 tb1 (Sep.same (ps := [.blk (W3.heap.size) 30 #[.slice C0 ts.length e0, .slice C1 ks.length e1, .slice C2 fs.length e2, .int .i64 tn, .bool st], rT ts.length C0 e0 ts]) (rs := [rK ks.length C1 e1 ks, rF fs.length C2 e2 fs, .blk (w.heap.size + 2) 30 #[.slice none 0 0, .slice none 0 0, .slice none 0 0, .int .i64 0, .bool false], .blk (w.heap.size + 1) 30 #[.slice A0 ts.length c0, .slice A1 ks.length c1, .slice A2 fs.length c2, .int .i64 tn, .bool st], .blk (w.heap.size) 25 #[.int .i64 a, .int .i64 b, .int .i64 c, .int .i64 d, .int .i64 e]]) M (Below.refl _ _))
 refine Calls.mono (by with_reducible exact hA) ?_
 clear hA
 rintro r W5 ⟨us, tn', cnt, rfl, hul, g1, hR⟩
 clear tY Bi Bj Bf Bg Bh Bn Bk Bm Be Bl tR Ab Bc Ae Ai Ad As Ac Ar Aa Az tX Bd Al Av Aj Ah Au Ak An Aq Bb tP Aw Ag At Ap Ao Af Am Ay Ba Ax
 replace M : Sep [] w W5 [.blk (W3.heap.size) 30 #[.slice C0 ts.length e0, .slice C1 ks.length e1, .slice C2 fs.length e2, .int .i64 tn', .bool st], rT ts.length C0 e0 us, rK ks.length C1 e1 ks, rF fs.length C2 e2 fs, .blk (w.heap.size + 2) 30 #[.slice none 0 0, .slice none 0 0, .slice none 0 0, .int .i64 0, .bool false], .blk (w.heap.size + 1) 30 #[.slice A0 ts.length c0, .slice A1 ks.length c1, .slice A2 fs.length c2, .int .i64 tn, .bool st], .blk (w.heap.size) 25 #[.int .i64 a, .int .i64 b, .int .i64 c, .int .i64 d, .int .i64 e]] := Sep.comp (ps := [.blk (W3.heap.size) 30 #[.slice C0 ts.length e0, .slice C1 ks.length e1, .slice C2 fs.length e2, .int .i64 tn, .bool st], rT ts.length C0 e0 ts]) (rs := [rK ks.length C1 e1 ks, rF fs.length C2 e2 fs, .blk (w.heap.size + 2) 30 #[.slice none 0 0, .slice none 0 0, .slice none 0 0, .int .i64 0, .bool false], .blk (w.heap.size + 1) 30 #[.slice A0 ts.length c0, .slice A1 ks.length c1, .slice A2 fs.length c2, .int .i64 tn, .bool st], .blk (w.heap.size) 25 #[.int .i64 a, .int .i64 b, .int .i64 c, .int .i64 d, .int .i64 e]]) M g1
 clear g1
 have HR : Hid (us = wakeAllT (waitersM ts wa oa) ts tn v0) := hide (hR.elim (fun h => h.2.2.1) (fun h => by rw [HY.out.2.1] at h; cases h.1))
 obtain ⟨hcn, htn⟩ : cnt = ((waitersM ts wa oa).length : Int) ∧ tn' = tn + ((waitersM ts wa oa).length : Int) := hR.elim (fun h => ⟨h.2.1, h.2.2.2⟩) (fun h => by rw [HY.out.2.1] at h; cases h.1)
 clear hR
 subst hcn htn
 have hne : (((waitersM ts wa oa).length : Int) == -1) = false := by rw [beq_eq_false_iff_ne]; omega
 obtain ⟨tY, Bi, Bj, Bf, Bg, Bh, Bn, Bk, Bm, Be, Bl⟩ := M.f5 0 rfl
 obtain ⟨tR, Ab, Bc, Ae, Ai, Ad, As, Ac, Ar, Aa, Az⟩ := M.f5 4 rfl
 obtain ⟨tX, Bd, Al, Av, Aj, Ah, Au, Ak, An, Aq, Bb⟩ := M.f5 5 rfl
 obtain ⟨tP, Aw, Ag, At, Ap, Ao, Af, Am, Ay, Ba, Ax⟩ := M.f5 6 rfl
 go_wp2_with fail
 clear tY Bi Bj Bf Bg Bh Bn Bk Bm Be Bl tR Ab Bc Ae Ai Ad As Ac Ar Aa Az tX Bd Al Av Aj Ah Au Ak An Aq Bb tP Aw Ag At Ap Ao Af Am Ay Ba Ax
 have N := M.gset5 4 rfl (.slice C0 ts.length e0) (.slice C1 ks.length e1) (.slice C2 fs.length e2) (.int .i64 (tn + ((waitersM ts wa oa).length : Int))) (.bool st)
 clear M
 obtain ⟨W6, eW, M⟩ := N
 rw [eW]
 clear eW
 simp only [List.set_cons_zero, List.set_cons_succ] at M
 obtain ⟨tR, Ab, Ae, Ad, Ac, Aa⟩ := M.q5 4 rfl
 exact bodyPost_ret (v := .tuple #[.agg #[.slice C0 ts.length e0, .slice C1 ks.length e1, .slice C2 fs.length e2, .int .i64 (tn + ((waitersM ts wa oa).length : Int)), .bool st], .int .i64 ((waitersM ts wa oa).length : Int)]) (by simp [results, Tryz.results12, go_sem, Ab, Ae, Ad, Ac, Aa]) rfl (by rw [← HR.out]; unfold GaveI; rw [hul]; exact ⟨C0, C1, C2, e0, e1, e2, rfl, M.tail.take 3⟩)
set_option maxHeartbeats 800000 in
theorem gWokenAll_no (a b c d e : Int) (ts : List T7) (ks : List Int) (fs : List F2) (A0 A1 A2 : Option Addr) (c0 c1 c2 : Nat) (tn : Int) (st : Bool) (wa : Int) (oa : Int) (v0 : Int) (w : World) (ht : ts.length ≤ 1048576) (hk : ks.length ≤ 1048576) (hf : fs.length ≤ 1048576) (h : InPool w ts ks fs A0 A1 A2) (hp : poolB a b c d e ts ks fs tn = true) (ho : okAll (waitersM ts wa oa) v0 tn = false) :
 Calls Tryz.prog 12 #[.agg #[.int .i64 a, .int .i64 b, .int .i64 c, .int .i64 d, .int .i64 e], .agg #[.slice A0 ts.length c0, .slice A1 ks.length c1, .slice A2 fs.length c2, .int .i64 tn, .bool st], .int .i64 wa, .int .i64 oa, .int .i64 v0] w (GaveI ts ks fs tn st (-1) w) := by
 have tb : 0 ≤ tn ∧ tn ≤ 1000000 := by
  have h1 := hp
  simp only [poolB, Bool.and_eq_true] at h1
  have h2 := h1.2.1
  simp [btw] at h2
  exact h2
 obtain ⟨tb0, tb1⟩ := tb
 have HY := hide (⟨hp, ho, trivial⟩ : _ ∧ _ ∧ True)
 clear hp ho
 have H := hide h
 clear h
 go_enter Tryz.func12, Tryz.ntmps12
 go_wp2_with fail
 generalize hW : ((w.alloc _).alloc _).alloc _ = W1
 have M := Sep.e3 hW
 clear hW
 obtain ⟨tR, Ab, Bc, Ae, Ai, Ad, As, Ac, Ar, Aa, Az⟩ := M.f5 0 rfl
 obtain ⟨tX, Bd, Al, Av, Aj, Ah, Au, Ak, An, Aq, Bb⟩ := M.f5 1 rfl
 obtain ⟨tP, Aw, Ag, At, Ap, Ao, Af, Am, Ay, Ba, Ax⟩ := M.f5 2 rfl
 go_wp2_with fail
 go_call (pright_v a b c d e ts ks fs A0 A1 A2 c0 c1 c2 tn st _ true HY.out.1 _ hk hf (M.blk 1 rfl) (H.out.below M.below)) as r W2 ⟨rfl, g1⟩
 clear tR Ab Bc Ae Ai Ad As Ac Ar Aa Az tX Bd Al Av Aj Ah Au Ak An Aq Bb tP Aw Ag At Ap Ao Af Am Ay Ba Ax
 replace M := M.call g1
 clear g1
 obtain ⟨tR, Ab, Bc, Ae, Ai, Ad, As, Ac, Ar, Aa, Az⟩ := M.f5 0 rfl
 obtain ⟨tX, Bd, Al, Av, Aj, Ah, Au, Ak, An, Aq, Bb⟩ := M.f5 1 rfl
 obtain ⟨tP, Aw, Ag, At, Ap, Ao, Af, Am, Ay, Ba, Ax⟩ := M.f5 2 rfl
 go_wp2_with fail
 go_call (copied_s ts ks fs A0 A1 A2 c0 c1 c2 tn st _ _ ht hk hf (M.blk 1 rfl) (H.out.below M.below)) as r W3 ⟨C0, C1, C2, e0, e1, e2, rfl, g1⟩
 clear tR Ab Bc Ae Ai Ad As Ac Ar Aa Az tX Bd Al Av Aj Ah Au Ak An Aq Bb tP Aw Ag At Ap Ao Af Am Ay Ba Ax
 replace M := Sep.new M g1
 simp only [List.cons_append, List.nil_append] at M
 clear g1
 obtain ⟨tR, Ab, Bc, Ae, Ai, Ad, As, Ac, Ar, Aa, Az⟩ := M.f5 3 rfl
 obtain ⟨tX, Bd, Al, Av, Aj, Ah, Au, Ak, An, Aq, Bb⟩ := M.f5 4 rfl
 obtain ⟨tP, Aw, Ag, At, Ap, Ao, Af, Am, Ay, Ba, Ax⟩ := M.f5 5 rfl
 go_wp2_with fail
 clear tR Ab Bc Ae Ai Ad As Ac Ar Aa Az tX Bd Al Av Aj Ah Au Ak An Aq Bb tP Aw Ag At Ap Ao Af Am Ay Ba Ax
 have N := M.galloc 30 #[.slice C0 ts.length e0, .slice C1 ks.length e1, .slice C2 fs.length e2, .int .i64 tn, .bool st]
 clear M
 obtain ⟨W4, eW, M⟩ := N
 rw [eW]
 clear eW
 obtain ⟨tY, Bi, Bj, Bf, Bg, Bh, Bn, Bk, Bm, Be, Bl⟩ := M.f5 0 rfl
 obtain ⟨tR, Ab, Bc, Ae, Ai, Ad, As, Ac, Ar, Aa, Az⟩ := M.f5 4 rfl
 obtain ⟨tX, Bd, Al, Av, Aj, Ah, Au, Ak, An, Aq, Bb⟩ := M.f5 5 rfl
 obtain ⟨tP, Aw, Ag, At, Ap, Ao, Af, Am, Ay, Ba, Ax⟩ := M.f5 6 rfl
 go_wp2_with fail
 replace M := M.front 1 rfl
 simp only [List.eraseIdx_cons_succ, List.eraseIdx_cons_zero] at M
 replace M := M.front 1 rfl
 simp only [List.eraseIdx_cons_succ, List.eraseIdx_cons_zero] at M
 have hA := wakeAll_any ts C0 C1 C2 e0 ks.length e1 fs.length e2 tn st _ wa oa v0 _ ht tb0 tb1 (Sep.same (ps := [.blk (W3.heap.size) 30 #[.slice C0 ts.length e0, .slice C1 ks.length e1, .slice C2 fs.length e2, .int .i64 tn, .bool st], rT ts.length C0 e0 ts]) (rs := [rK ks.length C1 e1 ks, rF fs.length C2 e2 fs, .blk (w.heap.size + 2) 30 #[.slice none 0 0, .slice none 0 0, .slice none 0 0, .int .i64 0, .bool false], .blk (w.heap.size + 1) 30 #[.slice A0 ts.length c0, .slice A1 ks.length c1, .slice A2 fs.length c2, .int .i64 tn, .bool st], .blk (w.heap.size) 25 #[.int .i64 a, .int .i64 b, .int .i64 c, .int .i64 d, .int .i64 e]]) M (Below.refl _ _))
 refine Calls.mono (by with_reducible exact hA) ?_
 clear hA
 rintro r W5 ⟨us, tn', cnt, rfl, hul, g1, hR⟩
 clear tY Bi Bj Bf Bg Bh Bn Bk Bm Be Bl tR Ab Bc Ae Ai Ad As Ac Ar Aa Az tX Bd Al Av Aj Ah Au Ak An Aq Bb tP Aw Ag At Ap Ao Af Am Ay Ba Ax
 replace M : Sep [] w W5 [.blk (W3.heap.size) 30 #[.slice C0 ts.length e0, .slice C1 ks.length e1, .slice C2 fs.length e2, .int .i64 tn', .bool st], rT ts.length C0 e0 us, rK ks.length C1 e1 ks, rF fs.length C2 e2 fs, .blk (w.heap.size + 2) 30 #[.slice none 0 0, .slice none 0 0, .slice none 0 0, .int .i64 0, .bool false], .blk (w.heap.size + 1) 30 #[.slice A0 ts.length c0, .slice A1 ks.length c1, .slice A2 fs.length c2, .int .i64 tn, .bool st], .blk (w.heap.size) 25 #[.int .i64 a, .int .i64 b, .int .i64 c, .int .i64 d, .int .i64 e]] := Sep.comp (ps := [.blk (W3.heap.size) 30 #[.slice C0 ts.length e0, .slice C1 ks.length e1, .slice C2 fs.length e2, .int .i64 tn, .bool st], rT ts.length C0 e0 ts]) (rs := [rK ks.length C1 e1 ks, rF fs.length C2 e2 fs, .blk (w.heap.size + 2) 30 #[.slice none 0 0, .slice none 0 0, .slice none 0 0, .int .i64 0, .bool false], .blk (w.heap.size + 1) 30 #[.slice A0 ts.length c0, .slice A1 ks.length c1, .slice A2 fs.length c2, .int .i64 tn, .bool st], .blk (w.heap.size) 25 #[.int .i64 a, .int .i64 b, .int .i64 c, .int .i64 d, .int .i64 e]]) M g1
 clear g1
 obtain rfl : cnt = -1 := hR.elim (fun h => by rw [HY.out.2.1] at h; cases h.1) (fun h => h.2)
 clear hR hul
 obtain ⟨tY, Bi, Bj, Bf, Bg, Bh, Bn, Bk, Bm, Be, Bl⟩ := M.f5 0 rfl
 obtain ⟨tR, Ab, Bc, Ae, Ai, Ad, As, Ac, Ar, Aa, Az⟩ := M.f5 4 rfl
 obtain ⟨tX, Bd, Al, Av, Aj, Ah, Au, Ak, An, Aq, Bb⟩ := M.f5 5 rfl
 obtain ⟨tP, Aw, Ag, At, Ap, Ao, Af, Am, Ay, Ba, Ax⟩ := M.f5 6 rfl
 go_wp2_with fail
 go_call (copied_s ts ks fs A0 A1 A2 c0 c1 c2 tn st _ _ ht hk hf (M.blk 5 rfl) (H.out.below M.below)) as r W6 ⟨D0, D1, D2, f0, f1, f2, rfl, g1⟩
 clear tY Bi Bj Bf Bg Bh Bn Bk Bm Be Bl tR Ab Bc Ae Ai Ad As Ac Ar Aa Az tX Bd Al Av Aj Ah Au Ak An Aq Bb tP Aw Ag At Ap Ao Af Am Ay Ba Ax
 replace M := Sep.new M g1
 simp only [List.cons_append, List.nil_append] at M
 clear g1
 obtain ⟨tY, Bi, Bj, Bf, Bg, Bh, Bn, Bk, Bm, Be, Bl⟩ := M.f5 3 rfl
 obtain ⟨tR, Ab, Bc, Ae, Ai, Ad, As, Ac, Ar, Aa, Az⟩ := M.f5 7 rfl
 obtain ⟨tX, Bd, Al, Av, Aj, Ah, Au, Ak, An, Aq, Bb⟩ := M.f5 8 rfl
 obtain ⟨tP, Aw, Ag, At, Ap, Ao, Af, Am, Ay, Ba, Ax⟩ := M.f5 9 rfl
 go_wp2_with fail
 clear tY Bi Bj Bf Bg Bh Bn Bk Bm Be Bl tR Ab Bc Ae Ai Ad As Ac Ar Aa Az tX Bd Al Av Aj Ah Au Ak An Aq Bb tP Aw Ag At Ap Ao Af Am Ay Ba Ax
 have N := M.gset5 7 rfl (.slice D0 ts.length f0) (.slice D1 ks.length f1) (.slice D2 fs.length f2) (.int .i64 tn) (.bool st)
 clear M
 obtain ⟨W7, eW, M⟩ := N
 rw [eW]
 clear eW
 simp only [List.set_cons_zero, List.set_cons_succ] at M
 obtain ⟨tR, Ab, Ae, Ad, Ac, Aa⟩ := M.q5 7 rfl
 exact bodyPost_ret (by simp [results, Tryz.results12, go_sem, Ab, Ae, Ad, Ac, Aa]) rfl ⟨D0, D1, D2, f0, f1, f2, rfl, M.take 3⟩
theorem wakeAll_right {a b c d e : Int} {ks : List Int} {fs : List F2} {v : Int} (hv : btw v 0 9999 = true) : ∀ (L : List Int) (ts : List T7) (tn : Int), poolB a b c d e ts ks fs tn = true → L.Nodup → (∀ j ∈ L, ∃ (k : Nat) (x : T7), j = k ∧ ts[k]? = some x ∧ x.s = 3) → tn + L.length ≤ 1000000 → poolB a b c d e (wakeAllT L ts tn v) ks fs (tn + L.length) = true
 | [], ts, tn, hp, _, _, _ => by simpa [wakeAllT] using hp
 | j :: r, ts, tn, hp, hn, hm, hb => by
  obtain ⟨k, x, rfl, hx, hs⟩ := hm j (List.mem_cons_self ..)
  have h1 := wake_right (v := v) hp hx hs hv (by simp at hb; omega)
  obtain ⟨hn1, hn2⟩ := List.nodup_cons.1 hn
  have h2 := wakeAll_right hv r (ts.set k (wakeT x tn v)) (tn + 1) h1 hn2 (fun i hi => by
   obtain ⟨k2, x2, rfl, hx2, hs2⟩ := hm i (List.mem_cons_of_mem _ hi)
   refine ⟨k2, x2, rfl, ?_, hs2⟩
   rw [List.getElem?_set_ne (by intro e; apply hn1; rw [e]; exact hi)]
   exact hx2) (by simp at hb; omega)
  simp only [wakeAllT, Int.toNat_natCast, taskAt_of hx, List.length_cons]
  rw [show tn + ((r.length + 1 : Nat) : Int) = tn + 1 + (r.length : Int) by omega]
  exact h2
theorem wokenAll_told (a b c d e : Int) (ts : List T7) (ks : List Int) (fs : List F2) (tn : Int) (st : Bool) (wa : Int) (oa : Int) (v0 : Int) (hl : ts.length + ks.length + fs.length ≤ 1048576) :
 ∃ (us : List T7) (ks2 : List Int) (fs2 : List F2) (tn2 : Int) (st2 : Bool) (z : Int), us.length + ks2.length + fs2.length ≤ 1048576 ∧
 (0 ≤ z → us = wakeAllT (waitersM ts wa oa) ts tn v0) ∧
 Hid (∀ (A0 A1 A2 : Option Addr) (c0 c1 c2 : Nat) (w : World), InPool w ts ks fs A0 A1 A2 → Calls Tryz.prog 13 #[.agg #[.int .i64 a, .int .i64 b, .int .i64 c, .int .i64 d, .int .i64 e], .agg #[.slice A0 ts.length c0, .slice A1 ks.length c1, .slice A2 fs.length c2, .int .i64 tn, .bool st], .int .i64 wa, .int .i64 oa, .int .i64 v0] w (GaveI us ks2 fs2 tn2 st2 z w)) ∧
 Hid (∀ (A0 A1 A2 : Option Addr) (c0 c1 c2 : Nat) (w : World), InPool w ts ks fs A0 A1 A2 → Calls Tryz.prog 12 #[.agg #[.int .i64 a, .int .i64 b, .int .i64 c, .int .i64 d, .int .i64 e], .agg #[.slice A0 ts.length c0, .slice A1 ks.length c1, .slice A2 fs.length c2, .int .i64 tn, .bool st], .int .i64 wa, .int .i64 oa, .int .i64 v0] w (GaveI us ks2 fs2 tn2 st2 z w)) := by
 have ht : ts.length ≤ 1048576 := by omega
 have hk : ks.length ≤ 1048576 := by omega
 have hf : fs.length ≤ 1048576 := by omega
 cases hp : poolB a b c d e ts ks fs tn
 ·exact ⟨[], [], [], 0, false, -1, by simp, (fun h => by omega), hide (fun A0 A1 A2 c0 c1 c2 w h => sWokenAll_bad a b c d e ts ks fs A0 A1 A2 c0 c1 c2 tn st wa oa v0 w ht hk hf h hp), hide (fun A0 A1 A2 c0 c1 c2 w h => gWokenAll_bad a b c d e ts ks fs A0 A1 A2 c0 c1 c2 tn st wa oa v0 w ht hk hf h hp)⟩
 ·have hT := (poolB_parts hp).2.1
  by_cases hn : (0 : Int) < ((waitersM ts wa oa).length : Int)
  ·cases hv : btw v0 0 9999
   ·have ho : okAll (waitersM ts wa oa) v0 tn = false := by
     have he : (waitersM ts wa oa).isEmpty = false := by
      cases hL : (waitersM ts wa oa) with
      | nil => rw [hL] at hn; simp at hn
      | cons i r => rfl
     simp only [okAll, he, hv, Bool.false_and, Bool.or_false]
    exact ⟨ts, ks, fs, tn, st, -1, hl, (fun h => by omega), hide (fun A0 A1 A2 c0 c1 c2 w h => sWokenAll_no a b c d e ts ks fs A0 A1 A2 c0 c1 c2 tn st wa oa v0 w ht hk hf h hp hn hv), hide (fun A0 A1 A2 c0 c1 c2 w h => gWokenAll_no a b c d e ts ks fs A0 A1 A2 c0 c1 c2 tn st wa oa v0 w ht hk hf h hp ho)⟩
   ·by_cases hb : tn + ((waitersM ts wa oa).length : Int) ≤ 1000000
    ·have hz := wakeAll_right hv (waitersM ts wa oa) ts tn hp (waitersM_nodup ts wa oa) (fun j hj => by
      obtain ⟨k, x, h1, _, h2, h3, _⟩ := waitersM_mem hj
      exact ⟨k, x, h1, h2, h3⟩) hb
     have ho : okAll (waitersM ts wa oa) v0 tn = true := by simp [okAll, hv, hb]
     exact ⟨wakeAllT (waitersM ts wa oa) ts tn v0, ks, fs, tn + ((waitersM ts wa oa).length : Int), st, ((waitersM ts wa oa).length : Int), by rw [wakeAllT_length]; exact hl, (fun _ => rfl), hide (fun A0 A1 A2 c0 c1 c2 w h => sWokenAll_some_yes a b c d e ts ks fs A0 A1 A2 c0 c1 c2 tn st wa oa v0 w ht hk hf h hp hn hv hz), hide (fun A0 A1 A2 c0 c1 c2 w h => gWokenAll_yes a b c d e ts ks fs A0 A1 A2 c0 c1 c2 tn st wa oa v0 w ht hk hf h hp ho)⟩
    ·have hz : poolB a b c d e (wakeAllT (waitersM ts wa oa) ts tn v0) ks fs (tn + ((waitersM ts wa oa).length : Int)) = false := turn_over hb
     have ho : okAll (waitersM ts wa oa) v0 tn = false := by
      have he : (waitersM ts wa oa).isEmpty = false := by
       cases hL : (waitersM ts wa oa) with
       | nil => rw [hL] at hn; simp at hn
       | cons i r => rfl
      simp only [okAll, he, hv, Bool.false_or, Bool.true_and, decide_eq_false hb]
     exact ⟨ts, ks, fs, tn, st, -1, hl, (fun h => by omega), hide (fun A0 A1 A2 c0 c1 c2 w h => sWokenAll_some_full a b c d e ts ks fs A0 A1 A2 c0 c1 c2 tn st wa oa v0 w ht hk hf h hp hn hv hz), hide (fun A0 A1 A2 c0 c1 c2 w h => gWokenAll_no a b c d e ts ks fs A0 A1 A2 c0 c1 c2 tn st wa oa v0 w ht hk hf h hp ho)⟩
  ·have hL : (waitersM ts wa oa) = [] := List.length_eq_zero_iff.1 (by omega)
   have hz : poolB a b c d e (wakeAllT (waitersM ts wa oa) ts tn v0) ks fs (tn + ((waitersM ts wa oa).length : Int)) = true := by rw [hL]; simpa [wakeAllT] using hp
   have ho : okAll (waitersM ts wa oa) v0 tn = true := by simp [okAll, hL]
   exact ⟨wakeAllT (waitersM ts wa oa) ts tn v0, ks, fs, tn + ((waitersM ts wa oa).length : Int), st, ((waitersM ts wa oa).length : Int), by rw [wakeAllT_length]; exact hl, (fun _ => rfl), hide (fun A0 A1 A2 c0 c1 c2 w h => sWokenAll_none_yes a b c d e ts ks fs A0 A1 A2 c0 c1 c2 tn st wa oa v0 w ht hk hf h hp hn hz), hide (fun A0 A1 A2 c0 c1 c2 w h => gWokenAll_yes a b c d e ts ks fs A0 A1 A2 c0 c1 c2 tn st wa oa v0 w ht hk hf h hp ho)⟩
theorem fit_parts {a b c d e : Int} {ts : List T7} {tn : Int} {k : Nat} {x : T7} (h : fitB a b c d e ts tn k x = true) : planB a b c d e = true ∧ btw x.s 1 5 = true ∧ btw x.l 0 (c - 1) = true ∧ ownB a x.s x.o = true ∧ waitB b d e x.s x.wt x.on = true ∧ btw x.v 0 9999 = true ∧ btw x.t 0 1000000 = true ∧ x.t < tn ∧ soloTo ts k x.s x.o = true ∧ waitsOk ts.length k x.wt x.on = true := by
 simp only [fitB, taskB, Bool.and_eq_true, decide_eq_true_eq] at h
 obtain ⟨⟨h1, h2, h3, h4, h5, h6, h7⟩, h8, h9, h10⟩ := h
 exact ⟨h1, h2, h3, h4, h5, h6, h7, h8, h9, h10⟩
theorem pool_fit {a b c d e : Int} {ts : List T7} {ks : List Int} {fs : List F2} {tn : Int} {k : Nat} {x : T7} (h : poolB a b c d e ts ks fs tn = true) (hx : ts[k]? = some x) : fitB a b c d e ts tn k x = true := (tasksB_iff ..).1 (poolB_parts h).2.2.2 k x hx
theorem mem_pick {q : Nat → Bool} {n k : Nat} (hk : k < n) (hq : q k = true) : k ∈ pick q n := by
 induction n with
 | zero => omega
 | succ n ih =>
  simp only [pick]
  by_cases h : k = n
  ·subst h; simp [hq]
  ·have h2 := ih (by omega)
   split
   ·exact List.mem_append_left _ h2
   ·exact h2
theorem mem_line {q : Nat → Bool} {P : Nat → Int → Bool} {n k : Nat} (hk : k < n) (hq : q k = true) : (k : Int) ∈ lineM q P n :=
 (lineM_perm q P n).mem_iff.2 (List.mem_map.2 ⟨k, mem_pick hk hq, rfl⟩)
theorem line_pick {q : Nat → Bool} {P : Nat → Int → Bool} {n : Nat} {j : Int} (h : j ∈ lineM q P n) : ∃ k : Nat, j = k ∧ k < n ∧ q k = true := by
 obtain ⟨k, hk, rfl⟩ := List.mem_map.1 ((lineM_perm q P n).mem_iff.1 h)
 obtain ⟨h1, h2⟩ := pick_mem hk
 exact ⟨k, rfl, h1, h2⟩
theorem get_lt {α : Type} {ts : List α} {k : Nat} {x : α} (h : ts[k]? = some x) : k < ts.length := (List.getElem?_eq_some_iff.1 h).1
theorem mem_waiters {ts : List T7} {wt on : Int} {k : Nat} {x : T7} (h : ts[k]? = some x) (hs : x.s = 3) (hw : x.wt = wt) (ho : x.on = on) : (k : Int) ∈ waitersM ts wt on := by
 refine mem_line (get_lt h) ?_
 simp [waitQ, List.getD_eq_getElem?_getD, h, hs, hw, ho]
theorem mem_ready {ts : List T7} {k : Nat} {x : T7} (h : ts[k]? = some x) (hs : x.s = 1) : (k : Int) ∈ readyM ts := by
 refine mem_line (get_lt h) ?_
 simp [readyQ, List.getD_eq_getElem?_getD, h, hs]
theorem ready_mem {ts : List T7} {j : Int} (h : j ∈ readyM ts) : ∃ (k : Nat) (x : T7), j = k ∧ ts[k]? = some x ∧ x.s = 1 := by
 obtain ⟨k, rfl, hk, hq⟩ := line_pick h
 refine ⟨k, ts[k], rfl, List.getElem?_eq_getElem hk, ?_⟩
 simpa [readyQ, List.getD_eq_getElem?_getD, List.getElem?_eq_getElem hk] using hq
theorem right_turn {a b c d e : Int} {ts : List T7} {ks : List Int} {fs : List F2} {tn : Int} (h : poolB a b c d e ts ks fs tn = true) {k : Nat} {x : T7} (hx : ts[k]? = some x) : x.t < tn := by
 obtain ⟨_, _, _, _, _, _, _, h8, _⟩ := fit_parts (pool_fit h hx)
 exact h8
/-- Nobody waits any more, once all are woken. -/
theorem waiters_none (ts : List T7) (tn v wt on : Int) : waitersM (wakeAllT (waitersM ts wt on) ts tn v) wt on = [] := by
 refine List.eq_nil_iff_forall_not_mem.2 fun j hj => ?_
 obtain ⟨k, x, rfl, _, hx, hs, hw, ho⟩ := waitersM_mem hj
 by_cases hm : (k : Int) ∈ waitersM ts wt on
 ·have key : ∀ (L : List Int) (ts : List T7) (tn : Int), L.Nodup → (∀ j ∈ L, 0 ≤ j) → (k : Int) ∈ L → (wakeAllT L ts tn v)[k]? = some x → x.s = 1 := by
   intro L
   induction L with
   | nil => intro _ _ _ _ h; simp at h
   | cons i r ih =>
    intro ts tn hn h0 hk hx
    simp only [wakeAllT] at hx
    obtain ⟨hn1, hn2⟩ := List.nodup_cons.1 hn
    rcases List.mem_cons.1 hk with h1 | h1
    ·subst h1
     rw [wakeAllT_other r _ _ _ k hn1 (fun j hj => h0 j (List.mem_cons_of_mem _ hj))] at hx
     have hlt : k < (ts.set (k : Int).toNat (wakeT (taskAt ts k) tn v)).length := get_lt hx
     simp only [Int.toNat_natCast, List.length_set] at hx hlt
     rw [List.getElem?_set_self hlt] at hx
     injection hx with hx
     subst hx
     rfl
    ·exact ih _ _ hn2 (fun j hj => h0 j (List.mem_cons_of_mem _ hj)) h1 hx
  have := key _ ts tn (waitersM_nodup ts wt on) (fun j hj => by obtain ⟨i, _, rfl, _⟩ := waitersM_mem hj; omega) hm hx
  omega
 ·rw [wakeAllT_other _ _ _ _ k hm (fun j hj => by obtain ⟨i, _, rfl, _⟩ := waitersM_mem hj; omega)] at hx
  exact hm (mem_waiters hx hs hw ho)
set_option maxRecDepth 100000 in
set_option maxHeartbeats 1000000 in
theorem likeInts_same (ks : List Int) (A B : Option Addr) (c d : Nat) (w : World) (hlen : ks.length ≤ 1048576) (h0 : Row w A (icells ks)) (h1 : Row w B (icells ks)) :
 Calls Tryz.prog 54 #[.slice A ks.length c, .slice B ks.length d] w fun r w' => r = .returned (.bool true) ∧ Below w.heap.size w w' := by
 have H0 := hide h0
 have H1 := hide h1
 clear h0 h1
 go_enter Tryz.func54, Tryz.ntmps54
 go_wp2
 go_loopw [5] (fun i wr => ∃ (k : Nat), k ≤ ks.length ∧ i = .int .i64 k ∧ Below w.heap.size w wr) (fun i _ => ks.length - (intOf i).toNat)
 case atStart => exact ⟨0, Nat.zero_le _, rfl, by go_grown⟩
 case round =>
  obtain ⟨k, hk, rfl, hbel⟩ := hrel
  have hz := hbel.size
  by_cases hlt : k < ks.length
  ·obtain ⟨b, off, v, rfl, _, hx, hb1, z0⟩ := (H0.out.below hbel).ks_at hlt
   obtain ⟨b2, off2, v', rfl, _, hx2, hb2, y0⟩ := (H1.out.below hbel).ks_at hlt
   rw [hx] at hx2
   injection hx2 with hx2
   subst hx2
   clear hx
   have c0 := KeptW.cell (W0 := wr) (b := b) (o := off + k) (z0)
   have e0 := KeptW.cell (W0 := wr) (b := b2) (o := off2 + k) (y0)
   clear z0 y0
   go_wp2_with fail
   have hx0 := KeptW.mk'_w (Below.refl wr.heap.size wr)
   generalize KeptW.mk' (Below.refl wr.heap.size wr) = x at hx0
   rw [← hx0]
   clear hx0
   refine region_kept (by kernel_rfl) (by kernel_rfl) ?_
   repeat (go_big_quiet_step (fail))
   refine wpQuiet_nil ?_
   rintro _ ⟨x, rfl⟩
   have hgx := hbel.trans (x.below.mono hz)
   go_wp2
   go_roundw
   case rel => exact ⟨k + 1, by omega, by go_num, hgx⟩
   case measure => simp [intOf]; omega
  ·go_wp2
   go_ret
   exact ⟨rfl, hbel⟩
set_option maxRecDepth 100000 in
set_option maxHeartbeats 1000000 in
theorem likePool_same (ts : List T7) (ks : List Int) (fs : List F2) (A0 A1 A2 B0 B1 B2 : Option Addr) (c0 c1 c2 d0 d1 d2 : Nat) (tn : Int) (st : Bool) (w : World) (hl : ts.length + ks.length + fs.length ≤ 1048576) (hA : InPool w ts ks fs A0 A1 A2) (hB : InPool w ts ks fs B0 B1 B2) :
 Calls Tryz.prog 14 #[.agg #[.slice A0 ts.length c0, .slice A1 ks.length c1, .slice A2 fs.length c2, .int .i64 tn, .bool st], .agg #[.slice B0 ts.length d0, .slice B1 ks.length d1, .slice B2 fs.length d2, .int .i64 tn, .bool st]] w fun r w' => r = .returned (.bool true) ∧ Below w.heap.size w w' := by
 have HA := hide hA
 have HB := hide hB
 clear hA hB
 go_enter Tryz.func14, Tryz.ntmps14
 go_wp2_with fail
 generalize hW : (w.alloc _).alloc _ = W1
 have M := Sep.e2 hW
 clear hW
 have HV := hide M.below
 obtain ⟨xb, hxb⟩ : ∃ xb, xb = w.heap.size := ⟨_, rfl⟩
 obtain ⟨yb, hyb⟩ : ∃ yb, yb = w.heap.size + 1 := ⟨_, rfl⟩
 rw [← hyb, ← hxb] at M ⊢
 obtain ⟨tX, Ag, Ai, Aj, Ad, Ab⟩ := M.q5 1 rfl
 obtain ⟨tY, Ah, Ac, Af, Ae, Aa⟩ := M.q5 0 rfl
 have HA2 := hide (InPool.below HA.out M.below)
 have HB2 := hide (InPool.below HB.out M.below)
 clear M HA HB hxb hyb tX tY
 have cX0 := fun (x : KeptW W1) => KeptW.cell Ag x
 have cX1 := fun (x : KeptW W1) => KeptW.cell Ai x
 have cX2 := fun (x : KeptW W1) => KeptW.cell Aj x
 have cX3 := fun (x : KeptW W1) => KeptW.cell Ad x
 have cX4 := fun (x : KeptW W1) => KeptW.cell Ab x
 have cY0 := fun (x : KeptW W1) => KeptW.cell Ah x
 have cY1 := fun (x : KeptW W1) => KeptW.cell Ac x
 have cY2 := fun (x : KeptW W1) => KeptW.cell Af x
 have cY3 := fun (x : KeptW W1) => KeptW.cell Ae x
 have cY4 := fun (x : KeptW W1) => KeptW.cell Aa x
 clear Ag Ai Aj Ad Ab Ah Ac Af Ae Aa
 have hx0 := KeptW.mk'_w (Below.refl W1.heap.size W1)
 generalize KeptW.mk' (Below.refl W1.heap.size W1) = x0 at hx0
 rw [← hx0]
 clear hx0
 go_wp2_with fail
 go_call (likeInts_same ks A1 B1 c1 d1 x0.w (by omega) (InPool.below HA2.out x0.below).2.1 (InPool.below HB2.out x0.below).2.1) as r Wq ⟨rfl, g3⟩
 obtain ⟨x1, rfl⟩ : ∃ y : KeptW W1, Wq = y.w := ⟨KeptW.mk' (x0.below.trans (g3.mono x0.below.size)), rfl⟩
 clear g3
 go_wp2_with fail
 go_loopw [5] (fun i wr => ∃ (k : Nat) (x : KeptW W1), k ≤ ts.length ∧ i = .int .i64 k ∧ wr = x.w) (fun i _ => ts.length - (intOf i).toNat)
 case atStart => exact ⟨0, x1, Nat.zero_le _, rfl, rfl⟩
 case round =>
  obtain ⟨k, x, hk, rfl, rfl⟩ := hrel
  by_cases hlt : k < ts.length
  ·obtain ⟨b, off, s, l, o, wt, on, v, t, eA, _, hx, hb1, z0, z1, z2, z3, z4, z5, z6⟩ := (InPool.below HA2.out x.below).1.ts_at hlt
   obtain ⟨b2, off2, s', l', o', wt', on', v', t', eB, _, hx2, hb2, y0, y1, y2, y3, y4, y5, y6⟩ := (InPool.below HB2.out x.below).1.ts_at hlt
   rw [hx] at hx2
   injection hx2 with hx2
   injection hx2 with u0 u1 u2 u3 u4 u5 u6
   subst u0 u1 u2 u3 u4 u5 u6 eA eB
   clear hx
   have e0 := KeptW.cell (W0 := x.w) (b := b) (o := off + k * 7) (z0)
   have f0 := KeptW.cell (W0 := x.w) (b := b2) (o := off2 + k * 7) (y0)
   have e1 := KeptW.cell (W0 := x.w) (b := b) (o := off + k * 7 + 1) (z1)
   have f1 := KeptW.cell (W0 := x.w) (b := b2) (o := off2 + k * 7 + 1) (y1)
   have e2 := KeptW.cell (W0 := x.w) (b := b) (o := off + k * 7 + 2) (z2)
   have f2 := KeptW.cell (W0 := x.w) (b := b2) (o := off2 + k * 7 + 2) (y2)
   have e3 := KeptW.cell (W0 := x.w) (b := b) (o := off + k * 7 + 3) (z3)
   have f3 := KeptW.cell (W0 := x.w) (b := b2) (o := off2 + k * 7 + 3) (y3)
   have e4 := KeptW.cell (W0 := x.w) (b := b) (o := off + k * 7 + 4) (z4)
   have f4 := KeptW.cell (W0 := x.w) (b := b2) (o := off2 + k * 7 + 4) (y4)
   have e5 := KeptW.cell (W0 := x.w) (b := b) (o := off + k * 7 + 5) (z5)
   have f5 := KeptW.cell (W0 := x.w) (b := b2) (o := off2 + k * 7 + 5) (y5)
   have e6 := KeptW.cell (W0 := x.w) (b := b) (o := off + k * 7 + 6) (z6)
   have f6 := KeptW.cell (W0 := x.w) (b := b2) (o := off2 + k * 7 + 6) (y6)
   clear z0 y0 z1 y1 z2 y2 z3 y3 z4 y4 z5 y5 z6 y6
   have dX0 := fun (y : KeptW x.w) => KeptW.cell (cX0 x) y
   have dX2 := fun (y : KeptW x.w) => KeptW.cell (cX2 x) y
   have dY0 := fun (y : KeptW x.w) => KeptW.cell (cY0 x) y
   have dY2 := fun (y : KeptW x.w) => KeptW.cell (cY2 x) y
   clear HA2 HB2
   go_wp2_with fail
   have hx0 := KeptW.mk'_w (Below.refl x.w.heap.size x.w)
   generalize KeptW.mk' (Below.refl x.w.heap.size x.w) = x2 at hx0
   rw [← hx0]
   clear hx0
   refine region_kept (by kernel_rfl) (by kernel_rfl) ?_
   repeat (go_big_quiet_step (fail))
   refine wpQuiet_nil ?_
   rintro _ ⟨x2, rfl⟩
   obtain ⟨y, hy⟩ : ∃ y : KeptW W1, x2.w = y.w := ⟨KeptW.mk' (x.below.trans (x2.below.mono x.below.size)), rfl⟩
   rw [hy]
   clear hy
   go_wp2
   go_roundw
   case rel => exact ⟨k + 1, y, by omega, by go_num, rfl⟩
   case measure => simp [intOf]; omega
  ·go_wp2_with fail
   go_loopw [6] (fun i wr => ∃ (k : Nat) (x : KeptW W1), k ≤ fs.length ∧ i = .int .i64 k ∧ wr = x.w) (fun i _ => fs.length - (intOf i).toNat)
   case atStart => exact ⟨0, x, Nat.zero_le _, rfl, rfl⟩
   case round =>
    clear hk hlt
    obtain ⟨k, x, hk, rfl, rfl⟩ := hrel
    by_cases hlt : k < fs.length
    ·obtain ⟨b, off, s, v, eA, _, hx, hb1, z0, z1⟩ := (InPool.below HA2.out x.below).2.2.fs_at hlt
     obtain ⟨b2, off2, s', v', eB, _, hx2, hb2, y0, y1⟩ := (InPool.below HB2.out x.below).2.2.fs_at hlt
     rw [hx] at hx2
     injection hx2 with hx2
     injection hx2 with u0 u1
     subst u0 u1 eA eB
     clear hx
     have e0 := KeptW.cell (W0 := x.w) (b := b) (o := off + k * 2) (z0)
     have f0 := KeptW.cell (W0 := x.w) (b := b2) (o := off2 + k * 2) (y0)
     have e1 := KeptW.cell (W0 := x.w) (b := b) (o := off + k * 2 + 1) (z1)
     have f1 := KeptW.cell (W0 := x.w) (b := b2) (o := off2 + k * 2 + 1) (y1)
     clear z0 y0 z1 y1
     have dX0 := fun (y : KeptW x.w) => KeptW.cell (cX0 x) y
     have dX2 := fun (y : KeptW x.w) => KeptW.cell (cX2 x) y
     have dY0 := fun (y : KeptW x.w) => KeptW.cell (cY0 x) y
     have dY2 := fun (y : KeptW x.w) => KeptW.cell (cY2 x) y
     clear HA2 HB2
     go_wp2_with fail
     have hx0 := KeptW.mk'_w (Below.refl x.w.heap.size x.w)
     generalize KeptW.mk' (Below.refl x.w.heap.size x.w) = x2 at hx0
     rw [← hx0]
     clear hx0
     refine region_kept (by kernel_rfl) (by kernel_rfl) ?_
     repeat (go_big_quiet_step (fail))
     refine wpQuiet_nil ?_
     rintro _ ⟨x2, rfl⟩
     obtain ⟨y, hy⟩ : ∃ y : KeptW W1, x2.w = y.w := ⟨KeptW.mk' (x.below.trans (x2.below.mono x.below.size)), rfl⟩
     rw [hy]
     clear hy
     go_wp2
     go_roundw
     case rel => exact ⟨k + 1, y, by omega, by go_num, rfl⟩
     case measure => simp [intOf]; omega
    ·go_wp2
     go_ret
     exact ⟨rfl, HV.out.trans (x.below.mono HV.out.size)⟩
theorem likePool_eq {us ts : List T7} {ks2 ks : List Int} {fs2 fs : List F2} {tn2 tn : Int} {st2 st : Bool} (e : us = ts ∧ ks2 = ks ∧ fs2 = fs ∧ tn2 = tn ∧ st2 = st) (A0 A1 A2 B0 B1 B2 : Option Addr) (c0 c1 c2 d0 d1 d2 : Nat) (w : World) (hl : us.length + ks2.length + fs2.length ≤ 1048576) (hA : InPool w us ks2 fs2 A0 A1 A2) (hB : InPool w ts ks fs B0 B1 B2) :
 Calls Tryz.prog 14 #[.agg #[.slice A0 us.length c0, .slice A1 ks2.length c1, .slice A2 fs2.length c2, .int .i64 tn2, .bool st2], .agg #[.slice B0 ts.length d0, .slice B1 ks.length d1, .slice B2 fs.length d2, .int .i64 tn, .bool st]] w fun r w' => r = .returned (.bool true) ∧ Below w.heap.size w w' := by
 obtain ⟨rfl, rfl, rfl, rfl, rfl⟩ := e
 exact likePool_same _ _ _ A0 A1 A2 B0 B1 B2 c0 c1 c2 d0 d1 d2 _ _ w hl hA hB
theorem gPoolOk_k {a b c d e : Int} {ts : List T7} {ks : List Int} {fs : List F2} {A0 A1 A2 : Option Addr} (c0 c1 c2 : Nat) {tn : Int} (st y : Bool) (w : World) (hk : ks.length ≤ 1048576) (hf : fs.length ≤ 1048576) (h : InPool w ts ks fs A0 A1 A2) (hy : poolB a b c d e ts ks fs tn = y) :
 Calls Tryz.prog 18 #[.agg #[.int .i64 a, .int .i64 b, .int .i64 c, .int .i64 d, .int .i64 e], .agg #[.slice A0 ts.length c0, .slice A1 ks.length c1, .slice A2 fs.length c2, .int .i64 tn, .bool st]] w fun r w' => r = .returned (.bool y) ∧ Below w.heap.size w w' := by
 subst hy
 exact gPoolOk_any a b c d e ts ks fs A0 A1 A2 c0 c1 c2 tn st w hk hf h
theorem sPoolOk_k {a b c d e : Int} {ts : List T7} {ks : List Int} {fs : List F2} {A0 A1 A2 : Option Addr} (c0 c1 c2 : Nat) {tn : Int} (st y : Bool) (w : World) (ht : ts.length ≤ 1048576) (hk : ks.length ≤ 1048576) (hf : fs.length ≤ 1048576) (h : InPool w ts ks fs A0 A1 A2) (hy : poolB a b c d e ts ks fs tn = y) :
 Calls Tryz.prog 16 #[.agg #[.int .i64 a, .int .i64 b, .int .i64 c, .int .i64 d, .int .i64 e], .agg #[.slice A0 ts.length c0, .slice A1 ks.length c1, .slice A2 fs.length c2, .int .i64 tn, .bool st]] w fun r w' => r = .returned (.bool y) ∧ Below w.heap.size w w' := by
 subst hy
 exact sPoolOk_any a b c d e ts ks fs A0 A1 A2 c0 c1 c2 tn st w ht hk hf h
def sliceLen : Value → Nat
 | .slice _ n _ => n
 | _ => 0
set_option maxRecDepth 100000 in
set_option maxHeartbeats 1000000 in
theorem leave_any (ps : List P3) (lb : Nat) (A : Option Addr) (c : Nat) (hl : ps.length ≤ 1048576) (w : World) (hh : HeapL ps) (h : LineIn w lb A c ps) :
 Calls Tryz.prog 56 #[.pointer (some ⟨lb, 0, none⟩)] w fun r w' => ∃ (B : Option Addr) (d : Nat) (out : List P3), r = .returned (.slice B out.length d) ∧ out.Pairwise leP ∧ out.Perm ps ∧ Sep (fps (lineL lb A c ps)) w w' (rK out.length B d (out.map P3.i) :: lineL lb A c []) := by
 obtain ⟨i0, hi, hz0, hz1, hz2⟩ := info_parts infoInt
 have qL : w.cell? ⟨lb, 0, none⟩ = some (.slice A ps.length c) := Sep.cell h 0 0 rfl
 have H := hide (⟨h, hh⟩ : _ ∧ _)
 clear h hh
 go_enter Tryz.func56, Tryz.ntmps56
 go_wp2_with fail
 go_call (len_any A ps.length c _) as r W2 ⟨rfl, rfl⟩
 go_wp2_with fail
 obtain ⟨W1, hr, ho, hg⟩ := run_make_own (P := Tryz.prog) w w.heap.size 27 2 i0 (.int .i64 0) 1 Tryz.underlying27 hi hz0 hz1 .i64 .i64 ps.length (by rw [hz2]; omega) (by unfold maxLen; omega) (Nat.le_refl _)
 rw [hr]
 have M : Sep (fps (lineL lb A c ps)) w W1 (rK 0 (some ⟨w.heap.size, 0, none⟩) ps.length [] :: lineL lb A c ps) := Sep.comp (ps := []) (rs := lineL lb A c ps) H.out.1 (sepRow ⟨hg.os, hg.tape, hg.output, hg.size, fun b hb => hg.block b hb (by simp)⟩ ho)
 clear hr ho hg qL
 go_wp2_with fail
 go_loopw [3] (fun i wr => ∃ (out qs : List P3) (B : Option Addr) (d : Nat), i = .slice B out.length d ∧ Hid ((out ++ qs).Perm ps ∧ out.Pairwise leP ∧ (∀ x ∈ out, ∀ y ∈ qs, leP x y) ∧ HeapL qs) ∧ Sep (fps (lineL lb A c ps)) w wr (rK out.length B d (out.map P3.i) :: lineL lb A c qs)) (fun i _ => (ps.length - sliceLen i : Nat))
 case atStart => exact ⟨[], ps, _, _, rfl, hide ⟨List.Perm.refl _, List.Pairwise.nil, by simp, H.out.2⟩, M⟩
 case round =>
  clear M H
  obtain ⟨out, qs, B, d, rfl, HP, M⟩ := hrel
  have hlen : out.length + qs.length = ps.length := by have := HP.out.1.length_eq; simpa using this
  have hql : qs.length ≤ 1048576 := by omega
  have hol : out.length ≤ 1048576 := by omega
  have HL := hide hlen
  clear hlen
  have qL : wr.cell? ⟨lb, 0, none⟩ = some (.slice A qs.length c) := M.cell 1 0 rfl
  have tL : lb < wr.heap.size := M.lt 1 rfl
  by_cases h0 : qs = []
  ·subst h0
   have qL2 : wr.cell? ⟨lb, 0, none⟩ = some (.slice A 0 c) := qL
   clear qL
   go_wp2_with fail
   go_call (len_any A 0 c _) as r W2 ⟨rfl, rfl⟩
   go_wp2_with fail
   go_ret
   have hp := HP.out.1
   rw [List.append_nil] at hp
   exact ⟨B, d, out, rfl, HP.out.2.1, hp, M⟩
  ·have hpos : 0 < qs.length := List.length_pos_iff.2 h0
   have hpi : (0 : Int) < (qs.length : Int) := by omega
   clear h0
   go_wp2_with fail
   go_call (len_any A qs.length c _) as r W2 ⟨rfl, rfl⟩
   go_wp2_with fail
   have hN := next_any qs lb A c hpos hql wr HP.out.2.2.2 (LineIn.of (rs := [rK out.length B d (out.map P3.i)]) (M.perm (List.perm_append_comm (l₁ := [_]) (l₂ := lineL lb A c qs))))
   obtain ⟨y, hy⟩ : ∃ y, y = at3 qs 0 := ⟨_, rfl⟩
   obtain ⟨yi, hyi⟩ : ∃ yi, yi = y.i := ⟨_, rfl⟩
   rw [← hy, ← hyi] at hN
   have HY := hide (⟨hy, hyi⟩ : _ ∧ _)
   clear hy hyi qL tL
   apply Calls.mono
   focus with_reducible exact hN
   clear hN
   rintro r W3 ⟨rfl, q2, hp2, hh2, M2⟩
   replace M := Sep.comp (ps := lineL lb A c qs) (rs := [rK out.length B d (out.map P3.i)]) (M.perm (List.perm_append_comm (l₁ := [_]) (l₂ := lineL lb A c qs))) M2
   replace M := M.perm (List.perm_append_comm (l₁ := lineL lb A c q2) (l₂ := [_]))
   clear M2
   have HQ := hide (⟨hp2, hh2⟩ : _ ∧ _)
   clear hp2 hh2 hpos hpi
   go_wp2_with (at_builtin; refine wpList_append_sep rfl (.tmp 14) (.tmp 17) 27 rfl 2 i0 (.int .i64 0) 1 8 Tryz.underlying27 hi hz0 hz1 hz2 rfl (by decide) B out.length d (icells (out.map P3.i)) rfl ((M.allocN 2 #[.int .i64 yi]).rowAt 1 rfl) ⟨W3.heap.size, 0, none⟩ 1 1 (icells [yi]) rfl rfl (rowOne W3 yi 2) (by simp [icells]) (icells_oneL _) (by unfold maxLen; omega) (by omega) ?_; intro B' d' W4 k)
   have hyq : y ∈ qs := HQ.out.1.subset (by simp)
   refine ⟨⟨out ++ [y], q2, B', d', by simp, hide ⟨?_, ?_, ?_, HQ.out.2⟩, ?_⟩, ?_⟩
   ·rw [List.append_assoc]
    exact (List.Perm.append_left out HQ.out.1).trans HP.out.1
   ·exact List.pairwise_append.2 ⟨HP.out.2.1, by simp, fun a ha b hb => by simp at hb; subst hb; exact HP.out.2.2.1 a ha _ hyq⟩
   ·intro a ha z hz
    have hzq : z ∈ qs := HQ.out.1.subset (List.mem_cons_of_mem _ hz)
    rcases List.mem_append.1 ha with ha | ha
    ·exact HP.out.2.2.1 a ha z hzq
    ·simp at ha
     subst ha
     have := HP.out.2.2.2.first z hzq
     rw [← HY.out.1] at this
     exact this
   ·have k' : Sep (fps [rK out.length B d (out.map P3.i)]) (W3.alloc (.cells #[.int .i64 yi] 2)) W4 [rK (out ++ [y]).length B' d' ((out ++ [y]).map P3.i)] := by
     rw [List.length_append, List.length_singleton, List.map_append, List.map_cons, List.map_nil, ← HY.out.2]
     unfold rK
     rw [← icells_app]
     exact k
    exact Sep.comp (ps := [rK out.length B d (out.map P3.i)]) (rs := lineL lb A c q2) (M.allocN 2 #[.int .i64 yi]).tail k'
   ·have h5 := HL.out
    have h6 := List.length_pos_of_mem hyq
    show ps.length - (out.length + 1) < ps.length - out.length
    omega
end Go.Proofs.YtfjgelegojbmgaaGreat
