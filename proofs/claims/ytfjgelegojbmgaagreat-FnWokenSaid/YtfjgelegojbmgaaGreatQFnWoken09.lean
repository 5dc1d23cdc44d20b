/- The model's WokenAll, way by way. Lists no longer than a million. -/
import Derived.Test.YtfjgelegojbmgaaGreatQFnWoken03
import Derived.Test.YtfjgelegojbmgaaGreatQB13
import Derived.Test.YtfjgelegojbmgaaGreatQB14

namespace Go.Proofs.YtfjgelegojbmgaaGreat
open Go.RowKit
set_option linter.unusedVariables false
set_option maxRecDepth 100000
/-- A pool and a number that a call answers. -/
def GaveI (us : List T7) (ks : List Int) (fs : List F2) (tn : Int) (st : Bool) (n : Int) (w : World) (r : Ending) (w' : World) : Prop :=
 ∃ (B0 B1 B2 : Option Addr) (d0 d1 d2 : Nat), r = .returned (.tuple #[.agg #[.slice B0 us.length d0, .slice B1 ks.length d1, .slice B2 fs.length d2, .int .i64 tn, .bool st], .int .i64 n]) ∧ Sep [] w w' [rT us.length B0 d0 us, rK ks.length B1 d1 ks, rF fs.length B2 d2 fs]
set_option maxHeartbeats 800000 in
theorem sWokenAll_bad (a b c d e : Int) (ts : List T7) (ks : List Int) (fs : List F2) (A0 A1 A2 : Option Addr) (c0 c1 c2 : Nat) (tn : Int) (st : Bool) (wa : Int) (oa : Int) (v0 : Int) (w : World) (ht : ts.length ≤ 1048576) (hk : ks.length ≤ 1048576) (hf : fs.length ≤ 1048576) (h : InPool w ts ks fs A0 A1 A2) (hp : poolB a b c d e ts ks fs tn = false) :
 Calls Tryz.prog 13 #[.agg #[.int .i64 a, .int .i64 b, .int .i64 c, .int .i64 d, .int .i64 e], .agg #[.slice A0 ts.length c0, .slice A1 ks.length c1, .slice A2 fs.length c2, .int .i64 tn, .bool st], .int .i64 wa, .int .i64 oa, .int .i64 v0] w (GaveI [] [] [] 0 false (-1) w) := by
 have HY := hide (⟨hp, trivial⟩ : _ ∧ True)
 clear hp
 have H := hide h
 clear h
 go_enter Tryz.func13, Tryz.ntmps13
 go_wp2_with fail
 generalize hW : ((w.alloc _).alloc _).alloc _ = W1
 have M := Sep.e3 hW
 clear hW
 obtain ⟨tR, Ab, Bc, Ae, Ai, Ad, As, Ac, Ar, Aa, Az⟩ := M.f5 0 rfl
 obtain ⟨tX, Bd, Al, Av, Aj, Ah, Au, Ak, An, Aq, Bb⟩ := M.f5 1 rfl
 obtain ⟨tP, Aw, Ag, At, Ap, Ao, Af, Am, Ay, Ba, Ax⟩ := M.f5 2 rfl
 go_wp2_with fail
 go_call (sPoolOk_v a b c d e ts ks fs A0 A1 A2 c0 c1 c2 tn st false HY.out.1 _ ht hk hf (H.out.below M.below)) as r W2 ⟨rfl, g1⟩
 clear tR Ab Bc Ae Ai Ad As Ac Ar Aa Az tX Bd Al Av Aj Ah Au Ak An Aq Bb tP Aw Ag At Ap Ao Af Am Ay Ba Ax
 replace M := M.call g1
 clear g1
 obtain ⟨tR, Ab, Bc, Ae, Ai, Ad, As, Ac, Ar, Aa, Az⟩ := M.f5 0 rfl
 obtain ⟨tX, Bd, Al, Av, Aj, Ah, Au, Ak, An, Aq, Bb⟩ := M.f5 1 rfl
 obtain ⟨tP, Aw, Ag, At, Ap, Ao, Af, Am, Ay, Ba, Ax⟩ := M.f5 2 rfl
 go_wp2_with fail
 clear tR Ab Bc Ae Ai Ad As Ac Ar Aa Az tX Bd Al Av Aj Ah Au Ak An Aq Bb tP Aw Ag At Ap Ao Af Am Ay Ba Ax
 have N := M.gset5 0 rfl (.slice none 0 0) (.slice none 0 0) (.slice none 0 0) (.int .i64 0) (.bool false)
 clear M
 obtain ⟨W3, eW, M⟩ := N
 rw [eW]
 clear eW
 simp only [List.set_cons_zero] at M
 obtain ⟨tR, Ab, Ae, Ad, Ac, Aa⟩ := M.q5 0 rfl
 exact bodyPost_ret (v := .tuple #[.agg #[.slice none 0 0, .slice none 0 0, .slice none 0 0, .int .i64 0, .bool false], .int .i64 (-1)]) (by simp [results, Tryz.results13, go_sem, Ab, Ae, Ad, Ac, Aa]) rfl ⟨none, none, none, 0, 0, 0, rfl, sep_zero M.below⟩
set_option maxHeartbeats 800000 in
theorem sWokenAll_no (a b c d e : Int) (ts : List T7) (ks : List Int) (fs : List F2) (A0 A1 A2 : Option Addr) (c0 c1 c2 : Nat) (tn : Int) (st : Bool) (wa : Int) (oa : Int) (v0 : Int) (w : World) (ht : ts.length ≤ 1048576) (hk : ks.length ≤ 1048576) (hf : fs.length ≤ 1048576) (h : InPool w ts ks fs A0 A1 A2) (hp : poolB a b c d e ts ks fs tn = true) (hn : (0 : Int) < ((waitersM ts wa oa).length : Int)) (hv : btw v0 0 9999 = false) :
 Calls Tryz.prog 13 #[.agg #[.int .i64 a, .int .i64 b, .int .i64 c, .int .i64 d, .int .i64 e], .agg #[.slice A0 ts.length c0, .slice A1 ks.length c1, .slice A2 fs.length c2, .int .i64 tn, .bool st], .int .i64 wa, .int .i64 oa, .int .i64 v0] w (GaveI ts ks fs tn st (-1) w) := by
 have tb : 0 ≤ tn ∧ tn ≤ 1000000 := by
  have h1 := hp
  simp only [poolB, Bool.and_eq_true] at h1
  have h2 := h1.2.1
  simp [btw] at h2
  exact h2
 obtain ⟨tb0, tb1⟩ := tb
 have hW : Hid (∀ (C0 C1 C2 : Option Addr) (e0 e1 e2 : Nat) (V : World), (rT ts.length C0 e0 ts).here V → Calls Tryz.prog 53 #[.agg #[.slice C0 ts.length e0, .slice C1 ks.length e1, .slice C2 fs.length e2, .int .i64 tn, .bool st], .int .i64 wa, .int .i64 oa, .int .i64 v0] V fun r w' => r = .returned (.tuple #[.agg #[.slice C0 ts.length e0, .slice C1 ks.length e1, .slice C2 fs.length e2, .int .i64 (tn + ((waitersM ts wa oa).length : Int)), .bool st], .int .i64 ((waitersM ts wa oa).length : Int)]) ∧ Sep (fps [rT ts.length C0 e0 ts]) V w' [rT ts.length C0 e0 (wakeAllT (waitersM ts wa oa) ts tn v0)]) := hide (fun C0 C1 C2 e0 e1 e2 V hV => l5WakeAll_s ts ts.length rfl C0 C1 C2 e0 ks.length e1 fs.length e2 tn st wa oa v0 V ht (by omega) (by omega) hV)
 have hul : (wakeAllT (waitersM ts wa oa) ts tn v0).length = ts.length := wakeAllT_length _ _ _ _
 have hLt : (waitersM ts wa oa).length ≤ ts.length := lineM_length _ _ _
 generalize wakeAllT (waitersM ts wa oa) ts tn v0 = us at *
 generalize (waitersM ts wa oa).length = nL at *
 have HY := hide (⟨hp, trivial⟩ : _ ∧ True)
 clear hp
 have H := hide h
 clear h
 go_enter Tryz.func13, Tryz.ntmps13
 go_wp2_with fail
 generalize hW : ((w.alloc _).alloc _).alloc _ = W1
 have M := Sep.e3 hW
 clear hW
 obtain ⟨tR, Ab, Bc, Ae, Ai, Ad, As, Ac, Ar, Aa, Az⟩ := M.f5 0 rfl
 obtain ⟨tX, Bd, Al, Av, Aj, Ah, Au, Ak, An, Aq, Bb⟩ := M.f5 1 rfl
 obtain ⟨tP, Aw, Ag, At, Ap, Ao, Af, Am, Ay, Ba, Ax⟩ := M.f5 2 rfl
 go_wp2_with fail
 go_call (sPoolOk_v a b c d e ts ks fs A0 A1 A2 c0 c1 c2 tn st true HY.out.1 _ ht hk hf (H.out.below M.below)) as r W2 ⟨rfl, g1⟩
 clear tR Ab Bc Ae Ai Ad As Ac Ar Aa Az tX Bd Al Av Aj Ah Au Ak An Aq Bb tP Aw Ag At Ap Ao Af Am Ay Ba Ax
 replace M := M.call g1
 clear g1
 obtain ⟨tR, Ab, Bc, Ae, Ai, Ad, As, Ac, Ar, Aa, Az⟩ := M.f5 0 rfl
 obtain ⟨tX, Bd, Al, Av, Aj, Ah, Au, Ak, An, Aq, Bb⟩ := M.f5 1 rfl
 obtain ⟨tP, Aw, Ag, At, Ap, Ao, Af, Am, Ay, Ba, Ax⟩ := M.f5 2 rfl
 go_wp2_with fail
 go_call (l3Copy_s ts ks fs A0 A1 A2 c0 c1 c2 tn st _ ht hk hf (H.out.below M.below)) as r W3 ⟨C0, C1, C2, e0, e1, e2, rfl, g1⟩
 clear tR Ab Bc Ae Ai Ad As Ac Ar Aa Az tX Bd Al Av Aj Ah Au Ak An Aq Bb tP Aw Ag At Ap Ao Af Am Ay Ba Ax
 replace M := Sep.new M g1
 simp only [List.cons_append, List.nil_append] at M
 clear g1
 obtain ⟨tR, Ab, Bc, Ae, Ai, Ad, As, Ac, Ar, Aa, Az⟩ := M.f5 3 rfl
 obtain ⟨tX, Bd, Al, Av, Aj, Ah, Au, Ak, An, Aq, Bb⟩ := M.f5 4 rfl
 obtain ⟨tP, Aw, Ag, At, Ap, Ao, Af, Am, Ay, Ba, Ax⟩ := M.f5 5 rfl
 go_wp2_with fail
 go_call (hW.out C0 C1 C2 e0 e1 e2 _ (M.here _ (List.mem_cons_self))) as r W4 ⟨rfl, g1⟩
 clear tR Ab Bc Ae Ai Ad As Ac Ar Aa Az tX Bd Al Av Aj Ah Au Ak An Aq Bb tP Aw Ag At Ap Ao Af Am Ay Ba Ax
 replace M := Sep.comp (ps := [rT ts.length C0 e0 ts]) M g1
 simp only [List.cons_append, List.nil_append] at M
 clear g1
 clear hW
 obtain ⟨tR, Ab, Bc, Ae, Ai, Ad, As, Ac, Ar, Aa, Az⟩ := M.f5 3 rfl
 obtain ⟨tX, Bd, Al, Av, Aj, Ah, Au, Ak, An, Aq, Bb⟩ := M.f5 4 rfl
 obtain ⟨tP, Aw, Ag, At, Ap, Ao, Af, Am, Ay, Ba, Ax⟩ := M.f5 5 rfl
 go_wp2_with fail
 clear tR Ab Bc Ae Ai Ad As Ac Ar Aa Az tX Bd Al Av Aj Ah Au Ak An Aq Bb tP Aw Ag At Ap Ao Af Am Ay Ba Ax
 have N := M.galloc 30 #[.slice C0 ts.length e0, .slice C1 ks.length e1, .slice C2 fs.length e2, .int .i64 (tn + nL), .bool st]
 clear M
 obtain ⟨W5, eW, M⟩ := N
 rw [eW]
 clear eW
 obtain ⟨tY, Bi, Bj, Bf, Bg, Bh, Bn, Bk, Bm, Be, Bl⟩ := M.f5 0 rfl
 obtain ⟨tR, Ab, Bc, Ae, Ai, Ad, As, Ac, Ar, Aa, Az⟩ := M.f5 4 rfl
 obtain ⟨tX, Bd, Al, Av, Aj, Ah, Au, Ak, An, Aq, Bb⟩ := M.f5 5 rfl
 obtain ⟨tP, Aw, Ag, At, Ap, Ao, Af, Am, Ay, Ba, Ax⟩ := M.f5 6 rfl
 go_wp2_with fail
 go_call (l1Value_v v0 false hv _) as r W ⟨rfl, rfl⟩
 go_wp2_with fail
 go_call (l3Copy_s ts ks fs A0 A1 A2 c0 c1 c2 tn st _ ht hk hf (H.out.below M.below)) as r W6 ⟨D0, D1, D2, f0, f1, f2, rfl, g1⟩
 clear tY Bi Bj Bf Bg Bh Bn Bk Bm Be Bl tR Ab Bc Ae Ai Ad As Ac Ar Aa Az tX Bd Al Av Aj Ah Au Ak An Aq Bb tP Aw Ag At Ap Ao Af Am Ay Ba Ax
 replace M := Sep.new M g1
 simp only [List.cons_append, List.nil_append] at M
 clear g1
 obtain ⟨tY, Bi, Bj, Bf, Bg, Bh, Bn, Bk, Bm, Be, Bl⟩ := M.f5 3 rfl
 obtain ⟨tR, Ab, Bc, Ae, Ai, Ad, As, Ac, Ar, Aa, Az⟩ := M.f5 7 rfl
 obtain ⟨tX, Bd, Al, Av, Aj, Ah, Au, Ak, An, Aq, Bb⟩ := M.f5 8 rfl
 obtain ⟨tP, Aw, Ag, At, Ap, Ao, Af, Am, Ay, Ba, Ax⟩ := M.f5 9 rfl
 go_wp2_with fail
 clear tY Bi Bj Bf Bg Bh Bn Bk Bm Be Bl tR Ab Bc Ae Ai Ad As Ac Ar Aa Az tX Bd Al Av Aj Ah Au Ak An Aq Bb tP Aw Ag At Ap Ao Af Am Ay Ba Ax
 have N := M.gset5 7 rfl (.slice D0 ts.length f0) (.slice D1 ks.length f1) (.slice D2 fs.length f2) (.int .i64 tn) (.bool st)
 clear M
 obtain ⟨W7, eW, M⟩ := N
 rw [eW]
 clear eW
 simp only [List.set_cons_zero, List.set_cons_succ] at M
 obtain ⟨tR, Ab, Ae, Ad, Ac, Aa⟩ := M.q5 7 rfl
 exact bodyPost_ret (by simp [results, Tryz.results13, go_sem, Ab, Ae, Ad, Ac, Aa]) rfl ⟨D0, D1, D2, f0, f1, f2, rfl, M.take 3⟩
set_option maxHeartbeats 800000 in
theorem sWokenAll_none_yes (a b c d e : Int) (ts : List T7) (ks : List Int) (fs : List F2) (A0 A1 A2 : Option Addr) (c0 c1 c2 : Nat) (tn : Int) (st : Bool) (wa : Int) (oa : Int) (v0 : Int) (w : World) (ht : ts.length ≤ 1048576) (hk : ks.length ≤ 1048576) (hf : fs.length ≤ 1048576) (h : InPool w ts ks fs A0 A1 A2) (hp : poolB a b c d e ts ks fs tn = true) (hn : ¬ (0 : Int) < ((waitersM ts wa oa).length : Int)) (hz : poolB a b c d e (wakeAllT (waitersM ts wa oa) ts tn v0) ks fs (tn + ((waitersM ts wa oa).length : Int)) = true) :
 Calls Tryz.prog 13 #[.agg #[.int .i64 a, .int .i64 b, .int .i64 c, .int .i64 d, .int .i64 e], .agg #[.slice A0 ts.length c0, .slice A1 ks.length c1, .slice A2 fs.length c2, .int .i64 tn, .bool st], .int .i64 wa, .int .i64 oa, .int .i64 v0] w (GaveI (wakeAllT (waitersM ts wa oa) ts tn v0) ks fs (tn + ((waitersM ts wa oa).length : Int)) st ((waitersM ts wa oa).length : Int) w) := by
 have tb : 0 ≤ tn ∧ tn ≤ 1000000 := by
  have h1 := hp
  simp only [poolB, Bool.and_eq_true] at h1
  have h2 := h1.2.1
  simp [btw] at h2
  exact h2
 obtain ⟨tb0, tb1⟩ := tb
 have hW : Hid (∀ (C0 C1 C2 : Option Addr) (e0 e1 e2 : Nat) (V : World), (rT ts.length C0 e0 ts).here V → Calls Tryz.prog 53 #[.agg #[.slice C0 ts.length e0, .slice C1 ks.length e1, .slice C2 fs.length e2, .int .i64 tn, .bool st], .int .i64 wa, .int .i64 oa, .int .i64 v0] V fun r w' => r = .returned (.tuple #[.agg #[.slice C0 ts.length e0, .slice C1 ks.length e1, .slice C2 fs.length e2, .int .i64 (tn + ((waitersM ts wa oa).length : Int)), .bool st], .int .i64 ((waitersM ts wa oa).length : Int)]) ∧ Sep (fps [rT ts.length C0 e0 ts]) V w' [rT ts.length C0 e0 (wakeAllT (waitersM ts wa oa) ts tn v0)]) := hide (fun C0 C1 C2 e0 e1 e2 V hV => l5WakeAll_s ts ts.length rfl C0 C1 C2 e0 ks.length e1 fs.length e2 tn st wa oa v0 V ht (by omega) (by omega) hV)
 have hul : (wakeAllT (waitersM ts wa oa) ts tn v0).length = ts.length := wakeAllT_length _ _ _ _
 have hLt : (waitersM ts wa oa).length ≤ ts.length := lineM_length _ _ _
 generalize wakeAllT (waitersM ts wa oa) ts tn v0 = us at *
 generalize (waitersM ts wa oa).length = nL at *
 have HY := hide (⟨hp, hz, trivial⟩ : _ ∧ _ ∧ True)
 clear hp hz
 have H := hide h
 clear h
 go_enter Tryz.func13, Tryz.ntmps13
 go_wp2_with fail
 generalize hW : ((w.alloc _).alloc _).alloc _ = W1
 have M := Sep.e3 hW
 clear hW
 obtain ⟨tR, Ab, Bc, Ae, Ai, Ad, As, Ac, Ar, Aa, Az⟩ := M.f5 0 rfl
 obtain ⟨tX, Bd, Al, Av, Aj, Ah, Au, Ak, An, Aq, Bb⟩ := M.f5 1 rfl
 obtain ⟨tP, Aw, Ag, At, Ap, Ao, Af, Am, Ay, Ba, Ax⟩ := M.f5 2 rfl
 go_wp2_with fail
 go_call (sPoolOk_v a b c d e ts ks fs A0 A1 A2 c0 c1 c2 tn st true HY.out.1 _ ht hk hf (H.out.below M.below)) as r W2 ⟨rfl, g1⟩
 clear tR Ab Bc Ae Ai Ad As Ac Ar Aa Az tX Bd Al Av Aj Ah Au Ak An Aq Bb tP Aw Ag At Ap Ao Af Am Ay Ba Ax
 replace M := M.call g1
 clear g1
 obtain ⟨tR, Ab, Bc, Ae, Ai, Ad, As, Ac, Ar, Aa, Az⟩ := M.f5 0 rfl
 obtain ⟨tX, Bd, Al, Av, Aj, Ah, Au, Ak, An, Aq, Bb⟩ := M.f5 1 rfl
 obtain ⟨tP, Aw, Ag, At, Ap, Ao, Af, Am, Ay, Ba, Ax⟩ := M.f5 2 rfl
 go_wp2_with fail
 go_call (l3Copy_s ts ks fs A0 A1 A2 c0 c1 c2 tn st _ ht hk hf (H.out.below M.below)) as r W3 ⟨C0, C1, C2, e0, e1, e2, rfl, g1⟩
 clear tR Ab Bc Ae Ai Ad As Ac Ar Aa Az tX Bd Al Av Aj Ah Au Ak An Aq Bb tP Aw Ag At Ap Ao Af Am Ay Ba Ax
 replace M := Sep.new M g1
 simp only [List.cons_append, List.nil_append] at M
 clear g1
 obtain ⟨tR, Ab, Bc, Ae, Ai, Ad, As, Ac, Ar, Aa, Az⟩ := M.f5 3 rfl
 obtain ⟨tX, Bd, Al, Av, Aj, Ah, Au, Ak, An, Aq, Bb⟩ := M.f5 4 rfl
 obtain ⟨tP, Aw, Ag, At, Ap, Ao, Af, Am, Ay, Ba, Ax⟩ := M.f5 5 rfl
 go_wp2_with fail
 go_call (hW.out C0 C1 C2 e0 e1 e2 _ (M.here _ (List.mem_cons_self))) as r W4 ⟨rfl, g1⟩
 clear tR Ab Bc Ae Ai Ad As Ac Ar Aa Az tX Bd Al Av Aj Ah Au Ak An Aq Bb tP Aw Ag At Ap Ao Af Am Ay Ba Ax
 replace M := Sep.comp (ps := [rT ts.length C0 e0 ts]) M g1
 simp only [List.cons_append, List.nil_append] at M
 clear g1
 clear hW
 obtain ⟨tR, Ab, Bc, Ae, Ai, Ad, As, Ac, Ar, Aa, Az⟩ := M.f5 3 rfl
 obtain ⟨tX, Bd, Al, Av, Aj, Ah, Au, Ak, An, Aq, Bb⟩ := M.f5 4 rfl
 obtain ⟨tP, Aw, Ag, At, Ap, Ao, Af, Am, Ay, Ba, Ax⟩ := M.f5 5 rfl
 go_wp2_with fail
 clear tR Ab Bc Ae Ai Ad As Ac Ar Aa Az tX Bd Al Av Aj Ah Au Ak An Aq Bb tP Aw Ag At Ap Ao Af Am Ay Ba Ax
 have N := M.galloc 30 #[.slice C0 ts.length e0, .slice C1 ks.length e1, .slice C2 fs.length e2, .int .i64 (tn + nL), .bool st]
 clear M
 obtain ⟨W5, eW, M⟩ := N
 rw [eW]
 clear eW
 obtain ⟨tY, Bi, Bj, Bf, Bg, Bh, Bn, Bk, Bm, Be, Bl⟩ := M.f5 0 rfl
 obtain ⟨tR, Ab, Bc, Ae, Ai, Ad, As, Ac, Ar, Aa, Az⟩ := M.f5 4 rfl
 obtain ⟨tX, Bd, Al, Av, Aj, Ah, Au, Ak, An, Aq, Bb⟩ := M.f5 5 rfl
 obtain ⟨tP, Aw, Ag, At, Ap, Ao, Af, Am, Ay, Ba, Ax⟩ := M.f5 6 rfl
 go_wp2_with fail
 clear tY Bi Bj Bf Bg Bh Bn Bk Bm Be Bl tR Ab Bc Ae Ai Ad As Ac Ar Aa Az tX Bd Al Av Aj Ah Au Ak An Aq Bb tP Aw Ag At Ap Ao Af Am Ay Ba Ax
 replace M := M.front 3 rfl
 simp only [List.eraseIdx_cons_succ, List.eraseIdx_cons_zero] at M
 replace M := M.front 3 rfl
 simp only [List.eraseIdx_cons_succ, List.eraseIdx_cons_zero] at M
 replace M := M.front 3 rfl
 simp only [List.eraseIdx_cons_succ, List.eraseIdx_cons_zero] at M
 have hE := either_yes a b c d e ts ks fs A0 A1 A2 c0 c1 c2 tn st us ks fs C0 C1 C2 e0 e1 e2 (tn + nL) st _ ht hk hf (by omega) hk hf (H.out.below M.below) (by rw [hul]; exact Sep.same (ps := [rT ts.length C0 e0 us, rK ks.length C1 e1 ks, rF fs.length C2 e2 fs]) (rs := [.blk (W4.heap.size) 30 #[.slice C0 ts.length e0, .slice C1 ks.length e1, .slice C2 fs.length e2, .int .i64 (tn + nL), .bool st], .blk (w.heap.size + 2) 30 #[.slice none 0 0, .slice none 0 0, .slice none 0 0, .int .i64 0, .bool false], .blk (w.heap.size + 1) 30 #[.slice A0 ts.length c0, .slice A1 ks.length c1, .slice A2 fs.length c2, .int .i64 tn, .bool st], .blk (w.heap.size) 25 #[.int .i64 a, .int .i64 b, .int .i64 c, .int .i64 d, .int .i64 e]]) M (Below.refl _ _)) HY.out.2.1
 rw [hul] at hE
 refine Calls.mono (by with_reducible exact hE) ?_
 clear hE
 rintro r W6 ⟨D0, D1, D2, f0, f1, f2, rfl, g1⟩
 replace M : Sep [] w W6 [rT ts.length D0 f0 us, rK ks.length D1 f1 ks, rF fs.length D2 f2 fs, .blk (W4.heap.size) 30 #[.slice C0 ts.length e0, .slice C1 ks.length e1, .slice C2 fs.length e2, .int .i64 (tn + nL), .bool st], .blk (w.heap.size + 2) 30 #[.slice none 0 0, .slice none 0 0, .slice none 0 0, .int .i64 0, .bool false], .blk (w.heap.size + 1) 30 #[.slice A0 ts.length c0, .slice A1 ks.length c1, .slice A2 fs.length c2, .int .i64 tn, .bool st], .blk (w.heap.size) 25 #[.int .i64 a, .int .i64 b, .int .i64 c, .int .i64 d, .int .i64 e]] := Sep.comp (ps := [rT ts.length C0 e0 us, rK ks.length C1 e1 ks, rF fs.length C2 e2 fs]) (rs := [.blk (W4.heap.size) 30 #[.slice C0 ts.length e0, .slice C1 ks.length e1, .slice C2 fs.length e2, .int .i64 (tn + nL), .bool st], .blk (w.heap.size + 2) 30 #[.slice none 0 0, .slice none 0 0, .slice none 0 0, .int .i64 0, .bool false], .blk (w.heap.size + 1) 30 #[.slice A0 ts.length c0, .slice A1 ks.length c1, .slice A2 fs.length c2, .int .i64 tn, .bool st], .blk (w.heap.size) 25 #[.int .i64 a, .int .i64 b, .int .i64 c, .int .i64 d, .int .i64 e]]) M g1
 clear g1
 obtain ⟨tY, Bi, Bj, Bf, Bg, Bh, Bn, Bk, Bm, Be, Bl⟩ := M.f5 3 rfl
 obtain ⟨tR, Ab, Bc, Ae, Ai, Ad, As, Ac, Ar, Aa, Az⟩ := M.f5 4 rfl
 obtain ⟨tX, Bd, Al, Av, Aj, Ah, Au, Ak, An, Aq, Bb⟩ := M.f5 5 rfl
 obtain ⟨tP, Aw, Ag, At, Ap, Ao, Af, Am, Ay, Ba, Ax⟩ := M.f5 6 rfl
 go_simp
 iterate 12 (first | go_values | go_skip | go_guarded | go_step | go_upon | go_simp)
 clear tY Bi Bj Bf Bg Bh Bn Bk Bm Be Bl tR Ab Bc Ae Ai Ad As Ac Ar Aa Az tX Bd Al Av Aj Ah Au Ak An Aq Bb tP Aw Ag At Ap Ao Af Am Ay Ba Ax
 have N := M.gset5 3 rfl (.slice D0 ts.length f0) (.slice D1 ks.length f1) (.slice D2 fs.length f2) (.int .i64 (tn + nL)) (.bool st)
 clear M
 obtain ⟨W7, eW, M⟩ := N
 rw [eW]
 clear eW
 simp only [List.set_cons_zero, List.set_cons_succ] at M
 obtain ⟨tY, Bi, Bj, Bf, Bg, Bh, Bn, Bk, Bm, Be, Bl⟩ := M.f5 3 rfl
 obtain ⟨tR, Ab, Bc, Ae, Ai, Ad, As, Ac, Ar, Aa, Az⟩ := M.f5 4 rfl
 obtain ⟨tX, Bd, Al, Av, Aj, Ah, Au, Ak, An, Aq, Bb⟩ := M.f5 5 rfl
 obtain ⟨tP, Aw, Ag, At, Ap, Ao, Af, Am, Ay, Ba, Ax⟩ := M.f5 6 rfl
 go_wp2_with fail
 clear tY Bi Bj Bf Bg Bh Bn Bk Bm Be Bl tR Ab Bc Ae Ai Ad As Ac Ar Aa Az tX Bd Al Av Aj Ah Au Ak An Aq Bb tP Aw Ag At Ap Ao Af Am Ay Ba Ax
 have N := M.gset5 4 rfl (.slice D0 ts.length f0) (.slice D1 ks.length f1) (.slice D2 fs.length f2) (.int .i64 (tn + nL)) (.bool st)
 clear M
 obtain ⟨W8, eW, M⟩ := N
 rw [eW]
 clear eW
 simp only [List.set_cons_zero, List.set_cons_succ] at M
 obtain ⟨tR, Ab, Ae, Ad, Ac, Aa⟩ := M.q5 4 rfl
 exact bodyPost_ret (v := .tuple #[.agg #[.slice D0 ts.length f0, .slice D1 ks.length f1, .slice D2 fs.length f2, .int .i64 (tn + nL), .bool st], .int .i64 nL]) (by simp [results, Tryz.results13, go_sem, Ab, Ae, Ad, Ac, Aa]) rfl (by unfold GaveI; rw [hul]; exact ⟨D0, D1, D2, f0, f1, f2, rfl, M.take 3⟩)
set_option maxHeartbeats 800000 in
theorem sWokenAll_some_yes (a b c d e : Int) (ts : List T7) (ks : List Int) (fs : List F2) (A0 A1 A2 : Option Addr) (c0 c1 c2 : Nat) (tn : Int) (st : Bool) (wa : Int) (oa : Int) (v0 : Int) (w : World) (ht : ts.length ≤ 1048576) (hk : ks.length ≤ 1048576) (hf : fs.length ≤ 1048576) (h : InPool w ts ks fs A0 A1 A2) (hp : poolB a b c d e ts ks fs tn = true) (hn : (0 : Int) < ((waitersM ts wa oa).length : Int)) (hv : btw v0 0 9999 = true) (hz : poolB a b c d e (wakeAllT (waitersM ts wa oa) ts tn v0) ks fs (tn + ((waitersM ts wa oa).length : Int)) = true) :
 Calls Tryz.prog 13 #[.agg #[.int .i64 a, .int .i64 b, .int .i64 c, .int .i64 d, .int .i64 e], .agg #[.slice A0 ts.length c0, .slice A1 ks.length c1, .slice A2 fs.length c2, .int .i64 tn, .bool st], .int .i64 wa, .int .i64 oa, .int .i64 v0] w (GaveI (wakeAllT (waitersM ts wa oa) ts tn v0) ks fs (tn + ((waitersM ts wa oa).length : Int)) st ((waitersM ts wa oa).length : Int) w) := by
 have tb : 0 ≤ tn ∧ tn ≤ 1000000 := by
  have h1 := hp
  simp only [poolB, Bool.and_eq_true] at h1
  have h2 := h1.2.1
  simp [btw] at h2
  exact h2
 obtain ⟨tb0, tb1⟩ := tb
 have hW : Hid (∀ (C0 C1 C2 : Option Addr) (e0 e1 e2 : Nat) (V : World), (rT ts.length C0 e0 ts).here V → Calls Tryz.prog 53 #[.agg #[.slice C0 ts.length e0, .slice C1 ks.length e1, .slice C2 fs.length e2, .int .i64 tn, .bool st], .int .i64 wa, .int .i64 oa, .int .i64 v0] V fun r w' => r = .returned (.tuple #[.agg #[.slice C0 ts.length e0, .slice C1 ks.length e1, .slice C2 fs.length e2, .int .i64 (tn + ((waitersM ts wa oa).length : Int)), .bool st], .int .i64 ((waitersM ts wa oa).length : Int)]) ∧ Sep (fps [rT ts.length C0 e0 ts]) V w' [rT ts.length C0 e0 (wakeAllT (waitersM ts wa oa) ts tn v0)]) := hide (fun C0 C1 C2 e0 e1 e2 V hV => l5WakeAll_s ts ts.length rfl C0 C1 C2 e0 ks.length e1 fs.length e2 tn st wa oa v0 V ht (by omega) (by omega) hV)
 have hul : (wakeAllT (waitersM ts wa oa) ts tn v0).length = ts.length := wakeAllT_length _ _ _ _
 have hLt : (waitersM ts wa oa).length ≤ ts.length := lineM_length _ _ _
 generalize wakeAllT (waitersM ts wa oa) ts tn v0 = us at *
 generalize (waitersM ts wa oa).length = nL at *
 have HY := hide (⟨hp, hz, trivial⟩ : _ ∧ _ ∧ True)
 clear hp hz
 have H := hide h
 clear h
 go_enter Tryz.func13, Tryz.ntmps13
 go_wp2_with fail
 generalize hW : ((w.alloc _).alloc _).alloc _ = W1
 have M := Sep.e3 hW
 clear hW
 obtain ⟨tR, Ab, Bc, Ae, Ai, Ad, As, Ac, Ar, Aa, Az⟩ := M.f5 0 rfl
 obtain ⟨tX, Bd, Al, Av, Aj, Ah, Au, Ak, An, Aq, Bb⟩ := M.f5 1 rfl
 obtain ⟨tP, Aw, Ag, At, Ap, Ao, Af, Am, Ay, Ba, Ax⟩ := M.f5 2 rfl
 go_wp2_with fail
 go_call (sPoolOk_v a b c d e ts ks fs A0 A1 A2 c0 c1 c2 tn st true HY.out.1 _ ht hk hf (H.out.below M.below)) as r W2 ⟨rfl, g1⟩
 clear tR Ab Bc Ae Ai Ad As Ac Ar Aa Az tX Bd Al Av Aj Ah Au Ak An Aq Bb tP Aw Ag At Ap Ao Af Am Ay Ba Ax
 replace M := M.call g1
 clear g1
 obtain ⟨tR, Ab, Bc, Ae, Ai, Ad, As, Ac, Ar, Aa, Az⟩ := M.f5 0 rfl
 obtain ⟨tX, Bd, Al, Av, Aj, Ah, Au, Ak, An, Aq, Bb⟩ := M.f5 1 rfl
 obtain ⟨tP, Aw, Ag, At, Ap, Ao, Af, Am, Ay, Ba, Ax⟩ := M.f5 2 rfl
 go_wp2_with fail
 go_call (l3Copy_s ts ks fs A0 A1 A2 c0 c1 c2 tn st _ ht hk hf (H.out.below M.below)) as r W3 ⟨C0, C1, C2, e0, e1, e2, rfl, g1⟩
 clear tR Ab Bc Ae Ai Ad As Ac Ar Aa Az tX Bd Al Av Aj Ah Au Ak An Aq Bb tP Aw Ag At Ap Ao Af Am Ay Ba Ax
 replace M := Sep.new M g1
 simp only [List.cons_append, List.nil_append] at M
 clear g1
 obtain ⟨tR, Ab, Bc, Ae, Ai, Ad, As, Ac, Ar, Aa, Az⟩ := M.f5 3 rfl
 obtain ⟨tX, Bd, Al, Av, Aj, Ah, Au, Ak, An, Aq, Bb⟩ := M.f5 4 rfl
 obtain ⟨tP, Aw, Ag, At, Ap, Ao, Af, Am, Ay, Ba, Ax⟩ := M.f5 5 rfl
 go_wp2_with fail
 go_call (hW.out C0 C1 C2 e0 e1 e2 _ (M.here _ (List.mem_cons_self))) as r W4 ⟨rfl, g1⟩
 clear tR Ab Bc Ae Ai Ad As Ac Ar Aa Az tX Bd Al Av Aj Ah Au Ak An Aq Bb tP Aw Ag At Ap Ao Af Am Ay Ba Ax
 replace M := Sep.comp (ps := [rT ts.length C0 e0 ts]) M g1
 simp only [List.cons_append, List.nil_append] at M
 clear g1
 clear hW
 obtain ⟨tR, Ab, Bc, Ae, Ai, Ad, As, Ac, Ar, Aa, Az⟩ := M.f5 3 rfl
 obtain ⟨tX, Bd, Al, Av, Aj, Ah, Au, Ak, An, Aq, Bb⟩ := M.f5 4 rfl
 obtain ⟨tP, Aw, Ag, At, Ap, Ao, Af, Am, Ay, Ba, Ax⟩ := M.f5 5 rfl
 go_wp2_with fail
 clear tR Ab Bc Ae Ai Ad As Ac Ar Aa Az tX Bd Al Av Aj Ah Au Ak An Aq Bb tP Aw Ag At Ap Ao Af Am Ay Ba Ax
 have N := M.galloc 30 #[.slice C0 ts.length e0, .slice C1 ks.length e1, .slice C2 fs.length e2, .int .i64 (tn + nL), .bool st]
 clear M
 obtain ⟨W5, eW, M⟩ := N
 rw [eW]
 clear eW
 obtain ⟨tY, Bi, Bj, Bf, Bg, Bh, Bn, Bk, Bm, Be, Bl⟩ := M.f5 0 rfl
 obtain ⟨tR, Ab, Bc, Ae, Ai, Ad, As, Ac, Ar, Aa, Az⟩ := M.f5 4 rfl
 obtain ⟨tX, Bd, Al, Av, Aj, Ah, Au, Ak, An, Aq, Bb⟩ := M.f5 5 rfl
 obtain ⟨tP, Aw, Ag, At, Ap, Ao, Af, Am, Ay, Ba, Ax⟩ := M.f5 6 rfl
 go_wp2_with fail
 go_call (l1Value_v v0 true hv _) as r W ⟨rfl, rfl⟩
 go_wp2_with fail
 clear tY Bi Bj Bf Bg Bh Bn Bk Bm Be Bl tR Ab Bc Ae Ai Ad As Ac Ar Aa Az tX Bd Al Av Aj Ah Au Ak An Aq Bb tP Aw Ag At Ap Ao Af Am Ay Ba Ax
 replace M := M.front 3 rfl
 simp only [List.eraseIdx_cons_succ, List.eraseIdx_cons_zero] at M
 replace M := M.front 3 rfl
 simp only [List.eraseIdx_cons_succ, List.eraseIdx_cons_zero] at M
 replace M := M.front 3 rfl
 simp only [List.eraseIdx_cons_succ, List.eraseIdx_cons_zero] at M
 have hE := either_yes a b c d e ts ks fs A0 A1 A2 c0 c1 c2 tn st us ks fs C0 C1 C2 e0 e1 e2 (tn + nL) st _ ht hk hf (by omega) hk hf (H.out.below M.below) (by rw [hul]; exact Sep.same (ps := [rT ts.length C0 e0 us, rK ks.length C1 e1 ks, rF fs.length C2 e2 fs]) (rs := [.blk (W4.heap.size) 30 #[.slice C0 ts.length e0, .slice C1 ks.length e1, .slice C2 fs.length e2, .int .i64 (tn + nL), .bool st], .blk (w.heap.size + 2) 30 #[.slice none 0 0, .slice none 0 0, .slice none 0 0, .int .i64 0, .bool false], .blk (w.heap.size + 1) 30 #[.slice A0 ts.length c0, .slice A1 ks.length c1, .slice A2 fs.length c2, .int .i64 tn, .bool st], .blk (w.heap.size) 25 #[.int .i64 a, .int .i64 b, .int .i64 c, .int .i64 d, .int .i64 e]]) M (Below.refl _ _)) HY.out.2.1
 rw [hul] at hE
 refine Calls.mono (by with_reducible exact hE) ?_
 clear hE
 rintro r W6 ⟨D0, D1, D2, f0, f1, f2, rfl, g1⟩
 replace M : Sep [] w W6 [rT ts.length D0 f0 us, rK ks.length D1 f1 ks, rF fs.length D2 f2 fs, .blk (W4.heap.size) 30 #[.slice C0 ts.length e0, .slice C1 ks.length e1, .slice C2 fs.length e2, .int .i64 (tn + nL), .bool st], .blk (w.heap.size + 2) 30 #[.slice none 0 0, .slice none 0 0, .slice none 0 0, .int .i64 0, .bool false], .blk (w.heap.size + 1) 30 #[.slice A0 ts.length c0, .slice A1 ks.length c1, .slice A2 fs.length c2, .int .i64 tn, .bool st], .blk (w.heap.size) 25 #[.int .i64 a, .int .i64 b, .int .i64 c, .int .i64 d, .int .i64 e]] := Sep.comp (ps := [rT ts.length C0 e0 us, rK ks.length C1 e1 ks, rF fs.length C2 e2 fs]) (rs := [.blk (W4.heap.size) 30 #[.slice C0 ts.length e0, .slice C1 ks.length e1, .slice C2 fs.length e2, .int .i64 (tn + nL), .bool st], .blk (w.heap.size + 2) 30 #[.slice none 0 0, .slice none 0 0, .slice none 0 0, .int .i64 0, .bool false], .blk (w.heap.size + 1) 30 #[.slice A0 ts.length c0, .slice A1 ks.length c1, .slice A2 fs.length c2, .int .i64 tn, .bool st], .blk (w.heap.size) 25 #[.int .i64 a, .int .i64 b, .int .i64 c, .int .i64 d, .int .i64 e]]) M g1
 clear g1
 obtain ⟨tY, Bi, Bj, Bf, Bg, Bh, Bn, Bk, Bm, Be, Bl⟩ := M.f5 3 rfl
 obtain ⟨tR, Ab, Bc, Ae, Ai, Ad, As, Ac, Ar, Aa, Az⟩ := M.f5 4 rfl
 obtain ⟨tX, Bd, Al, Av, Aj, Ah, Au, Ak, An, Aq, Bb⟩ := M.f5 5 rfl
 obtain ⟨tP, Aw, Ag, At, Ap, Ao, Af, Am, Ay, Ba, Ax⟩ := M.f5 6 rfl
 go_simp
 iterate 12 (first | go_values | go_skip | go_guarded | go_step | go_upon | go_simp)
 clear tY Bi Bj Bf Bg Bh Bn Bk Bm Be Bl tR Ab Bc Ae Ai Ad As Ac Ar Aa Az tX Bd Al Av Aj Ah Au Ak An Aq Bb tP Aw Ag At Ap Ao Af Am Ay Ba Ax
 have N := M.gset5 3 rfl (.slice D0 ts.length f0) (.slice D1 ks.length f1) (.slice D2 fs.length f2) (.int .i64 (tn + nL)) (.bool st)
 clear M
 obtain ⟨W7, eW, M⟩ := N
 rw [eW]
 clear eW
 simp only [List.set_cons_zero, List.set_cons_succ] at M
 obtain ⟨tY, Bi, Bj, Bf, Bg, Bh, Bn, Bk, Bm, Be, Bl⟩ := M.f5 3 rfl
 obtain ⟨tR, Ab, Bc, Ae, Ai, Ad, As, Ac, Ar, Aa, Az⟩ := M.f5 4 rfl
 obtain ⟨tX, Bd, Al, Av, Aj, Ah, Au, Ak, An, Aq, Bb⟩ := M.f5 5 rfl
 obtain ⟨tP, Aw, Ag, At, Ap, Ao, Af, Am, Ay, Ba, Ax⟩ := M.f5 6 rfl
 go_wp2_with fail
 clear tY Bi Bj Bf Bg Bh Bn Bk Bm Be Bl tR Ab Bc Ae Ai Ad As Ac Ar Aa Az tX Bd Al Av Aj Ah Au Ak An Aq Bb tP Aw Ag At Ap Ao Af Am Ay Ba Ax
 have N := M.gset5 4 rfl (.slice D0 ts.length f0) (.slice D1 ks.length f1) (.slice D2 fs.length f2) (.int .i64 (tn + nL)) (.bool st)
 clear M
 obtain ⟨W8, eW, M⟩ := N
 rw [eW]
 clear eW
 simp only [List.set_cons_zero, List.set_cons_succ] at M
 obtain ⟨tR, Ab, Ae, Ad, Ac, Aa⟩ := M.q5 4 rfl
 exact bodyPost_ret (v := .tuple #[.agg #[.slice D0 ts.length f0, .slice D1 ks.length f1, .slice D2 fs.length f2, .int .i64 (tn + nL), .bool st], .int .i64 nL]) (by simp [results, Tryz.results13, go_sem, Ab, Ae, Ad, Ac, Aa]) rfl (by unfold GaveI; rw [hul]; exact ⟨D0, D1, D2, f0, f1, f2, rfl, M.take 3⟩)
set_option maxHeartbeats 800000 in
theorem sWokenAll_some_full (a b c d e : Int) (ts : List T7) (ks : List Int) (fs : List F2) (A0 A1 A2 : Option Addr) (c0 c1 c2 : Nat) (tn : Int) (st : Bool) (wa : Int) (oa : Int) (v0 : Int) (w : World) (ht : ts.length ≤ 1048576) (hk : ks.length ≤ 1048576) (hf : fs.length ≤ 1048576) (h : InPool w ts ks fs A0 A1 A2) (hp : poolB a b c d e ts ks fs tn = true) (hn : (0 : Int) < ((waitersM ts wa oa).length : Int)) (hv : btw v0 0 9999 = true) (hz : poolB a b c d e (wakeAllT (waitersM ts wa oa) ts tn v0) ks fs (tn + ((waitersM ts wa oa).length : Int)) = false) :
 Calls Tryz.prog 13 #[.agg #[.int .i64 a, .int .i64 b, .int .i64 c, .int .i64 d, .int .i64 e], .agg #[.slice A0 ts.length c0, .slice A1 ks.length c1, .slice A2 fs.length c2, .int .i64 tn, .bool st], .int .i64 wa, .int .i64 oa, .int .i64 v0] w (GaveI ts ks fs tn st (-1) w) := by
 have tb : 0 ≤ tn ∧ tn ≤ 1000000 := by
  have h1 := hp
  simp only [poolB, Bool.and_eq_true] at h1
  have h2 := h1.2.1
  simp [btw] at h2
  exact h2
 obtain ⟨tb0, tb1⟩ := tb
 have hW : Hid (∀ (C0 C1 C2 : Option Addr) (e0 e1 e2 : Nat) (V : World), (rT ts.length C0 e0 ts).here V → Calls Tryz.prog 53 #[.agg #[.slice C0 ts.length e0, .slice C1 ks.length e1, .slice C2 fs.length e2, .int .i64 tn, .bool st], .int .i64 wa, .int .i64 oa, .int .i64 v0] V fun r w' => r = .returned (.tuple #[.agg #[.slice C0 ts.length e0, .slice C1 ks.length e1, .slice C2 fs.length e2, .int .i64 (tn + ((waitersM ts wa oa).length : Int)), .bool st], .int .i64 ((waitersM ts wa oa).length : Int)]) ∧ Sep (fps [rT ts.length C0 e0 ts]) V w' [rT ts.length C0 e0 (wakeAllT (waitersM ts wa oa) ts tn v0)]) := hide (fun C0 C1 C2 e0 e1 e2 V hV => l5WakeAll_s ts ts.length rfl C0 C1 C2 e0 ks.length e1 fs.length e2 tn st wa oa v0 V ht (by omega) (by omega) hV)
 have hul : (wakeAllT (waitersM ts wa oa) ts tn v0).length = ts.length := wakeAllT_length _ _ _ _
 have hLt : (waitersM ts wa oa).length ≤ ts.length := lineM_length _ _ _
 generalize wakeAllT (waitersM ts wa oa) ts tn v0 = us at *
 generalize (waitersM ts wa oa).length = nL at *
 have HY := hide (⟨hp, hz, trivial⟩ : _ ∧ _ ∧ True)
 clear hp hz
 have H := hide h
 clear h
 go_enter Tryz.func13, Tryz.ntmps13
 go_wp2_with fail
 generalize hW : ((w.alloc _).alloc _).alloc _ = W1
 have M := Sep.e3 hW
 clear hW
 obtain ⟨tR, Ab, Bc, Ae, Ai, Ad, As, Ac, Ar, Aa, Az⟩ := M.f5 0 rfl
 obtain ⟨tX, Bd, Al, Av, Aj, Ah, Au, Ak, An, Aq, Bb⟩ := M.f5 1 rfl
 obtain ⟨tP, Aw, Ag, At, Ap, Ao, Af, Am, Ay, Ba, Ax⟩ := M.f5 2 rfl
 go_wp2_with fail
 go_call (sPoolOk_v a b c d e ts ks fs A0 A1 A2 c0 c1 c2 tn st true HY.out.1 _ ht hk hf (H.out.below M.below)) as r W2 ⟨rfl, g1⟩
 clear tR Ab Bc Ae Ai Ad As Ac Ar Aa Az tX Bd Al Av Aj Ah Au Ak An Aq Bb tP Aw Ag At Ap Ao Af Am Ay Ba Ax
 replace M := M.call g1
 clear g1
 obtain ⟨tR, Ab, Bc, Ae, Ai, Ad, As, Ac, Ar, Aa, Az⟩ := M.f5 0 rfl
 obtain ⟨tX, Bd, Al, Av, Aj, Ah, Au, Ak, An, Aq, Bb⟩ := M.f5 1 rfl
 obtain ⟨tP, Aw, Ag, At, Ap, Ao, Af, Am, Ay, Ba, Ax⟩ := M.f5 2 rfl
 go_wp2_with fail
 go_call (l3Copy_s ts ks fs A0 A1 A2 c0 c1 c2 tn st _ ht hk hf (H.out.below M.below)) as r W3 ⟨C0, C1, C2, e0, e1, e2, rfl, g1⟩
 clear tR Ab Bc Ae Ai Ad As Ac Ar Aa Az tX Bd Al Av Aj Ah Au Ak An Aq Bb tP Aw Ag At Ap Ao Af Am Ay Ba Ax
 replace M := Sep.new M g1
 simp only [List.cons_append, List.nil_append] at M
 clear g1
 obtain ⟨tR, Ab, Bc, Ae, Ai, Ad, As, Ac, Ar, Aa, Az⟩ := M.f5 3 rfl
 obtain ⟨tX, Bd, Al, Av, Aj, Ah, Au, Ak, An, Aq, Bb⟩ := M.f5 4 rfl
 obtain ⟨tP, Aw, Ag, At, Ap, Ao, Af, Am, Ay, Ba, Ax⟩ := M.f5 5 rfl
 go_wp2_with fail
 go_call (hW.out C0 C1 C2 e0 e1 e2 _ (M.here _ (List.mem_cons_self))) as r W4 ⟨rfl, g1⟩
 clear tR Ab Bc Ae Ai Ad As Ac Ar Aa Az tX Bd Al Av Aj Ah Au Ak An Aq Bb tP Aw Ag At Ap Ao Af Am Ay Ba Ax
 replace M := Sep.comp (ps := [rT ts.length C0 e0 ts]) M g1
 simp only [List.cons_append, List.nil_append] at M
 clear g1
 clear hW
 obtain ⟨tR, Ab, Bc, Ae, Ai, Ad, As, Ac, Ar, Aa, Az⟩ := M.f5 3 rfl
 obtain ⟨tX, Bd, Al, Av, Aj, Ah, Au, Ak, An, Aq, Bb⟩ := M.f5 4 rfl
 obtain ⟨tP, Aw, Ag, At, Ap, Ao, Af, Am, Ay, Ba, Ax⟩ := M.f5 5 rfl
 go_wp2_with fail
 clear tR Ab Bc Ae Ai Ad As Ac Ar Aa Az tX Bd Al Av Aj Ah Au Ak An Aq Bb tP Aw Ag At Ap Ao Af Am Ay Ba Ax
 have N := M.galloc 30 #[.slice C0 ts.length e0, .slice C1 ks.length e1, .slice C2 fs.length e2, .int .i64 (tn + nL), .bool st]
 clear M
 obtain ⟨W5, eW, M⟩ := N
 rw [eW]
 clear eW
 obtain ⟨tY, Bi, Bj, Bf, Bg, Bh, Bn, Bk, Bm, Be, Bl⟩ := M.f5 0 rfl
 obtain ⟨tR, Ab, Bc, Ae, Ai, Ad, As, Ac, Ar, Aa, Az⟩ := M.f5 4 rfl
 obtain ⟨tX, Bd, Al, Av, Aj, Ah, Au, Ak, An, Aq, Bb⟩ := M.f5 5 rfl
 obtain ⟨tP, Aw, Ag, At, Ap, Ao, Af, Am, Ay, Ba, Ax⟩ := M.f5 6 rfl
 go_wp2_with fail
 go_call (l1Value_v v0 true hv _) as r W ⟨rfl, rfl⟩
 go_wp2_with fail
 clear tY Bi Bj Bf Bg Bh Bn Bk Bm Be Bl tR Ab Bc Ae Ai Ad As Ac Ar Aa Az tX Bd Al Av Aj Ah Au Ak An Aq Bb tP Aw Ag At Ap Ao Af Am Ay Ba Ax
 replace M := M.front 3 rfl
 simp only [List.eraseIdx_cons_succ, List.eraseIdx_cons_zero] at M
 replace M := M.front 3 rfl
 simp only [List.eraseIdx_cons_succ, List.eraseIdx_cons_zero] at M
 replace M := M.front 3 rfl
 simp only [List.eraseIdx_cons_succ, List.eraseIdx_cons_zero] at M
 have hE := either_no a b c d e ts ks fs A0 A1 A2 c0 c1 c2 tn st us ks fs C0 C1 C2 e0 e1 e2 (tn + nL) st _ ht hk hf (by omega) hk hf (H.out.below M.below) (by rw [hul]; exact Sep.same (ps := [rT ts.length C0 e0 us, rK ks.length C1 e1 ks, rF fs.length C2 e2 fs]) (rs := [.blk (W4.heap.size) 30 #[.slice C0 ts.length e0, .slice C1 ks.length e1, .slice C2 fs.length e2, .int .i64 (tn + nL), .bool st], .blk (w.heap.size + 2) 30 #[.slice none 0 0, .slice none 0 0, .slice none 0 0, .int .i64 0, .bool false], .blk (w.heap.size + 1) 30 #[.slice A0 ts.length c0, .slice A1 ks.length c1, .slice A2 fs.length c2, .int .i64 tn, .bool st], .blk (w.heap.size) 25 #[.int .i64 a, .int .i64 b, .int .i64 c, .int .i64 d, .int .i64 e]]) M (Below.refl _ _)) HY.out.2.1
 rw [hul] at hE
 refine Calls.mono (by with_reducible exact hE) ?_
 clear hE
 rintro r W6 ⟨D0, D1, D2, f0, f1, f2, rfl, g1⟩
 replace M : Sep [] w W6 [rT ts.length D0 f0 ts, rK ks.length D1 f1 ks, rF fs.length D2 f2 fs, .blk (W4.heap.size) 30 #[.slice C0 ts.length e0, .slice C1 ks.length e1, .slice C2 fs.length e2, .int .i64 (tn + nL), .bool st], .blk (w.heap.size + 2) 30 #[.slice none 0 0, .slice none 0 0, .slice none 0 0, .int .i64 0, .bool false], .blk (w.heap.size + 1) 30 #[.slice A0 ts.length c0, .slice A1 ks.length c1, .slice A2 fs.length c2, .int .i64 tn, .bool st], .blk (w.heap.size) 25 #[.int .i64 a, .int .i64 b, .int .i64 c, .int .i64 d, .int .i64 e]] := Sep.comp (ps := [rT ts.length C0 e0 us, rK ks.length C1 e1 ks, rF fs.length C2 e2 fs]) (rs := [.blk (W4.heap.size) 30 #[.slice C0 ts.length e0, .slice C1 ks.length e1, .slice C2 fs.length e2, .int .i64 (tn + nL), .bool st], .blk (w.heap.size + 2) 30 #[.slice none 0 0, .slice none 0 0, .slice none 0 0, .int .i64 0, .bool false], .blk (w.heap.size + 1) 30 #[.slice A0 ts.length c0, .slice A1 ks.length c1, .slice A2 fs.length c2, .int .i64 tn, .bool st], .blk (w.heap.size) 25 #[.int .i64 a, .int .i64 b, .int .i64 c, .int .i64 d, .int .i64 e]]) M g1
 clear g1
 obtain ⟨tY, Bi, Bj, Bf, Bg, Bh, Bn, Bk, Bm, Be, Bl⟩ := M.f5 3 rfl
 obtain ⟨tR, Ab, Bc, Ae, Ai, Ad, As, Ac, Ar, Aa, Az⟩ := M.f5 4 rfl
 obtain ⟨tX, Bd, Al, Av, Aj, Ah, Au, Ak, An, Aq, Bb⟩ := M.f5 5 rfl
 obtain ⟨tP, Aw, Ag, At, Ap, Ao, Af, Am, Ay, Ba, Ax⟩ := M.f5 6 rfl
 go_simp
 iterate 12 (first | go_values | go_skip | go_guarded | go_step | go_upon | go_simp)
 clear tY Bi Bj Bf Bg Bh Bn Bk Bm Be Bl tR Ab Bc Ae Ai Ad As Ac Ar Aa Az tX Bd Al Av Aj Ah Au Ak An Aq Bb tP Aw Ag At Ap Ao Af Am Ay Ba Ax
 have N := M.gset5 3 rfl (.slice D0 ts.length f0) (.slice D1 ks.length f1) (.slice D2 fs.length f2) (.int .i64 tn) (.bool st)
 clear M
 obtain ⟨W7, eW, M⟩ := N
 rw [eW]
 clear eW
 simp only [List.set_cons_zero, List.set_cons_succ] at M
 obtain ⟨tY, Bi, Bj, Bf, Bg, Bh, Bn, Bk, Bm, Be, Bl⟩ := M.f5 3 rfl
 obtain ⟨tR, Ab, Bc, Ae, Ai, Ad, As, Ac, Ar, Aa, Az⟩ := M.f5 4 rfl
 obtain ⟨tX, Bd, Al, Av, Aj, Ah, Au, Ak, An, Aq, Bb⟩ := M.f5 5 rfl
 obtain ⟨tP, Aw, Ag, At, Ap, Ao, Af, Am, Ay, Ba, Ax⟩ := M.f5 6 rfl
 go_wp2_with fail
 clear tY Bi Bj Bf Bg Bh Bn Bk Bm Be Bl tR Ab Bc Ae Ai Ad As Ac Ar Aa Az tX Bd Al Av Aj Ah Au Ak An Aq Bb tP Aw Ag At Ap Ao Af Am Ay Ba Ax
 have N := M.gset5 4 rfl (.slice D0 ts.length f0) (.slice D1 ks.length f1) (.slice D2 fs.length f2) (.int .i64 tn) (.bool st)
 clear M
 obtain ⟨W8, eW, M⟩ := N
 rw [eW]
 clear eW
 simp only [List.set_cons_zero, List.set_cons_succ] at M
 obtain ⟨tR, Ab, Ae, Ad, Ac, Aa⟩ := M.q5 4 rfl
 exact bodyPost_ret (by simp [results, Tryz.results13, go_sem, Ab, Ae, Ad, Ac, Aa]) rfl ⟨D0, D1, D2, f0, f1, f2, rfl, M.take 3⟩
end Go.Proofs.YtfjgelegojbmgaaGreat
