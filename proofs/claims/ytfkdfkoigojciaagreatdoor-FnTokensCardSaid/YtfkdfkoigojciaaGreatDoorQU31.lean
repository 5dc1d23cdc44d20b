import Derived.Test.YtfkdfkoigojciaaGreatDoorQU12
import Derived.Test.YtfkdfkoigojciaaGreatDoorQU09

namespace Go.Proofs.YtfkdfkoigojciaaGreatDoor
open Go.RowKit
set_option linter.unusedVariables false
set_option maxHeartbeats 4000000
set_option maxRecDepth 100000
variable (a b c d e : Int) (ts : List T7) (ks : List Int) (fs : List F2) (A0 A1 A2 : Option Addr) (c0 c1 c2 : Nat) (tn : Int) (st : Bool)
theorem yielded_may (wk : Int) (w : World) (ht : ts.length ≤ 1048576) (hk : ks.length ≤ 1048576) (hf : fs.length ≤ 1048576) (h : InPool w ts ks fs A0 A1 A2) (me : Int) (hme : runM ts wk 0 = me) (hm : mayB a b c d e ts ks fs tn wk = false) :
 Calls Tryz.prog 159 #[qF a b c d e, qP ts ks fs A0 A1 A2 c0 c1 c2 tn st, .int .i64 wk] w (GaveS [] w (noO (poolB a b c d e ts ks fs tn) ts ks fs tn st 8)) := by
 unfold qF qP
 have H := hide h
 clear h
 have hNo := hide (fun V => l6No_s a b c d e ts ks fs A0 A1 A2 c0 c1 c2 tn st 8 V ht hk hf)
 generalize noO (poolB a b c d e ts ks fs tn) ts ks fs tn st 8 = o at hNo ⊢
 have HY := hide (⟨hme, hm, trivial⟩ : _ ∧ _ ∧ True)
 clear hme hm
 go_enter Tryz.func159, Tryz.ntmps159
 go_wp2_with fail
 generalize hW : (((w.alloc _).alloc _).alloc _).alloc _ = W1
 have M := Sep.e4 hW
 clear hW
 obtain ⟨tX, Ah, Ad, Ai, Ab, Ae⟩ := M.q5 2 rfl
 obtain ⟨tP, Af, Ac, Aj, Ag, Aa⟩ := M.q5 3 rfl
 go_call (sRunBy_v ts A0 A1 A2 c0 ks.length c1 fs.length c2 tn st wk me HY.out.1 _ ht (H.out.below M.below).1) as r W2 ⟨rfl, g1⟩
 clear tX Ah Ad Ai Ab Ae tP Af Ac Aj Ag Aa
 replace M := M.call g1
 clear g1
 obtain ⟨tX, Ah, Ad, Ai, Ab, Ae⟩ := M.q5 2 rfl
 obtain ⟨tP, Af, Ac, Aj, Ag, Aa⟩ := M.q5 3 rfl
 go_wp2_with fail
 go_call (l6May_v a b c d e ts ks fs A0 A1 A2 c0 c1 c2 tn st wk false HY.out.2.1 _ ht hk hf (H.out.below M.below)) as r W3 ⟨rfl, g1⟩
 clear tX Ah Ad Ai Ab Ae tP Af Ac Aj Ag Aa
 replace M := M.call g1
 clear g1
 obtain ⟨tX, Ah, Ad, Ai, Ab, Ae⟩ := M.q5 2 rfl
 obtain ⟨tP, Af, Ac, Aj, Ag, Aa⟩ := M.q5 3 rfl
 go_wp2_with fail
 go_call (hNo.out _ (H.out.below M.below)) as r W4 ⟨B0, B1, B2, d0, d1, d2, rfl, g1⟩
 clear tX Ah Ad Ai Ab Ae tP Af Ac Aj Ag Aa
 replace M := Sep.new M g1
 simp only [zC, zN] at M
 clear g1
 obtain ⟨tS, Am, At, Ao, Ar⟩ := M.f2 3 rfl
 obtain ⟨tR, Aq, As, Ap, Aw, An, Ax, Ak, Av, Al, Au⟩ := M.f5 4 rfl
 go_wp2_with fail
 clear tS Am At Ao Ar tR Aq As Ap Aw An Ax Ak Av Al Au
 replace M := M.gset5 4 rfl (.slice B0 o.ts.length d0) (.slice B1 o.ks.length d1) (.slice B2 o.fs.length d2) (.int .i64 o.tn) (.bool o.st)
 obtain ⟨W5, eW, M⟩ := M
 rw [eW]
 clear eW
 simp only [zZ, zS] at M
 replace M := M.gset2 3 rfl (.int .i64 o.rp) (.int .i64 o.ou)
 obtain ⟨W6, eW, M⟩ := M
 rw [eW]
 clear eW
 simp only [zZ, zS] at M
 obtain ⟨tS, Am, Ao⟩ := M.q2 3 rfl
 obtain ⟨tR, Aq, Ap, An, Ak, Al⟩ := M.q5 4 rfl
 exact bodyPost_ret (by simp [results, Tryz.results159, go_sem, Aq, Ap, An, Ak, Al, Am, Ao]) rfl ⟨B0, B1, B2, d0, d1, d2, rfl, M.take 3⟩
theorem yielded_none (wk : Int) (w : World) (ht : ts.length ≤ 1048576) (hk : ks.length ≤ 1048576) (hf : fs.length ≤ 1048576) (h : InPool w ts ks fs A0 A1 A2) (me : Int) (hme : runM ts wk 0 = me) (h0 : me < 0) (hm : mayB a b c d e ts ks fs tn wk = true) :
 Calls Tryz.prog 159 #[qF a b c d e, qP ts ks fs A0 A1 A2 c0 c1 c2 tn st, .int .i64 wk] w (GaveS [] w (noO (poolB a b c d e ts ks fs tn) ts ks fs tn st 2)) := by
 unfold qF qP
 have H := hide h
 clear h
 have hNo := hide (fun (V : World) (hV : InPool V ts ks fs A0 A1 A2) => l6No_s a b c d e ts ks fs A0 A1 A2 c0 c1 c2 tn st 2 V ht hk hf hV)
 generalize noO (poolB a b c d e ts ks fs tn) ts ks fs tn st 2 = o at hNo ⊢
 have HY := hide (⟨hme, hm, trivial⟩ : _ ∧ _ ∧ True)
 clear hme hm
 go_enter Tryz.func159, Tryz.ntmps159
 go_wp2_with fail
 generalize hW : (((w.alloc _).alloc _).alloc _).alloc _ = W1
 have M := Sep.e4 hW
 clear hW
 obtain ⟨tX, Ah, Ad, Ai, Ab, Ae⟩ := M.q5 2 rfl
 obtain ⟨tP, Af, Ac, Aj, Ag, Aa⟩ := M.q5 3 rfl
 go_call (sRunBy_v ts A0 A1 A2 c0 ks.length c1 fs.length c2 tn st wk me HY.out.1 _ ht (H.out.below M.below).1) as r W2 ⟨rfl, g1⟩
 clear tX Ah Ad Ai Ab Ae tP Af Ac Aj Ag Aa
 replace M := M.call g1
 clear g1
 obtain ⟨tX, Ah, Ad, Ai, Ab, Ae⟩ := M.q5 2 rfl
 obtain ⟨tP, Af, Ac, Aj, Ag, Aa⟩ := M.q5 3 rfl
 go_wp2_with fail
 go_call (l6May_v a b c d e ts ks fs A0 A1 A2 c0 c1 c2 tn st wk true HY.out.2.1 _ ht hk hf (H.out.below M.below)) as r W3 ⟨rfl, g1⟩
 clear tX Ah Ad Ai Ab Ae tP Af Ac Aj Ag Aa
 replace M := M.call g1
 clear g1
 obtain ⟨tX, Ah, Ad, Ai, Ab, Ae⟩ := M.q5 2 rfl
 obtain ⟨tP, Af, Ac, Aj, Ag, Aa⟩ := M.q5 3 rfl
 go_wp2_with fail
 go_call (hNo.out _ (H.out.below M.below)) as r W4 ⟨B0, B1, B2, d0, d1, d2, rfl, g1⟩
 clear tX Ah Ad Ai Ab Ae tP Af Ac Aj Ag Aa
 replace M := Sep.new M g1
 simp only [zC, zN] at M
 clear g1
 obtain ⟨tS, Am, At, Ao, Ar⟩ := M.f2 3 rfl
 obtain ⟨tR, Aq, As, Ap, Aw, An, Ax, Ak, Av, Al, Au⟩ := M.f5 4 rfl
 go_wp2_with fail
 clear tS Am At Ao Ar tR Aq As Ap Aw An Ax Ak Av Al Au
 replace M := M.gset5 4 rfl (.slice B0 o.ts.length d0) (.slice B1 o.ks.length d1) (.slice B2 o.fs.length d2) (.int .i64 o.tn) (.bool o.st)
 obtain ⟨W5, eW, M⟩ := M
 rw [eW]
 clear eW
 simp only [zZ, zS] at M
 replace M := M.gset2 3 rfl (.int .i64 o.rp) (.int .i64 o.ou)
 obtain ⟨W6, eW, M⟩ := M
 rw [eW]
 clear eW
 simp only [zZ, zS] at M
 obtain ⟨tS, Am, Ao⟩ := M.q2 3 rfl
 obtain ⟨tR, Aq, Ap, An, Ak, Al⟩ := M.q5 4 rfl
 exact bodyPost_ret (by simp [results, Tryz.results159, go_sem, Aq, Ap, An, Ak, Al, Am, Ao]) rfl ⟨B0, B1, B2, d0, d1, d2, rfl, M.take 3⟩
theorem yielded_main (wk : Int) (w : World) (ht : ts.length ≤ 1048576) (hk : ks.length ≤ 1048576) (hf : fs.length ≤ 1048576) (h : InPool w ts ks fs A0 A1 A2) (k : Nat) (s l o1 wt on v t : Int) (hts : ts[k]? = some ⟨s, l, o1, wt, on, v, t⟩) (hme : runM ts wk 0 = k) (hm : mayB a b c d e ts ks fs tn wk = true) :
 Calls Tryz.prog 159 #[qF a b c d e, qP ts ks fs A0 A1 A2 c0 c1 c2 tn st, .int .i64 wk] w (GaveS [] w (doneO (poolB a b c d e (ts.set k ⟨1, l, -1, wt, on, v, tn⟩) ks fs (tn + 1)) ts ks fs tn st (ts.set k ⟨1, l, -1, wt, on, v, tn⟩) ks fs (tn + 1) st 1 (k : Int))) := by
 unfold qF qP
 have H := hide h
 clear h
 have hkl : k < ts.length := by
  rcases Nat.lt_or_ge k ts.length with h1 | h1
  ·exact h1
  ·rw [List.getElem?_eq_none h1] at hts; cases hts
 have hpo : poolB a b c d e ts ks fs tn = true := by
  have h1 := hm
  simp only [mayB, Bool.and_eq_true] at h1
  exact h1.1
 have tb : 0 ≤ tn ∧ tn ≤ 1000000 := by
  have h1 := hpo
  simp only [poolB, Bool.and_eq_true] at h1
  have h2 := h1.2.1
  simp [btw] at h2
  exact h2
 obtain ⟨tb0, tb1⟩ := tb
 have hDn := hide (fun (A0x A1x A2x : Option Addr) (c0x c1x c2x : Nat) (rs : List Res) (V : World) (h1 : InPool V ts ks fs A0 A1 A2) (h2 : Sep [] w V ([rT ts.length A0x c0x (ts.set k ⟨1, l, -1, wt, on, v, tn⟩), rK ks.length A1x c1x ks, rF fs.length A2x c2x fs] ++ rs)) => l6Done_s a b c d e ts ks fs A0 A1 A2 c0 c1 c2 tn st ts.length ks.length fs.length (ts.set k ⟨1, l, -1, wt, on, v, tn⟩) ks fs A0x A1x A2x c0x c1x c2x ((tn + 1)) st 1 ((k : Int)) V (by simp) rfl rfl hpo ht hk hf ht hk hf h1 h2)
 clear hpo
 generalize doneO (poolB a b c d e (ts.set k ⟨1, l, -1, wt, on, v, tn⟩) ks fs (tn + 1)) ts ks fs tn st (ts.set k ⟨1, l, -1, wt, on, v, tn⟩) ks fs (tn + 1) st 1 (k : Int) = o at hDn ⊢
 have HY := hide (⟨hme, hm, hts, trivial⟩ : _ ∧ _ ∧ _ ∧ True)
 clear hme hm hts
 go_enter Tryz.func159, Tryz.ntmps159
 go_wp2_with fail
 generalize hW : (((w.alloc _).alloc _).alloc _).alloc _ = W1
 have M := Sep.e4 hW
 clear hW
 obtain ⟨tX, Ah, Ad, Ai, Ab, Ae⟩ := M.q5 2 rfl
 obtain ⟨tP, Af, Ac, Aj, Ag, Aa⟩ := M.q5 3 rfl
 go_call (sRunBy_v ts A0 A1 A2 c0 ks.length c1 fs.length c2 tn st wk k HY.out.1 _ ht (H.out.below M.below).1) as r W2 ⟨rfl, g1⟩
 clear tX Ah Ad Ai Ab Ae tP Af Ac Aj Ag Aa
 replace M := M.call g1
 clear g1
 obtain ⟨tX, Ah, Ad, Ai, Ab, Ae⟩ := M.q5 2 rfl
 obtain ⟨tP, Af, Ac, Aj, Ag, Aa⟩ := M.q5 3 rfl
 go_wp2_with fail
 go_call (l6May_v a b c d e ts ks fs A0 A1 A2 c0 c1 c2 tn st wk true HY.out.2.1 _ ht hk hf (H.out.below M.below)) as r W3 ⟨rfl, g1⟩
 clear tX Ah Ad Ai Ab Ae tP Af Ac Aj Ag Aa
 replace M := M.call g1
 clear g1
 obtain ⟨tX, Ah, Ad, Ai, Ab, Ae⟩ := M.q5 2 rfl
 obtain ⟨tP, Af, Ac, Aj, Ag, Aa⟩ := M.q5 3 rfl
 go_wp2_with fail
 go_call (l3Copy_s ts ks fs A0 A1 A2 c0 c1 c2 tn st _ ht hk hf (H.out.below M.below)) as r W4 ⟨C0, C1, C2, e0, e1, e2, rfl, g1⟩
 clear tX Ah Ad Ai Ab Ae tP Af Ac Aj Ag Aa
 replace M := Sep.new M g1
 simp only [zC, zN] at M
 clear g1
 obtain ⟨g, rfl, hgl, hfz⟩ := rT_form (M.here _ (List.mem_of_getElem? (show _ = some _ from rfl : [rT ts.length C0 e0 ts, rK ks.length C1 e1 ks, rF fs.length C2 e2 fs, .blk (w.heap.size + 3) 38 #[.int .i64 0, .int .i64 0], .blk (w.heap.size + 2) 35 #[.slice none 0 0, .slice none 0 0, .slice none 0 0, .int .i64 0, .bool false], .blk (w.heap.size + 1) 35 #[.slice A0 ts.length c0, .slice A1 ks.length c1, .slice A2 fs.length c2, .int .i64 tn, .bool st], .blk (w.heap.size) 28 #[.int .i64 a, .int .i64 b, .int .i64 c, .int .i64 d, .int .i64 e]][0]? = some (rT ts.length C0 e0 ts)))) (by omega)
 obtain ⟨tX, Ah, Ad, Ai, Ab, Ae⟩ := M.q5 5 rfl
 obtain ⟨tP, Af, Ac, Aj, Ag, Aa⟩ := M.q5 6 rfl
 have nS := M.ne 0 3 (by omega) rfl rfl rfl rfl
 have nR := M.ne 0 4 (by omega) rfl rfl rfl rfl
 have nX := M.ne 0 5 (by omega) rfl rfl rfl rfl
 have nP := M.ne 0 6 (by omega) rfl rfl rfl rfl
 have fz0 : W4.frozen? ⟨g, k * 7, none⟩ = false := hfz _
 have fz2 : W4.frozen? ⟨g, k * 7 + 2, none⟩ = false := hfz _
 have fz6 : W4.frozen? ⟨g, k * 7 + 6, none⟩ = false := hfz _
 clear hfz
 obtain ⟨s', l', o', wt', on', v', t', ht', y0, y1, y2, y3, y4, y5, y6⟩ := Own.t7 (M.rowAt 0 rfl) hkl
 clear ht' y1 y3 y4 y5
 go_wp2_with fail
 clear tX Ah Ad Ai Ab Ae tP Af Ac Aj Ag Aa nS nR nX nP
 replace M : Sep [] w (((W4.setCell ⟨g, k * 7, none⟩ (.int .i64 1)).setCell ⟨g, k * 7 + 2, none⟩ (.int .i64 (-1))).setCell ⟨g, k * 7 + 6, none⟩ (.int .i64 tn)) [rT ts.length (some ⟨g, 0, none⟩) e0 (ts.set k ⟨1, l, -1, wt, on, v, tn⟩), rK ks.length C1 e1 ks, rF fs.length C2 e2 fs, .blk (w.heap.size + 3) 38 #[.int .i64 0, .int .i64 0], .blk (w.heap.size + 2) 35 #[.slice none 0 0, .slice none 0 0, .slice none 0 0, .int .i64 0, .bool false], .blk (w.heap.size + 1) 35 #[.slice A0 ts.length c0, .slice A1 ks.length c1, .slice A2 fs.length c2, .int .i64 tn, .bool st], .blk (w.heap.size) 28 #[.int .i64 a, .int .i64 b, .int .i64 c, .int .i64 d, .int .i64 e]] := M.putT3 0 rfl k 0 2 6 (by omega) (by omega) (by omega)  ⟨s, l, o1, wt, on, v, t⟩ 1 (-1) tn HY.out.2.2.1
 replace M : Sep [] w ((((W4.setCell ⟨g, k * 7, none⟩ (.int .i64 1)).setCell ⟨g, k * 7 + 2, none⟩ (.int .i64 (-1))).setCell ⟨g, k * 7 + 6, none⟩ (.int .i64 tn)).alloc (.cells #[.slice (some ⟨g, 0, none⟩) ts.length e0, .slice C1 ks.length e1, .slice C2 fs.length e2, .int .i64 (tn + 1), .bool st] 35)) [.blk (W4.heap.size) 35 #[.slice (some ⟨g, 0, none⟩) ts.length e0, .slice C1 ks.length e1, .slice C2 fs.length e2, .int .i64 (tn + 1), .bool st], rT ts.length (some ⟨g, 0, none⟩) e0 (ts.set k ⟨1, l, -1, wt, on, v, tn⟩), rK ks.length C1 e1 ks, rF fs.length C2 e2 fs, .blk (w.heap.size + 3) 38 #[.int .i64 0, .int .i64 0], .blk (w.heap.size + 2) 35 #[.slice none 0 0, .slice none 0 0, .slice none 0 0, .int .i64 0, .bool false], .blk (w.heap.size + 1) 35 #[.slice A0 ts.length c0, .slice A1 ks.length c1, .slice A2 fs.length c2, .int .i64 tn, .bool st], .blk (w.heap.size) 28 #[.int .i64 a, .int .i64 b, .int .i64 c, .int .i64 d, .int .i64 e]] := M.alloc 35 #[.slice (some ⟨g, 0, none⟩) ts.length e0, .slice C1 ks.length e1, .slice C2 fs.length e2, .int .i64 (tn + 1), .bool st] _ (by simp [World.setCell])
 generalize (((W4.setCell ⟨g, k * 7, none⟩ (.int .i64 1)).setCell ⟨g, k * 7 + 2, none⟩ (.int .i64 (-1))).setCell ⟨g, k * 7 + 6, none⟩ (.int .i64 tn)).alloc (.cells #[.slice (some ⟨g, 0, none⟩) ts.length e0, .slice C1 ks.length e1, .slice C2 fs.length e2, .int .i64 (tn + 1), .bool st] 35) = W5 at M ⊢
 clear fz0 fz2 fz6 y0 y2 y6
 replace M : Sep [] w W5 [rT ts.length (some ⟨g, 0, none⟩) e0 (ts.set k ⟨1, l, -1, wt, on, v, tn⟩), rK ks.length C1 e1 ks, rF fs.length C2 e2 fs, .blk (W4.heap.size) 35 #[.slice (some ⟨g, 0, none⟩) ts.length e0, .slice C1 ks.length e1, .slice C2 fs.length e2, .int .i64 (tn + 1), .bool st], .blk (w.heap.size + 3) 38 #[.int .i64 0, .int .i64 0], .blk (w.heap.size + 2) 35 #[.slice none 0 0, .slice none 0 0, .slice none 0 0, .int .i64 0, .bool false], .blk (w.heap.size + 1) 35 #[.slice A0 ts.length c0, .slice A1 ks.length c1, .slice A2 fs.length c2, .int .i64 tn, .bool st], .blk (w.heap.size) 28 #[.int .i64 a, .int .i64 b, .int .i64 c, .int .i64 d, .int .i64 e]] := Sep.back (l1 := [rT ts.length (some ⟨g, 0, none⟩) e0 (ts.set k ⟨1, l, -1, wt, on, v, tn⟩), rK ks.length C1 e1 ks, rF fs.length C2 e2 fs]) M
 obtain ⟨tY, Az, Bd, Bg, Be, Bh, Bf, Bc, Ay, Bb, Ba⟩ := M.f5 3 rfl
 obtain ⟨tX, Ah, Ad, Ai, Ab, Ae⟩ := M.q5 6 rfl
 obtain ⟨tP, Af, Ac, Aj, Ag, Aa⟩ := M.q5 7 rfl
 go_wp2_with fail
 go_call (hDn.out _ _ _ _ _ _ [.blk (W4.heap.size) 35 #[.slice (some ⟨g, 0, none⟩) ts.length e0, .slice C1 ks.length e1, .slice C2 fs.length e2, .int .i64 (tn + 1), .bool st], .blk (w.heap.size + 3) 38 #[.int .i64 0, .int .i64 0], .blk (w.heap.size + 2) 35 #[.slice none 0 0, .slice none 0 0, .slice none 0 0, .int .i64 0, .bool false], .blk (w.heap.size + 1) 35 #[.slice A0 ts.length c0, .slice A1 ks.length c1, .slice A2 fs.length c2, .int .i64 tn, .bool st], .blk (w.heap.size) 28 #[.int .i64 a, .int .i64 b, .int .i64 c, .int .i64 d, .int .i64 e]] _ (H.out.below M.below) M) as r W6 ⟨B0, B1, B2, d0, d1, d2, rfl, g1⟩
 clear tY Az Bd Bg Be Bh Bf Bc Ay Bb Ba tX Ah Ad Ai Ab Ae tP Af Ac Aj Ag Aa
 replace M := Sep.comp (ps := [rT ts.length (some ⟨g, 0, none⟩) e0 (ts.set k ⟨1, l, -1, wt, on, v, tn⟩), rK ks.length C1 e1 ks, rF fs.length C2 e2 fs]) M g1
 simp only [zC, zN] at M
 clear g1
 obtain ⟨tS, Am, At, Ao, Ar⟩ := M.f2 4 rfl
 obtain ⟨tR, Aq, As, Ap, Aw, An, Ax, Ak, Av, Al, Au⟩ := M.f5 5 rfl
 go_wp2_with fail
 clear tS Am At Ao Ar tR Aq As Ap Aw An Ax Ak Av Al Au
 replace M := M.gset5 5 rfl (.slice B0 o.ts.length d0) (.slice B1 o.ks.length d1) (.slice B2 o.fs.length d2) (.int .i64 o.tn) (.bool o.st)
 obtain ⟨W7, eW, M⟩ := M
 rw [eW]
 clear eW
 simp only [zZ, zS] at M
 replace M := M.gset2 4 rfl (.int .i64 o.rp) (.int .i64 o.ou)
 obtain ⟨W8, eW, M⟩ := M
 rw [eW]
 clear eW
 simp only [zZ, zS] at M
 obtain ⟨tS, Am, Ao⟩ := M.q2 4 rfl
 obtain ⟨tR, Aq, Ap, An, Ak, Al⟩ := M.q5 5 rfl
 exact bodyPost_ret (by simp [results, Tryz.results159, go_sem, Aq, Ap, An, Ak, Al, Am, Ao]) rfl ⟨B0, B1, B2, d0, d1, d2, rfl, M.take 3⟩
set_option maxHeartbeats 4000000
set_option maxRecDepth 100000
theorem ended_may (wk : Int) (vv : Int) (w : World) (ht : ts.length ≤ 1048576) (hk : ks.length ≤ 1048576) (hf : fs.length ≤ 1048576) (h : InPool w ts ks fs A0 A1 A2) (me : Int) (hme : runM ts wk 0 = me) (hm : mayB a b c d e ts ks fs tn wk = false) :
 Calls Tryz.prog 160 #[qF a b c d e, qP ts ks fs A0 A1 A2 c0 c1 c2 tn st, .int .i64 wk, .int .i64 vv] w (GaveS [] w (noO (poolB a b c d e ts ks fs tn) ts ks fs tn st 8)) := by
 unfold qF qP
 have H := hide h
 clear h
 have hNo := hide (fun V => l6No_s a b c d e ts ks fs A0 A1 A2 c0 c1 c2 tn st 8 V ht hk hf)
 generalize noO (poolB a b c d e ts ks fs tn) ts ks fs tn st 8 = o at hNo ⊢
 have HY := hide (⟨hme, hm, trivial⟩ : _ ∧ _ ∧ True)
 clear hme hm
 go_enter Tryz.func160, Tryz.ntmps160
 go_wp2_with fail
 generalize hW : (((w.alloc _).alloc _).alloc _).alloc _ = W1
 have M := Sep.e4 hW
 clear hW
 obtain ⟨tX, Ah, Ad, Ai, Ab, Ae⟩ := M.q5 2 rfl
 obtain ⟨tP, Af, Ac, Aj, Ag, Aa⟩ := M.q5 3 rfl
 go_call (sRunBy_v ts A0 A1 A2 c0 ks.length c1 fs.length c2 tn st wk me HY.out.1 _ ht (H.out.below M.below).1) as r W2 ⟨rfl, g1⟩
 clear tX Ah Ad Ai Ab Ae tP Af Ac Aj Ag Aa
 replace M := M.call g1
 clear g1
 obtain ⟨tX, Ah, Ad, Ai, Ab, Ae⟩ := M.q5 2 rfl
 obtain ⟨tP, Af, Ac, Aj, Ag, Aa⟩ := M.q5 3 rfl
 go_wp2_with fail
 go_call (l6May_v a b c d e ts ks fs A0 A1 A2 c0 c1 c2 tn st wk false HY.out.2.1 _ ht hk hf (H.out.below M.below)) as r W3 ⟨rfl, g1⟩
 clear tX Ah Ad Ai Ab Ae tP Af Ac Aj Ag Aa
 replace M := M.call g1
 clear g1
 obtain ⟨tX, Ah, Ad, Ai, Ab, Ae⟩ := M.q5 2 rfl
 obtain ⟨tP, Af, Ac, Aj, Ag, Aa⟩ := M.q5 3 rfl
 go_wp2_with fail
 go_call (hNo.out _ (H.out.below M.below)) as r W4 ⟨B0, B1, B2, d0, d1, d2, rfl, g1⟩
 clear tX Ah Ad Ai Ab Ae tP Af Ac Aj Ag Aa
 replace M := Sep.new M g1
 simp only [zC, zN] at M
 clear g1
 obtain ⟨tS, Am, At, Ao, Ar⟩ := M.f2 3 rfl
 obtain ⟨tR, Aq, As, Ap, Aw, An, Ax, Ak, Av, Al, Au⟩ := M.f5 4 rfl
 go_wp2_with fail
 clear tS Am At Ao Ar tR Aq As Ap Aw An Ax Ak Av Al Au
 replace M := M.gset5 4 rfl (.slice B0 o.ts.length d0) (.slice B1 o.ks.length d1) (.slice B2 o.fs.length d2) (.int .i64 o.tn) (.bool o.st)
 obtain ⟨W5, eW, M⟩ := M
 rw [eW]
 clear eW
 simp only [zZ, zS] at M
 replace M := M.gset2 3 rfl (.int .i64 o.rp) (.int .i64 o.ou)
 obtain ⟨W6, eW, M⟩ := M
 rw [eW]
 clear eW
 simp only [zZ, zS] at M
 obtain ⟨tS, Am, Ao⟩ := M.q2 3 rfl
 obtain ⟨tR, Aq, Ap, An, Ak, Al⟩ := M.q5 4 rfl
 exact bodyPost_ret (by simp [results, Tryz.results160, go_sem, Aq, Ap, An, Ak, Al, Am, Ao]) rfl ⟨B0, B1, B2, d0, d1, d2, rfl, M.take 3⟩
theorem ended_val (wk : Int) (vv : Int) (w : World) (ht : ts.length ≤ 1048576) (hk : ks.length ≤ 1048576) (hf : fs.length ≤ 1048576) (h : InPool w ts ks fs A0 A1 A2) (me : Int) (hme : runM ts wk 0 = me) (hm : mayB a b c d e ts ks fs tn wk = true) (hv : btw vv 0 9999 = false) :
 Calls Tryz.prog 160 #[qF a b c d e, qP ts ks fs A0 A1 A2 c0 c1 c2 tn st, .int .i64 wk, .int .i64 vv] w (GaveS [] w (noO (poolB a b c d e ts ks fs tn) ts ks fs tn st 8)) := by
 unfold qF qP
 have H := hide h
 clear h
 have hNo := hide (fun V => l6No_s a b c d e ts ks fs A0 A1 A2 c0 c1 c2 tn st 8 V ht hk hf)
 generalize noO (poolB a b c d e ts ks fs tn) ts ks fs tn st 8 = o at hNo ⊢
 have HY := hide (⟨hme, hm, hv, trivial⟩ : _ ∧ _ ∧ _ ∧ True)
 clear hme hm hv
 go_enter Tryz.func160, Tryz.ntmps160
 go_wp2_with fail
 generalize hW : (((w.alloc _).alloc _).alloc _).alloc _ = W1
 have M := Sep.e4 hW
 clear hW
 obtain ⟨tX, Ah, Ad, Ai, Ab, Ae⟩ := M.q5 2 rfl
 obtain ⟨tP, Af, Ac, Aj, Ag, Aa⟩ := M.q5 3 rfl
 go_call (sRunBy_v ts A0 A1 A2 c0 ks.length c1 fs.length c2 tn st wk me HY.out.1 _ ht (H.out.below M.below).1) as r W2 ⟨rfl, g1⟩
 clear tX Ah Ad Ai Ab Ae tP Af Ac Aj Ag Aa
 replace M := M.call g1
 clear g1
 obtain ⟨tX, Ah, Ad, Ai, Ab, Ae⟩ := M.q5 2 rfl
 obtain ⟨tP, Af, Ac, Aj, Ag, Aa⟩ := M.q5 3 rfl
 go_wp2_with fail
 go_call (l6May_v a b c d e ts ks fs A0 A1 A2 c0 c1 c2 tn st wk true HY.out.2.1 _ ht hk hf (H.out.below M.below)) as r W3 ⟨rfl, g1⟩
 clear tX Ah Ad Ai Ab Ae tP Af Ac Aj Ag Aa
 replace M := M.call g1
 clear g1
 obtain ⟨tX, Ah, Ad, Ai, Ab, Ae⟩ := M.q5 2 rfl
 obtain ⟨tP, Af, Ac, Aj, Ag, Aa⟩ := M.q5 3 rfl
 go_wp2_with fail
 go_call (l1Value_v vv false HY.out.2.2.1 _) as r W ⟨rfl, rfl⟩
 go_wp2_with fail
 go_call (hNo.out _ (H.out.below M.below)) as r W4 ⟨B0, B1, B2, d0, d1, d2, rfl, g1⟩
 clear tX Ah Ad Ai Ab Ae tP Af Ac Aj Ag Aa
 replace M := Sep.new M g1
 simp only [zC, zN] at M
 clear g1
 obtain ⟨tS, Am, At, Ao, Ar⟩ := M.f2 3 rfl
 obtain ⟨tR, Aq, As, Ap, Aw, An, Ax, Ak, Av, Al, Au⟩ := M.f5 4 rfl
 go_wp2_with fail
 clear tS Am At Ao Ar tR Aq As Ap Aw An Ax Ak Av Al Au
 replace M := M.gset5 4 rfl (.slice B0 o.ts.length d0) (.slice B1 o.ks.length d1) (.slice B2 o.fs.length d2) (.int .i64 o.tn) (.bool o.st)
 obtain ⟨W5, eW, M⟩ := M
 rw [eW]
 clear eW
 simp only [zZ, zS] at M
 replace M := M.gset2 3 rfl (.int .i64 o.rp) (.int .i64 o.ou)
 obtain ⟨W6, eW, M⟩ := M
 rw [eW]
 clear eW
 simp only [zZ, zS] at M
 obtain ⟨tS, Am, Ao⟩ := M.q2 3 rfl
 obtain ⟨tR, Aq, Ap, An, Ak, Al⟩ := M.q5 4 rfl
 exact bodyPost_ret (by simp [results, Tryz.results160, go_sem, Aq, Ap, An, Ak, Al, Am, Ao]) rfl ⟨B0, B1, B2, d0, d1, d2, rfl, M.take 3⟩
theorem ended_none (wk : Int) (vv : Int) (w : World) (ht : ts.length ≤ 1048576) (hk : ks.length ≤ 1048576) (hf : fs.length ≤ 1048576) (h : InPool w ts ks fs A0 A1 A2) (me : Int) (hme : runM ts wk 0 = me) (h0 : me < 0) (hm : mayB a b c d e ts ks fs tn wk = true) (hv : btw vv 0 9999 = true) :
 Calls Tryz.prog 160 #[qF a b c d e, qP ts ks fs A0 A1 A2 c0 c1 c2 tn st, .int .i64 wk, .int .i64 vv] w (GaveS [] w (noO (poolB a b c d e ts ks fs tn) ts ks fs tn st 2)) := by
 unfold qF qP
 have H := hide h
 clear h
 have hNo := hide (fun (V : World) (hV : InPool V ts ks fs A0 A1 A2) => l6No_s a b c d e ts ks fs A0 A1 A2 c0 c1 c2 tn st 2 V ht hk hf hV)
 generalize noO (poolB a b c d e ts ks fs tn) ts ks fs tn st 2 = o at hNo ⊢
 have HY := hide (⟨hme, hm, hv, trivial⟩ : _ ∧ _ ∧ _ ∧ True)
 clear hme hm hv
 go_enter Tryz.func160, Tryz.ntmps160
 go_wp2_with fail
 generalize hW : (((w.alloc _).alloc _).alloc _).alloc _ = W1
 have M := Sep.e4 hW
 clear hW
 obtain ⟨tX, Ah, Ad, Ai, Ab, Ae⟩ := M.q5 2 rfl
 obtain ⟨tP, Af, Ac, Aj, Ag, Aa⟩ := M.q5 3 rfl
 go_call (sRunBy_v ts A0 A1 A2 c0 ks.length c1 fs.length c2 tn st wk me HY.out.1 _ ht (H.out.below M.below).1) as r W2 ⟨rfl, g1⟩
 clear tX Ah Ad Ai Ab Ae tP Af Ac Aj Ag Aa
 replace M := M.call g1
 clear g1
 obtain ⟨tX, Ah, Ad, Ai, Ab, Ae⟩ := M.q5 2 rfl
 obtain ⟨tP, Af, Ac, Aj, Ag, Aa⟩ := M.q5 3 rfl
 go_wp2_with fail
 go_call (l6May_v a b c d e ts ks fs A0 A1 A2 c0 c1 c2 tn st wk true HY.out.2.1 _ ht hk hf (H.out.below M.below)) as r W3 ⟨rfl, g1⟩
 clear tX Ah Ad Ai Ab Ae tP Af Ac Aj Ag Aa
 replace M := M.call g1
 clear g1
 obtain ⟨tX, Ah, Ad, Ai, Ab, Ae⟩ := M.q5 2 rfl
 obtain ⟨tP, Af, Ac, Aj, Ag, Aa⟩ := M.q5 3 rfl
 go_wp2_with fail
 go_call (l1Value_v vv true HY.out.2.2.1 _) as r W ⟨rfl, rfl⟩
 go_wp2_with fail
 go_call (hNo.out _ (H.out.below M.below)) as r W4 ⟨B0, B1, B2, d0, d1, d2, rfl, g1⟩
 clear tX Ah Ad Ai Ab Ae tP Af Ac Aj Ag Aa
 replace M := Sep.new M g1
 simp only [zC, zN] at M
 clear g1
 obtain ⟨tS, Am, At, Ao, Ar⟩ := M.f2 3 rfl
 obtain ⟨tR, Aq, As, Ap, Aw, An, Ax, Ak, Av, Al, Au⟩ := M.f5 4 rfl
 go_wp2_with fail
 clear tS Am At Ao Ar tR Aq As Ap Aw An Ax Ak Av Al Au
 replace M := M.gset5 4 rfl (.slice B0 o.ts.length d0) (.slice B1 o.ks.length d1) (.slice B2 o.fs.length d2) (.int .i64 o.tn) (.bool o.st)
 obtain ⟨W5, eW, M⟩ := M
 rw [eW]
 clear eW
 simp only [zZ, zS] at M
 replace M := M.gset2 3 rfl (.int .i64 o.rp) (.int .i64 o.ou)
 obtain ⟨W6, eW, M⟩ := M
 rw [eW]
 clear eW
 simp only [zZ, zS] at M
 obtain ⟨tS, Am, Ao⟩ := M.q2 3 rfl
 obtain ⟨tR, Aq, Ap, An, Ak, Al⟩ := M.q5 4 rfl
 exact bodyPost_ret (by simp [results, Tryz.results160, go_sem, Aq, Ap, An, Ak, Al, Am, Ao]) rfl ⟨B0, B1, B2, d0, d1, d2, rfl, M.take 3⟩
theorem ended_main (wk : Int) (vv : Int) (w : World) (ht : ts.length ≤ 1048576) (hk : ks.length ≤ 1048576) (hf : fs.length ≤ 1048576) (h : InPool w ts ks fs A0 A1 A2) (k : Nat) (s l o1 wt on v t : Int) (hts : ts[k]? = some ⟨s, l, o1, wt, on, v, t⟩) (hme : runM ts wk 0 = k) (hm : mayB a b c d e ts ks fs tn wk = true) (hv : btw vv 0 9999 = true) :
 Calls Tryz.prog 160 #[qF a b c d e, qP ts ks fs A0 A1 A2 c0 c1 c2 tn st, .int .i64 wk, .int .i64 vv] w (GaveS [] w (doneO (poolB a b c d e (wakeAllT (waitersM (ts.set k ⟨4, l, -1, wt, on, vv, t⟩) 1 k) (ts.set k ⟨4, l, -1, wt, on, vv, t⟩) tn vv) ks fs (tn + ((waitersM (ts.set k ⟨4, l, -1, wt, on, vv, t⟩) 1 k).length : Nat))) ts ks fs tn st (wakeAllT (waitersM (ts.set k ⟨4, l, -1, wt, on, vv, t⟩) 1 k) (ts.set k ⟨4, l, -1, wt, on, vv, t⟩) tn vv) ks fs (tn + ((waitersM (ts.set k ⟨4, l, -1, wt, on, vv, t⟩) 1 k).length : Nat)) st 1 ((waitersM (ts.set k ⟨4, l, -1, wt, on, vv, t⟩) 1 k).length : Nat))) := by
 unfold qF qP
 have hkl : k < ts.length := by
  rcases Nat.lt_or_ge k ts.length with h1 | h1
  ·exact h1
  ·rw [List.getElem?_eq_none h1] at hts; cases hts
 have H := hide h
 clear h
 have hpo : poolB a b c d e ts ks fs tn = true := by
  have h1 := hm
  simp only [mayB, Bool.and_eq_true] at h1
  exact h1.1
 have tb : 0 ≤ tn ∧ tn ≤ 1000000 := by
  have h1 := hpo
  simp only [poolB, Bool.and_eq_true] at h1
  have h2 := h1.2.1
  simp [btw] at h2
  exact h2
 obtain ⟨tb0, tb1⟩ := tb
 obtain ⟨wm, hwm⟩ : ∃ wm, wm = waitersM (ts.set k ⟨4, l, -1, wt, on, vv, t⟩) 1 k := ⟨_, rfl⟩
 have hwl : wm.length ≤ ts.length := by
  have h1 := lineM_length (waitQ (ts.set k ⟨4, l, -1, wt, on, vv, t⟩) 1 k) (waitP (ts.set k ⟨4, l, -1, wt, on, vv, t⟩)) (ts.set k ⟨4, l, -1, wt, on, vv, t⟩).length
  rw [hwm]
  simpa [waitersM] using h1
 obtain ⟨tz, htz⟩ : ∃ tz, tz = wakeAllT wm (ts.set k ⟨4, l, -1, wt, on, vv, t⟩) tn vv := ⟨_, rfl⟩
 have htzl : tz.length = ts.length := by rw [htz, wakeAllT_length]; first | done | simp
 have hWk : Hid (∀ (A0x A1x A2x : Option Addr) (c0x n1 c1x n2 c2x : Nat) (V : World), (rT ts.length A0x c0x (ts.set k ⟨4, l, -1, wt, on, vv, t⟩)).here V → Calls Tryz.prog 75 #[.agg #[.slice A0x ts.length c0x, .slice A1x n1 c1x, .slice A2x n2 c2x, .int .i64 tn, .bool st], .int .i64 1, .int .i64 k, .int .i64 vv] V fun r w' => r = .returned (.tuple #[.agg #[.slice A0x ts.length c0x, .slice A1x n1 c1x, .slice A2x n2 c2x, .int .i64 (tn + (wm.length : Nat)), .bool st], .int .i64 (wm.length : Nat)]) ∧ Sep (fps [rT ts.length A0x c0x (ts.set k ⟨4, l, -1, wt, on, vv, t⟩)]) V w' [rT ts.length A0x c0x tz]) := hide (fun A0x A1x A2x c0x n1 c1x n2 c2x V h1 => by
  have h2 := l5WakeAll_s (ts.set k ⟨4, l, -1, wt, on, vv, t⟩) ts.length (by simp) A0x A1x A2x c0x n1 c1x n2 c2x tn st 1 k vv V ht (by omega) (by omega) h1
  rw [← hwm, ← htz] at h2
  exact h2)
 have hDn := hide (fun (A0x A1x A2x : Option Addr) (c0x c1x c2x : Nat) (rs : List Res) (V : World) (h1 : InPool V ts ks fs A0 A1 A2) (h2 : Sep [] w V ([rT ts.length A0x c0x tz, rK ks.length A1x c1x ks, rF fs.length A2x c2x fs] ++ rs)) => l6Done_s a b c d e ts ks fs A0 A1 A2 c0 c1 c2 tn st ts.length ks.length fs.length tz ks fs A0x A1x A2x c0x c1x c2x ((tn + (wm.length : Nat))) st 1 ((wm.length : Nat)) V htzl rfl rfl hpo ht hk hf ht hk hf h1 h2)
 clear hpo
 rw [← hwm, ← htz]
 clear hwm htz
 generalize doneO (poolB a b c d e tz ks fs (tn + (wm.length : Nat))) ts ks fs tn st tz ks fs (tn + (wm.length : Nat)) st 1 (wm.length : Nat) = o at hDn ⊢
 have HY := hide (⟨hme, hm, hv, hts, htzl, trivial⟩ : _ ∧ _ ∧ _ ∧ _ ∧ _ ∧ True)
 clear hme hm hv hts htzl
 go_enter Tryz.func160, Tryz.ntmps160
 go_wp2_with fail
 generalize hW : (((w.alloc _).alloc _).alloc _).alloc _ = W1
 have M := Sep.e4 hW
 clear hW
 obtain ⟨tX, Ah, Ad, Ai, Ab, Ae⟩ := M.q5 2 rfl
 obtain ⟨tP, Af, Ac, Aj, Ag, Aa⟩ := M.q5 3 rfl
 go_call (sRunBy_v ts A0 A1 A2 c0 ks.length c1 fs.length c2 tn st wk k HY.out.1 _ ht (H.out.below M.below).1) as r W2 ⟨rfl, g1⟩
 clear tX Ah Ad Ai Ab Ae tP Af Ac Aj Ag Aa
 replace M := M.call g1
 clear g1
 obtain ⟨tX, Ah, Ad, Ai, Ab, Ae⟩ := M.q5 2 rfl
 obtain ⟨tP, Af, Ac, Aj, Ag, Aa⟩ := M.q5 3 rfl
 go_wp2_with fail
 go_call (l6May_v a b c d e ts ks fs A0 A1 A2 c0 c1 c2 tn st wk true HY.out.2.1 _ ht hk hf (H.out.below M.below)) as r W3 ⟨rfl, g1⟩
 clear tX Ah Ad Ai Ab Ae tP Af Ac Aj Ag Aa
 replace M := M.call g1
 clear g1
 obtain ⟨tX, Ah, Ad, Ai, Ab, Ae⟩ := M.q5 2 rfl
 obtain ⟨tP, Af, Ac, Aj, Ag, Aa⟩ := M.q5 3 rfl
 go_wp2_with fail
 go_call (l1Value_v vv true HY.out.2.2.1 _) as r W ⟨rfl, rfl⟩
 go_wp2_with fail
 go_call (l3Copy_s ts ks fs A0 A1 A2 c0 c1 c2 tn st _ ht hk hf (H.out.below M.below)) as r W4 ⟨C0, C1, C2, e0, e1, e2, rfl, g1⟩
 clear tX Ah Ad Ai Ab Ae tP Af Ac Aj Ag Aa
 replace M := Sep.new M g1
 simp only [zC, zN] at M
 clear g1
 obtain ⟨g, rfl, hgl, hfz⟩ := rT_form (M.here _ (List.mem_of_getElem? (show _ = some _ from rfl : [rT ts.length C0 e0 ts, rK ks.length C1 e1 ks, rF fs.length C2 e2 fs, .blk (w.heap.size + 3) 38 #[.int .i64 0, .int .i64 0], .blk (w.heap.size + 2) 35 #[.slice none 0 0, .slice none 0 0, .slice none 0 0, .int .i64 0, .bool false], .blk (w.heap.size + 1) 35 #[.slice A0 ts.length c0, .slice A1 ks.length c1, .slice A2 fs.length c2, .int .i64 tn, .bool st], .blk (w.heap.size) 28 #[.int .i64 a, .int .i64 b, .int .i64 c, .int .i64 d, .int .i64 e]][0]? = some (rT ts.length C0 e0 ts)))) (by omega)
 obtain ⟨tX, Ah, Ad, Ai, Ab, Ae⟩ := M.q5 5 rfl
 obtain ⟨tP, Af, Ac, Aj, Ag, Aa⟩ := M.q5 6 rfl
 have nS := M.ne 0 3 (by omega) rfl rfl rfl rfl
 have nR := M.ne 0 4 (by omega) rfl rfl rfl rfl
 have nX := M.ne 0 5 (by omega) rfl rfl rfl rfl
 have nP := M.ne 0 6 (by omega) rfl rfl rfl rfl
 have fz0 : W4.frozen? ⟨g, k * 7, none⟩ = false := hfz _
 have fz2 : W4.frozen? ⟨g, k * 7 + 2, none⟩ = false := hfz _
 have fz5 : W4.frozen? ⟨g, k * 7 + 5, none⟩ = false := hfz _
 clear hfz
 obtain ⟨s', l', o', wt', on', v', t', ht', y0, y1, y2, y3, y4, y5, y6⟩ := Own.t7 (M.rowAt 0 rfl) hkl
 clear ht' y1 y3 y4 y6
 go_wp2_with fail
 clear tX Ah Ad Ai Ab Ae tP Af Ac Aj Ag Aa nS nR nX nP
 replace M : Sep [] w (((W4.setCell ⟨g, k * 7, none⟩ (.int .i64 4)).setCell ⟨g, k * 7 + 2, none⟩ (.int .i64 (-1))).setCell ⟨g, k * 7 + 5, none⟩ (.int .i64 vv)) [rT ts.length (some ⟨g, 0, none⟩) e0 (ts.set k ⟨4, l, -1, wt, on, vv, t⟩), rK ks.length C1 e1 ks, rF fs.length C2 e2 fs, .blk (w.heap.size + 3) 38 #[.int .i64 0, .int .i64 0], .blk (w.heap.size + 2) 35 #[.slice none 0 0, .slice none 0 0, .slice none 0 0, .int .i64 0, .bool false], .blk (w.heap.size + 1) 35 #[.slice A0 ts.length c0, .slice A1 ks.length c1, .slice A2 fs.length c2, .int .i64 tn, .bool st], .blk (w.heap.size) 28 #[.int .i64 a, .int .i64 b, .int .i64 c, .int .i64 d, .int .i64 e]] := M.putT3 0 rfl k 0 2 5 (by omega) (by omega) (by omega)  ⟨s, l, o1, wt, on, v, t⟩ 4 (-1) vv HY.out.2.2.2.1
 replace M : Sep [] w ((((W4.setCell ⟨g, k * 7, none⟩ (.int .i64 4)).setCell ⟨g, k * 7 + 2, none⟩ (.int .i64 (-1))).setCell ⟨g, k * 7 + 5, none⟩ (.int .i64 vv)).alloc (.cells #[.slice (some ⟨g, 0, none⟩) ts.length e0, .slice C1 ks.length e1, .slice C2 fs.length e2, .int .i64 tn, .bool st] 35)) [.blk (W4.heap.size) 35 #[.slice (some ⟨g, 0, none⟩) ts.length e0, .slice C1 ks.length e1, .slice C2 fs.length e2, .int .i64 tn, .bool st], rT ts.length (some ⟨g, 0, none⟩) e0 (ts.set k ⟨4, l, -1, wt, on, vv, t⟩), rK ks.length C1 e1 ks, rF fs.length C2 e2 fs, .blk (w.heap.size + 3) 38 #[.int .i64 0, .int .i64 0], .blk (w.heap.size + 2) 35 #[.slice none 0 0, .slice none 0 0, .slice none 0 0, .int .i64 0, .bool false], .blk (w.heap.size + 1) 35 #[.slice A0 ts.length c0, .slice A1 ks.length c1, .slice A2 fs.length c2, .int .i64 tn, .bool st], .blk (w.heap.size) 28 #[.int .i64 a, .int .i64 b, .int .i64 c, .int .i64 d, .int .i64 e]] := M.alloc 35 #[.slice (some ⟨g, 0, none⟩) ts.length e0, .slice C1 ks.length e1, .slice C2 fs.length e2, .int .i64 tn, .bool st] _ (by simp [World.setCell])
 generalize (((W4.setCell ⟨g, k * 7, none⟩ (.int .i64 4)).setCell ⟨g, k * 7 + 2, none⟩ (.int .i64 (-1))).setCell ⟨g, k * 7 + 5, none⟩ (.int .i64 vv)).alloc (.cells #[.slice (some ⟨g, 0, none⟩) ts.length e0, .slice C1 ks.length e1, .slice C2 fs.length e2, .int .i64 tn, .bool st] 35) = W5 at M ⊢
 clear fz0 fz2 fz5 y0 y2 y5
 replace M : Sep [] w W5 [rT ts.length (some ⟨g, 0, none⟩) e0 (ts.set k ⟨4, l, -1, wt, on, vv, t⟩), rK ks.length C1 e1 ks, rF fs.length C2 e2 fs, .blk (W4.heap.size) 35 #[.slice (some ⟨g, 0, none⟩) ts.length e0, .slice C1 ks.length e1, .slice C2 fs.length e2, .int .i64 tn, .bool st], .blk (w.heap.size + 3) 38 #[.int .i64 0, .int .i64 0], .blk (w.heap.size + 2) 35 #[.slice none 0 0, .slice none 0 0, .slice none 0 0, .int .i64 0, .bool false], .blk (w.heap.size + 1) 35 #[.slice A0 ts.length c0, .slice A1 ks.length c1, .slice A2 fs.length c2, .int .i64 tn, .bool st], .blk (w.heap.size) 28 #[.int .i64 a, .int .i64 b, .int .i64 c, .int .i64 d, .int .i64 e]] := Sep.back (l1 := [rT ts.length (some ⟨g, 0, none⟩) e0 (ts.set k ⟨4, l, -1, wt, on, vv, t⟩), rK ks.length C1 e1 ks, rF fs.length C2 e2 fs]) M
 obtain ⟨tY, Az, Bd, Bg, Be, Bh, Bf, Bc, Ay, Bb, Ba⟩ := M.f5 3 rfl
 obtain ⟨tX, Ah, Ad, Ai, Ab, Ae⟩ := M.q5 6 rfl
 obtain ⟨tP, Af, Ac, Aj, Ag, Aa⟩ := M.q5 7 rfl
 go_wp2_with fail
 go_call (hWk.out _ _ _ _ _ _ _ _ _ (M.here _ (List.mem_cons_self))) as r W6 ⟨rfl, g1⟩
 clear tY Az Bd Bg Be Bh Bf Bc Ay Bb Ba tX Ah Ad Ai Ab Ae tP Af Ac Aj Ag Aa
 replace M := Sep.comp (ps := [rT ts.length (some ⟨g, 0, none⟩) e0 (ts.set k ⟨4, l, -1, wt, on, vv, t⟩)]) M g1
 simp only [zC, zN] at M
 clear g1
 obtain ⟨tY, Az, Bd, Bg, Be, Bh, Bf, Bc, Ay, Bb, Ba⟩ := M.f5 3 rfl
 obtain ⟨tX, Ah, Ad, Ai, Ab, Ae⟩ := M.q5 6 rfl
 obtain ⟨tP, Af, Ac, Aj, Ag, Aa⟩ := M.q5 7 rfl
 have nS := M.ne 3 4 (by omega) rfl rfl rfl rfl
 have nR := M.ne 3 5 (by omega) rfl rfl rfl rfl
 have nX := M.ne 3 6 (by omega) rfl rfl rfl rfl
 have nP := M.ne 3 7 (by omega) rfl rfl rfl rfl
 go_wp2_with fail
 clear tY Az Bd Bg Be Bh Bf Bc Ay Bb Ba tX Ah Ad Ai Ab Ae tP Af Ac Aj Ag Aa nS nR nX nP
 replace M := M.gset5 3 rfl (.slice (some ⟨g, 0, none⟩) ts.length e0) (.slice C1 ks.length e1) (.slice C2 fs.length e2) (.int .i64 (tn + (wm.length : Nat))) (.bool st)
 obtain ⟨W7, eW, M⟩ := M
 rw [eW]
 clear eW
 simp only [zZ, zS] at M
 obtain ⟨tY, Az, Bd, Bg, Be, Bh, Bf, Bc, Ay, Bb, Ba⟩ := M.f5 3 rfl
 obtain ⟨tX, Ah, Ad, Ai, Ab, Ae⟩ := M.q5 6 rfl
 obtain ⟨tP, Af, Ac, Aj, Ag, Aa⟩ := M.q5 7 rfl
 go_wp2_with fail
 go_call (hDn.out _ _ _ _ _ _ [.blk (W4.heap.size) 35 #[.slice (some ⟨g, 0, none⟩) ts.length e0, .slice C1 ks.length e1, .slice C2 fs.length e2, .int .i64 (tn + (wm.length : Nat)), .bool st], .blk (w.heap.size + 3) 38 #[.int .i64 0, .int .i64 0], .blk (w.heap.size + 2) 35 #[.slice none 0 0, .slice none 0 0, .slice none 0 0, .int .i64 0, .bool false], .blk (w.heap.size + 1) 35 #[.slice A0 ts.length c0, .slice A1 ks.length c1, .slice A2 fs.length c2, .int .i64 tn, .bool st], .blk (w.heap.size) 28 #[.int .i64 a, .int .i64 b, .int .i64 c, .int .i64 d, .int .i64 e]] _ (H.out.below M.below) M) as r W8 ⟨B0, B1, B2, d0, d1, d2, rfl, g1⟩
 clear tY Az Bd Bg Be Bh Bf Bc Ay Bb Ba tX Ah Ad Ai Ab Ae tP Af Ac Aj Ag Aa
 replace M := Sep.comp (ps := [rT ts.length (some ⟨g, 0, none⟩) e0 tz, rK ks.length C1 e1 ks, rF fs.length C2 e2 fs]) M g1
 simp only [zC, zN] at M
 clear g1
 obtain ⟨tS, Am, At, Ao, Ar⟩ := M.f2 4 rfl
 obtain ⟨tR, Aq, As, Ap, Aw, An, Ax, Ak, Av, Al, Au⟩ := M.f5 5 rfl
 go_wp2_with fail
 clear tS Am At Ao Ar tR Aq As Ap Aw An Ax Ak Av Al Au
 replace M := M.gset5 5 rfl (.slice B0 o.ts.length d0) (.slice B1 o.ks.length d1) (.slice B2 o.fs.length d2) (.int .i64 o.tn) (.bool o.st)
 obtain ⟨W9, eW, M⟩ := M
 rw [eW]
 clear eW
 simp only [zZ, zS] at M
 replace M := M.gset2 4 rfl (.int .i64 o.rp) (.int .i64 o.ou)
 obtain ⟨W10, eW, M⟩ := M
 rw [eW]
 clear eW
 simp only [zZ, zS] at M
 obtain ⟨tS, Am, Ao⟩ := M.q2 4 rfl
 obtain ⟨tR, Aq, Ap, An, Ak, Al⟩ := M.q5 5 rfl
 exact bodyPost_ret (by simp [results, Tryz.results160, go_sem, Aq, Ap, An, Ak, Al, Am, Ao]) rfl ⟨B0, B1, B2, d0, d1, d2, rfl, M.take 3⟩
end Go.Proofs.YtfkdfkoigojciaaGreatDoor
