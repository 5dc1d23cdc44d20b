import Derived.Test.YtfkdfkoigojciaaGreatDoorQU12
import Derived.Test.YtfkdfkoigojciaaGreatDoorQU13
import Derived.Test.YtfkdfkoigojciaaGreatDoorQU09

namespace Go.Proofs.YtfkdfkoigojciaaGreatDoor
open Go.RowKit
set_option linter.unusedVariables false
set_option maxHeartbeats 4000000
set_option maxRecDepth 100000
variable (a b c d e : Int) (ts : List T7) (ks : List Int) (fs : List F2) (A0 A1 A2 : Option Addr) (c0 c1 c2 : Nat) (tn : Int) (st : Bool)
theorem lev_may (wk : Int) (id : Int) (lv : Int) (w : World) (ht : ts.length ≤ 1048576) (hk : ks.length ≤ 1048576) (hf : fs.length ≤ 1048576) (h : InPool w ts ks fs A0 A1 A2) (hm : mayB a b c d e ts ks fs tn wk = false) :
 Calls Tryz.prog 25 #[qF a b c d e, qP ts ks fs A0 A1 A2 c0 c1 c2 tn st, .int .i64 wk, .int .i64 id, .int .i64 lv] w (GaveS [] w (noO (poolB a b c d e ts ks fs tn) ts ks fs tn st 8)) := by
 unfold qF qP
 have H := hide h
 clear h
 have hNo := hide (fun V => l6No_s a b c d e ts ks fs A0 A1 A2 c0 c1 c2 tn st 8 V ht hk hf)
 generalize noO (poolB a b c d e ts ks fs tn) ts ks fs tn st 8 = o at hNo ⊢
 have HY := hide (⟨hm, trivial⟩ : _ ∧ True)
 clear hm
 go_enter Tryz.func25, Tryz.ntmps25
 go_wp2_with fail
 generalize hW : (((w.alloc _).alloc _).alloc _).alloc _ = W1
 have M := Sep.e4 hW
 clear hW
 obtain ⟨tX, Ah, Ad, Ai, Ab, Ae⟩ := M.q5 2 rfl
 obtain ⟨tP, Af, Ac, Aj, Ag, Aa⟩ := M.q5 3 rfl
 go_call (l6May_v a b c d e ts ks fs A0 A1 A2 c0 c1 c2 tn st wk false HY.out.1 _ ht hk hf (H.out.below M.below)) as r W2 ⟨rfl, g1⟩
 clear tX Ah Ad Ai Ab Ae tP Af Ac Aj Ag Aa
 replace M := M.call g1
 clear g1
 obtain ⟨tX, Ah, Ad, Ai, Ab, Ae⟩ := M.q5 2 rfl
 obtain ⟨tP, Af, Ac, Aj, Ag, Aa⟩ := M.q5 3 rfl
 go_wp2_with fail
 go_call (hNo.out _ (H.out.below M.below)) as r W3 ⟨B0, B1, B2, d0, d1, d2, rfl, g1⟩
 clear tX Ah Ad Ai Ab Ae tP Af Ac Aj Ag Aa
 replace M := Sep.new M g1
 simp only [zC, zN] at M
 clear g1
 obtain ⟨tS, Am, At, Ao, Ar⟩ := M.f2 3 rfl
 obtain ⟨tR, Aq, As, Ap, Aw, An, Ax, Ak, Av, Al, Au⟩ := M.f5 4 rfl
 go_wp2_with fail
 clear tS Am At Ao Ar tR Aq As Ap Aw An Ax Ak Av Al Au
 replace M := M.gset5 4 rfl (.slice B0 o.ts.length d0) (.slice B1 o.ks.length d1) (.slice B2 o.fs.length d2) (.int .i64 o.tn) (.bool o.st)
 obtain ⟨W4, eW, M⟩ := M
 rw [eW]
 clear eW
 simp only [zZ, zS] at M
 replace M := M.gset2 3 rfl (.int .i64 o.rp) (.int .i64 o.ou)
 obtain ⟨W5, eW, M⟩ := M
 rw [eW]
 clear eW
 simp only [zZ, zS] at M
 obtain ⟨tS, Am, Ao⟩ := M.q2 3 rfl
 obtain ⟨tR, Aq, Ap, An, Ak, Al⟩ := M.q5 4 rfl
 exact bodyPost_ret (by simp [results, Tryz.results25, go_sem, Aq, Ap, An, Ak, Al, Am, Ao]) rfl ⟨B0, B1, B2, d0, d1, d2, rfl, M.take 3⟩
theorem lev_has (wk : Int) (id : Int) (lv : Int) (w : World) (ht : ts.length ≤ 1048576) (hk : ks.length ≤ 1048576) (hf : fs.length ≤ 1048576) (h : InPool w ts ks fs A0 A1 A2) (hm : mayB a b c d e ts ks fs tn wk = true) (hh : btw id 0 (ts.length - 1) = false) :
 Calls Tryz.prog 25 #[qF a b c d e, qP ts ks fs A0 A1 A2 c0 c1 c2 tn st, .int .i64 wk, .int .i64 id, .int .i64 lv] w (GaveS [] w (noO (poolB a b c d e ts ks fs tn) ts ks fs tn st 8)) := by
 unfold qF qP
 have H := hide h
 clear h
 have hNo := hide (fun V => l6No_s a b c d e ts ks fs A0 A1 A2 c0 c1 c2 tn st 8 V ht hk hf)
 generalize noO (poolB a b c d e ts ks fs tn) ts ks fs tn st 8 = o at hNo ⊢
 have HY := hide (⟨hm, hh, trivial⟩ : _ ∧ _ ∧ True)
 clear hm hh
 go_enter Tryz.func25, Tryz.ntmps25
 go_wp2_with fail
 generalize hW : (((w.alloc _).alloc _).alloc _).alloc _ = W1
 have M := Sep.e4 hW
 clear hW
 obtain ⟨tX, Ah, Ad, Ai, Ab, Ae⟩ := M.q5 2 rfl
 obtain ⟨tP, Af, Ac, Aj, Ag, Aa⟩ := M.q5 3 rfl
 go_call (l6May_v a b c d e ts ks fs A0 A1 A2 c0 c1 c2 tn st wk true HY.out.1 _ ht hk hf (H.out.below M.below)) as r W2 ⟨rfl, g1⟩
 clear tX Ah Ad Ai Ab Ae tP Af Ac Aj Ag Aa
 replace M := M.call g1
 clear g1
 obtain ⟨tX, Ah, Ad, Ai, Ab, Ae⟩ := M.q5 2 rfl
 obtain ⟨tP, Af, Ac, Aj, Ag, Aa⟩ := M.q5 3 rfl
 go_wp2_with fail
 go_call (l5Has_v ts A0 A1 A2 c0 ks.length c1 fs.length c2 tn st id false HY.out.2.1 _ ht) as r W3 ⟨rfl, g1⟩
 clear tX Ah Ad Ai Ab Ae tP Af Ac Aj Ag Aa
 replace M := M.call g1
 clear g1
 obtain ⟨tX, Ah, Ad, Ai, Ab, Ae⟩ := M.q5 2 rfl
 obtain ⟨tP, Af, Ac, Aj, Ag, Aa⟩ := M.q5 3 rfl
 go_wp2_with fail
 go_call (hNo.out _ (H.out.below M.below)) as r W4 ⟨B0, B1, B2, d0, d1, d2, rfl, g1⟩
 clear tX Ah Ad Ai Ab Ae tP Af Ac Aj Ag Aa
 replace M := Sep.new M g1
 simp only [zC, zN] at M
 clear g1
 obtain ⟨tS, Am, At, Ao, Ar⟩ := M.f2 3 rfl
 obtain ⟨tR, Aq, As, Ap, Aw, An, Ax, Ak, Av, Al, Au⟩ := M.f5 4 rfl
 go_wp2_with fail
 clear tS Am At Ao Ar tR Aq As Ap Aw An Ax Ak Av Al Au
 replace M := M.gset5 4 rfl (.slice B0 o.ts.length d0) (.slice B1 o.ks.length d1) (.slice B2 o.fs.length d2) (.int .i64 o.tn) (.bool o.st)
 obtain ⟨W5, eW, M⟩ := M
 rw [eW]
 clear eW
 simp only [zZ, zS] at M
 replace M := M.gset2 3 rfl (.int .i64 o.rp) (.int .i64 o.ou)
 obtain ⟨W6, eW, M⟩ := M
 rw [eW]
 clear eW
 simp only [zZ, zS] at M
 obtain ⟨tS, Am, Ao⟩ := M.q2 3 rfl
 obtain ⟨tR, Aq, Ap, An, Ak, Al⟩ := M.q5 4 rfl
 exact bodyPost_ret (by simp [results, Tryz.results25, go_sem, Aq, Ap, An, Ak, Al, Am, Ao]) rfl ⟨B0, B1, B2, d0, d1, d2, rfl, M.take 3⟩
theorem lev_lev (wk : Int) (id : Int) (lv : Int) (w : World) (ht : ts.length ≤ 1048576) (hk : ks.length ≤ 1048576) (hf : fs.length ≤ 1048576) (h : InPool w ts ks fs A0 A1 A2) (hm : mayB a b c d e ts ks fs tn wk = true) (hh : btw id 0 (ts.length - 1) = true) (hl : levelB a b c d e lv = false) :
 Calls Tryz.prog 25 #[qF a b c d e, qP ts ks fs A0 A1 A2 c0 c1 c2 tn st, .int .i64 wk, .int .i64 id, .int .i64 lv] w (GaveS [] w (noO (poolB a b c d e ts ks fs tn) ts ks fs tn st 8)) := by
 unfold qF qP
 have H := hide h
 clear h
 have hNo := hide (fun V => l6No_s a b c d e ts ks fs A0 A1 A2 c0 c1 c2 tn st 8 V ht hk hf)
 generalize noO (poolB a b c d e ts ks fs tn) ts ks fs tn st 8 = o at hNo ⊢
 have HY := hide (⟨hm, hh, hl, trivial⟩ : _ ∧ _ ∧ _ ∧ True)
 clear hm hh hl
 go_enter Tryz.func25, Tryz.ntmps25
 go_wp2_with fail
 generalize hW : (((w.alloc _).alloc _).alloc _).alloc _ = W1
 have M := Sep.e4 hW
 clear hW
 obtain ⟨tX, Ah, Ad, Ai, Ab, Ae⟩ := M.q5 2 rfl
 obtain ⟨tP, Af, Ac, Aj, Ag, Aa⟩ := M.q5 3 rfl
 go_call (l6May_v a b c d e ts ks fs A0 A1 A2 c0 c1 c2 tn st wk true HY.out.1 _ ht hk hf (H.out.below M.below)) as r W2 ⟨rfl, g1⟩
 clear tX Ah Ad Ai Ab Ae tP Af Ac Aj Ag Aa
 replace M := M.call g1
 clear g1
 obtain ⟨tX, Ah, Ad, Ai, Ab, Ae⟩ := M.q5 2 rfl
 obtain ⟨tP, Af, Ac, Aj, Ag, Aa⟩ := M.q5 3 rfl
 go_wp2_with fail
 go_call (l5Has_v ts A0 A1 A2 c0 ks.length c1 fs.length c2 tn st id true HY.out.2.1 _ ht) as r W3 ⟨rfl, g1⟩
 clear tX Ah Ad Ai Ab Ae tP Af Ac Aj Ag Aa
 replace M := M.call g1
 clear g1
 obtain ⟨tX, Ah, Ad, Ai, Ab, Ae⟩ := M.q5 2 rfl
 obtain ⟨tP, Af, Ac, Aj, Ag, Aa⟩ := M.q5 3 rfl
 go_wp2_with fail
 go_call (sLevelIn_v a b c d e lv false HY.out.2.2.1 _) as r W4 ⟨rfl, g1⟩
 clear tX Ah Ad Ai Ab Ae tP Af Ac Aj Ag Aa
 replace M := M.call g1
 clear g1
 obtain ⟨tX, Ah, Ad, Ai, Ab, Ae⟩ := M.q5 2 rfl
 obtain ⟨tP, Af, Ac, Aj, Ag, Aa⟩ := M.q5 3 rfl
 go_wp2_with fail
 go_call (hNo.out _ (H.out.below M.below)) as r W5 ⟨B0, B1, B2, d0, d1, d2, rfl, g1⟩
 clear tX Ah Ad Ai Ab Ae tP Af Ac Aj Ag Aa
 replace M := Sep.new M g1
 simp only [zC, zN] at M
 clear g1
 obtain ⟨tS, Am, At, Ao, Ar⟩ := M.f2 3 rfl
 obtain ⟨tR, Aq, As, Ap, Aw, An, Ax, Ak, Av, Al, Au⟩ := M.f5 4 rfl
 go_wp2_with fail
 clear tS Am At Ao Ar tR Aq As Ap Aw An Ax Ak Av Al Au
 replace M := M.gset5 4 rfl (.slice B0 o.ts.length d0) (.slice B1 o.ks.length d1) (.slice B2 o.fs.length d2) (.int .i64 o.tn) (.bool o.st)
 obtain ⟨W6, eW, M⟩ := M
 rw [eW]
 clear eW
 simp only [zZ, zS] at M
 replace M := M.gset2 3 rfl (.int .i64 o.rp) (.int .i64 o.ou)
 obtain ⟨W7, eW, M⟩ := M
 rw [eW]
 clear eW
 simp only [zZ, zS] at M
 obtain ⟨tS, Am, Ao⟩ := M.q2 3 rfl
 obtain ⟨tR, Aq, Ap, An, Ak, Al⟩ := M.q5 4 rfl
 exact bodyPost_ret (by simp [results, Tryz.results25, go_sem, Aq, Ap, An, Ak, Al, Am, Ao]) rfl ⟨B0, B1, B2, d0, d1, d2, rfl, M.take 3⟩
theorem lev_gone (wk : Int) (id : Int) (lv : Int) (w : World) (ht : ts.length ≤ 1048576) (hk : ks.length ≤ 1048576) (hf : fs.length ≤ 1048576) (h : InPool w ts ks fs A0 A1 A2) (k : Nat) (s l o1 wt on v t : Int) (hid : id = k) (hts : ts[k]? = some ⟨s, l, o1, wt, on, v, t⟩) (hm : mayB a b c d e ts ks fs tn wk = true) (hh : btw id 0 (ts.length - 1) = true) (hl : levelB a b c d e lv = true) (ho : openB s = false) :
 Calls Tryz.prog 25 #[qF a b c d e, qP ts ks fs A0 A1 A2 c0 c1 c2 tn st, .int .i64 wk, .int .i64 id, .int .i64 lv] w (GaveS [] w (noO (poolB a b c d e ts ks fs tn) ts ks fs tn st 5)) := by
 unfold qF qP
 have hkl : k < ts.length := by
  rcases Nat.lt_or_ge k ts.length with h1 | h1
  ·exact h1
  ·rw [List.getElem?_eq_none h1] at hts; cases hts
 subst hid
 obtain ⟨b', off, x0, x1, x2, x3, x4, x5, x6, rfl, _, he, hb', z0, z1, z2, z3, z4, z5, z6⟩ := h.1.ts_at hkl
 rw [hts] at he
 injection he with he
 injection he with u0 u1 u2 u3 u4 u5 u6
 subst u0 u1 u2 u3 u4 u5 u6
 have H := hide h
 clear h
 have hNo := hide (fun (V : World) (hV : InPool V ts ks fs (some ⟨b', off, none⟩) A1 A2) => l6No_s a b c d e ts ks fs (some ⟨b', off, none⟩) A1 A2 c0 c1 c2 tn st 5 V ht hk hf hV)
 generalize noO (poolB a b c d e ts ks fs tn) ts ks fs tn st 5 = o at hNo ⊢
 have HY := hide (⟨hm, hh, hl, hts, ho, trivial⟩ : _ ∧ _ ∧ _ ∧ _ ∧ _ ∧ True)
 clear hm hh hl hts ho
 go_enter Tryz.func25, Tryz.ntmps25
 go_wp2_with fail
 generalize hW : (((w.alloc _).alloc _).alloc _).alloc _ = W1
 have M := Sep.e4 hW
 clear hW
 obtain ⟨tX, Ah, Ad, Ai, Ab, Ae⟩ := M.q5 2 rfl
 obtain ⟨tP, Af, Ac, Aj, Ag, Aa⟩ := M.q5 3 rfl
 go_call (l6May_v a b c d e ts ks fs (some ⟨b', off, none⟩) A1 A2 c0 c1 c2 tn st wk true HY.out.1 _ ht hk hf (H.out.below M.below)) as r W2 ⟨rfl, g1⟩
 clear tX Ah Ad Ai Ab Ae tP Af Ac Aj Ag Aa
 replace M := M.call g1
 clear g1
 obtain ⟨tX, Ah, Ad, Ai, Ab, Ae⟩ := M.q5 2 rfl
 obtain ⟨tP, Af, Ac, Aj, Ag, Aa⟩ := M.q5 3 rfl
 go_wp2_with fail
 go_call (l5Has_v ts (some ⟨b', off, none⟩) A1 A2 c0 ks.length c1 fs.length c2 tn st k true HY.out.2.1 _ ht) as r W3 ⟨rfl, g1⟩
 clear tX Ah Ad Ai Ab Ae tP Af Ac Aj Ag Aa
 replace M := M.call g1
 clear g1
 obtain ⟨tX, Ah, Ad, Ai, Ab, Ae⟩ := M.q5 2 rfl
 obtain ⟨tP, Af, Ac, Aj, Ag, Aa⟩ := M.q5 3 rfl
 go_wp2_with fail
 go_call (sLevelIn_v a b c d e lv true HY.out.2.2.1 _) as r W4 ⟨rfl, g1⟩
 clear tX Ah Ad Ai Ab Ae tP Af Ac Aj Ag Aa
 replace M := M.call g1
 clear g1
 obtain ⟨tX, Ah, Ad, Ai, Ab, Ae⟩ := M.q5 2 rfl
 obtain ⟨tP, Af, Ac, Aj, Ag, Aa⟩ := M.q5 3 rfl
 have ye0 : W4.cell? ⟨b', off + k * 7, none⟩ = some (.int .i64 s) := (M.below.cell (p := ⟨b', off + k * 7, none⟩) hb').trans z0
 have ye1 : W4.cell? ⟨b', off + k * 7 + 1, none⟩ = some (.int .i64 l) := (M.below.cell (p := ⟨b', off + k * 7 + 1, none⟩) hb').trans z1
 have ye2 : W4.cell? ⟨b', off + k * 7 + 2, none⟩ = some (.int .i64 o1) := (M.below.cell (p := ⟨b', off + k * 7 + 2, none⟩) hb').trans z2
 have ye3 : W4.cell? ⟨b', off + k * 7 + 3, none⟩ = some (.int .i64 wt) := (M.below.cell (p := ⟨b', off + k * 7 + 3, none⟩) hb').trans z3
 have ye4 : W4.cell? ⟨b', off + k * 7 + 4, none⟩ = some (.int .i64 on) := (M.below.cell (p := ⟨b', off + k * 7 + 4, none⟩) hb').trans z4
 have ye5 : W4.cell? ⟨b', off + k * 7 + 5, none⟩ = some (.int .i64 v) := (M.below.cell (p := ⟨b', off + k * 7 + 5, none⟩) hb').trans z5
 have ye6 : W4.cell? ⟨b', off + k * 7 + 6, none⟩ = some (.int .i64 t) := (M.below.cell (p := ⟨b', off + k * 7 + 6, none⟩) hb').trans z6
 go_wp2_with fail
 go_call (sIsOpen_any s l o1 wt on v t _) as r W5 ⟨rfl, g1⟩
 clear tX Ah Ad Ai Ab Ae tP Af Ac Aj Ag Aa
 replace M := M.call g1
 clear g1
 clear ye0 ye1 ye2 ye3 ye4 ye5 ye6
 rw [HY.out.2.2.2.2.1]
 obtain ⟨tX, Ah, Ad, Ai, Ab, Ae⟩ := M.q5 2 rfl
 obtain ⟨tP, Af, Ac, Aj, Ag, Aa⟩ := M.q5 3 rfl
 go_wp2_with fail
 go_call (hNo.out _ (H.out.below M.below)) as r W6 ⟨B0, B1, B2, d0, d1, d2, rfl, g1⟩
 clear tX Ah Ad Ai Ab Ae tP Af Ac Aj Ag Aa
 replace M := Sep.new M g1
 simp only [zC, zN] at M
 clear g1
 obtain ⟨tS, Am, At, Ao, Ar⟩ := M.f2 3 rfl
 obtain ⟨tR, Aq, As, Ap, Aw, An, Ax, Ak, Av, Al, Au⟩ := M.f5 4 rfl
 go_wp2_with fail
 clear tS Am At Ao Ar tR Aq As Ap Aw An Ax Ak Av Al Au
 replace M := M.gset5 4 rfl (.slice B0 o.ts.length d0) (.slice B1 o.ks.length d1) (.slice B2 o.fs.length d2) (.int .i64 o.tn) (.bool o.st)
 obtain ⟨W7, eW, M⟩ := M
 rw [eW]
 clear eW
 simp only [zZ, zS] at M
 replace M := M.gset2 3 rfl (.int .i64 o.rp) (.int .i64 o.ou)
 obtain ⟨W8, eW, M⟩ := M
 rw [eW]
 clear eW
 simp only [zZ, zS] at M
 obtain ⟨tS, Am, Ao⟩ := M.q2 3 rfl
 obtain ⟨tR, Aq, Ap, An, Ak, Al⟩ := M.q5 4 rfl
 exact bodyPost_ret (by simp [results, Tryz.results25, go_sem, Aq, Ap, An, Ak, Al, Am, Ao]) rfl ⟨B0, B1, B2, d0, d1, d2, rfl, M.take 3⟩
theorem lev_main (wk : Int) (id : Int) (lv : Int) (w : World) (ht : ts.length ≤ 1048576) (hk : ks.length ≤ 1048576) (hf : fs.length ≤ 1048576) (h : InPool w ts ks fs A0 A1 A2) (k : Nat) (s l o1 wt on v t : Int) (hid : id = k) (hts : ts[k]? = some ⟨s, l, o1, wt, on, v, t⟩) (hm : mayB a b c d e ts ks fs tn wk = true) (hh : btw id 0 (ts.length - 1) = true) (hl : levelB a b c d e lv = true) (ho : openB s = true) :
 Calls Tryz.prog 25 #[qF a b c d e, qP ts ks fs A0 A1 A2 c0 c1 c2 tn st, .int .i64 wk, .int .i64 id, .int .i64 lv] w (GaveS [] w (doneO (poolB a b c d e (ts.set k ⟨s, lv, o1, wt, on, v, t⟩) ks fs tn) ts ks fs tn st (ts.set k ⟨s, lv, o1, wt, on, v, t⟩) ks fs tn st 1 l)) := by
 unfold qF qP
 have hkl : k < ts.length := by
  rcases Nat.lt_or_ge k ts.length with h1 | h1
  ·exact h1
  ·rw [List.getElem?_eq_none h1] at hts; cases hts
 subst hid
 obtain ⟨b', off, x0, x1, x2, x3, x4, x5, x6, rfl, _, he, hb', z0, z1, z2, z3, z4, z5, z6⟩ := h.1.ts_at hkl
 rw [hts] at he
 injection he with he
 injection he with u0 u1 u2 u3 u4 u5 u6
 subst u0 u1 u2 u3 u4 u5 u6
 have H := hide h
 clear h
 have hpo : poolB a b c d e ts ks fs tn = true := by
  have h1 := hm
  simp only [mayB, Bool.and_eq_true] at h1
  exact h1.1
 have tb : 0 ≤ tn ∧ tn ≤ 1000000 := by
  have h1 := hpo
  simp only [poolB, Bool.and_eq_true] at h1
  have h2 := h1.2.1
  simp [btw] at h2
  exact h2
 obtain ⟨tb0, tb1⟩ := tb
 have hDn := hide (fun (A0x A1x A2x : Option Addr) (c0x c1x c2x : Nat) (rs : List Res) (V : World) (h1 : InPool V ts ks fs (some ⟨b', off, none⟩) A1 A2) (h2 : Sep [] w V ([rT ts.length A0x c0x (ts.set k ⟨s, lv, o1, wt, on, v, t⟩), rK ks.length A1x c1x ks, rF fs.length A2x c2x fs] ++ rs)) => l6Done_s a b c d e ts ks fs (some ⟨b', off, none⟩) A1 A2 c0 c1 c2 tn st ts.length ks.length fs.length (ts.set k ⟨s, lv, o1, wt, on, v, t⟩) ks fs A0x A1x A2x c0x c1x c2x tn st 1 l V (by simp) rfl rfl hpo ht hk hf ht hk hf h1 h2)
 clear hpo
 generalize doneO (poolB a b c d e (ts.set k ⟨s, lv, o1, wt, on, v, t⟩) ks fs tn) ts ks fs tn st (ts.set k ⟨s, lv, o1, wt, on, v, t⟩) ks fs tn st 1 l = o at hDn ⊢
 have HY := hide (⟨hm, hh, hl, hts, ho, trivial⟩ : _ ∧ _ ∧ _ ∧ _ ∧ _ ∧ True)
 clear hm hh hl hts ho
 go_enter Tryz.func25, Tryz.ntmps25
 go_wp2_with fail
 generalize hW : (((w.alloc _).alloc _).alloc _).alloc _ = W1
 have M := Sep.e4 hW
 clear hW
 obtain ⟨tX, Ah, Ad, Ai, Ab, Ae⟩ := M.q5 2 rfl
 obtain ⟨tP, Af, Ac, Aj, Ag, Aa⟩ := M.q5 3 rfl
 go_call (l6May_v a b c d e ts ks fs (some ⟨b', off, none⟩) A1 A2 c0 c1 c2 tn st wk true HY.out.1 _ ht hk hf (H.out.below M.below)) as r W2 ⟨rfl, g1⟩
 clear tX Ah Ad Ai Ab Ae tP Af Ac Aj Ag Aa
 replace M := M.call g1
 clear g1
 obtain ⟨tX, Ah, Ad, Ai, Ab, Ae⟩ := M.q5 2 rfl
 obtain ⟨tP, Af, Ac, Aj, Ag, Aa⟩ := M.q5 3 rfl
 go_wp2_with fail
 go_call (l5Has_v ts (some ⟨b', off, none⟩) A1 A2 c0 ks.length c1 fs.length c2 tn st k true HY.out.2.1 _ ht) as r W3 ⟨rfl, g1⟩
 clear tX Ah Ad Ai Ab Ae tP Af Ac Aj Ag Aa
 replace M := M.call g1
 clear g1
 obtain ⟨tX, Ah, Ad, Ai, Ab, Ae⟩ := M.q5 2 rfl
 obtain ⟨tP, Af, Ac, Aj, Ag, Aa⟩ := M.q5 3 rfl
 go_wp2_with fail
 go_call (sLevelIn_v a b c d e lv true HY.out.2.2.1 _) as r W4 ⟨rfl, g1⟩
 clear tX Ah Ad Ai Ab Ae tP Af Ac Aj Ag Aa
 replace M := M.call g1
 clear g1
 obtain ⟨tX, Ah, Ad, Ai, Ab, Ae⟩ := M.q5 2 rfl
 obtain ⟨tP, Af, Ac, Aj, Ag, Aa⟩ := M.q5 3 rfl
 have ye0 : W4.cell? ⟨b', off + k * 7, none⟩ = some (.int .i64 s) := (M.below.cell (p := ⟨b', off + k * 7, none⟩) hb').trans z0
 have ye1 : W4.cell? ⟨b', off + k * 7 + 1, none⟩ = some (.int .i64 l) := (M.below.cell (p := ⟨b', off + k * 7 + 1, none⟩) hb').trans z1
 have ye2 : W4.cell? ⟨b', off + k * 7 + 2, none⟩ = some (.int .i64 o1) := (M.below.cell (p := ⟨b', off + k * 7 + 2, none⟩) hb').trans z2
 have ye3 : W4.cell? ⟨b', off + k * 7 + 3, none⟩ = some (.int .i64 wt) := (M.below.cell (p := ⟨b', off + k * 7 + 3, none⟩) hb').trans z3
 have ye4 : W4.cell? ⟨b', off + k * 7 + 4, none⟩ = some (.int .i64 on) := (M.below.cell (p := ⟨b', off + k * 7 + 4, none⟩) hb').trans z4
 have ye5 : W4.cell? ⟨b', off + k * 7 + 5, none⟩ = some (.int .i64 v) := (M.below.cell (p := ⟨b', off + k * 7 + 5, none⟩) hb').trans z5
 have ye6 : W4.cell? ⟨b', off + k * 7 + 6, none⟩ = some (.int .i64 t) := (M.below.cell (p := ⟨b', off + k * 7 + 6, none⟩) hb').trans z6
 go_wp2_with fail
 go_call (sIsOpen_any s l o1 wt on v t _) as r W5 ⟨rfl, g1⟩
 clear tX Ah Ad Ai Ab Ae tP Af Ac Aj Ag Aa
 replace M := M.call g1
 clear g1
 clear ye0 ye1 ye2 ye3 ye4 ye5 ye6
 rw [HY.out.2.2.2.2.1]
 obtain ⟨tX, Ah, Ad, Ai, Ab, Ae⟩ := M.q5 2 rfl
 obtain ⟨tP, Af, Ac, Aj, Ag, Aa⟩ := M.q5 3 rfl
 go_wp2_with fail
 go_call (l3Copy_s ts ks fs (some ⟨b', off, none⟩) A1 A2 c0 c1 c2 tn st _ ht hk hf (H.out.below M.below)) as r W6 ⟨C0, C1, C2, e0, e1, e2, rfl, g1⟩
 clear tX Ah Ad Ai Ab Ae tP Af Ac Aj Ag Aa
 replace M := Sep.new M g1
 simp only [zC, zN] at M
 clear g1
 obtain ⟨g, rfl, hgl, hfz⟩ := rT_form (M.here _ (List.mem_of_getElem? (show _ = some _ from rfl : [rT ts.length C0 e0 ts, rK ks.length C1 e1 ks, rF fs.length C2 e2 fs, .blk (w.heap.size + 3) 38 #[.int .i64 0, .int .i64 0], .blk (w.heap.size + 2) 35 #[.slice none 0 0, .slice none 0 0, .slice none 0 0, .int .i64 0, .bool false], .blk (w.heap.size + 1) 35 #[.slice (some ⟨b', off, none⟩) ts.length c0, .slice A1 ks.length c1, .slice A2 fs.length c2, .int .i64 tn, .bool st], .blk (w.heap.size) 28 #[.int .i64 a, .int .i64 b, .int .i64 c, .int .i64 d, .int .i64 e]][0]? = some (rT ts.length C0 e0 ts)))) (by omega)
 obtain ⟨tX, Ah, Ad, Ai, Ab, Ae⟩ := M.q5 5 rfl
 obtain ⟨tP, Af, Ac, Aj, Ag, Aa⟩ := M.q5 6 rfl
 have nS := M.ne 0 3 (by omega) rfl rfl rfl rfl
 have nR := M.ne 0 4 (by omega) rfl rfl rfl rfl
 have nX := M.ne 0 5 (by omega) rfl rfl rfl rfl
 have nP := M.ne 0 6 (by omega) rfl rfl rfl rfl
 have fz1 : W6.frozen? ⟨g, k * 7 + 1, none⟩ = false := hfz _
 clear hfz
 obtain ⟨s', l', o', wt', on', v', t', ht', y0, y1, y2, y3, y4, y5, y6⟩ := Own.t7 (M.rowAt 0 rfl) hkl
 clear ht' y0 y2 y3 y4 y5 y6
 go_wp2_with fail
 clear tX Ah Ad Ai Ab Ae tP Af Ac Aj Ag Aa nS nR nX nP
 replace M : Sep [] w (W6.setCell ⟨g, k * 7 + 1, none⟩ (.int .i64 lv)) [rT ts.length (some ⟨g, 0, none⟩) e0 (ts.set k ⟨s, lv, o1, wt, on, v, t⟩), rK ks.length C1 e1 ks, rF fs.length C2 e2 fs, .blk (w.heap.size + 3) 38 #[.int .i64 0, .int .i64 0], .blk (w.heap.size + 2) 35 #[.slice none 0 0, .slice none 0 0, .slice none 0 0, .int .i64 0, .bool false], .blk (w.heap.size + 1) 35 #[.slice (some ⟨b', off, none⟩) ts.length c0, .slice A1 ks.length c1, .slice A2 fs.length c2, .int .i64 tn, .bool st], .blk (w.heap.size) 28 #[.int .i64 a, .int .i64 b, .int .i64 c, .int .i64 d, .int .i64 e]] := M.putT 0 rfl k 1 (by omega)  ⟨s, l, o1, wt, on, v, t⟩ lv HY.out.2.2.2.1
 replace M : Sep [] w ((W6.setCell ⟨g, k * 7 + 1, none⟩ (.int .i64 lv)).alloc (.cells #[.slice (some ⟨g, 0, none⟩) ts.length e0, .slice C1 ks.length e1, .slice C2 fs.length e2, .int .i64 tn, .bool st] 35)) [.blk (W6.heap.size) 35 #[.slice (some ⟨g, 0, none⟩) ts.length e0, .slice C1 ks.length e1, .slice C2 fs.length e2, .int .i64 tn, .bool st], rT ts.length (some ⟨g, 0, none⟩) e0 (ts.set k ⟨s, lv, o1, wt, on, v, t⟩), rK ks.length C1 e1 ks, rF fs.length C2 e2 fs, .blk (w.heap.size + 3) 38 #[.int .i64 0, .int .i64 0], .blk (w.heap.size + 2) 35 #[.slice none 0 0, .slice none 0 0, .slice none 0 0, .int .i64 0, .bool false], .blk (w.heap.size + 1) 35 #[.slice (some ⟨b', off, none⟩) ts.length c0, .slice A1 ks.length c1, .slice A2 fs.length c2, .int .i64 tn, .bool st], .blk (w.heap.size) 28 #[.int .i64 a, .int .i64 b, .int .i64 c, .int .i64 d, .int .i64 e]] := M.alloc 35 #[.slice (some ⟨g, 0, none⟩) ts.length e0, .slice C1 ks.length e1, .slice C2 fs.length e2, .int .i64 tn, .bool st] _ (by simp [World.setCell])
 generalize (W6.setCell ⟨g, k * 7 + 1, none⟩ (.int .i64 lv)).alloc (.cells #[.slice (some ⟨g, 0, none⟩) ts.length e0, .slice C1 ks.length e1, .slice C2 fs.length e2, .int .i64 tn, .bool st] 35) = W7 at M ⊢
 clear fz1 y1
 replace M : Sep [] w W7 [rT ts.length (some ⟨g, 0, none⟩) e0 (ts.set k ⟨s, lv, o1, wt, on, v, t⟩), rK ks.length C1 e1 ks, rF fs.length C2 e2 fs, .blk (W6.heap.size) 35 #[.slice (some ⟨g, 0, none⟩) ts.length e0, .slice C1 ks.length e1, .slice C2 fs.length e2, .int .i64 tn, .bool st], .blk (w.heap.size + 3) 38 #[.int .i64 0, .int .i64 0], .blk (w.heap.size + 2) 35 #[.slice none 0 0, .slice none 0 0, .slice none 0 0, .int .i64 0, .bool false], .blk (w.heap.size + 1) 35 #[.slice (some ⟨b', off, none⟩) ts.length c0, .slice A1 ks.length c1, .slice A2 fs.length c2, .int .i64 tn, .bool st], .blk (w.heap.size) 28 #[.int .i64 a, .int .i64 b, .int .i64 c, .int .i64 d, .int .i64 e]] := Sep.back (l1 := [rT ts.length (some ⟨g, 0, none⟩) e0 (ts.set k ⟨s, lv, o1, wt, on, v, t⟩), rK ks.length C1 e1 ks, rF fs.length C2 e2 fs]) M
 obtain ⟨tY, Az, Bd, Bg, Be, Bh, Bf, Bc, Ay, Bb, Ba⟩ := M.f5 3 rfl
 obtain ⟨tX, Ah, Ad, Ai, Ab, Ae⟩ := M.q5 6 rfl
 obtain ⟨tP, Af, Ac, Aj, Ag, Aa⟩ := M.q5 7 rfl
 go_wp2_with fail
 clear tY Az Bd Bg Be Bh Bf Bc Ay Bb Ba tX Ah Ad Ai Ab Ae tP Af Ac Aj Ag Aa
 refine wp_region_T (S := (fun w' => w'.cell? ⟨w.heap.size, 0, none⟩ = some (.int .i64 a) ∧ w'.cell? ⟨w.heap.size, 1, none⟩ = some (.int .i64 b) ∧ w'.cell? ⟨w.heap.size, 2, none⟩ = some (.int .i64 c) ∧ w'.cell? ⟨w.heap.size, 3, none⟩ = some (.int .i64 d) ∧ w'.cell? ⟨w.heap.size, 4, none⟩ = some (.int .i64 e) ∧ w'.cell? ⟨w.heap.size + 1, 0, none⟩ = some (.slice (some ⟨b', off, none⟩) ts.length c0) ∧ w'.cell? ⟨w.heap.size + 1, 1, none⟩ = some (.slice A1 ks.length c1) ∧ w'.cell? ⟨w.heap.size + 1, 2, none⟩ = some (.slice A2 fs.length c2) ∧ w'.cell? ⟨w.heap.size + 1, 3, none⟩ = some (.int .i64 tn) ∧ w'.cell? ⟨w.heap.size + 1, 4, none⟩ = some (.bool st) ∧ w'.cell? ⟨W6.heap.size, 0, none⟩ = some (.slice (some ⟨g, 0, none⟩) ts.length e0) ∧ w'.cell? ⟨W6.heap.size, 1, none⟩ = some (.slice C1 ks.length e1) ∧ w'.cell? ⟨W6.heap.size, 2, none⟩ = some (.slice C2 fs.length e2) ∧ w'.cell? ⟨W6.heap.size, 3, none⟩ = some (.int .i64 tn) ∧ w'.cell? ⟨W6.heap.size, 4, none⟩ = some (.bool st) ∧ w'.cell? ⟨b', off + k * 7 + 1, none⟩ = some (.int .i64 l))) (ks := []) (by kernel_rfl) ⟨M.cell 7 0 rfl, M.cell 7 1 rfl, M.cell 7 2 rfl, M.cell 7 3 rfl, M.cell 7 4 rfl, M.cell 6 0 rfl, M.cell 6 1 rfl, M.cell 6 2 rfl, M.cell 6 3 rfl, M.cell 6 4 rfl, M.cell 3 0 rfl, M.cell 3 1 rfl, M.cell 3 2 rfl, M.cell 3 3 rfl, M.cell 3 4 rfl, (M.below.cell (p := ⟨b', off + k * 7 + 1, none⟩) hb').trans z1⟩ (fun hHeld => ?_)
 replace M := M.drew
 generalize W7.drew = W8 at M hHeld ⊢
 refine tkLa 0 _ rfl hHeld ?_
 try simp only [Act.put, zI, zZ, zS]
 refine tkLa 1 _ rfl hHeld ?_
 try simp only [Act.put, zI, zZ, zS]
 refine tkLa 2 _ rfl hHeld ?_
 try simp only [Act.put, zI, zZ, zS]
 refine tkYa 3 _ rfl (fun _ => hHeld) ?_
 try simp only [Act.put, zI, zZ, zS]
 refine tkLa 4 _ rfl hHeld ?_
 try simp only [Act.put, zI, zZ, zS]
 refine tkYa 5 _ rfl (fun _ => hHeld) ?_
 try simp only [Act.put, zI, zZ, zS]
 refine tkYa 6 _ rfl (fun _ => hHeld) ?_
 try simp only [Act.put, zI, zZ, zS]
 refine tkYa 7 _ rfl (fun _ => hHeld) ?_
 try simp only [Act.put, zI, zZ, zS]
 refine tkLa 8 _ rfl hHeld ?_
 try simp only [Act.put, zI, zZ, zS]
 refine wpAnyT_callL (i := 9) rfl (by kernel_rfl) (fun K hK => ?_)
 go_simp
 refine (hDn.out _ _ _ _ _ _ [.blk (W6.heap.size) 35 #[.slice (some ⟨g, 0, none⟩) ts.length e0, .slice C1 ks.length e1, .slice C2 fs.length e2, .int .i64 tn, .bool st], .blk (w.heap.size + 3) 38 #[.int .i64 0, .int .i64 0], .blk (w.heap.size + 2) 35 #[.slice none 0 0, .slice none 0 0, .slice none 0 0, .int .i64 0, .bool false], .blk (w.heap.size + 1) 35 #[.slice (some ⟨b', off, none⟩) ts.length c0, .slice A1 ks.length c1, .slice A2 fs.length c2, .int .i64 tn, .bool st], .blk (w.heap.size) 28 #[.int .i64 a, .int .i64 b, .int .i64 c, .int .i64 d, .int .i64 e]] _ (H.out.below M.below) M).mono ?_
 rintro r W9 ⟨B0, B1, B2, d0, d1, d2, rfl, g1⟩
 replace M := Sep.comp (ps := [rT ts.length (some ⟨g, 0, none⟩) e0 (ts.set k ⟨s, lv, o1, wt, on, v, t⟩), rK ks.length C1 e1 ks, rF fs.length C2 e2 fs]) M g1
 simp only [zC, zN] at M
 clear g1 hHeld
 go_wp2_with fail
 refine hK.out _ _ ?_ (fun hHeld => ?_)
 ·exact ⟨M.cell 7 0 rfl, M.cell 7 1 rfl, M.cell 7 2 rfl, M.cell 7 3 rfl, M.cell 7 4 rfl, M.cell 6 0 rfl, M.cell 6 1 rfl, M.cell 6 2 rfl, M.cell 6 3 rfl, M.cell 6 4 rfl, M.cell 3 0 rfl, M.cell 3 1 rfl, M.cell 3 2 rfl, M.cell 3 3 rfl, M.cell 3 4 rfl, (M.below.cell (p := ⟨b', off + k * 7 + 1, none⟩) hb').trans z1⟩
 clear hK K
 try simp only [Act.put, zI, zZ, zS]
 refine tkYa 10 _ rfl (fun _ => hHeld) ?_
 try simp only [Act.put, zI, zZ, zS]
 refine tkYa 11 _ rfl (fun _ => hHeld) ?_
 try simp only [Act.put, zI, zZ, zS]
 obtain ⟨tR, Aq, As, Ap, Aw, An, Ax, Ak, Av, Al, Au⟩ := M.f5 5 rfl
 refine wpAnyT_callL (i := 12) rfl (by kernel_rfl) (fun K hK => ?_)
 go_simp
 clear tR Aq As Ap Aw An Ax Ak Av Al Au
 replace M := M.gset5 5 rfl (.slice B0 o.ts.length d0) (.slice B1 o.ks.length d1) (.slice B2 o.fs.length d2) (.int .i64 o.tn) (.bool o.st)
 obtain ⟨W10, eW, M⟩ := M
 rw [eW]
 clear eW
 simp only [zZ, zS] at M
 clear hHeld
 refine hK.out _ _ ?_ (fun hHeld => ?_)
 ·exact ⟨M.cell 7 0 rfl, M.cell 7 1 rfl, M.cell 7 2 rfl, M.cell 7 3 rfl, M.cell 7 4 rfl, M.cell 6 0 rfl, M.cell 6 1 rfl, M.cell 6 2 rfl, M.cell 6 3 rfl, M.cell 6 4 rfl, M.cell 3 0 rfl, M.cell 3 1 rfl, M.cell 3 2 rfl, M.cell 3 3 rfl, M.cell 3 4 rfl, (M.below.cell (p := ⟨b', off + k * 7 + 1, none⟩) hb').trans z1⟩
 clear hK K
 try simp only [Act.put, zI, zZ, zS]
 obtain ⟨tS, Am, At, Ao, Ar⟩ := M.f2 4 rfl
 refine wpAnyT_callL (i := 13) rfl (by kernel_rfl) (fun K hK => ?_)
 go_simp
 clear tS Am At Ao Ar
 replace M := M.gset2 4 rfl (.int .i64 o.rp) (.int .i64 o.ou)
 obtain ⟨W11, eW, M⟩ := M
 rw [eW]
 clear eW
 simp only [zZ, zS] at M
 clear hHeld
 refine hK.out _ _ ?_ (fun hHeld => ?_)
 ·exact ⟨M.cell 7 0 rfl, M.cell 7 1 rfl, M.cell 7 2 rfl, M.cell 7 3 rfl, M.cell 7 4 rfl, M.cell 6 0 rfl, M.cell 6 1 rfl, M.cell 6 2 rfl, M.cell 6 3 rfl, M.cell 6 4 rfl, M.cell 3 0 rfl, M.cell 3 1 rfl, M.cell 3 2 rfl, M.cell 3 3 rfl, M.cell 3 4 rfl, (M.below.cell (p := ⟨b', off + k * 7 + 1, none⟩) hb').trans z1⟩
 clear hK K
 try simp only [Act.put, zI, zZ, zS]
 refine wpAnyT_done (by kernel_rfl) ?_ _
 go_wp2_with fail
 obtain ⟨tS, Am, Ao⟩ := M.q2 4 rfl
 obtain ⟨tR, Aq, Ap, An, Ak, Al⟩ := M.q5 5 rfl
 exact bodyPost_ret (by simp [results, Tryz.results25, go_sem, Aq, Ap, An, Ak, Al, Am, Ao]) rfl ⟨B0, B1, B2, d0, d1, d2, rfl, M.take 3⟩
end Go.Proofs.YtfkdfkoigojciaaGreatDoor
