import Derived.Test.YtfkdfkoigojciaaGreatDoorQU12
import Derived.Test.YtfkdfkoigojciaaGreatDoorQU09
import Derived.Shelf.Abstract
import Derived.Test.YtfkdfkoigojciaaGreatDoorQU18
import Derived.Test.YtfkdfkoigojciaaGreatDoorQU16
import Derived.Test.YtfkdfkoigojciaaGreatDoorQU20
import Derived.Test.YtfkdfkoigojciaaGreatDoorQU23

namespace Go.Proofs.YtfkdfkoigojciaaGreatDoor
open Go.RowKit
set_option linter.unusedVariables false
set_option maxHeartbeats 4000000
set_option maxRecDepth 100000
variable (a b c d e : Int) (ts : List T7) (ks : List Int) (fs : List F2) (A0 A1 A2 : Option Addr) (c0 c1 c2 : Nat) (tn : Int) (st : Bool)
theorem taken_may (wk : Int) (w : World) (ht : ts.length ≤ 1048576) (hk : ks.length ≤ 1048576) (hf : fs.length ≤ 1048576) (h : InPool w ts ks fs A0 A1 A2) (fr : Int) (hfr : firstM ts = fr) (hm : mayB a b c d e ts ks fs tn wk = false) :
 Calls Tryz.prog 17 #[qF a b c d e, qP ts ks fs A0 A1 A2 c0 c1 c2 tn st, .int .i64 wk] w (GaveS [] w (noO (poolB a b c d e ts ks fs tn) ts ks fs tn st 8)) := by
 unfold qF qP
 have H := hide h
 clear h
 have hNo := hide (fun V => l6No_s a b c d e ts ks fs A0 A1 A2 c0 c1 c2 tn st 8 V ht hk hf)
 generalize noO (poolB a b c d e ts ks fs tn) ts ks fs tn st 8 = o at hNo ⊢
 have HY := hide (⟨hfr, hm, trivial⟩ : _ ∧ _ ∧ True)
 clear hfr hm
 go_enter Tryz.func17, Tryz.ntmps17
 go_wp2_with fail
 generalize hW : (((w.alloc _).alloc _).alloc _).alloc _ = W1
 have M := Sep.e4 hW
 clear hW
 obtain ⟨tX, Ah, Ad, Ai, Ab, Ae⟩ := M.q5 2 rfl
 obtain ⟨tP, Af, Ac, Aj, Ag, Aa⟩ := M.q5 3 rfl
 go_call (firstReady_v ts A0 A1 A2 c0 ks.length c1 fs.length c2 tn st fr HY.out.1 _ ht (H.out.below M.below).1) as r W2 ⟨rfl, g1⟩
 clear tX Ah Ad Ai Ab Ae tP Af Ac Aj Ag Aa
 replace M := M.call g1
 clear g1
 obtain ⟨tX, Ah, Ad, Ai, Ab, Ae⟩ := M.q5 2 rfl
 obtain ⟨tP, Af, Ac, Aj, Ag, Aa⟩ := M.q5 3 rfl
 go_wp2_with fail
 go_call (l6May_v a b c d e ts ks fs A0 A1 A2 c0 c1 c2 tn st wk false HY.out.2.1 _ ht hk hf (H.out.below M.below)) as r W3 ⟨rfl, g1⟩
 clear tX Ah Ad Ai Ab Ae tP Af Ac Aj Ag Aa
 replace M := M.call g1
 clear g1
 obtain ⟨tX, Ah, Ad, Ai, Ab, Ae⟩ := M.q5 2 rfl
 obtain ⟨tP, Af, Ac, Aj, Ag, Aa⟩ := M.q5 3 rfl
 go_wp2_with fail
 go_call (hNo.out _ (H.out.below M.below)) as r W4 ⟨B0, B1, B2, d0, d1, d2, rfl, g1⟩
 clear tX Ah Ad Ai Ab Ae tP Af Ac Aj Ag Aa
 replace M := Sep.new M g1
 simp only [zC, zN] at M
 clear g1
 obtain ⟨tS, Am, At, Ao, Ar⟩ := M.f2 3 rfl
 obtain ⟨tR, Aq, As, Ap, Aw, An, Ax, Ak, Av, Al, Au⟩ := M.f5 4 rfl
 go_wp2_with fail
 clear tS Am At Ao Ar tR Aq As Ap Aw An Ax Ak Av Al Au
 replace M := M.gset5 4 rfl (.slice B0 o.ts.length d0) (.slice B1 o.ks.length d1) (.slice B2 o.fs.length d2) (.int .i64 o.tn) (.bool o.st)
 obtain ⟨W5, eW, M⟩ := M
 rw [eW]
 clear eW
 simp only [zZ, zS] at M
 replace M := M.gset2 3 rfl (.int .i64 o.rp) (.int .i64 o.ou)
 obtain ⟨W6, eW, M⟩ := M
 rw [eW]
 clear eW
 simp only [zZ, zS] at M
 obtain ⟨tS, Am, Ao⟩ := M.q2 3 rfl
 obtain ⟨tR, Aq, Ap, An, Ak, Al⟩ := M.q5 4 rfl
 exact bodyPost_ret (by simp [results, Tryz.results17, go_sem, Aq, Ap, An, Ak, Al, Am, Ao]) rfl ⟨B0, B1, B2, d0, d1, d2, rfl, M.take 3⟩
theorem taken_busy (wk : Int) (w : World) (ht : ts.length ≤ 1048576) (hk : ks.length ≤ 1048576) (hf : fs.length ≤ 1048576) (h : InPool w ts ks fs A0 A1 A2) (fr : Int) (hfr : firstM ts = fr) (hm : mayB a b c d e ts ks fs tn wk = true) (me : Int) (hme : runM ts wk 0 = me) (h0 : 0 ≤ me) :
 Calls Tryz.prog 17 #[qF a b c d e, qP ts ks fs A0 A1 A2 c0 c1 c2 tn st, .int .i64 wk] w (GaveS [] w (noO (poolB a b c d e ts ks fs tn) ts ks fs tn st 3)) := by
 unfold qF qP
 have H := hide h
 clear h
 have hNo := hide (fun (V : World) (hV : InPool V ts ks fs A0 A1 A2) => l6No_s a b c d e ts ks fs A0 A1 A2 c0 c1 c2 tn st 3 V ht hk hf hV)
 generalize noO (poolB a b c d e ts ks fs tn) ts ks fs tn st 3 = o at hNo ⊢
 have HY := hide (⟨hfr, hm, hme, trivial⟩ : _ ∧ _ ∧ _ ∧ True)
 clear hfr hm hme
 go_enter Tryz.func17, Tryz.ntmps17
 go_wp2_with fail
 generalize hW : (((w.alloc _).alloc _).alloc _).alloc _ = W1
 have M := Sep.e4 hW
 clear hW
 obtain ⟨tX, Ah, Ad, Ai, Ab, Ae⟩ := M.q5 2 rfl
 obtain ⟨tP, Af, Ac, Aj, Ag, Aa⟩ := M.q5 3 rfl
 go_call (firstReady_v ts A0 A1 A2 c0 ks.length c1 fs.length c2 tn st fr HY.out.1 _ ht (H.out.below M.below).1) as r W2 ⟨rfl, g1⟩
 clear tX Ah Ad Ai Ab Ae tP Af Ac Aj Ag Aa
 replace M := M.call g1
 clear g1
 obtain ⟨tX, Ah, Ad, Ai, Ab, Ae⟩ := M.q5 2 rfl
 obtain ⟨tP, Af, Ac, Aj, Ag, Aa⟩ := M.q5 3 rfl
 go_wp2_with fail
 go_call (l6May_v a b c d e ts ks fs A0 A1 A2 c0 c1 c2 tn st wk true HY.out.2.1 _ ht hk hf (H.out.below M.below)) as r W3 ⟨rfl, g1⟩
 clear tX Ah Ad Ai Ab Ae tP Af Ac Aj Ag Aa
 replace M := M.call g1
 clear g1
 obtain ⟨tX, Ah, Ad, Ai, Ab, Ae⟩ := M.q5 2 rfl
 obtain ⟨tP, Af, Ac, Aj, Ag, Aa⟩ := M.q5 3 rfl
 go_wp2_with fail
 go_call (sRunBy_v ts A0 A1 A2 c0 ks.length c1 fs.length c2 tn st wk me HY.out.2.2.1 _ ht (H.out.below M.below).1) as r W4 ⟨rfl, g1⟩
 clear tX Ah Ad Ai Ab Ae tP Af Ac Aj Ag Aa
 replace M := M.call g1
 clear g1
 obtain ⟨tX, Ah, Ad, Ai, Ab, Ae⟩ := M.q5 2 rfl
 obtain ⟨tP, Af, Ac, Aj, Ag, Aa⟩ := M.q5 3 rfl
 go_wp2_with fail
 go_call (hNo.out _ (H.out.below M.below)) as r W5 ⟨B0, B1, B2, d0, d1, d2, rfl, g1⟩
 clear tX Ah Ad Ai Ab Ae tP Af Ac Aj Ag Aa
 replace M := Sep.new M g1
 simp only [zC, zN] at M
 clear g1
 obtain ⟨tS, Am, At, Ao, Ar⟩ := M.f2 3 rfl
 obtain ⟨tR, Aq, As, Ap, Aw, An, Ax, Ak, Av, Al, Au⟩ := M.f5 4 rfl
 go_wp2_with fail
 clear tS Am At Ao Ar tR Aq As Ap Aw An Ax Ak Av Al Au
 replace M := M.gset5 4 rfl (.slice B0 o.ts.length d0) (.slice B1 o.ks.length d1) (.slice B2 o.fs.length d2) (.int .i64 o.tn) (.bool o.st)
 obtain ⟨W6, eW, M⟩ := M
 rw [eW]
 clear eW
 simp only [zZ, zS] at M
 replace M := M.gset2 3 rfl (.int .i64 o.rp) (.int .i64 o.ou)
 obtain ⟨W7, eW, M⟩ := M
 rw [eW]
 clear eW
 simp only [zZ, zS] at M
 obtain ⟨tS, Am, Ao⟩ := M.q2 3 rfl
 obtain ⟨tR, Aq, Ap, An, Ak, Al⟩ := M.q5 4 rfl
 exact bodyPost_ret (by simp [results, Tryz.results17, go_sem, Aq, Ap, An, Ak, Al, Am, Ao]) rfl ⟨B0, B1, B2, d0, d1, d2, rfl, M.take 3⟩
theorem taken_stop (a b c d e : Int) (ts : List T7) (ks : List Int) (fs : List F2) (A0 A1 A2 : Option Addr) (c0 c1 c2 : Nat) (tn : Int) (wk : Int) (w : World) (ht : ts.length ≤ 1048576) (hk : ks.length ≤ 1048576) (hf : fs.length ≤ 1048576) (h : InPool w ts ks fs A0 A1 A2) (fr : Int) (hfr : firstM ts = fr) (hm : mayB a b c d e ts ks fs tn wk = true) (me : Int) (hme : runM ts wk 0 = me) (h0 : me < 0) (h1 : fr < 0) :
 Calls Tryz.prog 17 #[qF a b c d e, qP ts ks fs A0 A1 A2 c0 c1 c2 tn true, .int .i64 wk] w (GaveS [] w (noO (poolB a b c d e ts ks fs tn) ts ks fs tn true 6)) := by
 unfold qF qP
 have H := hide h
 clear h
 have hNo := hide (fun (V : World) (hV : InPool V ts ks fs A0 A1 A2) => l6No_s a b c d e ts ks fs A0 A1 A2 c0 c1 c2 tn true 6 V ht hk hf hV)
 generalize noO (poolB a b c d e ts ks fs tn) ts ks fs tn true 6 = o at hNo ⊢
 have HY := hide (⟨hfr, hm, hme, trivial⟩ : _ ∧ _ ∧ _ ∧ True)
 clear hfr hm hme
 go_enter Tryz.func17, Tryz.ntmps17
 go_wp2_with fail
 generalize hW : (((w.alloc _).alloc _).alloc _).alloc _ = W1
 have M := Sep.e4 hW
 clear hW
 obtain ⟨tX, Ah, Ad, Ai, Ab, Ae⟩ := M.q5 2 rfl
 obtain ⟨tP, Af, Ac, Aj, Ag, Aa⟩ := M.q5 3 rfl
 go_call (firstReady_v ts A0 A1 A2 c0 ks.length c1 fs.length c2 tn true fr HY.out.1 _ ht (H.out.below M.below).1) as r W2 ⟨rfl, g1⟩
 clear tX Ah Ad Ai Ab Ae tP Af Ac Aj Ag Aa
 replace M := M.call g1
 clear g1
 obtain ⟨tX, Ah, Ad, Ai, Ab, Ae⟩ := M.q5 2 rfl
 obtain ⟨tP, Af, Ac, Aj, Ag, Aa⟩ := M.q5 3 rfl
 go_wp2_with fail
 go_call (l6May_v a b c d e ts ks fs A0 A1 A2 c0 c1 c2 tn true wk true HY.out.2.1 _ ht hk hf (H.out.below M.below)) as r W3 ⟨rfl, g1⟩
 clear tX Ah Ad Ai Ab Ae tP Af Ac Aj Ag Aa
 replace M := M.call g1
 clear g1
 obtain ⟨tX, Ah, Ad, Ai, Ab, Ae⟩ := M.q5 2 rfl
 obtain ⟨tP, Af, Ac, Aj, Ag, Aa⟩ := M.q5 3 rfl
 go_wp2_with fail
 go_call (sRunBy_v ts A0 A1 A2 c0 ks.length c1 fs.length c2 tn true wk me HY.out.2.2.1 _ ht (H.out.below M.below).1) as r W4 ⟨rfl, g1⟩
 clear tX Ah Ad Ai Ab Ae tP Af Ac Aj Ag Aa
 replace M := M.call g1
 clear g1
 obtain ⟨tX, Ah, Ad, Ai, Ab, Ae⟩ := M.q5 2 rfl
 obtain ⟨tP, Af, Ac, Aj, Ag, Aa⟩ := M.q5 3 rfl
 go_wp2_with fail
 go_call (hNo.out _ (H.out.below M.below)) as r W5 ⟨B0, B1, B2, d0, d1, d2, rfl, g1⟩
 clear tX Ah Ad Ai Ab Ae tP Af Ac Aj Ag Aa
 replace M := Sep.new M g1
 simp only [zC, zN] at M
 clear g1
 obtain ⟨tS, Am, At, Ao, Ar⟩ := M.f2 3 rfl
 obtain ⟨tR, Aq, As, Ap, Aw, An, Ax, Ak, Av, Al, Au⟩ := M.f5 4 rfl
 go_wp2_with fail
 clear tS Am At Ao Ar tR Aq As Ap Aw An Ax Ak Av Al Au
 replace M := M.gset5 4 rfl (.slice B0 o.ts.length d0) (.slice B1 o.ks.length d1) (.slice B2 o.fs.length d2) (.int .i64 o.tn) (.bool o.st)
 obtain ⟨W6, eW, M⟩ := M
 rw [eW]
 clear eW
 simp only [zZ, zS] at M
 replace M := M.gset2 3 rfl (.int .i64 o.rp) (.int .i64 o.ou)
 obtain ⟨W7, eW, M⟩ := M
 rw [eW]
 clear eW
 simp only [zZ, zS] at M
 obtain ⟨tS, Am, Ao⟩ := M.q2 3 rfl
 obtain ⟨tR, Aq, Ap, An, Ak, Al⟩ := M.q5 4 rfl
 exact bodyPost_ret (by simp [results, Tryz.results17, go_sem, Aq, Ap, An, Ak, Al, Am, Ao]) rfl ⟨B0, B1, B2, d0, d1, d2, rfl, M.take 3⟩
theorem taken_none (a b c d e : Int) (ts : List T7) (ks : List Int) (fs : List F2) (A0 A1 A2 : Option Addr) (c0 c1 c2 : Nat) (tn : Int) (wk : Int) (w : World) (ht : ts.length ≤ 1048576) (hk : ks.length ≤ 1048576) (hf : fs.length ≤ 1048576) (h : InPool w ts ks fs A0 A1 A2) (fr : Int) (hfr : firstM ts = fr) (hm : mayB a b c d e ts ks fs tn wk = true) (me : Int) (hme : runM ts wk 0 = me) (h0 : me < 0) (h1 : fr < 0) :
 Calls Tryz.prog 17 #[qF a b c d e, qP ts ks fs A0 A1 A2 c0 c1 c2 tn false, .int .i64 wk] w (GaveS [] w (noO (poolB a b c d e ts ks fs tn) ts ks fs tn false 2)) := by
 unfold qF qP
 have H := hide h
 clear h
 have hNo := hide (fun (V : World) (hV : InPool V ts ks fs A0 A1 A2) => l6No_s a b c d e ts ks fs A0 A1 A2 c0 c1 c2 tn false 2 V ht hk hf hV)
 generalize noO (poolB a b c d e ts ks fs tn) ts ks fs tn false 2 = o at hNo ⊢
 have HY := hide (⟨hfr, hm, hme, trivial⟩ : _ ∧ _ ∧ _ ∧ True)
 clear hfr hm hme
 go_enter Tryz.func17, Tryz.ntmps17
 go_wp2_with fail
 generalize hW : (((w.alloc _).alloc _).alloc _).alloc _ = W1
 have M := Sep.e4 hW
 clear hW
 obtain ⟨tX, Ah, Ad, Ai, Ab, Ae⟩ := M.q5 2 rfl
 obtain ⟨tP, Af, Ac, Aj, Ag, Aa⟩ := M.q5 3 rfl
 go_call (firstReady_v ts A0 A1 A2 c0 ks.length c1 fs.length c2 tn false fr HY.out.1 _ ht (H.out.below M.below).1) as r W2 ⟨rfl, g1⟩
 clear tX Ah Ad Ai Ab Ae tP Af Ac Aj Ag Aa
 replace M := M.call g1
 clear g1
 obtain ⟨tX, Ah, Ad, Ai, Ab, Ae⟩ := M.q5 2 rfl
 obtain ⟨tP, Af, Ac, Aj, Ag, Aa⟩ := M.q5 3 rfl
 go_wp2_with fail
 go_call (l6May_v a b c d e ts ks fs A0 A1 A2 c0 c1 c2 tn false wk true HY.out.2.1 _ ht hk hf (H.out.below M.below)) as r W3 ⟨rfl, g1⟩
 clear tX Ah Ad Ai Ab Ae tP Af Ac Aj Ag Aa
 replace M := M.call g1
 clear g1
 obtain ⟨tX, Ah, Ad, Ai, Ab, Ae⟩ := M.q5 2 rfl
 obtain ⟨tP, Af, Ac, Aj, Ag, Aa⟩ := M.q5 3 rfl
 go_wp2_with fail
 go_call (sRunBy_v ts A0 A1 A2 c0 ks.length c1 fs.length c2 tn false wk me HY.out.2.2.1 _ ht (H.out.below M.below).1) as r W4 ⟨rfl, g1⟩
 clear tX Ah Ad Ai Ab Ae tP Af Ac Aj Ag Aa
 replace M := M.call g1
 clear g1
 obtain ⟨tX, Ah, Ad, Ai, Ab, Ae⟩ := M.q5 2 rfl
 obtain ⟨tP, Af, Ac, Aj, Ag, Aa⟩ := M.q5 3 rfl
 go_wp2_with fail
 go_call (hNo.out _ (H.out.below M.below)) as r W5 ⟨B0, B1, B2, d0, d1, d2, rfl, g1⟩
 clear tX Ah Ad Ai Ab Ae tP Af Ac Aj Ag Aa
 replace M := Sep.new M g1
 simp only [zC, zN] at M
 clear g1
 obtain ⟨tS, Am, At, Ao, Ar⟩ := M.f2 3 rfl
 obtain ⟨tR, Aq, As, Ap, Aw, An, Ax, Ak, Av, Al, Au⟩ := M.f5 4 rfl
 go_wp2_with fail
 clear tS Am At Ao Ar tR Aq As Ap Aw An Ax Ak Av Al Au
 replace M := M.gset5 4 rfl (.slice B0 o.ts.length d0) (.slice B1 o.ks.length d1) (.slice B2 o.fs.length d2) (.int .i64 o.tn) (.bool o.st)
 obtain ⟨W6, eW, M⟩ := M
 rw [eW]
 clear eW
 simp only [zZ, zS] at M
 replace M := M.gset2 3 rfl (.int .i64 o.rp) (.int .i64 o.ou)
 obtain ⟨W7, eW, M⟩ := M
 rw [eW]
 clear eW
 simp only [zZ, zS] at M
 obtain ⟨tS, Am, Ao⟩ := M.q2 3 rfl
 obtain ⟨tR, Aq, Ap, An, Ak, Al⟩ := M.q5 4 rfl
 exact bodyPost_ret (by simp [results, Tryz.results17, go_sem, Aq, Ap, An, Ak, Al, Am, Ao]) rfl ⟨B0, B1, B2, d0, d1, d2, rfl, M.take 3⟩
theorem taken_main (wk : Int) (w : World) (ht : ts.length ≤ 1048576) (hk : ks.length ≤ 1048576) (hf : fs.length ≤ 1048576) (h : InPool w ts ks fs A0 A1 A2) (k : Nat) (s l o1 wt on v t : Int) (hts : ts[k]? = some ⟨s, l, o1, wt, on, v, t⟩) (hfr : firstM ts = k) (hm : mayB a b c d e ts ks fs tn wk = true) (me : Int) (hme : runM ts wk 0 = me) (h0 : me < 0) :
 Calls Tryz.prog 17 #[qF a b c d e, qP ts ks fs A0 A1 A2 c0 c1 c2 tn st, .int .i64 wk] w (GaveS [] w (doneO (poolB a b c d e (ts.set k ⟨2, l, wk, wt, on, v, t⟩) ks fs tn) ts ks fs tn st (ts.set k ⟨2, l, wk, wt, on, v, t⟩) ks fs tn st 1 (k : Int))) := by
 unfold qF qP
 have H := hide h
 clear h
 have hkl : k < ts.length := by
  rcases Nat.lt_or_ge k ts.length with h1 | h1
  ·exact h1
  ·rw [List.getElem?_eq_none h1] at hts; cases hts
 have hpo : poolB a b c d e ts ks fs tn = true := by
  have h1 := hm
  simp only [mayB, Bool.and_eq_true] at h1
  exact h1.1
 have hDn : Hid (∀ (A0x A1x A2x : Option Addr) (c0x c1x c2x : Nat) (rs : List Res) (V : World), InPool V ts ks fs A0 A1 A2 → Sep [] w V ([rT ts.length A0x c0x (ts.set k ⟨2, l, wk, wt, on, v, t⟩), rK ks.length A1x c1x ks, rF fs.length A2x c2x fs] ++ rs) → Calls Tryz.prog 56 #[.agg #[.int .i64 a, .int .i64 b, .int .i64 c, .int .i64 d, .int .i64 e], .agg #[.slice A0 ts.length c0, .slice A1 ks.length c1, .slice A2 fs.length c2, .int .i64 tn, .bool st], .agg #[.slice A0x ts.length c0x, .slice A1x ks.length c1x, .slice A2x fs.length c2x, .int .i64 tn, .bool st], .int .i64 1, .int .i64 (k : Int)] V (GaveS [rT ts.length A0x c0x (ts.set k ⟨2, l, wk, wt, on, v, t⟩), rK ks.length A1x c1x ks, rF fs.length A2x c2x fs] V (doneO (poolB a b c d e (ts.set k ⟨2, l, wk, wt, on, v, t⟩) ks fs tn) ts ks fs tn st (ts.set k ⟨2, l, wk, wt, on, v, t⟩) ks fs tn st 1 (k : Int)))) := hide (fun A0x A1x A2x c0x c1x c2x rs V h1 h2 => l6Done_s a b c d e ts ks fs A0 A1 A2 c0 c1 c2 tn st ts.length ks.length fs.length (ts.set k ⟨2, l, wk, wt, on, v, t⟩) ks fs A0x A1x A2x c0x c1x c2x tn st 1 (k : Int) V (by simp) rfl rfl hpo ht hk hf ht hk hf h1 h2)
 clear hpo
 generalize doneO (poolB a b c d e (ts.set k ⟨2, l, wk, wt, on, v, t⟩) ks fs tn) ts ks fs tn st (ts.set k ⟨2, l, wk, wt, on, v, t⟩) ks fs tn st 1 (k : Int) = o at hDn ⊢
 have HY := hide (⟨hfr, hm, hme, hts, trivial⟩ : _ ∧ _ ∧ _ ∧ _ ∧ True)
 clear hfr hm hme hts
 go_enter Tryz.func17, Tryz.ntmps17
 go_wp2_with fail
 generalize hW : (((w.alloc _).alloc _).alloc _).alloc _ = W1
 have M := Sep.e4 hW
 clear hW
 obtain ⟨tX, Ah, Ad, Ai, Ab, Ae⟩ := M.q5 2 rfl
 obtain ⟨tP, Af, Ac, Aj, Ag, Aa⟩ := M.q5 3 rfl
 go_call (firstReady_v ts A0 A1 A2 c0 ks.length c1 fs.length c2 tn st k HY.out.1 _ ht (H.out.below M.below).1) as r W2 ⟨rfl, g1⟩
 clear tX Ah Ad Ai Ab Ae tP Af Ac Aj Ag Aa
 replace M := M.call g1
 clear g1
 obtain ⟨tX, Ah, Ad, Ai, Ab, Ae⟩ := M.q5 2 rfl
 obtain ⟨tP, Af, Ac, Aj, Ag, Aa⟩ := M.q5 3 rfl
 go_wp2_with fail
 go_call (l6May_v a b c d e ts ks fs A0 A1 A2 c0 c1 c2 tn st wk true HY.out.2.1 _ ht hk hf (H.out.below M.below)) as r W3 ⟨rfl, g1⟩
 clear tX Ah Ad Ai Ab Ae tP Af Ac Aj Ag Aa
 replace M := M.call g1
 clear g1
 obtain ⟨tX, Ah, Ad, Ai, Ab, Ae⟩ := M.q5 2 rfl
 obtain ⟨tP, Af, Ac, Aj, Ag, Aa⟩ := M.q5 3 rfl
 go_wp2_with fail
 go_call (sRunBy_v ts A0 A1 A2 c0 ks.length c1 fs.length c2 tn st wk me HY.out.2.2.1 _ ht (H.out.below M.below).1) as r W4 ⟨rfl, g1⟩
 clear tX Ah Ad Ai Ab Ae tP Af Ac Aj Ag Aa
 replace M := M.call g1
 clear g1
 obtain ⟨tX, Ah, Ad, Ai, Ab, Ae⟩ := M.q5 2 rfl
 obtain ⟨tP, Af, Ac, Aj, Ag, Aa⟩ := M.q5 3 rfl
 go_wp2_with fail
 go_call (l3Copy_s ts ks fs A0 A1 A2 c0 c1 c2 tn st _ ht hk hf (H.out.below M.below)) as r W5 ⟨C0, C1, C2, e0, e1, e2, rfl, g1⟩
 clear tX Ah Ad Ai Ab Ae tP Af Ac Aj Ag Aa
 replace M := Sep.new M g1
 simp only [zC, zN] at M
 clear g1
 obtain ⟨g, rfl, hgl, hfz⟩ := rT_form (M.here _ (List.mem_cons_self)) (by omega)
 obtain ⟨tX, Ah, Ad, Ai, Ab, Ae⟩ := M.q5 5 rfl
 obtain ⟨tP, Af, Ac, Aj, Ag, Aa⟩ := M.q5 6 rfl
 have nS := M.ne 0 3 (by omega) rfl rfl rfl rfl
 have nR := M.ne 0 4 (by omega) rfl rfl rfl rfl
 have nX := M.ne 0 5 (by omega) rfl rfl rfl rfl
 have nP := M.ne 0 6 (by omega) rfl rfl rfl rfl
 have fz0 : W5.frozen? ⟨g, k * 7, none⟩ = false := hfz _
 have fz2 : W5.frozen? ⟨g, k * 7 + 2, none⟩ = false := hfz _
 clear hfz
 obtain ⟨s', l', o', wt', on', v', t', ht', y0, y1, y2, y3, y4, y5, y6⟩ := Own.t7 (M.rowAt 0 rfl) hkl
 clear ht' y1 y3 y4 y5 y6
 go_wp2_with fail
 clear tX Ah Ad Ai Ab Ae tP Af Ac Aj Ag Aa nS nR nX nP
 replace M : Sep [] w ((W5.setCell ⟨g, k * 7, none⟩ (.int .i64 2)).setCell ⟨g, k * 7 + 2, none⟩ (.int .i64 wk)) [rT ts.length (some ⟨g, 0, none⟩) e0 (ts.set k ⟨2, l, wk, wt, on, v, t⟩), rK ks.length C1 e1 ks, rF fs.length C2 e2 fs, .blk (w.heap.size + 3) 38 #[.int .i64 0, .int .i64 0], .blk (w.heap.size + 2) 35 #[.slice none 0 0, .slice none 0 0, .slice none 0 0, .int .i64 0, .bool false], .blk (w.heap.size + 1) 35 #[.slice A0 ts.length c0, .slice A1 ks.length c1, .slice A2 fs.length c2, .int .i64 tn, .bool st], .blk (w.heap.size) 28 #[.int .i64 a, .int .i64 b, .int .i64 c, .int .i64 d, .int .i64 e]] := M.putT2 0 rfl k 0 2 (by omega) (by omega) ⟨s, l, o1, wt, on, v, t⟩ 2 wk HY.out.2.2.2.1
 replace M : Sep [] w (((W5.setCell ⟨g, k * 7, none⟩ (.int .i64 2)).setCell ⟨g, k * 7 + 2, none⟩ (.int .i64 wk)).alloc (.cells #[.slice (some ⟨g, 0, none⟩) ts.length e0, .slice C1 ks.length e1, .slice C2 fs.length e2, .int .i64 tn, .bool st] 35)) [.blk (W5.heap.size) 35 #[.slice (some ⟨g, 0, none⟩) ts.length e0, .slice C1 ks.length e1, .slice C2 fs.length e2, .int .i64 tn, .bool st], rT ts.length (some ⟨g, 0, none⟩) e0 (ts.set k ⟨2, l, wk, wt, on, v, t⟩), rK ks.length C1 e1 ks, rF fs.length C2 e2 fs, .blk (w.heap.size + 3) 38 #[.int .i64 0, .int .i64 0], .blk (w.heap.size + 2) 35 #[.slice none 0 0, .slice none 0 0, .slice none 0 0, .int .i64 0, .bool false], .blk (w.heap.size + 1) 35 #[.slice A0 ts.length c0, .slice A1 ks.length c1, .slice A2 fs.length c2, .int .i64 tn, .bool st], .blk (w.heap.size) 28 #[.int .i64 a, .int .i64 b, .int .i64 c, .int .i64 d, .int .i64 e]] := M.alloc 35 #[.slice (some ⟨g, 0, none⟩) ts.length e0, .slice C1 ks.length e1, .slice C2 fs.length e2, .int .i64 tn, .bool st] _ (by simp [World.setCell])
 generalize ((W5.setCell ⟨g, k * 7, none⟩ (.int .i64 2)).setCell ⟨g, k * 7 + 2, none⟩ (.int .i64 wk)).alloc (.cells #[.slice (some ⟨g, 0, none⟩) ts.length e0, .slice C1 ks.length e1, .slice C2 fs.length e2, .int .i64 tn, .bool st] 35) = W6 at M ⊢
 clear fz0 y0 fz2 y2
 replace M : Sep [] w W6 [rT ts.length (some ⟨g, 0, none⟩) e0 (ts.set k ⟨2, l, wk, wt, on, v, t⟩), rK ks.length C1 e1 ks, rF fs.length C2 e2 fs, .blk (W5.heap.size) 35 #[.slice (some ⟨g, 0, none⟩) ts.length e0, .slice C1 ks.length e1, .slice C2 fs.length e2, .int .i64 tn, .bool st], .blk (w.heap.size + 3) 38 #[.int .i64 0, .int .i64 0], .blk (w.heap.size + 2) 35 #[.slice none 0 0, .slice none 0 0, .slice none 0 0, .int .i64 0, .bool false], .blk (w.heap.size + 1) 35 #[.slice A0 ts.length c0, .slice A1 ks.length c1, .slice A2 fs.length c2, .int .i64 tn, .bool st], .blk (w.heap.size) 28 #[.int .i64 a, .int .i64 b, .int .i64 c, .int .i64 d, .int .i64 e]] := Sep.back (l1 := [rT ts.length (some ⟨g, 0, none⟩) e0 (ts.set k ⟨2, l, wk, wt, on, v, t⟩), rK ks.length C1 e1 ks, rF fs.length C2 e2 fs]) M
 obtain ⟨tY, Az, Bd, Bg, Be, Bh, Bf, Bc, Ay, Bb, Ba⟩ := M.f5 3 rfl
 obtain ⟨tX, Ah, Ad, Ai, Ab, Ae⟩ := M.q5 6 rfl
 obtain ⟨tP, Af, Ac, Aj, Ag, Aa⟩ := M.q5 7 rfl
 go_wp2_with fail
 go_call (hDn.out _ _ _ _ _ _ [.blk (W5.heap.size) 35 #[.slice (some ⟨g, 0, none⟩) ts.length e0, .slice C1 ks.length e1, .slice C2 fs.length e2, .int .i64 tn, .bool st], .blk (w.heap.size + 3) 38 #[.int .i64 0, .int .i64 0], .blk (w.heap.size + 2) 35 #[.slice none 0 0, .slice none 0 0, .slice none 0 0, .int .i64 0, .bool false], .blk (w.heap.size + 1) 35 #[.slice A0 ts.length c0, .slice A1 ks.length c1, .slice A2 fs.length c2, .int .i64 tn, .bool st], .blk (w.heap.size) 28 #[.int .i64 a, .int .i64 b, .int .i64 c, .int .i64 d, .int .i64 e]] _ (H.out.below M.below) M) as r W7 ⟨B0, B1, B2, d0, d1, d2, rfl, g1⟩
 clear tY Az Bd Bg Be Bh Bf Bc Ay Bb Ba tX Ah Ad Ai Ab Ae tP Af Ac Aj Ag Aa
 replace M := Sep.comp (ps := [rT ts.length (some ⟨g, 0, none⟩) e0 (ts.set k ⟨2, l, wk, wt, on, v, t⟩), rK ks.length C1 e1 ks, rF fs.length C2 e2 fs]) M g1
 simp only [zC, zN] at M
 clear g1
 obtain ⟨tS, Am, At, Ao, Ar⟩ := M.f2 4 rfl
 obtain ⟨tR, Aq, As, Ap, Aw, An, Ax, Ak, Av, Al, Au⟩ := M.f5 5 rfl
 go_wp2_with fail
 clear tS Am At Ao Ar tR Aq As Ap Aw An Ax Ak Av Al Au
 replace M := M.gset5 5 rfl (.slice B0 o.ts.length d0) (.slice B1 o.ks.length d1) (.slice B2 o.fs.length d2) (.int .i64 o.tn) (.bool o.st)
 obtain ⟨W8, eW, M⟩ := M
 rw [eW]
 clear eW
 simp only [zZ, zS] at M
 replace M := M.gset2 4 rfl (.int .i64 o.rp) (.int .i64 o.ou)
 obtain ⟨W9, eW, M⟩ := M
 rw [eW]
 clear eW
 simp only [zZ, zS] at M
 obtain ⟨tS, Am, Ao⟩ := M.q2 4 rfl
 obtain ⟨tR, Aq, Ap, An, Ak, Al⟩ := M.q5 5 rfl
 exact bodyPost_ret (by simp [results, Tryz.results17, go_sem, Aq, Ap, An, Ak, Al, Am, Ao]) rfl ⟨B0, B1, B2, d0, d1, d2, rfl, M.take 3⟩
set_option maxHeartbeats 800000
set_option maxRecDepth 100000
theorem firstM_none {ts : List T7} (h : firstM ts < 0) : firstM ts = -1 := by
 unfold firstM at h ⊢
 cases hr : readyM ts with
 | nil => rfl
 | cons j r =>
  rw [hr] at h
  obtain ⟨k, hk, _⟩ := lineM_mem _ _ _ j (show j ∈ readyM ts by rw [hr]; simp)
  simp at h
  omega
theorem firstM_ready {ts : List T7} (h : ¬ firstM ts < 0) : ∃ (k : Nat) (s l o wt on v t : Int), firstM ts = k ∧ ts[k]? = some ⟨s, l, o, wt, on, v, t⟩ ∧ s = 1 := by
 unfold firstM at h ⊢
 cases hr : readyM ts with
 | nil => rw [hr] at h; simp at h
 | cons j r =>
  have hj : j ∈ readyM ts := by rw [hr]; simp
  unfold readyM at hj
  rw [(lineM_perm _ _ _).mem_iff] at hj
  obtain ⟨k, hk, rfl⟩ := List.mem_map.1 hj
  obtain ⟨h1, h2⟩ := pick_mem hk
  refine ⟨k, ts[k].s, ts[k].l, ts[k].o, ts[k].wt, ts[k].on, ts[k].v, ts[k].t, rfl, List.getElem?_eq_getElem h1, ?_⟩
  have e : ts.getD k default = ts[k] := by rw [List.getD_eq_getElem?_getD, List.getElem?_eq_getElem h1]; rfl
  simp only [readyQ, e, beq_iff_eq] at h2
  exact h2
theorem takenC_no (ts : List T7) (ks : List Int) (fs : List F2) (C0 C1 C2 : Option Addr) (e0 e1 e2 : Nat) (tn : Int) (st : Bool) (g : Nat) (wk : Int) (bwk : Nat) (rp : Int) (V : World) (h : Sep (fps [.blk g 35 #[.slice C0 ts.length e0, .slice C1 ks.length e1, .slice C2 fs.length e2, .int .i64 tn, .bool st], rT ts.length C0 e0 ts, rK ks.length C1 e1 ks, rF fs.length C2 e2 fs]) V V [.blk g 35 #[.slice C0 ts.length e0, .slice C1 ks.length e1, .slice C2 fs.length e2, .int .i64 tn, .bool st], rT ts.length C0 e0 ts, rK ks.length C1 e1 ks, rF fs.length C2 e2 fs]) (hwk : V.cell? ⟨bwk, 0, none⟩ = some (.int .i64 wk)) (lwk : bwk < V.heap.size)
 (hb : ∀ V', Sep (fps [.blk g 35 #[.slice C0 ts.length e0, .slice C1 ks.length e1, .slice C2 fs.length e2, .int .i64 tn, .bool st], rT ts.length C0 e0 ts, rK ks.length C1 e1 ks, rF fs.length C2 e2 fs]) V' V' [.blk g 35 #[.slice C0 ts.length e0, .slice C1 ks.length e1, .slice C2 fs.length e2, .int .i64 tn, .bool st], rT ts.length C0 e0 ts, rK ks.length C1 e1 ks, rF fs.length C2 e2 fs] → Calls Tryz.prog 89 #[.pointer (some ⟨g, 0, none⟩), .int .i64 wk] V' (fun r w' => r = .panicked [{ v := .iface 137 (.int .i64 rp), recovered := false }] ∧ Sep (fps [.blk g 35 #[.slice C0 ts.length e0, .slice C1 ks.length e1, .slice C2 fs.length e2, .int .i64 tn, .bool st], rT ts.length C0 e0 ts, rK ks.length C1 e1 ks, rF fs.length C2 e2 fs]) V' w' [])) :
 Calls Tryz.prog 88 (#[.pointer (some ⟨g, 0, none⟩)] ++ #[.pointer (some ⟨bwk, 0, none⟩)]) V (fun r w' => r = .panicked [{ v := .iface 137 (.int .i64 rp), recovered := false }] ∧ Sep (fps [.blk g 35 #[.slice C0 ts.length e0, .slice C1 ks.length e1, .slice C2 fs.length e2, .int .i64 tn, .bool st], rT ts.length C0 e0 ts, rK ks.length C1 e1 ks, rF fs.length C2 e2 fs]) V w' []) := by
 have H := hide h
 clear h
 show Calls Tryz.prog 88 #[.pointer (some ⟨g, 0, none⟩), .pointer (some ⟨bwk, 0, none⟩)] V _
 go_enter Tryz.func88, Tryz.ntmps88
 go_wp2_with fail
 have M := (H.out.allocN 38 #[.int .i64 0, .int .i64 0]).rot
 generalize V.alloc (.cells #[.int .i64 0, .int .i64 0] 38) = W1 at M ⊢
 refine Calls.mono (by with_reducible exact (hb W1 (Sep.same M (Below.refl _ _)))) ?_
 rintro r W2 ⟨rfl, g1⟩
 have M2 := Sep.comp M g1
 clear M g1
 go_wp2_with fail
 exact ⟨rfl, rfl, M2.drop 1⟩
theorem takenC_yes (ts : List T7) (ks : List Int) (fs : List F2) (C0 C1 C2 : Option Addr) (e0 e1 e2 : Nat) (tn : Int) (st : Bool) (g : Nat) (wk : Int) (bwk : Nat) (o : OutP) (V : World) (h : Sep (fps [.blk g 35 #[.slice C0 ts.length e0, .slice C1 ks.length e1, .slice C2 fs.length e2, .int .i64 tn, .bool st], rT ts.length C0 e0 ts, rK ks.length C1 e1 ks, rF fs.length C2 e2 fs]) V V [.blk g 35 #[.slice C0 ts.length e0, .slice C1 ks.length e1, .slice C2 fs.length e2, .int .i64 tn, .bool st], rT ts.length C0 e0 ts, rK ks.length C1 e1 ks, rF fs.length C2 e2 fs]) (hwk : V.cell? ⟨bwk, 0, none⟩ = some (.int .i64 wk)) (lwk : bwk < V.heap.size)
 (hb : ∀ V', Sep (fps [.blk g 35 #[.slice C0 ts.length e0, .slice C1 ks.length e1, .slice C2 fs.length e2, .int .i64 tn, .bool st], rT ts.length C0 e0 ts, rK ks.length C1 e1 ks, rF fs.length C2 e2 fs]) V' V' [.blk g 35 #[.slice C0 ts.length e0, .slice C1 ks.length e1, .slice C2 fs.length e2, .int .i64 tn, .bool st], rT ts.length C0 e0 ts, rK ks.length C1 e1 ks, rF fs.length C2 e2 fs] → Calls Tryz.prog 89 #[.pointer (some ⟨g, 0, none⟩), .int .i64 wk] V' (fun r w' => ∃ (D0 D1 D2 : Option Addr) (f0 f1 f2 : Nat), r = .returned (.agg #[.int .i64 o.rp, .int .i64 o.ou]) ∧ Sep (fps [.blk g 35 #[.slice C0 ts.length e0, .slice C1 ks.length e1, .slice C2 fs.length e2, .int .i64 tn, .bool st], rT ts.length C0 e0 ts, rK ks.length C1 e1 ks, rF fs.length C2 e2 fs]) V' w' [.blk g 35 #[.slice D0 o.ts.length f0, .slice D1 o.ks.length f1, .slice D2 o.fs.length f2, .int .i64 o.tn, .bool o.st], rT o.ts.length D0 f0 o.ts, rK o.ks.length D1 f1 o.ks, rF o.fs.length D2 f2 o.fs])) :
 Calls Tryz.prog 88 (#[.pointer (some ⟨g, 0, none⟩)] ++ #[.pointer (some ⟨bwk, 0, none⟩)]) V (fun r w' => ∃ (D0 D1 D2 : Option Addr) (f0 f1 f2 : Nat), r = .returned (.agg #[.int .i64 o.rp, .int .i64 o.ou]) ∧ Sep (fps [.blk g 35 #[.slice C0 ts.length e0, .slice C1 ks.length e1, .slice C2 fs.length e2, .int .i64 tn, .bool st], rT ts.length C0 e0 ts, rK ks.length C1 e1 ks, rF fs.length C2 e2 fs]) V w' [.blk g 35 #[.slice D0 o.ts.length f0, .slice D1 o.ks.length f1, .slice D2 o.fs.length f2, .int .i64 o.tn, .bool o.st], rT o.ts.length D0 f0 o.ts, rK o.ks.length D1 f1 o.ks, rF o.fs.length D2 f2 o.fs]) := by
 have H := hide h
 clear h
 show Calls Tryz.prog 88 #[.pointer (some ⟨g, 0, none⟩), .pointer (some ⟨bwk, 0, none⟩)] V _
 go_enter Tryz.func88, Tryz.ntmps88
 go_wp2_with fail
 have M := (H.out.allocN 38 #[.int .i64 0, .int .i64 0]).rot
 generalize V.alloc (.cells #[.int .i64 0, .int .i64 0] 38) = W1 at M ⊢
 refine Calls.mono (by with_reducible exact (hb W1 (Sep.same M (Below.refl _ _)))) ?_
 rintro r W2 ⟨D0, D1, D2, f0, f1, f2, rfl, g1⟩
 have M2 := Sep.comp M g1
 clear M g1
 simp only [zC, zN] at M2
 obtain ⟨tR, Ab, Ae, Aa, Ai⟩ := M2.f2 4 rfl
 go_wp2_with fail
 have N := M2.gset2 4 rfl (.int .i64 o.rp) (.int .i64 o.ou)
 clear M2 Ab Aa Ae Ai tR
 obtain ⟨W3, eW, M⟩ := N
 rw [eW]
 clear eW
 simp only [zZ, zS] at M
 obtain ⟨tR, Ab, Aa⟩ := M.q2 4 rfl
 exact bodyPost_ret (by simp [results, Tryz.results88, go_sem, Ab, Aa]) rfl ⟨D0, D1, D2, f0, f1, f2, rfl, M.take 4⟩
theorem gTaken_face (wk : Int) (w : World) (ht : ts.length ≤ 1048576) (hk : ks.length ≤ 1048576) (hf : fs.length ≤ 1048576) (h : InPool w ts ks fs A0 A1 A2) (o : OutP)
 (hL : ∀ (V : World) (bwk : Nat), Below w.heap.size w V → V.cell? ⟨bwk, 0, none⟩ = some (.int .i64 wk) → bwk < V.heap.size → Calls Tryz.prog 62 #[.agg #[.int .i64 a, .int .i64 b, .int .i64 c, .int .i64 d, .int .i64 e], .agg #[.slice A0 ts.length c0, .slice A1 ks.length c1, .slice A2 fs.length c2, .int .i64 tn, .bool st], .int .i64 wk, .func (.func 88) #[] #[.pointer (some ⟨bwk, 0, none⟩)]] V (GaveS [] V o)) :
 Calls Tryz.prog 34 #[qF a b c d e, qP ts ks fs A0 A1 A2 c0 c1 c2 tn st, .int .i64 wk] w (GaveS [] w o) := by
 unfold qF qP
 have hmf : ∀ (fn : Fn) (first cap : Array Value) (w : World), (Instr.makeFunc fn first cap).run Tryz.prog w = .ok (.func fn first cap) w := fun _ _ _ _ => rfl
 have HL := hide hL
 have H := hide h
 clear h hL
 go_enter Tryz.func34, Tryz.ntmps34
 go_wp2_with fail
 generalize hW : ((((w.alloc _).alloc _).alloc _).alloc _).alloc _ = W1
 have M := Sep.e5 hW
 clear hW
 obtain ⟨tS, Af, Ak, Ah, Aj⟩ := M.f2 0 rfl
 obtain ⟨tR, Ab, Ae, Aa, Ai, Ag, An, Ac, Am, Ad, Al⟩ := M.f5 1 rfl
 obtain ⟨tVwk, qVwk0, fVwk0⟩ := M.f1 2 rfl
 obtain ⟨tX, Be, As, Aw, Au, Bf, Ap, Ar, Bh, Ay, Ao⟩ := M.f5 3 rfl
 obtain ⟨tP, Ba, Av, At, Bd, Bg, Ax, Bc, Az, Aq, Bb⟩ := M.f5 4 rfl
 go_wp2_with fail
 have hC := HL.out _ (w.heap.size + 2) M.below (M.cell 2 0 rfl) (M.lt 2 rfl)
 refine Calls.mono (by with_reducible exact hC) ?_
 clear hC
 rintro r W2 ⟨B0, B1, B2, d0, d1, d2, rfl, g1⟩
 clear tS Af Ak Ah Aj tR Ab Ae Aa Ai Ag An Ac Am Ad Al tVwk qVwk0 fVwk0 tX Be As Aw Au Bf Ap Ar Bh Ay Ao tP Ba Av At Bd Bg Ax Bc Az Aq Bb
 replace M := Sep.new M g1
 simp only [zC, zN] at M
 clear g1
 obtain ⟨tS, Af, Ak, Ah, Aj⟩ := M.f2 3 rfl
 obtain ⟨tR, Ab, Ae, Aa, Ai, Ag, An, Ac, Am, Ad, Al⟩ := M.f5 4 rfl
 go_wp2_with fail
 clear tS Af Ak Ah Aj tR Ab Ae Aa Ai Ag An Ac Am Ad Al
 replace M := M.gset5 4 rfl (.slice B0 o.ts.length d0) (.slice B1 o.ks.length d1) (.slice B2 o.fs.length d2) (.int .i64 o.tn) (.bool o.st)
 obtain ⟨W3, eW, M⟩ := M
 rw [eW]
 clear eW
 simp only [zZ, zS] at M
 replace M := M.gset2 3 rfl (.int .i64 o.rp) (.int .i64 o.ou)
 obtain ⟨W4, eW, M⟩ := M
 rw [eW]
 clear eW
 simp only [zZ, zS] at M
 obtain ⟨tS, Af, Ah⟩ := M.q2 3 rfl
 obtain ⟨tR, Ab, Aa, Ag, Ac, Ad⟩ := M.q5 4 rfl
 exact bodyPost_ret (by simp [results, Tryz.results34, go_sem, Ab, Aa, Ag, Ac, Ad, Af, Ah]) rfl ⟨B0, B1, B2, d0, d1, d2, rfl, M.take 3⟩
theorem taken_told (a b c d e : Int) (ts : List T7) (ks : List Int) (fs : List F2) (tn : Int) (st : Bool) (wk : Int) (hl : ts.length + ks.length + fs.length ≤ 1048576) :
 ∃ (us : List T7) (ks2 : List Int) (fs2 : List F2) (tn2 : Int) (st2 : Bool) (rp ou : Int), us.length + ks2.length + fs2.length ≤ 1048576 ∧
 ((rp = 1 → ∃ (k : Nat) (x : T7), ou = k ∧ firstM ts = k ∧ ts[k]? = some x ∧ x.s = 1 ∧ us = ts.set k ⟨2, x.l, wk, x.wt, x.on, x.v, x.t⟩ ∧ ks2 = ks ∧ fs2 = fs ∧ tn2 = tn ∧ st2 = st ∧ runM ts wk 0 = -1 ∧ poolB a b c d e us ks2 fs2 tn2 = true) ∧ (rp ≠ 1 → poolB a b c d e ts ks fs tn = true → us = ts ∧ ks2 = ks ∧ fs2 = fs ∧ tn2 = tn ∧ st2 = st ∧ (btw wk 0 (a - 1) = true → (firstM ts = -1 ∨ 0 ≤ runM ts wk 0) ∧ (0 ≤ runM ts wk 0 → rp = 3)))) ∧
 Hid (∀ (A0 A1 A2 : Option Addr) (c0 c1 c2 : Nat) (w : World), InPool w ts ks fs A0 A1 A2 → Calls Tryz.prog 17 #[.agg #[.int .i64 a, .int .i64 b, .int .i64 c, .int .i64 d, .int .i64 e], .agg #[.slice A0 ts.length c0, .slice A1 ks.length c1, .slice A2 fs.length c2, .int .i64 tn, .bool st], .int .i64 wk] w (GaveA us ks2 fs2 tn2 st2 rp ou w)) ∧
 Hid (∀ (A0 A1 A2 : Option Addr) (c0 c1 c2 : Nat) (w : World), InPool w ts ks fs A0 A1 A2 → Calls Tryz.prog 34 #[.agg #[.int .i64 a, .int .i64 b, .int .i64 c, .int .i64 d, .int .i64 e], .agg #[.slice A0 ts.length c0, .slice A1 ks.length c1, .slice A2 fs.length c2, .int .i64 tn, .bool st], .int .i64 wk] w (GaveA us ks2 fs2 tn2 st2 rp ou w)) := by
 have ht : ts.length ≤ 1048576 := by omega
 have hk : ks.length ≤ 1048576 := by omega
 have hf : fs.length ≤ 1048576 := by omega
 cases hp : poolB a b c d e ts ks fs tn
 ·exact ⟨[], [], [], 0, false, 8, 0, by simp, ⟨(fun h => by omega), (fun _ h => by cases h)⟩, hide (fun A0 A1 A2 c0 c1 c2 w h => (taken_may a b c d e ts ks fs A0 A1 A2 c0 c1 c2 tn st wk w ht hk hf h _ rfl (by simp [mayB, hp])).mono (fun r w' hh => by rw [hp] at hh; exact hh)), hide (fun A0 A1 A2 c0 c1 c2 w h => gTaken_face a b c d e ts ks fs A0 A1 A2 c0 c1 c2 tn st wk w ht hk hf h ⟨[], [], [], 0, false, 8, 0⟩ (fun V bwk hV hwk lwk => lived_bad a b c d e ts ks fs A0 A1 A2 c0 c1 c2 tn st wk 88 #[.pointer (some ⟨bwk, 0, none⟩)] (Go.Proofs.enters_of Tryz.func88 (by kernel_rfl) rfl) V ht hk hf (h.below hV) hp))⟩
 have hpl := (poolB_parts hp).1
 have hT := (poolB_parts hp).2.1
 cases hw : btw wk 0 (a - 1)
 ·exact ⟨ts, ks, fs, tn, st, 8, 0, hl, ⟨(fun h => by omega), fun _ _ => ⟨rfl, rfl, rfl, rfl, rfl, (fun h => by cases h)⟩⟩, hide (fun A0 A1 A2 c0 c1 c2 w h => (taken_may a b c d e ts ks fs A0 A1 A2 c0 c1 c2 tn st wk w ht hk hf h _ rfl (by simp [mayB, workB, hp, hw])).mono (fun r w' hh => by rw [hp] at hh; exact hh)), hide (fun A0 A1 A2 c0 c1 c2 w h => gTaken_face a b c d e ts ks fs A0 A1 A2 c0 c1 c2 tn st wk w ht hk hf h ⟨ts, ks, fs, tn, st, 8, 0⟩ (fun V bwk hV hwk lwk => lived_worker a b c d e ts ks fs A0 A1 A2 c0 c1 c2 tn st wk 88 #[.pointer (some ⟨bwk, 0, none⟩)] (Go.Proofs.enters_of Tryz.func88 (by kernel_rfl) rfl) V ht hk hf (h.below hV) hp hw))⟩
 have hm : mayB a b c d e ts ks fs tn wk = true := by simp [mayB, workB, hp, hw, hpl]
 by_cases h0 : 0 ≤ runM ts wk 0
 ·exact ⟨ts, ks, fs, tn, st, 3, 0, hl, ⟨(fun h => by omega), fun _ _ => ⟨rfl, rfl, rfl, rfl, rfl, fun _ => ⟨.inr h0, fun _ => rfl⟩⟩⟩, hide (fun A0 A1 A2 c0 c1 c2 w h => (taken_busy a b c d e ts ks fs A0 A1 A2 c0 c1 c2 tn st wk w ht hk hf h _ rfl hm _ rfl h0).mono (fun r w' hh => by rw [hp] at hh; exact hh)), hide (fun A0 A1 A2 c0 c1 c2 w h => gTaken_face a b c d e ts ks fs A0 A1 A2 c0 c1 c2 tn st wk w ht hk hf h ⟨ts, ks, fs, tn, st, 3, 0⟩ (fun V bwk hV hwk lwk => lived_no a b c d e ts ks fs A0 A1 A2 c0 c1 c2 tn st wk 88 #[.pointer (some ⟨bwk, 0, none⟩)] (Go.Proofs.enters_of Tryz.func88 (by kernel_rfl) rfl) V ht hk hf (h.below hV) hp hw 3 (fun V2 g C0 C1 C2 e0 e1 e2 hV2 hM => takenC_no ts ks fs C0 C1 C2 e0 e1 e2 tn st g wk bwk 3 V2 hM ((hV2.cell (p := ⟨bwk, 0, none⟩) lwk).trans hwk) (Nat.lt_of_lt_of_le lwk hV2.size) (fun V3 hM3 => take_busy ts ks fs C0 C1 C2 e0 e1 e2 tn st g wk _ V3 ht hk hf hM3 rfl h0))))⟩
 have hr := runM_none (show runM ts wk 0 < 0 by omega)
 by_cases h1 : firstM ts < 0
 ·have hfr := firstM_none h1
  cases st
  ·exact ⟨ts, ks, fs, tn, false, 2, 0, hl, ⟨(fun h => by omega), fun _ _ => ⟨rfl, rfl, rfl, rfl, rfl, fun _ => ⟨.inl hfr, fun h => absurd h h0⟩⟩⟩, hide (fun A0 A1 A2 c0 c1 c2 w h => (taken_none a b c d e ts ks fs A0 A1 A2 c0 c1 c2 tn wk w ht hk hf h _ rfl hm _ rfl (by omega) h1).mono (fun r w' hh => by rw [hp] at hh; exact hh)), hide (fun A0 A1 A2 c0 c1 c2 w h => gTaken_face a b c d e ts ks fs A0 A1 A2 c0 c1 c2 tn false wk w ht hk hf h ⟨ts, ks, fs, tn, false, 2, 0⟩ (fun V bwk hV hwk lwk => lived_no a b c d e ts ks fs A0 A1 A2 c0 c1 c2 tn false wk 88 #[.pointer (some ⟨bwk, 0, none⟩)] (Go.Proofs.enters_of Tryz.func88 (by kernel_rfl) rfl) V ht hk hf (h.below hV) hp hw 2 (fun V2 g C0 C1 C2 e0 e1 e2 hV2 hM => takenC_no ts ks fs C0 C1 C2 e0 e1 e2 tn false g wk bwk 2 V2 hM ((hV2.cell (p := ⟨bwk, 0, none⟩) lwk).trans hwk) (Nat.lt_of_lt_of_le lwk hV2.size) (fun V3 hM3 => take_none ts ks fs C0 C1 C2 e0 e1 e2 tn g wk V3 ht hk hf hM3 hr hfr))))⟩
  ·exact ⟨ts, ks, fs, tn, true, 6, 0, hl, ⟨(fun h => by omega), fun _ _ => ⟨rfl, rfl, rfl, rfl, rfl, fun _ => ⟨.inl hfr, fun h => absurd h h0⟩⟩⟩, hide (fun A0 A1 A2 c0 c1 c2 w h => (taken_stop a b c d e ts ks fs A0 A1 A2 c0 c1 c2 tn wk w ht hk hf h _ rfl hm _ rfl (by omega) h1).mono (fun r w' hh => by rw [hp] at hh; exact hh)), hide (fun A0 A1 A2 c0 c1 c2 w h => gTaken_face a b c d e ts ks fs A0 A1 A2 c0 c1 c2 tn true wk w ht hk hf h ⟨ts, ks, fs, tn, true, 6, 0⟩ (fun V bwk hV hwk lwk => lived_no a b c d e ts ks fs A0 A1 A2 c0 c1 c2 tn true wk 88 #[.pointer (some ⟨bwk, 0, none⟩)] (Go.Proofs.enters_of Tryz.func88 (by kernel_rfl) rfl) V ht hk hf (h.below hV) hp hw 6 (fun V2 g C0 C1 C2 e0 e1 e2 hV2 hM => takenC_no ts ks fs C0 C1 C2 e0 e1 e2 tn true g wk bwk 6 V2 hM ((hV2.cell (p := ⟨bwk, 0, none⟩) lwk).trans hwk) (Nat.lt_of_lt_of_le lwk hV2.size) (fun V3 hM3 => take_stop ts ks fs C0 C1 C2 e0 e1 e2 tn g wk V3 ht hk hf hM3 hr hfr))))⟩
 obtain ⟨k, s, l, o1, wt, on, v, t, hfr, hts, hs1⟩ := firstM_ready h1
 have hz := takeP_right hp hts hs1 hw hr
 exact ⟨ts.set k ⟨2, l, wk, wt, on, v, t⟩, ks, fs, tn, st, 1, k, by simpa using hl, ⟨fun _ => ⟨k, ⟨s, l, o1, wt, on, v, t⟩, rfl, hfr, hts, hs1, rfl, rfl, rfl, rfl, rfl, hr, hz⟩, fun h => absurd rfl h⟩, hide (fun A0 A1 A2 c0 c1 c2 w h => (taken_main a b c d e ts ks fs A0 A1 A2 c0 c1 c2 tn st wk w ht hk hf h k s l o1 wt on v t hts hfr hm _ hr (by omega)).mono (fun r w' hh => by rw [hz] at hh; exact hh)), hide (fun A0 A1 A2 c0 c1 c2 w h => gTaken_face a b c d e ts ks fs A0 A1 A2 c0 c1 c2 tn st wk w ht hk hf h ⟨ts.set k ⟨2, l, wk, wt, on, v, t⟩, ks, fs, tn, st, 1, k⟩ (fun V bwk hV hwk lwk => lived_yes a b c d e ts ks fs A0 A1 A2 c0 c1 c2 tn st wk 88 #[.pointer (some ⟨bwk, 0, none⟩)] (Go.Proofs.enters_of Tryz.func88 (by kernel_rfl) rfl) V ht hk hf (h.below hV) hp hw _ (fun V2 g C0 C1 C2 e0 e1 e2 hV2 hM => takenC_yes ts ks fs C0 C1 C2 e0 e1 e2 tn st g wk bwk _ V2 hM ((hV2.cell (p := ⟨bwk, 0, none⟩) lwk).trans hwk) (Nat.lt_of_lt_of_le lwk hV2.size) (fun V3 hM3 => by have h9 := take_ok ts ks fs C0 C1 C2 e0 e1 e2 tn st g wk V3 ht hk hf hM3 k s l o1 wt on v t hts hr hfr; rw [show (ts.set k ⟨2, l, wk, wt, on, v, t⟩).length = ts.length from List.length_set]; exact h9))))⟩
end Go.Proofs.YtfkdfkoigojciaaGreatDoor
