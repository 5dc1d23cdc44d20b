/- The model's Taken, Yielded, Ended, Spawned: what they answer, as one thing. Lists no longer than a million. -/
import Derived.Test.YtfjgelegojbmgaaGreatQB14
import Derived.Test.YtfjgelegojbmgaaGreatQB11

namespace Go.Proofs.YtfjgelegojbmgaaGreat
open Go.RowKit
set_option linter.unusedVariables false
set_option maxRecDepth 100000
set_option maxHeartbeats 4000000 in
theorem taken_may (a b c d e : Int) (ts : List T7) (ks : List Int) (fs : List F2) (A0 A1 A2 : Option Addr) (c0 c1 c2 : Nat) (tn : Int) (st : Bool) (wk : Int) (w : World) (ht : ts.length ≤ 1048576) (hk : ks.length ≤ 1048576) (hf : fs.length ≤ 1048576) (h : InPool w ts ks fs A0 A1 A2) (fr : Int) (hfr : firstM ts = fr) (hm : mayB a b c d e ts ks fs tn wk = false) :
 Calls Tryz.prog 29 #[.agg #[.int .i64 a, .int .i64 b, .int .i64 c, .int .i64 d, .int .i64 e], .agg #[.slice A0 ts.length c0, .slice A1 ks.length c1, .slice A2 fs.length c2, .int .i64 tn, .bool st], .int .i64 wk] w (GaveS [] w (noO (poolB a b c d e ts ks fs tn) ts ks fs tn st 8)) := by
 have H := hide h
 clear h
 have hNo := hide (fun (V : World) (hV : InPool V ts ks fs A0 A1 A2) => l6No_s a b c d e ts ks fs A0 A1 A2 c0 c1 c2 tn st 8 V ht hk hf hV)
 generalize noO (poolB a b c d e ts ks fs tn) ts ks fs tn st 8 = o at hNo ⊢
 have HY := hide (⟨hfr, hm, trivial⟩ : _ ∧ _ ∧ True)
 clear hfr hm
 go_enter Tryz.func29, Tryz.ntmps29
 go_wp2_with fail
 generalize hW : (((w.alloc _).alloc _).alloc _).alloc _ = W1
 have M := Sep.e4 hW
 clear hW
 obtain ⟨tX, Ah, Aa, Ag, Aj, Ai⟩ := M.q5 2 rfl
 obtain ⟨tP, Ab, Ad, Ac, Af, Ae⟩ := M.q5 3 rfl
 go_call (firstReady_v ts A0 A1 A2 c0 ks.length c1 fs.length c2 tn st fr HY.out.1 _ ht (H.out.below M.below).1) as r W2 ⟨rfl, g1⟩
 clear tX Ah Aa Ag Aj Ai tP Ab Ad Ac Af Ae
 replace M := M.call g1
 clear g1
 obtain ⟨tX, Ah, Aa, Ag, Aj, Ai⟩ := M.q5 2 rfl
 obtain ⟨tP, Ab, Ad, Ac, Af, Ae⟩ := M.q5 3 rfl
 go_wp2_with fail
 go_call (l6May_v a b c d e ts ks fs A0 A1 A2 c0 c1 c2 tn st wk false HY.out.2.1 _ ht hk hf (H.out.below M.below)) as r W3 ⟨rfl, g1⟩
 clear tX Ah Aa Ag Aj Ai tP Ab Ad Ac Af Ae
 replace M := M.call g1
 clear g1
 obtain ⟨tX, Ah, Aa, Ag, Aj, Ai⟩ := M.q5 2 rfl
 obtain ⟨tP, Ab, Ad, Ac, Af, Ae⟩ := M.q5 3 rfl
 go_wp2_with fail
 go_call (hNo.out _ (H.out.below M.below)) as r W4 ⟨B0, B1, B2, d0, d1, d2, rfl, g1⟩
 clear tX Ah Aa Ag Aj Ai tP Ab Ad Ac Af Ae
 replace M := Sep.new M g1
 simp only [List.cons_append, List.nil_append] at M
 clear g1
 obtain ⟨tS, Al, As, Ak, Au⟩ := M.f2 3 rfl
 obtain ⟨tR, Ao, Aw, Aq, At, An, Ar, Ap, Ax, Am, Av⟩ := M.f5 4 rfl
 go_wp2_with fail
 clear tS Al As Ak Au tR Ao Aw Aq At An Ar Ap Ax Am Av
 have N := M.gset5 4 rfl (.slice B0 o.ts.length d0) (.slice B1 o.ks.length d1) (.slice B2 o.fs.length d2) (.int .i64 o.tn) (.bool o.st)
 clear M
 obtain ⟨W5, eW, M⟩ := N
 rw [eW]
 clear eW
 simp only [List.set_cons_zero, List.set_cons_succ] at M
 have N := M.gset2 3 rfl (.int .i64 o.rp) (.int .i64 o.ou)
 clear M
 obtain ⟨W6, eW, M⟩ := N
 rw [eW]
 clear eW
 simp only [List.set_cons_zero, List.set_cons_succ] at M
 obtain ⟨tS, Al, Ak⟩ := M.q2 3 rfl
 obtain ⟨tR, Ao, Aq, An, Ap, Am⟩ := M.q5 4 rfl
 exact bodyPost_ret (by simp [results, Tryz.results29, go_sem, Ao, Aq, An, Ap, Am, Al, Ak]) rfl ⟨B0, B1, B2, d0, d1, d2, rfl, M.take 3⟩
set_option maxHeartbeats 4000000 in
theorem taken_busy (a b c d e : Int) (ts : List T7) (ks : List Int) (fs : List F2) (A0 A1 A2 : Option Addr) (c0 c1 c2 : Nat) (tn : Int) (st : Bool) (wk : Int) (w : World) (ht : ts.length ≤ 1048576) (hk : ks.length ≤ 1048576) (hf : fs.length ≤ 1048576) (h : InPool w ts ks fs A0 A1 A2) (fr : Int) (hfr : firstM ts = fr) (hm : mayB a b c d e ts ks fs tn wk = true) (me : Int) (hme : runM ts wk 0 = me) (h0 : 0 ≤ me) :
 Calls Tryz.prog 29 #[.agg #[.int .i64 a, .int .i64 b, .int .i64 c, .int .i64 d, .int .i64 e], .agg #[.slice A0 ts.length c0, .slice A1 ks.length c1, .slice A2 fs.length c2, .int .i64 tn, .bool st], .int .i64 wk] w (GaveS [] w (noO (poolB a b c d e ts ks fs tn) ts ks fs tn st 3)) := by
 have H := hide h
 clear h
 have hNo := hide (fun (V : World) (hV : InPool V ts ks fs A0 A1 A2) => l6No_s a b c d e ts ks fs A0 A1 A2 c0 c1 c2 tn st 3 V ht hk hf hV)
 generalize noO (poolB a b c d e ts ks fs tn) ts ks fs tn st 3 = o at hNo ⊢
 have HY := hide (⟨hfr, hm, hme, trivial⟩ : _ ∧ _ ∧ _ ∧ True)
 clear hfr hm hme
 go_enter Tryz.func29, Tryz.ntmps29
 go_wp2_with fail
 generalize hW : (((w.alloc _).alloc _).alloc _).alloc _ = W1
 have M := Sep.e4 hW
 clear hW
 obtain ⟨tX, Ah, Aa, Ag, Aj, Ai⟩ := M.q5 2 rfl
 obtain ⟨tP, Ab, Ad, Ac, Af, Ae⟩ := M.q5 3 rfl
 go_call (firstReady_v ts A0 A1 A2 c0 ks.length c1 fs.length c2 tn st fr HY.out.1 _ ht (H.out.below M.below).1) as r W2 ⟨rfl, g1⟩
 clear tX Ah Aa Ag Aj Ai tP Ab Ad Ac Af Ae
 replace M := M.call g1
 clear g1
 obtain ⟨tX, Ah, Aa, Ag, Aj, Ai⟩ := M.q5 2 rfl
 obtain ⟨tP, Ab, Ad, Ac, Af, Ae⟩ := M.q5 3 rfl
 go_wp2_with fail
 go_call (l6May_v a b c d e ts ks fs A0 A1 A2 c0 c1 c2 tn st wk true HY.out.2.1 _ ht hk hf (H.out.below M.below)) as r W3 ⟨rfl, g1⟩
 clear tX Ah Aa Ag Aj Ai tP Ab Ad Ac Af Ae
 replace M := M.call g1
 clear g1
 obtain ⟨tX, Ah, Aa, Ag, Aj, Ai⟩ := M.q5 2 rfl
 obtain ⟨tP, Ab, Ad, Ac, Af, Ae⟩ := M.q5 3 rfl
 go_wp2_with fail
 go_call (sRunBy_v ts A0 A1 A2 c0 ks.length c1 fs.length c2 tn st wk me HY.out.2.2.1 _ ht (H.out.below M.below).1) as r W4 ⟨rfl, g1⟩
 clear tX Ah Aa Ag Aj Ai tP Ab Ad Ac Af Ae
 replace M := M.call g1
 clear g1
 obtain ⟨tX, Ah, Aa, Ag, Aj, Ai⟩ := M.q5 2 rfl
 obtain ⟨tP, Ab, Ad, Ac, Af, Ae⟩ := M.q5 3 rfl
 go_wp2_with fail
 go_call (hNo.out _ (H.out.below M.below)) as r W5 ⟨B0, B1, B2, d0, d1, d2, rfl, g1⟩
 clear tX Ah Aa Ag Aj Ai tP Ab Ad Ac Af Ae
 replace M := Sep.new M g1
 simp only [List.cons_append, List.nil_append] at M
 clear g1
 obtain ⟨tS, Al, As, Ak, Au⟩ := M.f2 3 rfl
 obtain ⟨tR, Ao, Aw, Aq, At, An, Ar, Ap, Ax, Am, Av⟩ := M.f5 4 rfl
 go_wp2_with fail
 clear tS Al As Ak Au tR Ao Aw Aq At An Ar Ap Ax Am Av
 have N := M.gset5 4 rfl (.slice B0 o.ts.length d0) (.slice B1 o.ks.length d1) (.slice B2 o.fs.length d2) (.int .i64 o.tn) (.bool o.st)
 clear M
 obtain ⟨W6, eW, M⟩ := N
 rw [eW]
 clear eW
 simp only [List.set_cons_zero, List.set_cons_succ] at M
 have N := M.gset2 3 rfl (.int .i64 o.rp) (.int .i64 o.ou)
 clear M
 obtain ⟨W7, eW, M⟩ := N
 rw [eW]
 clear eW
 simp only [List.set_cons_zero, List.set_cons_succ] at M
 obtain ⟨tS, Al, Ak⟩ := M.q2 3 rfl
 obtain ⟨tR, Ao, Aq, An, Ap, Am⟩ := M.q5 4 rfl
 exact bodyPost_ret (by simp [results, Tryz.results29, go_sem, Ao, Aq, An, Ap, Am, Al, Ak]) rfl ⟨B0, B1, B2, d0, d1, d2, rfl, M.take 3⟩
set_option maxHeartbeats 4000000 in
theorem taken_stop (a b c d e : Int) (ts : List T7) (ks : List Int) (fs : List F2) (A0 A1 A2 : Option Addr) (c0 c1 c2 : Nat) (tn : Int) (wk : Int) (w : World) (ht : ts.length ≤ 1048576) (hk : ks.length ≤ 1048576) (hf : fs.length ≤ 1048576) (h : InPool w ts ks fs A0 A1 A2) (fr : Int) (hfr : firstM ts = fr) (hm : mayB a b c d e ts ks fs tn wk = true) (me : Int) (hme : runM ts wk 0 = me) (h0 : me < 0) (h1 : fr < 0) :
 Calls Tryz.prog 29 #[.agg #[.int .i64 a, .int .i64 b, .int .i64 c, .int .i64 d, .int .i64 e], .agg #[.slice A0 ts.length c0, .slice A1 ks.length c1, .slice A2 fs.length c2, .int .i64 tn, .bool true], .int .i64 wk] w (GaveS [] w (noO (poolB a b c d e ts ks fs tn) ts ks fs tn true 6)) := by
 have H := hide h
 clear h
 have hNo := hide (fun (V : World) (hV : InPool V ts ks fs A0 A1 A2) => l6No_s a b c d e ts ks fs A0 A1 A2 c0 c1 c2 tn true 6 V ht hk hf hV)
 generalize noO (poolB a b c d e ts ks fs tn) ts ks fs tn true 6 = o at hNo ⊢
 have HY := hide (⟨hfr, hm, hme, trivial⟩ : _ ∧ _ ∧ _ ∧ True)
 clear hfr hm hme
 go_enter Tryz.func29, Tryz.ntmps29
 go_wp2_with fail
 generalize hW : (((w.alloc _).alloc _).alloc _).alloc _ = W1
 have M := Sep.e4 hW
 clear hW
 obtain ⟨tX, Ah, Aa, Ag, Aj, Ai⟩ := M.q5 2 rfl
 obtain ⟨tP, Ab, Ad, Ac, Af, Ae⟩ := M.q5 3 rfl
 go_call (firstReady_v ts A0 A1 A2 c0 ks.length c1 fs.length c2 tn true fr HY.out.1 _ ht (H.out.below M.below).1) as r W2 ⟨rfl, g1⟩
 clear tX Ah Aa Ag Aj Ai tP Ab Ad Ac Af Ae
 replace M := M.call g1
 clear g1
 obtain ⟨tX, Ah, Aa, Ag, Aj, Ai⟩ := M.q5 2 rfl
 obtain ⟨tP, Ab, Ad, Ac, Af, Ae⟩ := M.q5 3 rfl
 go_wp2_with fail
 go_call (l6May_v a b c d e ts ks fs A0 A1 A2 c0 c1 c2 tn true wk true HY.out.2.1 _ ht hk hf (H.out.below M.below)) as r W3 ⟨rfl, g1⟩
 clear tX Ah Aa Ag Aj Ai tP Ab Ad Ac Af Ae
 replace M := M.call g1
 clear g1
 obtain ⟨tX, Ah, Aa, Ag, Aj, Ai⟩ := M.q5 2 rfl
 obtain ⟨tP, Ab, Ad, Ac, Af, Ae⟩ := M.q5 3 rfl
 go_wp2_with fail
 go_call (sRunBy_v ts A0 A1 A2 c0 ks.length c1 fs.length c2 tn true wk me HY.out.2.2.1 _ ht (H.out.below M.below).1) as r W4 ⟨rfl, g1⟩
 clear tX Ah Aa Ag Aj Ai tP Ab Ad Ac Af Ae
 replace M := M.call g1
 clear g1
 obtain ⟨tX, Ah, Aa, Ag, Aj, Ai⟩ := M.q5 2 rfl
 obtain ⟨tP, Ab, Ad, Ac, Af, Ae⟩ := M.q5 3 rfl
 go_wp2_with fail
 go_call (hNo.out _ (H.out.below M.below)) as r W5 ⟨B0, B1, B2, d0, d1, d2, rfl, g1⟩
 clear tX Ah Aa Ag Aj Ai tP Ab Ad Ac Af Ae
 replace M := Sep.new M g1
 simp only [List.cons_append, List.nil_append] at M
 clear g1
 obtain ⟨tS, Al, As, Ak, Au⟩ := M.f2 3 rfl
 obtain ⟨tR, Ao, Aw, Aq, At, An, Ar, Ap, Ax, Am, Av⟩ := M.f5 4 rfl
 go_wp2_with fail
 clear tS Al As Ak Au tR Ao Aw Aq At An Ar Ap Ax Am Av
 have N := M.gset5 4 rfl (.slice B0 o.ts.length d0) (.slice B1 o.ks.length d1) (.slice B2 o.fs.length d2) (.int .i64 o.tn) (.bool o.st)
 clear M
 obtain ⟨W6, eW, M⟩ := N
 rw [eW]
 clear eW
 simp only [List.set_cons_zero, List.set_cons_succ] at M
 have N := M.gset2 3 rfl (.int .i64 o.rp) (.int .i64 o.ou)
 clear M
 obtain ⟨W7, eW, M⟩ := N
 rw [eW]
 clear eW
 simp only [List.set_cons_zero, List.set_cons_succ] at M
 obtain ⟨tS, Al, Ak⟩ := M.q2 3 rfl
 obtain ⟨tR, Ao, Aq, An, Ap, Am⟩ := M.q5 4 rfl
 exact bodyPost_ret (by simp [results, Tryz.results29, go_sem, Ao, Aq, An, Ap, Am, Al, Ak]) rfl ⟨B0, B1, B2, d0, d1, d2, rfl, M.take 3⟩
set_option maxHeartbeats 4000000 in
theorem taken_none (a b c d e : Int) (ts : List T7) (ks : List Int) (fs : List F2) (A0 A1 A2 : Option Addr) (c0 c1 c2 : Nat) (tn : Int) (wk : Int) (w : World) (ht : ts.length ≤ 1048576) (hk : ks.length ≤ 1048576) (hf : fs.length ≤ 1048576) (h : InPool w ts ks fs A0 A1 A2) (fr : Int) (hfr : firstM ts = fr) (hm : mayB a b c d e ts ks fs tn wk = true) (me : Int) (hme : runM ts wk 0 = me) (h0 : me < 0) (h1 : fr < 0) :
 Calls Tryz.prog 29 #[.agg #[.int .i64 a, .int .i64 b, .int .i64 c, .int .i64 d, .int .i64 e], .agg #[.slice A0 ts.length c0, .slice A1 ks.length c1, .slice A2 fs.length c2, .int .i64 tn, .bool false], .int .i64 wk] w (GaveS [] w (noO (poolB a b c d e ts ks fs tn) ts ks fs tn false 2)) := by
 have H := hide h
 clear h
 have hNo := hide (fun (V : World) (hV : InPool V ts ks fs A0 A1 A2) => l6No_s a b c d e ts ks fs A0 A1 A2 c0 c1 c2 tn false 2 V ht hk hf hV)
 generalize noO (poolB a b c d e ts ks fs tn) ts ks fs tn false 2 = o at hNo ⊢
 have HY := hide (⟨hfr, hm, hme, trivial⟩ : _ ∧ _ ∧ _ ∧ True)
 clear hfr hm hme
 go_enter Tryz.func29, Tryz.ntmps29
 go_wp2_with fail
 generalize hW : (((w.alloc _).alloc _).alloc _).alloc _ = W1
 have M := Sep.e4 hW
 clear hW
 obtain ⟨tX, Ah, Aa, Ag, Aj, Ai⟩ := M.q5 2 rfl
 obtain ⟨tP, Ab, Ad, Ac, Af, Ae⟩ := M.q5 3 rfl
 go_call (firstReady_v ts A0 A1 A2 c0 ks.length c1 fs.length c2 tn false fr HY.out.1 _ ht (H.out.below M.below).1) as r W2 ⟨rfl, g1⟩
 clear tX Ah Aa Ag Aj Ai tP Ab Ad Ac Af Ae
 replace M := M.call g1
 clear g1
 obtain ⟨tX, Ah, Aa, Ag, Aj, Ai⟩ := M.q5 2 rfl
 obtain ⟨tP, Ab, Ad, Ac, Af, Ae⟩ := M.q5 3 rfl
 go_wp2_with fail
 go_call (l6May_v a b c d e ts ks fs A0 A1 A2 c0 c1 c2 tn false wk true HY.out.2.1 _ ht hk hf (H.out.below M.below)) as r W3 ⟨rfl, g1⟩
 clear tX Ah Aa Ag Aj Ai tP Ab Ad Ac Af Ae
 replace M := M.call g1
 clear g1
 obtain ⟨tX, Ah, Aa, Ag, Aj, Ai⟩ := M.q5 2 rfl
 obtain ⟨tP, Ab, Ad, Ac, Af, Ae⟩ := M.q5 3 rfl
 go_wp2_with fail
 go_call (sRunBy_v ts A0 A1 A2 c0 ks.length c1 fs.length c2 tn false wk me HY.out.2.2.1 _ ht (H.out.below M.below).1) as r W4 ⟨rfl, g1⟩
 clear tX Ah Aa Ag Aj Ai tP Ab Ad Ac Af Ae
 replace M := M.call g1
 clear g1
 obtain ⟨tX, Ah, Aa, Ag, Aj, Ai⟩ := M.q5 2 rfl
 obtain ⟨tP, Ab, Ad, Ac, Af, Ae⟩ := M.q5 3 rfl
 go_wp2_with fail
 go_call (hNo.out _ (H.out.below M.below)) as r W5 ⟨B0, B1, B2, d0, d1, d2, rfl, g1⟩
 clear tX Ah Aa Ag Aj Ai tP Ab Ad Ac Af Ae
 replace M := Sep.new M g1
 simp only [List.cons_append, List.nil_append] at M
 clear g1
 obtain ⟨tS, Al, As, Ak, Au⟩ := M.f2 3 rfl
 obtain ⟨tR, Ao, Aw, Aq, At, An, Ar, Ap, Ax, Am, Av⟩ := M.f5 4 rfl
 go_wp2_with fail
 clear tS Al As Ak Au tR Ao Aw Aq At An Ar Ap Ax Am Av
 have N := M.gset5 4 rfl (.slice B0 o.ts.length d0) (.slice B1 o.ks.length d1) (.slice B2 o.fs.length d2) (.int .i64 o.tn) (.bool o.st)
 clear M
 obtain ⟨W6, eW, M⟩ := N
 rw [eW]
 clear eW
 simp only [List.set_cons_zero, List.set_cons_succ] at M
 have N := M.gset2 3 rfl (.int .i64 o.rp) (.int .i64 o.ou)
 clear M
 obtain ⟨W7, eW, M⟩ := N
 rw [eW]
 clear eW
 simp only [List.set_cons_zero, List.set_cons_succ] at M
 obtain ⟨tS, Al, Ak⟩ := M.q2 3 rfl
 obtain ⟨tR, Ao, Aq, An, Ap, Am⟩ := M.q5 4 rfl
 exact bodyPost_ret (by simp [results, Tryz.results29, go_sem, Ao, Aq, An, Ap, Am, Al, Ak]) rfl ⟨B0, B1, B2, d0, d1, d2, rfl, M.take 3⟩
set_option maxHeartbeats 4000000 in
theorem taken_main (a b c d e : Int) (ts : List T7) (ks : List Int) (fs : List F2) (A0 A1 A2 : Option Addr) (c0 c1 c2 : Nat) (tn : Int) (st : Bool) (wk : Int) (w : World) (ht : ts.length ≤ 1048576) (hk : ks.length ≤ 1048576) (hf : fs.length ≤ 1048576) (h : InPool w ts ks fs A0 A1 A2) (k : Nat) (s l o1 wt on v t : Int) (hts : ts[k]? = some ⟨s, l, o1, wt, on, v, t⟩) (hfr : firstM ts = k) (hm : mayB a b c d e ts ks fs tn wk = true) (me : Int) (hme : runM ts wk 0 = me) (h0 : me < 0) :
 Calls Tryz.prog 29 #[.agg #[.int .i64 a, .int .i64 b, .int .i64 c, .int .i64 d, .int .i64 e], .agg #[.slice A0 ts.length c0, .slice A1 ks.length c1, .slice A2 fs.length c2, .int .i64 tn, .bool st], .int .i64 wk] w (GaveS [] w (doneO (poolB a b c d e (ts.set k ⟨2, l, wk, wt, on, v, t⟩) ks fs tn) ts ks fs tn st (ts.set k ⟨2, l, wk, wt, on, v, t⟩) ks fs tn st 1 (k : Int))) := by
 have H := hide h
 clear h
 have hkl : k < ts.length := by
  rcases Nat.lt_or_ge k ts.length with h1 | h1
  ·exact h1
  ·rw [List.getElem?_eq_none h1] at hts; cases hts
 have hpo : poolB a b c d e ts ks fs tn = true := by
  have h1 := hm
  simp only [mayB, Bool.and_eq_true] at h1
  exact h1.1
 have hDn : Hid (∀ (A0x A1x A2x : Option Addr) (c0x c1x c2x : Nat) (rs : List Res) (V : World), InPool V ts ks fs A0 A1 A2 → Sep [] w V ([rT ts.length A0x c0x (ts.set k ⟨2, l, wk, wt, on, v, t⟩), rK ks.length A1x c1x ks, rF fs.length A2x c2x fs] ++ rs) → Calls Tryz.prog 74 #[.agg #[.int .i64 a, .int .i64 b, .int .i64 c, .int .i64 d, .int .i64 e], .agg #[.slice A0 ts.length c0, .slice A1 ks.length c1, .slice A2 fs.length c2, .int .i64 tn, .bool st], .agg #[.slice A0x ts.length c0x, .slice A1x ks.length c1x, .slice A2x fs.length c2x, .int .i64 tn, .bool st], .int .i64 1, .int .i64 (k : Int)] V (GaveS [rT ts.length A0x c0x (ts.set k ⟨2, l, wk, wt, on, v, t⟩), rK ks.length A1x c1x ks, rF fs.length A2x c2x fs] V (doneO (poolB a b c d e (ts.set k ⟨2, l, wk, wt, on, v, t⟩) ks fs tn) ts ks fs tn st (ts.set k ⟨2, l, wk, wt, on, v, t⟩) ks fs tn st 1 (k : Int)))) := hide (fun A0x A1x A2x c0x c1x c2x rs V h1 h2 => l6Done_s a b c d e ts ks fs A0 A1 A2 c0 c1 c2 tn st ts.length ks.length fs.length (ts.set k ⟨2, l, wk, wt, on, v, t⟩) ks fs A0x A1x A2x c0x c1x c2x tn st 1 (k : Int) V (by simp) rfl rfl hpo ht hk hf ht hk hf h1 h2)
 clear hpo
 generalize doneO (poolB a b c d e (ts.set k ⟨2, l, wk, wt, on, v, t⟩) ks fs tn) ts ks fs tn st (ts.set k ⟨2, l, wk, wt, on, v, t⟩) ks fs tn st 1 (k : Int) = o at hDn ⊢
 have HY := hide (⟨hfr, hm, hme, hts, trivial⟩ : _ ∧ _ ∧ _ ∧ _ ∧ True)
 clear hfr hm hme hts
 go_enter Tryz.func29, Tryz.ntmps29
 go_wp2_with fail
 generalize hW : (((w.alloc _).alloc _).alloc _).alloc _ = W1
 have M := Sep.e4 hW
 clear hW
 obtain ⟨tX, Ah, Aa, Ag, Aj, Ai⟩ := M.q5 2 rfl
 obtain ⟨tP, Ab, Ad, Ac, Af, Ae⟩ := M.q5 3 rfl
 go_call (firstReady_v ts A0 A1 A2 c0 ks.length c1 fs.length c2 tn st k HY.out.1 _ ht (H.out.below M.below).1) as r W2 ⟨rfl, g1⟩
 clear tX Ah Aa Ag Aj Ai tP Ab Ad Ac Af Ae
 replace M := M.call g1
 clear g1
 obtain ⟨tX, Ah, Aa, Ag, Aj, Ai⟩ := M.q5 2 rfl
 obtain ⟨tP, Ab, Ad, Ac, Af, Ae⟩ := M.q5 3 rfl
 go_wp2_with fail
 go_call (l6May_v a b c d e ts ks fs A0 A1 A2 c0 c1 c2 tn st wk true HY.out.2.1 _ ht hk hf (H.out.below M.below)) as r W3 ⟨rfl, g1⟩
 clear tX Ah Aa Ag Aj Ai tP Ab Ad Ac Af Ae
 replace M := M.call g1
 clear g1
 obtain ⟨tX, Ah, Aa, Ag, Aj, Ai⟩ := M.q5 2 rfl
 obtain ⟨tP, Ab, Ad, Ac, Af, Ae⟩ := M.q5 3 rfl
 go_wp2_with fail
 go_call (sRunBy_v ts A0 A1 A2 c0 ks.length c1 fs.length c2 tn st wk me HY.out.2.2.1 _ ht (H.out.below M.below).1) as r W4 ⟨rfl, g1⟩
 clear tX Ah Aa Ag Aj Ai tP Ab Ad Ac Af Ae
 replace M := M.call g1
 clear g1
 obtain ⟨tX, Ah, Aa, Ag, Aj, Ai⟩ := M.q5 2 rfl
 obtain ⟨tP, Ab, Ad, Ac, Af, Ae⟩ := M.q5 3 rfl
 go_wp2_with fail
 go_call (l3Copy_s ts ks fs A0 A1 A2 c0 c1 c2 tn st _ ht hk hf (H.out.below M.below)) as r W5 ⟨C0, C1, C2, e0, e1, e2, rfl, g1⟩
 clear tX Ah Aa Ag Aj Ai tP Ab Ad Ac Af Ae
 replace M := Sep.new M g1
 simp only [List.cons_append, List.nil_append] at M
 clear g1
 obtain ⟨g, rfl, hgl, hfz⟩ := rT_form (M.here _ (List.mem_cons_self)) (by omega)
 obtain ⟨tX, Ah, Aa, Ag, Aj, Ai⟩ := M.q5 5 rfl
 obtain ⟨tP, Ab, Ad, Ac, Af, Ae⟩ := M.q5 6 rfl
 have nS := M.ne 0 3 (by omega) rfl rfl rfl rfl
 have nR := M.ne 0 4 (by omega) rfl rfl rfl rfl
 have nX := M.ne 0 5 (by omega) rfl rfl rfl rfl
 have nP := M.ne 0 6 (by omega) rfl rfl rfl rfl
 have fz0 : W5.frozen? ⟨g, k * 7, none⟩ = false := hfz _
 have fz2 : W5.frozen? ⟨g, k * 7 + 2, none⟩ = false := hfz _
 clear hfz
 obtain ⟨s', l', o', wt', on', v', t', ht', y0, y1, y2, y3, y4, y5, y6⟩ := Own.t7 (M.rowAt 0 rfl) hkl
 clear ht' y1 y3 y4 y5 y6
 go_wp2_with fail
 clear tX Ah Aa Ag Aj Ai tP Ab Ad Ac Af Ae nS nR nX nP
 replace M : Sep [] w ((W5.setCell ⟨g, k * 7, none⟩ (.int .i64 2)).setCell ⟨g, k * 7 + 2, none⟩ (.int .i64 wk)) [rT ts.length (some ⟨g, 0, none⟩) e0 (ts.set k ⟨2, l, wk, wt, on, v, t⟩), rK ks.length C1 e1 ks, rF fs.length C2 e2 fs, .blk (w.heap.size + 3) 55 #[.int .i64 0, .int .i64 0], .blk (w.heap.size + 2) 30 #[.slice none 0 0, .slice none 0 0, .slice none 0 0, .int .i64 0, .bool false], .blk (w.heap.size + 1) 30 #[.slice A0 ts.length c0, .slice A1 ks.length c1, .slice A2 fs.length c2, .int .i64 tn, .bool st], .blk (w.heap.size) 25 #[.int .i64 a, .int .i64 b, .int .i64 c, .int .i64 d, .int .i64 e]] := M.putT2 0 rfl k 0 2 (by omega) (by omega) ⟨s, l, o1, wt, on, v, t⟩ 2 wk HY.out.2.2.2.1
 replace M : Sep [] w (((W5.setCell ⟨g, k * 7, none⟩ (.int .i64 2)).setCell ⟨g, k * 7 + 2, none⟩ (.int .i64 wk)).alloc (.cells #[.slice (some ⟨g, 0, none⟩) ts.length e0, .slice C1 ks.length e1, .slice C2 fs.length e2, .int .i64 tn, .bool st] 30)) [.blk (W5.heap.size) 30 #[.slice (some ⟨g, 0, none⟩) ts.length e0, .slice C1 ks.length e1, .slice C2 fs.length e2, .int .i64 tn, .bool st], rT ts.length (some ⟨g, 0, none⟩) e0 (ts.set k ⟨2, l, wk, wt, on, v, t⟩), rK ks.length C1 e1 ks, rF fs.length C2 e2 fs, .blk (w.heap.size + 3) 55 #[.int .i64 0, .int .i64 0], .blk (w.heap.size + 2) 30 #[.slice none 0 0, .slice none 0 0, .slice none 0 0, .int .i64 0, .bool false], .blk (w.heap.size + 1) 30 #[.slice A0 ts.length c0, .slice A1 ks.length c1, .slice A2 fs.length c2, .int .i64 tn, .bool st], .blk (w.heap.size) 25 #[.int .i64 a, .int .i64 b, .int .i64 c, .int .i64 d, .int .i64 e]] := M.alloc 30 #[.slice (some ⟨g, 0, none⟩) ts.length e0, .slice C1 ks.length e1, .slice C2 fs.length e2, .int .i64 tn, .bool st] _ (by simp [World.setCell])
 generalize ((W5.setCell ⟨g, k * 7, none⟩ (.int .i64 2)).setCell ⟨g, k * 7 + 2, none⟩ (.int .i64 wk)).alloc (.cells #[.slice (some ⟨g, 0, none⟩) ts.length e0, .slice C1 ks.length e1, .slice C2 fs.length e2, .int .i64 tn, .bool st] 30) = W6 at M ⊢
 clear fz0 y0 fz2 y2
 replace M : Sep [] w W6 [rT ts.length (some ⟨g, 0, none⟩) e0 (ts.set k ⟨2, l, wk, wt, on, v, t⟩), rK ks.length C1 e1 ks, rF fs.length C2 e2 fs, .blk (W5.heap.size) 30 #[.slice (some ⟨g, 0, none⟩) ts.length e0, .slice C1 ks.length e1, .slice C2 fs.length e2, .int .i64 tn, .bool st], .blk (w.heap.size + 3) 55 #[.int .i64 0, .int .i64 0], .blk (w.heap.size + 2) 30 #[.slice none 0 0, .slice none 0 0, .slice none 0 0, .int .i64 0, .bool false], .blk (w.heap.size + 1) 30 #[.slice A0 ts.length c0, .slice A1 ks.length c1, .slice A2 fs.length c2, .int .i64 tn, .bool st], .blk (w.heap.size) 25 #[.int .i64 a, .int .i64 b, .int .i64 c, .int .i64 d, .int .i64 e]] := Sep.back (l1 := [rT ts.length (some ⟨g, 0, none⟩) e0 (ts.set k ⟨2, l, wk, wt, on, v, t⟩), rK ks.length C1 e1 ks, rF fs.length C2 e2 fs]) M
 obtain ⟨tY, Bd, Bg, Bc, Be, Bh, Bb, Bf, Ay, Ba, Az⟩ := M.f5 3 rfl
 obtain ⟨tX, Ah, Aa, Ag, Aj, Ai⟩ := M.q5 6 rfl
 obtain ⟨tP, Ab, Ad, Ac, Af, Ae⟩ := M.q5 7 rfl
 go_wp2_with fail
 go_call (hDn.out _ _ _ _ _ _ [.blk (W5.heap.size) 30 #[.slice (some ⟨g, 0, none⟩) ts.length e0, .slice C1 ks.length e1, .slice C2 fs.length e2, .int .i64 tn, .bool st], .blk (w.heap.size + 3) 55 #[.int .i64 0, .int .i64 0], .blk (w.heap.size + 2) 30 #[.slice none 0 0, .slice none 0 0, .slice none 0 0, .int .i64 0, .bool false], .blk (w.heap.size + 1) 30 #[.slice A0 ts.length c0, .slice A1 ks.length c1, .slice A2 fs.length c2, .int .i64 tn, .bool st], .blk (w.heap.size) 25 #[.int .i64 a, .int .i64 b, .int .i64 c, .int .i64 d, .int .i64 e]] _ (H.out.below M.below) M) as r W7 ⟨B0, B1, B2, d0, d1, d2, rfl, g1⟩
 clear tY Bd Bg Bc Be Bh Bb Bf Ay Ba Az tX Ah Aa Ag Aj Ai tP Ab Ad Ac Af Ae
 replace M := Sep.comp (ps := [rT ts.length (some ⟨g, 0, none⟩) e0 (ts.set k ⟨2, l, wk, wt, on, v, t⟩), rK ks.length C1 e1 ks, rF fs.length C2 e2 fs]) M g1
 simp only [List.cons_append, List.nil_append] at M
 clear g1
 obtain ⟨tS, Al, As, Ak, Au⟩ := M.f2 4 rfl
 obtain ⟨tR, Ao, Aw, Aq, At, An, Ar, Ap, Ax, Am, Av⟩ := M.f5 5 rfl
 go_wp2_with fail
 clear tS Al As Ak Au tR Ao Aw Aq At An Ar Ap Ax Am Av
 have N := M.gset5 5 rfl (.slice B0 o.ts.length d0) (.slice B1 o.ks.length d1) (.slice B2 o.fs.length d2) (.int .i64 o.tn) (.bool o.st)
 clear M
 obtain ⟨W8, eW, M⟩ := N
 rw [eW]
 clear eW
 simp only [List.set_cons_zero, List.set_cons_succ] at M
 have N := M.gset2 4 rfl (.int .i64 o.rp) (.int .i64 o.ou)
 clear M
 obtain ⟨W9, eW, M⟩ := N
 rw [eW]
 clear eW
 simp only [List.set_cons_zero, List.set_cons_succ] at M
 obtain ⟨tS, Al, Ak⟩ := M.q2 4 rfl
 obtain ⟨tR, Ao, Aq, An, Ap, Am⟩ := M.q5 5 rfl
 exact bodyPost_ret (by simp [results, Tryz.results29, go_sem, Ao, Aq, An, Ap, Am, Al, Ak]) rfl ⟨B0, B1, B2, d0, d1, d2, rfl, M.take 3⟩
end Go.Proofs.YtfjgelegojbmgaaGreat
