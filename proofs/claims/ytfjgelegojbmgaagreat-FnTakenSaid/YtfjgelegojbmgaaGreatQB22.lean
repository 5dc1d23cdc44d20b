/- The model's Joined: the ways that refuse. Lists no longer than a million. -/
import Derived.Test.YtfjgelegojbmgaaGreatQB14
import Derived.Test.YtfjgelegojbmgaaGreatQB11

namespace Go.Proofs.YtfjgelegojbmgaaGreat
open Go.RowKit
set_option linter.unusedVariables false
set_option maxRecDepth 100000
set_option maxHeartbeats 4000000 in
theorem joined_may (a b c d e : Int) (ts : List T7) (ks : List Int) (fs : List F2) (A0 A1 A2 : Option Addr) (c0 c1 c2 : Nat) (tn : Int) (st : Bool) (wk : Int) (id : Int) (w : World) (ht : ts.length ≤ 1048576) (hk : ks.length ≤ 1048576) (hf : fs.length ≤ 1048576) (h : InPool w ts ks fs A0 A1 A2) (me : Int) (hme : runM ts wk 0 = me) (hm : mayB a b c d e ts ks fs tn wk = false) :
 Calls Tryz.prog 132 #[.agg #[.int .i64 a, .int .i64 b, .int .i64 c, .int .i64 d, .int .i64 e], .agg #[.slice A0 ts.length c0, .slice A1 ks.length c1, .slice A2 fs.length c2, .int .i64 tn, .bool st], .int .i64 wk, .int .i64 id] w (GaveS [] w (noO (poolB a b c d e ts ks fs tn) ts ks fs tn st 8)) := by
 have H := hide h
 clear h
 have hNo := hide (fun (V : World) (hV : InPool V ts ks fs A0 A1 A2) => l6No_s a b c d e ts ks fs A0 A1 A2 c0 c1 c2 tn st 8 V ht hk hf hV)
 generalize noO (poolB a b c d e ts ks fs tn) ts ks fs tn st 8 = o at hNo ⊢
 have HY := hide (⟨hme, hm, trivial⟩ : _ ∧ _ ∧ True)
 clear hme hm
 go_enter Tryz.func132, Tryz.ntmps132
 go_wp2_with fail
 generalize hW : (((w.alloc _).alloc _).alloc _).alloc _ = W1
 have M := Sep.e4 hW
 clear hW
 obtain ⟨tX, Ah, Aa, Ag, Aj, Ai⟩ := M.q5 2 rfl
 obtain ⟨tP, Ab, Ad, Ac, Af, Ae⟩ := M.q5 3 rfl
 go_call (sRunBy_v ts A0 A1 A2 c0 ks.length c1 fs.length c2 tn st wk me HY.out.1 _ ht (H.out.below M.below).1) as r W2 ⟨rfl, g1⟩
 clear tX Ah Aa Ag Aj Ai tP Ab Ad Ac Af Ae
 replace M := M.call g1
 clear g1
 obtain ⟨tX, Ah, Aa, Ag, Aj, Ai⟩ := M.q5 2 rfl
 obtain ⟨tP, Ab, Ad, Ac, Af, Ae⟩ := M.q5 3 rfl
 go_wp2_with fail
 go_call (l6May_v a b c d e ts ks fs A0 A1 A2 c0 c1 c2 tn st wk false HY.out.2.1 _ ht hk hf (H.out.below M.below)) as r W3 ⟨rfl, g1⟩
 clear tX Ah Aa Ag Aj Ai tP Ab Ad Ac Af Ae
 replace M := M.call g1
 clear g1
 obtain ⟨tX, Ah, Aa, Ag, Aj, Ai⟩ := M.q5 2 rfl
 obtain ⟨tP, Ab, Ad, Ac, Af, Ae⟩ := M.q5 3 rfl
 go_wp2_with fail
 go_call (hNo.out _ (H.out.below M.below)) as r W4 ⟨B0, B1, B2, d0, d1, d2, rfl, g1⟩
 clear tX Ah Aa Ag Aj Ai tP Ab Ad Ac Af Ae
 replace M := Sep.new M g1
 simp only [List.cons_append, List.nil_append] at M
 clear g1
 obtain ⟨tS, Al, As, Ak, Au⟩ := M.f2 3 rfl
 obtain ⟨tR, Ao, Aw, Aq, At, An, Ar, Ap, Ax, Am, Av⟩ := M.f5 4 rfl
 go_wp2_with fail
 clear tS Al As Ak Au tR Ao Aw Aq At An Ar Ap Ax Am Av
 have N := M.gset5 4 rfl (.slice B0 o.ts.length d0) (.slice B1 o.ks.length d1) (.slice B2 o.fs.length d2) (.int .i64 o.tn) (.bool o.st)
 clear M
 obtain ⟨W5, eW, M⟩ := N
 rw [eW]
 clear eW
 simp only [List.set_cons_zero, List.set_cons_succ] at M
 have N := M.gset2 3 rfl (.int .i64 o.rp) (.int .i64 o.ou)
 clear M
 obtain ⟨W6, eW, M⟩ := N
 rw [eW]
 clear eW
 simp only [List.set_cons_zero, List.set_cons_succ] at M
 obtain ⟨tS, Al, Ak⟩ := M.q2 3 rfl
 obtain ⟨tR, Ao, Aq, An, Ap, Am⟩ := M.q5 4 rfl
 exact bodyPost_ret (by simp [results, Tryz.results132, go_sem, Ao, Aq, An, Ap, Am, Al, Ak]) rfl ⟨B0, B1, B2, d0, d1, d2, rfl, M.take 3⟩
set_option maxHeartbeats 4000000 in
theorem joined_none (a b c d e : Int) (ts : List T7) (ks : List Int) (fs : List F2) (A0 A1 A2 : Option Addr) (c0 c1 c2 : Nat) (tn : Int) (st : Bool) (wk : Int) (id : Int) (w : World) (ht : ts.length ≤ 1048576) (hk : ks.length ≤ 1048576) (hf : fs.length ≤ 1048576) (h : InPool w ts ks fs A0 A1 A2) (me : Int) (hme : runM ts wk 0 = me) (h0 : me < 0) (hm : mayB a b c d e ts ks fs tn wk = true) :
 Calls Tryz.prog 132 #[.agg #[.int .i64 a, .int .i64 b, .int .i64 c, .int .i64 d, .int .i64 e], .agg #[.slice A0 ts.length c0, .slice A1 ks.length c1, .slice A2 fs.length c2, .int .i64 tn, .bool st], .int .i64 wk, .int .i64 id] w (GaveS [] w (noO (poolB a b c d e ts ks fs tn) ts ks fs tn st 2)) := by
 have H := hide h
 clear h
 have hNo := hide (fun (V : World) (hV : InPool V ts ks fs A0 A1 A2) => l6No_s a b c d e ts ks fs A0 A1 A2 c0 c1 c2 tn st 2 V ht hk hf hV)
 generalize noO (poolB a b c d e ts ks fs tn) ts ks fs tn st 2 = o at hNo ⊢
 have HY := hide (⟨hme, hm, trivial⟩ : _ ∧ _ ∧ True)
 clear hme hm
 go_enter Tryz.func132, Tryz.ntmps132
 go_wp2_with fail
 generalize hW : (((w.alloc _).alloc _).alloc _).alloc _ = W1
 have M := Sep.e4 hW
 clear hW
 obtain ⟨tX, Ah, Aa, Ag, Aj, Ai⟩ := M.q5 2 rfl
 obtain ⟨tP, Ab, Ad, Ac, Af, Ae⟩ := M.q5 3 rfl
 go_call (sRunBy_v ts A0 A1 A2 c0 ks.length c1 fs.length c2 tn st wk me HY.out.1 _ ht (H.out.below M.below).1) as r W2 ⟨rfl, g1⟩
 clear tX Ah Aa Ag Aj Ai tP Ab Ad Ac Af Ae
 replace M := M.call g1
 clear g1
 obtain ⟨tX, Ah, Aa, Ag, Aj, Ai⟩ := M.q5 2 rfl
 obtain ⟨tP, Ab, Ad, Ac, Af, Ae⟩ := M.q5 3 rfl
 go_wp2_with fail
 go_call (l6May_v a b c d e ts ks fs A0 A1 A2 c0 c1 c2 tn st wk true HY.out.2.1 _ ht hk hf (H.out.below M.below)) as r W3 ⟨rfl, g1⟩
 clear tX Ah Aa Ag Aj Ai tP Ab Ad Ac Af Ae
 replace M := M.call g1
 clear g1
 obtain ⟨tX, Ah, Aa, Ag, Aj, Ai⟩ := M.q5 2 rfl
 obtain ⟨tP, Ab, Ad, Ac, Af, Ae⟩ := M.q5 3 rfl
 go_wp2_with fail
 go_call (hNo.out _ (H.out.below M.below)) as r W4 ⟨B0, B1, B2, d0, d1, d2, rfl, g1⟩
 clear tX Ah Aa Ag Aj Ai tP Ab Ad Ac Af Ae
 replace M := Sep.new M g1
 simp only [List.cons_append, List.nil_append] at M
 clear g1
 obtain ⟨tS, Al, As, Ak, Au⟩ := M.f2 3 rfl
 obtain ⟨tR, Ao, Aw, Aq, At, An, Ar, Ap, Ax, Am, Av⟩ := M.f5 4 rfl
 go_wp2_with fail
 clear tS Al As Ak Au tR Ao Aw Aq At An Ar Ap Ax Am Av
 have N := M.gset5 4 rfl (.slice B0 o.ts.length d0) (.slice B1 o.ks.length d1) (.slice B2 o.fs.length d2) (.int .i64 o.tn) (.bool o.st)
 clear M
 obtain ⟨W5, eW, M⟩ := N
 rw [eW]
 clear eW
 simp only [List.set_cons_zero, List.set_cons_succ] at M
 have N := M.gset2 3 rfl (.int .i64 o.rp) (.int .i64 o.ou)
 clear M
 obtain ⟨W6, eW, M⟩ := N
 rw [eW]
 clear eW
 simp only [List.set_cons_zero, List.set_cons_succ] at M
 obtain ⟨tS, Al, Ak⟩ := M.q2 3 rfl
 obtain ⟨tR, Ao, Aq, An, Ap, Am⟩ := M.q5 4 rfl
 exact bodyPost_ret (by simp [results, Tryz.results132, go_sem, Ao, Aq, An, Ap, Am, Al, Ak]) rfl ⟨B0, B1, B2, d0, d1, d2, rfl, M.take 3⟩
set_option maxHeartbeats 4000000 in
theorem joined_has (a b c d e : Int) (ts : List T7) (ks : List Int) (fs : List F2) (A0 A1 A2 : Option Addr) (c0 c1 c2 : Nat) (tn : Int) (st : Bool) (wk : Int) (id : Int) (w : World) (ht : ts.length ≤ 1048576) (hk : ks.length ≤ 1048576) (hf : fs.length ≤ 1048576) (h : InPool w ts ks fs A0 A1 A2) (me : Int) (hme : runM ts wk 0 = me) (h0 : 0 ≤ me) (hm : mayB a b c d e ts ks fs tn wk = true) (hh : btw id 0 (ts.length - 1) = false) :
 Calls Tryz.prog 132 #[.agg #[.int .i64 a, .int .i64 b, .int .i64 c, .int .i64 d, .int .i64 e], .agg #[.slice A0 ts.length c0, .slice A1 ks.length c1, .slice A2 fs.length c2, .int .i64 tn, .bool st], .int .i64 wk, .int .i64 id] w (GaveS [] w (noO (poolB a b c d e ts ks fs tn) ts ks fs tn st 8)) := by
 have H := hide h
 clear h
 have hNo := hide (fun (V : World) (hV : InPool V ts ks fs A0 A1 A2) => l6No_s a b c d e ts ks fs A0 A1 A2 c0 c1 c2 tn st 8 V ht hk hf hV)
 generalize noO (poolB a b c d e ts ks fs tn) ts ks fs tn st 8 = o at hNo ⊢
 have HY := hide (⟨hme, hm, hh, trivial⟩ : _ ∧ _ ∧ _ ∧ True)
 clear hme hm hh
 go_enter Tryz.func132, Tryz.ntmps132
 go_wp2_with fail
 generalize hW : (((w.alloc _).alloc _).alloc _).alloc _ = W1
 have M := Sep.e4 hW
 clear hW
 obtain ⟨tX, Ah, Aa, Ag, Aj, Ai⟩ := M.q5 2 rfl
 obtain ⟨tP, Ab, Ad, Ac, Af, Ae⟩ := M.q5 3 rfl
 go_call (sRunBy_v ts A0 A1 A2 c0 ks.length c1 fs.length c2 tn st wk me HY.out.1 _ ht (H.out.below M.below).1) as r W2 ⟨rfl, g1⟩
 clear tX Ah Aa Ag Aj Ai tP Ab Ad Ac Af Ae
 replace M := M.call g1
 clear g1
 obtain ⟨tX, Ah, Aa, Ag, Aj, Ai⟩ := M.q5 2 rfl
 obtain ⟨tP, Ab, Ad, Ac, Af, Ae⟩ := M.q5 3 rfl
 go_wp2_with fail
 go_call (l6May_v a b c d e ts ks fs A0 A1 A2 c0 c1 c2 tn st wk true HY.out.2.1 _ ht hk hf (H.out.below M.below)) as r W3 ⟨rfl, g1⟩
 clear tX Ah Aa Ag Aj Ai tP Ab Ad Ac Af Ae
 replace M := M.call g1
 clear g1
 obtain ⟨tX, Ah, Aa, Ag, Aj, Ai⟩ := M.q5 2 rfl
 obtain ⟨tP, Ab, Ad, Ac, Af, Ae⟩ := M.q5 3 rfl
 go_wp2_with fail
 go_call (l5Has_v ts A0 A1 A2 c0 ks.length c1 fs.length c2 tn st id false HY.out.2.2.1 _ ht) as r W4 ⟨rfl, g1⟩
 clear tX Ah Aa Ag Aj Ai tP Ab Ad Ac Af Ae
 replace M := M.call g1
 clear g1
 obtain ⟨tX, Ah, Aa, Ag, Aj, Ai⟩ := M.q5 2 rfl
 obtain ⟨tP, Ab, Ad, Ac, Af, Ae⟩ := M.q5 3 rfl
 go_wp2_with fail
 go_call (hNo.out _ (H.out.below M.below)) as r W5 ⟨B0, B1, B2, d0, d1, d2, rfl, g1⟩
 clear tX Ah Aa Ag Aj Ai tP Ab Ad Ac Af Ae
 replace M := Sep.new M g1
 simp only [List.cons_append, List.nil_append] at M
 clear g1
 obtain ⟨tS, Al, As, Ak, Au⟩ := M.f2 3 rfl
 obtain ⟨tR, Ao, Aw, Aq, At, An, Ar, Ap, Ax, Am, Av⟩ := M.f5 4 rfl
 go_wp2_with fail
 clear tS Al As Ak Au tR Ao Aw Aq At An Ar Ap Ax Am Av
 have N := M.gset5 4 rfl (.slice B0 o.ts.length d0) (.slice B1 o.ks.length d1) (.slice B2 o.fs.length d2) (.int .i64 o.tn) (.bool o.st)
 clear M
 obtain ⟨W6, eW, M⟩ := N
 rw [eW]
 clear eW
 simp only [List.set_cons_zero, List.set_cons_succ] at M
 have N := M.gset2 3 rfl (.int .i64 o.rp) (.int .i64 o.ou)
 clear M
 obtain ⟨W7, eW, M⟩ := N
 rw [eW]
 clear eW
 simp only [List.set_cons_zero, List.set_cons_succ] at M
 obtain ⟨tS, Al, Ak⟩ := M.q2 3 rfl
 obtain ⟨tR, Ao, Aq, An, Ap, Am⟩ := M.q5 4 rfl
 exact bodyPost_ret (by simp [results, Tryz.results132, go_sem, Ao, Aq, An, Ap, Am, Al, Ak]) rfl ⟨B0, B1, B2, d0, d1, d2, rfl, M.take 3⟩
set_option maxHeartbeats 4000000 in
theorem joined_self (a b c d e : Int) (ts : List T7) (ks : List Int) (fs : List F2) (A0 A1 A2 : Option Addr) (c0 c1 c2 : Nat) (tn : Int) (st : Bool) (wk : Int) (id : Int) (w : World) (ht : ts.length ≤ 1048576) (hk : ks.length ≤ 1048576) (hf : fs.length ≤ 1048576) (h : InPool w ts ks fs A0 A1 A2) (me : Int) (hme : runM ts wk 0 = me) (h0 : 0 ≤ me) (hm : mayB a b c d e ts ks fs tn wk = true) (hh : btw id 0 (ts.length - 1) = true) (hid : id = me) :
 Calls Tryz.prog 132 #[.agg #[.int .i64 a, .int .i64 b, .int .i64 c, .int .i64 d, .int .i64 e], .agg #[.slice A0 ts.length c0, .slice A1 ks.length c1, .slice A2 fs.length c2, .int .i64 tn, .bool st], .int .i64 wk, .int .i64 id] w (GaveS [] w (noO (poolB a b c d e ts ks fs tn) ts ks fs tn st 8)) := by
 subst hid
 have H := hide h
 clear h
 have hNo := hide (fun (V : World) (hV : InPool V ts ks fs A0 A1 A2) => l6No_s a b c d e ts ks fs A0 A1 A2 c0 c1 c2 tn st 8 V ht hk hf hV)
 generalize noO (poolB a b c d e ts ks fs tn) ts ks fs tn st 8 = o at hNo ⊢
 have HY := hide (⟨hme, hm, hh, trivial⟩ : _ ∧ _ ∧ _ ∧ True)
 clear hme hm hh
 go_enter Tryz.func132, Tryz.ntmps132
 go_wp2_with fail
 generalize hW : (((w.alloc _).alloc _).alloc _).alloc _ = W1
 have M := Sep.e4 hW
 clear hW
 obtain ⟨tX, Ah, Aa, Ag, Aj, Ai⟩ := M.q5 2 rfl
 obtain ⟨tP, Ab, Ad, Ac, Af, Ae⟩ := M.q5 3 rfl
 go_call (sRunBy_v ts A0 A1 A2 c0 ks.length c1 fs.length c2 tn st wk id HY.out.1 _ ht (H.out.below M.below).1) as r W2 ⟨rfl, g1⟩
 clear tX Ah Aa Ag Aj Ai tP Ab Ad Ac Af Ae
 replace M := M.call g1
 clear g1
 obtain ⟨tX, Ah, Aa, Ag, Aj, Ai⟩ := M.q5 2 rfl
 obtain ⟨tP, Ab, Ad, Ac, Af, Ae⟩ := M.q5 3 rfl
 go_wp2_with fail
 go_call (l6May_v a b c d e ts ks fs A0 A1 A2 c0 c1 c2 tn st wk true HY.out.2.1 _ ht hk hf (H.out.below M.below)) as r W3 ⟨rfl, g1⟩
 clear tX Ah Aa Ag Aj Ai tP Ab Ad Ac Af Ae
 replace M := M.call g1
 clear g1
 obtain ⟨tX, Ah, Aa, Ag, Aj, Ai⟩ := M.q5 2 rfl
 obtain ⟨tP, Ab, Ad, Ac, Af, Ae⟩ := M.q5 3 rfl
 go_wp2_with fail
 go_call (l5Has_v ts A0 A1 A2 c0 ks.length c1 fs.length c2 tn st id true HY.out.2.2.1 _ ht) as r W4 ⟨rfl, g1⟩
 clear tX Ah Aa Ag Aj Ai tP Ab Ad Ac Af Ae
 replace M := M.call g1
 clear g1
 obtain ⟨tX, Ah, Aa, Ag, Aj, Ai⟩ := M.q5 2 rfl
 obtain ⟨tP, Ab, Ad, Ac, Af, Ae⟩ := M.q5 3 rfl
 go_wp2_with fail
 go_call (hNo.out _ (H.out.below M.below)) as r W5 ⟨B0, B1, B2, d0, d1, d2, rfl, g1⟩
 clear tX Ah Aa Ag Aj Ai tP Ab Ad Ac Af Ae
 replace M := Sep.new M g1
 simp only [List.cons_append, List.nil_append] at M
 clear g1
 obtain ⟨tS, Al, As, Ak, Au⟩ := M.f2 3 rfl
 obtain ⟨tR, Ao, Aw, Aq, At, An, Ar, Ap, Ax, Am, Av⟩ := M.f5 4 rfl
 go_wp2_with fail
 clear tS Al As Ak Au tR Ao Aw Aq At An Ar Ap Ax Am Av
 have N := M.gset5 4 rfl (.slice B0 o.ts.length d0) (.slice B1 o.ks.length d1) (.slice B2 o.fs.length d2) (.int .i64 o.tn) (.bool o.st)
 clear M
 obtain ⟨W6, eW, M⟩ := N
 rw [eW]
 clear eW
 simp only [List.set_cons_zero, List.set_cons_succ] at M
 have N := M.gset2 3 rfl (.int .i64 o.rp) (.int .i64 o.ou)
 clear M
 obtain ⟨W7, eW, M⟩ := N
 rw [eW]
 clear eW
 simp only [List.set_cons_zero, List.set_cons_succ] at M
 obtain ⟨tS, Al, Ak⟩ := M.q2 3 rfl
 obtain ⟨tR, Ao, Aq, An, Ap, Am⟩ := M.q5 4 rfl
 exact bodyPost_ret (by simp [results, Tryz.results132, go_sem, Ao, Aq, An, Ap, Am, Al, Ak]) rfl ⟨B0, B1, B2, d0, d1, d2, rfl, M.take 3⟩
set_option maxHeartbeats 4000000 in
theorem joined_gone (a b c d e : Int) (ts : List T7) (ks : List Int) (fs : List F2) (A0 A1 A2 : Option Addr) (c0 c1 c2 : Nat) (tn : Int) (st : Bool) (wk : Int) (id : Int) (w : World) (ht : ts.length ≤ 1048576) (hk : ks.length ≤ 1048576) (hf : fs.length ≤ 1048576) (h : InPool w ts ks fs A0 A1 A2) (k : Nat) (s l o1 wt on v t : Int) (hid : id = k) (hts : ts[k]? = some ⟨s, l, o1, wt, on, v, t⟩) (hs : s = 5) (me : Int) (hme : runM ts wk 0 = me) (h0 : 0 ≤ me) (hne : ¬ (k : Int) = me) (hm : mayB a b c d e ts ks fs tn wk = true) (hh : btw id 0 (ts.length - 1) = true) :
 Calls Tryz.prog 132 #[.agg #[.int .i64 a, .int .i64 b, .int .i64 c, .int .i64 d, .int .i64 e], .agg #[.slice A0 ts.length c0, .slice A1 ks.length c1, .slice A2 fs.length c2, .int .i64 tn, .bool st], .int .i64 wk, .int .i64 id] w (GaveS [] w (noO (poolB a b c d e ts ks fs tn) ts ks fs tn st 5)) := by
 have hkl : k < ts.length := by
  rcases Nat.lt_or_ge k ts.length with h1 | h1
  ·exact h1
  ·rw [List.getElem?_eq_none h1] at hts; cases hts
 subst hid
 obtain ⟨b', off, x0, x1, x2, x3, x4, x5, x6, rfl, _, he, hb', z0, z1, z2, z3, z4, z5, z6⟩ := h.1.ts_at hkl
 rw [hts] at he
 injection he with he
 injection he with u0 u1 u2 u3 u4 u5 u6
 subst u0 u1 u2 u3 u4 u5 u6
 have H := hide h
 clear h
 have hNo := hide (fun (V : World) (hV : InPool V ts ks fs (some ⟨b', off, none⟩) A1 A2) => l6No_s a b c d e ts ks fs (some ⟨b', off, none⟩) A1 A2 c0 c1 c2 tn st 5 V ht hk hf hV)
 generalize noO (poolB a b c d e ts ks fs tn) ts ks fs tn st 5 = o at hNo ⊢
 have HY := hide (⟨hme, hm, hh, hts, trivial⟩ : _ ∧ _ ∧ _ ∧ _ ∧ True)
 clear hme hm hh hts
 go_enter Tryz.func132, Tryz.ntmps132
 go_wp2_with fail
 generalize hW : (((w.alloc _).alloc _).alloc _).alloc _ = W1
 have M := Sep.e4 hW
 clear hW
 obtain ⟨tX, Ah, Aa, Ag, Aj, Ai⟩ := M.q5 2 rfl
 obtain ⟨tP, Ab, Ad, Ac, Af, Ae⟩ := M.q5 3 rfl
 go_call (sRunBy_v ts (some ⟨b', off, none⟩) A1 A2 c0 ks.length c1 fs.length c2 tn st wk me HY.out.1 _ ht (H.out.below M.below).1) as r W2 ⟨rfl, g1⟩
 clear tX Ah Aa Ag Aj Ai tP Ab Ad Ac Af Ae
 replace M := M.call g1
 clear g1
 obtain ⟨tX, Ah, Aa, Ag, Aj, Ai⟩ := M.q5 2 rfl
 obtain ⟨tP, Ab, Ad, Ac, Af, Ae⟩ := M.q5 3 rfl
 go_wp2_with fail
 go_call (l6May_v a b c d e ts ks fs (some ⟨b', off, none⟩) A1 A2 c0 c1 c2 tn st wk true HY.out.2.1 _ ht hk hf (H.out.below M.below)) as r W3 ⟨rfl, g1⟩
 clear tX Ah Aa Ag Aj Ai tP Ab Ad Ac Af Ae
 replace M := M.call g1
 clear g1
 obtain ⟨tX, Ah, Aa, Ag, Aj, Ai⟩ := M.q5 2 rfl
 obtain ⟨tP, Ab, Ad, Ac, Af, Ae⟩ := M.q5 3 rfl
 go_wp2_with fail
 go_call (l5Has_v ts (some ⟨b', off, none⟩) A1 A2 c0 ks.length c1 fs.length c2 tn st k true HY.out.2.2.1 _ ht) as r W4 ⟨rfl, g1⟩
 clear tX Ah Aa Ag Aj Ai tP Ab Ad Ac Af Ae
 replace M := M.call g1
 clear g1
 obtain ⟨tX, Ah, Aa, Ag, Aj, Ai⟩ := M.q5 2 rfl
 obtain ⟨tP, Ab, Ad, Ac, Af, Ae⟩ := M.q5 3 rfl
 have ye0 : W4.cell? ⟨b', off + k * 7, none⟩ = some (.int .i64 s) := (M.below.cell (p := ⟨b', off + k * 7, none⟩) hb').trans z0
 go_wp2_with fail
 go_call (hNo.out _ (H.out.below M.below)) as r W5 ⟨B0, B1, B2, d0, d1, d2, rfl, g1⟩
 clear tX Ah Aa Ag Aj Ai tP Ab Ad Ac Af Ae
 replace M := Sep.new M g1
 simp only [List.cons_append, List.nil_append] at M
 clear g1
 obtain ⟨tS, Al, As, Ak, Au⟩ := M.f2 3 rfl
 obtain ⟨tR, Ao, Aw, Aq, At, An, Ar, Ap, Ax, Am, Av⟩ := M.f5 4 rfl
 go_wp2_with fail
 clear tS Al As Ak Au tR Ao Aw Aq At An Ar Ap Ax Am Av
 have N := M.gset5 4 rfl (.slice B0 o.ts.length d0) (.slice B1 o.ks.length d1) (.slice B2 o.fs.length d2) (.int .i64 o.tn) (.bool o.st)
 clear M
 obtain ⟨W6, eW, M⟩ := N
 rw [eW]
 clear eW
 simp only [List.set_cons_zero, List.set_cons_succ] at M
 have N := M.gset2 3 rfl (.int .i64 o.rp) (.int .i64 o.ou)
 clear M
 obtain ⟨W7, eW, M⟩ := N
 rw [eW]
 clear eW
 simp only [List.set_cons_zero, List.set_cons_succ] at M
 obtain ⟨tS, Al, Ak⟩ := M.q2 3 rfl
 obtain ⟨tR, Ao, Aq, An, Ap, Am⟩ := M.q5 4 rfl
 exact bodyPost_ret (by simp [results, Tryz.results132, go_sem, Ao, Aq, An, Ap, Am, Al, Ak]) rfl ⟨B0, B1, B2, d0, d1, d2, rfl, M.take 3⟩
end Go.Proofs.YtfjgelegojbmgaaGreat
