import Derived.Test.YtfkdfkoigojciaaGreatDoorQU37
import Derived.Test.YtfkdfkoigojciaaGreatDoorQU09

namespace Go.Proofs.YtfkdfkoigojciaaGreatDoor
open Go.RowKit
set_option linter.unusedVariables false
set_option maxHeartbeats 4000000
set_option maxRecDepth 100000
variable (a b c d e : Int) (ts : List T7) (ks : List Int) (fs : List F2) (A0 A1 A2 : Option Addr) (c0 c1 c2 : Nat) (tn : Int) (st : Bool)
theorem apply_2 (wk x y : Int) (w : World) (ht : ts.length ≤ 1048576) (hk : ks.length ≤ 1048576) (hf : fs.length ≤ 1048576) (h : InPool w ts ks fs A0 A1 A2) :
 Calls Tryz.prog 115 #[qF a b c d e, qP ts ks fs A0 A1 A2 c0 c1 c2 tn st, .int .i64 wk, .agg #[.int .i64 2, .int .i64 x, .int .i64 y]] w (GaveS [] w (takeM a b c d e ts ks fs tn st wk)) := by
 unfold qF qP
 have H := hide h
 clear h
 have hC : Hid (∀ V, InPool V ts ks fs A0 A1 A2 → Calls Tryz.prog 17 #[.agg #[.int .i64 a, .int .i64 b, .int .i64 c, .int .i64 d, .int .i64 e], .agg #[.slice A0 ts.length c0, .slice A1 ks.length c1, .slice A2 fs.length c2, .int .i64 tn, .bool st], .int .i64 wk] V (GaveS [] V (takeM a b c d e ts ks fs tn st wk))) := hide (fun V hV => take_any a b c d e ts ks fs A0 A1 A2 c0 c1 c2 tn st wk  V ht hk hf hV)
 generalize takeM a b c d e ts ks fs tn st wk = o at hC ⊢
 go_enter Tryz.func115, Tryz.ntmps115
 go_wp2_with fail
 generalize hW : ((((w.alloc _).alloc _).alloc _).alloc _).alloc _ = W1
 have M := Sep.e5 hW
 clear hW
 go_call (hC.out _ (H.out.below M.below)) as r W2 ⟨B0, B1, B2, d0, d1, d2, rfl, g1⟩
 replace M := Sep.new M g1
 simp only [zC, zN] at M
 clear g1
 obtain ⟨tS, Ab, Aj, Ae, An⟩ := M.f2 3 rfl
 obtain ⟨tR, Ag, Al, Ad, Ak, Af, Am, Aa, Ai, Ac, Ah⟩ := M.f5 4 rfl
 go_wp2_with fail
 clear tS Ab Aj Ae An tR Ag Al Ad Ak Af Am Aa Ai Ac Ah
 replace M := M.gset5 4 rfl (.slice B0 o.ts.length d0) (.slice B1 o.ks.length d1) (.slice B2 o.fs.length d2) (.int .i64 o.tn) (.bool o.st)
 obtain ⟨W3, eW, M⟩ := M
 rw [eW]
 clear eW
 simp only [zZ, zS] at M
 replace M := M.gset2 3 rfl (.int .i64 o.rp) (.int .i64 o.ou)
 obtain ⟨W4, eW, M⟩ := M
 rw [eW]
 clear eW
 simp only [zZ, zS] at M
 obtain ⟨tS, Ab, Ae⟩ := M.q2 3 rfl
 obtain ⟨tR, Ag, Ad, Af, Aa, Ac⟩ := M.q5 4 rfl
 exact bodyPost_ret (by simp [results, Tryz.results115, go_sem, Ag, Ad, Af, Aa, Ac, Ab, Ae]) rfl ⟨B0, B1, B2, d0, d1, d2, rfl, M.take 3⟩
theorem apply_3 (wk x y : Int) (w : World) (ht : ts.length ≤ 1048576) (hk : ks.length ≤ 1048576) (hf : fs.length ≤ 1048576) (h : InPool w ts ks fs A0 A1 A2) :
 Calls Tryz.prog 115 #[qF a b c d e, qP ts ks fs A0 A1 A2 c0 c1 c2 tn st, .int .i64 wk, .agg #[.int .i64 3, .int .i64 x, .int .i64 y]] w (GaveS [] w (yieldM a b c d e ts ks fs tn st wk)) := by
 unfold qF qP
 have H := hide h
 clear h
 have hC : Hid (∀ V, InPool V ts ks fs A0 A1 A2 → Calls Tryz.prog 159 #[.agg #[.int .i64 a, .int .i64 b, .int .i64 c, .int .i64 d, .int .i64 e], .agg #[.slice A0 ts.length c0, .slice A1 ks.length c1, .slice A2 fs.length c2, .int .i64 tn, .bool st], .int .i64 wk] V (GaveS [] V (yieldM a b c d e ts ks fs tn st wk))) := hide (fun V hV => yield_any a b c d e ts ks fs A0 A1 A2 c0 c1 c2 tn st wk  V ht hk hf hV)
 generalize yieldM a b c d e ts ks fs tn st wk = o at hC ⊢
 go_enter Tryz.func115, Tryz.ntmps115
 go_wp2_with fail
 generalize hW : ((((w.alloc _).alloc _).alloc _).alloc _).alloc _ = W1
 have M := Sep.e5 hW
 clear hW
 go_call (hC.out _ (H.out.below M.below)) as r W2 ⟨B0, B1, B2, d0, d1, d2, rfl, g1⟩
 replace M := Sep.new M g1
 simp only [zC, zN] at M
 clear g1
 obtain ⟨tS, Ab, Aj, Ae, An⟩ := M.f2 3 rfl
 obtain ⟨tR, Ag, Al, Ad, Ak, Af, Am, Aa, Ai, Ac, Ah⟩ := M.f5 4 rfl
 go_wp2_with fail
 clear tS Ab Aj Ae An tR Ag Al Ad Ak Af Am Aa Ai Ac Ah
 replace M := M.gset5 4 rfl (.slice B0 o.ts.length d0) (.slice B1 o.ks.length d1) (.slice B2 o.fs.length d2) (.int .i64 o.tn) (.bool o.st)
 obtain ⟨W3, eW, M⟩ := M
 rw [eW]
 clear eW
 simp only [zZ, zS] at M
 replace M := M.gset2 3 rfl (.int .i64 o.rp) (.int .i64 o.ou)
 obtain ⟨W4, eW, M⟩ := M
 rw [eW]
 clear eW
 simp only [zZ, zS] at M
 obtain ⟨tS, Ab, Ae⟩ := M.q2 3 rfl
 obtain ⟨tR, Ag, Ad, Af, Aa, Ac⟩ := M.q5 4 rfl
 exact bodyPost_ret (by simp [results, Tryz.results115, go_sem, Ag, Ad, Af, Aa, Ac, Ab, Ae]) rfl ⟨B0, B1, B2, d0, d1, d2, rfl, M.take 3⟩
theorem apply_4 (wk x y : Int) (w : World) (ht : ts.length ≤ 1048576) (hk : ks.length ≤ 1048576) (hf : fs.length ≤ 1048576) (h : InPool w ts ks fs A0 A1 A2) :
 Calls Tryz.prog 115 #[qF a b c d e, qP ts ks fs A0 A1 A2 c0 c1 c2 tn st, .int .i64 wk, .agg #[.int .i64 4, .int .i64 x, .int .i64 y]] w (GaveS [] w (end_M a b c d e ts ks fs tn st wk x)) := by
 unfold qF qP
 have H := hide h
 clear h
 have hC : Hid (∀ V, InPool V ts ks fs A0 A1 A2 → Calls Tryz.prog 160 #[.agg #[.int .i64 a, .int .i64 b, .int .i64 c, .int .i64 d, .int .i64 e], .agg #[.slice A0 ts.length c0, .slice A1 ks.length c1, .slice A2 fs.length c2, .int .i64 tn, .bool st], .int .i64 wk, .int .i64 x] V (GaveS [] V (end_M a b c d e ts ks fs tn st wk x))) := hide (fun V hV => end__any a b c d e ts ks fs A0 A1 A2 c0 c1 c2 tn st wk x V ht hk hf hV)
 generalize end_M a b c d e ts ks fs tn st wk x = o at hC ⊢
 go_enter Tryz.func115, Tryz.ntmps115
 go_wp2_with fail
 generalize hW : ((((w.alloc _).alloc _).alloc _).alloc _).alloc _ = W1
 have M := Sep.e5 hW
 clear hW
 go_call (hC.out _ (H.out.below M.below)) as r W2 ⟨B0, B1, B2, d0, d1, d2, rfl, g1⟩
 replace M := Sep.new M g1
 simp only [zC, zN] at M
 clear g1
 obtain ⟨tS, Ab, Aj, Ae, An⟩ := M.f2 3 rfl
 obtain ⟨tR, Ag, Al, Ad, Ak, Af, Am, Aa, Ai, Ac, Ah⟩ := M.f5 4 rfl
 go_wp2_with fail
 clear tS Ab Aj Ae An tR Ag Al Ad Ak Af Am Aa Ai Ac Ah
 replace M := M.gset5 4 rfl (.slice B0 o.ts.length d0) (.slice B1 o.ks.length d1) (.slice B2 o.fs.length d2) (.int .i64 o.tn) (.bool o.st)
 obtain ⟨W3, eW, M⟩ := M
 rw [eW]
 clear eW
 simp only [zZ, zS] at M
 replace M := M.gset2 3 rfl (.int .i64 o.rp) (.int .i64 o.ou)
 obtain ⟨W4, eW, M⟩ := M
 rw [eW]
 clear eW
 simp only [zZ, zS] at M
 obtain ⟨tS, Ab, Ae⟩ := M.q2 3 rfl
 obtain ⟨tR, Ag, Ad, Af, Aa, Ac⟩ := M.q5 4 rfl
 exact bodyPost_ret (by simp [results, Tryz.results115, go_sem, Ag, Ad, Af, Aa, Ac, Ab, Ae]) rfl ⟨B0, B1, B2, d0, d1, d2, rfl, M.take 3⟩
theorem apply_5 (wk x y : Int) (w : World) (ht : ts.length ≤ 1048576) (hk : ks.length ≤ 1048576) (hf : fs.length ≤ 1048576) (h : InPool w ts ks fs A0 A1 A2) :
 Calls Tryz.prog 115 #[qF a b c d e, qP ts ks fs A0 A1 A2 c0 c1 c2 tn st, .int .i64 wk, .agg #[.int .i64 5, .int .i64 x, .int .i64 y]] w (GaveS [] w (joinM a b c d e ts ks fs tn st wk x)) := by
 unfold qF qP
 have H := hide h
 clear h
 have hC : Hid (∀ V, InPool V ts ks fs A0 A1 A2 → Calls Tryz.prog 27 #[.agg #[.int .i64 a, .int .i64 b, .int .i64 c, .int .i64 d, .int .i64 e], .agg #[.slice A0 ts.length c0, .slice A1 ks.length c1, .slice A2 fs.length c2, .int .i64 tn, .bool st], .int .i64 wk, .int .i64 x] V (GaveS [] V (joinM a b c d e ts ks fs tn st wk x))) := hide (fun V hV => join_any a b c d e ts ks fs A0 A1 A2 c0 c1 c2 tn st wk x V ht hk hf hV)
 generalize joinM a b c d e ts ks fs tn st wk x = o at hC ⊢
 go_enter Tryz.func115, Tryz.ntmps115
 go_wp2_with fail
 generalize hW : ((((w.alloc _).alloc _).alloc _).alloc _).alloc _ = W1
 have M := Sep.e5 hW
 clear hW
 go_call (hC.out _ (H.out.below M.below)) as r W2 ⟨B0, B1, B2, d0, d1, d2, rfl, g1⟩
 replace M := Sep.new M g1
 simp only [zC, zN] at M
 clear g1
 obtain ⟨tS, Ab, Aj, Ae, An⟩ := M.f2 3 rfl
 obtain ⟨tR, Ag, Al, Ad, Ak, Af, Am, Aa, Ai, Ac, Ah⟩ := M.f5 4 rfl
 go_wp2_with fail
 clear tS Ab Aj Ae An tR Ag Al Ad Ak Af Am Aa Ai Ac Ah
 replace M := M.gset5 4 rfl (.slice B0 o.ts.length d0) (.slice B1 o.ks.length d1) (.slice B2 o.fs.length d2) (.int .i64 o.tn) (.bool o.st)
 obtain ⟨W3, eW, M⟩ := M
 rw [eW]
 clear eW
 simp only [zZ, zS] at M
 replace M := M.gset2 3 rfl (.int .i64 o.rp) (.int .i64 o.ou)
 obtain ⟨W4, eW, M⟩ := M
 rw [eW]
 clear eW
 simp only [zZ, zS] at M
 obtain ⟨tS, Ab, Ae⟩ := M.q2 3 rfl
 obtain ⟨tR, Ag, Ad, Af, Aa, Ac⟩ := M.q5 4 rfl
 exact bodyPost_ret (by simp [results, Tryz.results115, go_sem, Ag, Ad, Af, Aa, Ac, Ab, Ae]) rfl ⟨B0, B1, B2, d0, d1, d2, rfl, M.take 3⟩
theorem apply_6 (wk x y : Int) (w : World) (ht : ts.length ≤ 1048576) (hk : ks.length ≤ 1048576) (hf : fs.length ≤ 1048576) (h : InPool w ts ks fs A0 A1 A2) :
 Calls Tryz.prog 115 #[qF a b c d e, qP ts ks fs A0 A1 A2 c0 c1 c2 tn st, .int .i64 wk, .agg #[.int .i64 6, .int .i64 x, .int .i64 y]] w (GaveS [] w (cancelM a b c d e ts ks fs tn st wk x)) := by
 unfold qF qP
 have H := hide h
 clear h
 have hC : Hid (∀ V, InPool V ts ks fs A0 A1 A2 → Calls Tryz.prog 28 #[.agg #[.int .i64 a, .int .i64 b, .int .i64 c, .int .i64 d, .int .i64 e], .agg #[.slice A0 ts.length c0, .slice A1 ks.length c1, .slice A2 fs.length c2, .int .i64 tn, .bool st], .int .i64 wk, .int .i64 x] V (GaveS [] V (cancelM a b c d e ts ks fs tn st wk x))) := hide (fun V hV => cancel_any a b c d e ts ks fs A0 A1 A2 c0 c1 c2 tn st wk x V ht hk hf hV)
 generalize cancelM a b c d e ts ks fs tn st wk x = o at hC ⊢
 go_enter Tryz.func115, Tryz.ntmps115
 go_wp2_with fail
 generalize hW : ((((w.alloc _).alloc _).alloc _).alloc _).alloc _ = W1
 have M := Sep.e5 hW
 clear hW
 go_call (hC.out _ (H.out.below M.below)) as r W2 ⟨B0, B1, B2, d0, d1, d2, rfl, g1⟩
 replace M := Sep.new M g1
 simp only [zC, zN] at M
 clear g1
 obtain ⟨tS, Ab, Aj, Ae, An⟩ := M.f2 3 rfl
 obtain ⟨tR, Ag, Al, Ad, Ak, Af, Am, Aa, Ai, Ac, Ah⟩ := M.f5 4 rfl
 go_wp2_with fail
 clear tS Ab Aj Ae An tR Ag Al Ad Ak Af Am Aa Ai Ac Ah
 replace M := M.gset5 4 rfl (.slice B0 o.ts.length d0) (.slice B1 o.ks.length d1) (.slice B2 o.fs.length d2) (.int .i64 o.tn) (.bool o.st)
 obtain ⟨W3, eW, M⟩ := M
 rw [eW]
 clear eW
 simp only [zZ, zS] at M
 replace M := M.gset2 3 rfl (.int .i64 o.rp) (.int .i64 o.ou)
 obtain ⟨W4, eW, M⟩ := M
 rw [eW]
 clear eW
 simp only [zZ, zS] at M
 obtain ⟨tS, Ab, Ae⟩ := M.q2 3 rfl
 obtain ⟨tR, Ag, Ad, Af, Aa, Ac⟩ := M.q5 4 rfl
 exact bodyPost_ret (by simp [results, Tryz.results115, go_sem, Ag, Ad, Af, Aa, Ac, Ab, Ae]) rfl ⟨B0, B1, B2, d0, d1, d2, rfl, M.take 3⟩
set_option maxHeartbeats 4000000
set_option maxRecDepth 100000
theorem apply_7 (wk x y : Int) (w : World) (ht : ts.length ≤ 1048576) (hk : ks.length ≤ 1048576) (hf : fs.length ≤ 1048576) (h : InPool w ts ks fs A0 A1 A2) :
 Calls Tryz.prog 115 #[qF a b c d e, qP ts ks fs A0 A1 A2 c0 c1 c2 tn st, .int .i64 wk, .agg #[.int .i64 7, .int .i64 x, .int .i64 y]] w (GaveS [] w (levelM a b c d e ts ks fs tn st wk x y)) := by
 unfold qF qP
 have H := hide h
 clear h
 have hC : Hid (∀ V, InPool V ts ks fs A0 A1 A2 → Calls Tryz.prog 25 #[.agg #[.int .i64 a, .int .i64 b, .int .i64 c, .int .i64 d, .int .i64 e], .agg #[.slice A0 ts.length c0, .slice A1 ks.length c1, .slice A2 fs.length c2, .int .i64 tn, .bool st], .int .i64 wk, .int .i64 x, .int .i64 y] V (GaveS [] V (levelM a b c d e ts ks fs tn st wk x y))) := hide (fun V hV => level_any a b c d e ts ks fs A0 A1 A2 c0 c1 c2 tn st wk x y V ht hk hf hV)
 generalize levelM a b c d e ts ks fs tn st wk x y = o at hC ⊢
 go_enter Tryz.func115, Tryz.ntmps115
 go_wp2_with fail
 generalize hW : ((((w.alloc _).alloc _).alloc _).alloc _).alloc _ = W1
 have M := Sep.e5 hW
 clear hW
 go_call (hC.out _ (H.out.below M.below)) as r W2 ⟨B0, B1, B2, d0, d1, d2, rfl, g1⟩
 replace M := Sep.new M g1
 simp only [zC, zN] at M
 clear g1
 obtain ⟨tS, Ab, Aj, Ae, An⟩ := M.f2 3 rfl
 obtain ⟨tR, Ag, Al, Ad, Ak, Af, Am, Aa, Ai, Ac, Ah⟩ := M.f5 4 rfl
 go_wp2_with fail
 clear tS Ab Aj Ae An tR Ag Al Ad Ak Af Am Aa Ai Ac Ah
 replace M := M.gset5 4 rfl (.slice B0 o.ts.length d0) (.slice B1 o.ks.length d1) (.slice B2 o.fs.length d2) (.int .i64 o.tn) (.bool o.st)
 obtain ⟨W3, eW, M⟩ := M
 rw [eW]
 clear eW
 simp only [zZ, zS] at M
 replace M := M.gset2 3 rfl (.int .i64 o.rp) (.int .i64 o.ou)
 obtain ⟨W4, eW, M⟩ := M
 rw [eW]
 clear eW
 simp only [zZ, zS] at M
 obtain ⟨tS, Ab, Ae⟩ := M.q2 3 rfl
 obtain ⟨tR, Ag, Ad, Af, Aa, Ac⟩ := M.q5 4 rfl
 exact bodyPost_ret (by simp [results, Tryz.results115, go_sem, Ag, Ad, Af, Aa, Ac, Ab, Ae]) rfl ⟨B0, B1, B2, d0, d1, d2, rfl, M.take 3⟩
theorem apply_8 (wk x y : Int) (w : World) (ht : ts.length ≤ 1048576) (hk : ks.length ≤ 1048576) (hf : fs.length ≤ 1048576) (h : InPool w ts ks fs A0 A1 A2) :
 Calls Tryz.prog 115 #[qF a b c d e, qP ts ks fs A0 A1 A2 c0 c1 c2 tn st, .int .i64 wk, .agg #[.int .i64 8, .int .i64 x, .int .i64 y]] w (GaveS [] w (upM a b c d e ts ks fs tn st wk x)) := by
 unfold qF qP
 have H := hide h
 clear h
 have hC : Hid (∀ V, InPool V ts ks fs A0 A1 A2 → Calls Tryz.prog 39 #[.agg #[.int .i64 a, .int .i64 b, .int .i64 c, .int .i64 d, .int .i64 e], .agg #[.slice A0 ts.length c0, .slice A1 ks.length c1, .slice A2 fs.length c2, .int .i64 tn, .bool st], .int .i64 wk, .int .i64 x] V (GaveS [] V (upM a b c d e ts ks fs tn st wk x))) := hide (fun V hV => up_any a b c d e ts ks fs A0 A1 A2 c0 c1 c2 tn st wk x V ht hk hf hV)
 generalize upM a b c d e ts ks fs tn st wk x = o at hC ⊢
 go_enter Tryz.func115, Tryz.ntmps115
 go_wp2_with fail
 generalize hW : ((((w.alloc _).alloc _).alloc _).alloc _).alloc _ = W1
 have M := Sep.e5 hW
 clear hW
 go_call (hC.out _ (H.out.below M.below)) as r W2 ⟨B0, B1, B2, d0, d1, d2, rfl, g1⟩
 replace M := Sep.new M g1
 simp only [zC, zN] at M
 clear g1
 obtain ⟨tS, Ab, Aj, Ae, An⟩ := M.f2 3 rfl
 obtain ⟨tR, Ag, Al, Ad, Ak, Af, Am, Aa, Ai, Ac, Ah⟩ := M.f5 4 rfl
 go_wp2_with fail
 clear tS Ab Aj Ae An tR Ag Al Ad Ak Af Am Aa Ai Ac Ah
 replace M := M.gset5 4 rfl (.slice B0 o.ts.length d0) (.slice B1 o.ks.length d1) (.slice B2 o.fs.length d2) (.int .i64 o.tn) (.bool o.st)
 obtain ⟨W3, eW, M⟩ := M
 rw [eW]
 clear eW
 simp only [zZ, zS] at M
 replace M := M.gset2 3 rfl (.int .i64 o.rp) (.int .i64 o.ou)
 obtain ⟨W4, eW, M⟩ := M
 rw [eW]
 clear eW
 simp only [zZ, zS] at M
 obtain ⟨tS, Ab, Ae⟩ := M.q2 3 rfl
 obtain ⟨tR, Ag, Ad, Af, Aa, Ac⟩ := M.q5 4 rfl
 exact bodyPost_ret (by simp [results, Tryz.results115, go_sem, Ag, Ad, Af, Aa, Ac, Ab, Ae]) rfl ⟨B0, B1, B2, d0, d1, d2, rfl, M.take 3⟩
theorem apply_9 (wk x y : Int) (w : World) (ht : ts.length ≤ 1048576) (hk : ks.length ≤ 1048576) (hf : fs.length ≤ 1048576) (h : InPool w ts ks fs A0 A1 A2) :
 Calls Tryz.prog 115 #[qF a b c d e, qP ts ks fs A0 A1 A2 c0 c1 c2 tn st, .int .i64 wk, .agg #[.int .i64 9, .int .i64 x, .int .i64 y]] w (GaveS [] w (downM a b c d e ts ks fs tn st wk x)) := by
 unfold qF qP
 have H := hide h
 clear h
 have hC : Hid (∀ V, InPool V ts ks fs A0 A1 A2 → Calls Tryz.prog 47 #[.agg #[.int .i64 a, .int .i64 b, .int .i64 c, .int .i64 d, .int .i64 e], .agg #[.slice A0 ts.length c0, .slice A1 ks.length c1, .slice A2 fs.length c2, .int .i64 tn, .bool st], .int .i64 wk, .int .i64 x] V (GaveS [] V (downM a b c d e ts ks fs tn st wk x))) := hide (fun V hV => down_any a b c d e ts ks fs A0 A1 A2 c0 c1 c2 tn st wk x V ht hk hf hV)
 generalize downM a b c d e ts ks fs tn st wk x = o at hC ⊢
 go_enter Tryz.func115, Tryz.ntmps115
 go_wp2_with fail
 generalize hW : ((((w.alloc _).alloc _).alloc _).alloc _).alloc _ = W1
 have M := Sep.e5 hW
 clear hW
 go_call (hC.out _ (H.out.below M.below)) as r W2 ⟨B0, B1, B2, d0, d1, d2, rfl, g1⟩
 replace M := Sep.new M g1
 simp only [zC, zN] at M
 clear g1
 obtain ⟨tS, Ab, Aj, Ae, An⟩ := M.f2 3 rfl
 obtain ⟨tR, Ag, Al, Ad, Ak, Af, Am, Aa, Ai, Ac, Ah⟩ := M.f5 4 rfl
 go_wp2_with fail
 clear tS Ab Aj Ae An tR Ag Al Ad Ak Af Am Aa Ai Ac Ah
 replace M := M.gset5 4 rfl (.slice B0 o.ts.length d0) (.slice B1 o.ks.length d1) (.slice B2 o.fs.length d2) (.int .i64 o.tn) (.bool o.st)
 obtain ⟨W3, eW, M⟩ := M
 rw [eW]
 clear eW
 simp only [zZ, zS] at M
 replace M := M.gset2 3 rfl (.int .i64 o.rp) (.int .i64 o.ou)
 obtain ⟨W4, eW, M⟩ := M
 rw [eW]
 clear eW
 simp only [zZ, zS] at M
 obtain ⟨tS, Ab, Ae⟩ := M.q2 3 rfl
 obtain ⟨tR, Ag, Ad, Af, Aa, Ac⟩ := M.q5 4 rfl
 exact bodyPost_ret (by simp [results, Tryz.results115, go_sem, Ag, Ad, Af, Aa, Ac, Ab, Ae]) rfl ⟨B0, B1, B2, d0, d1, d2, rfl, M.take 3⟩
theorem apply_10 (wk x y : Int) (w : World) (ht : ts.length ≤ 1048576) (hk : ks.length ≤ 1048576) (hf : fs.length ≤ 1048576) (h : InPool w ts ks fs A0 A1 A2) :
 Calls Tryz.prog 115 #[qF a b c d e, qP ts ks fs A0 A1 A2 c0 c1 c2 tn st, .int .i64 wk, .agg #[.int .i64 10, .int .i64 x, .int .i64 y]] w (GaveS [] w (setM a b c d e ts ks fs tn st wk x y)) := by
 unfold qF qP
 have H := hide h
 clear h
 have hC : Hid (∀ V, InPool V ts ks fs A0 A1 A2 → Calls Tryz.prog 161 #[.agg #[.int .i64 a, .int .i64 b, .int .i64 c, .int .i64 d, .int .i64 e], .agg #[.slice A0 ts.length c0, .slice A1 ks.length c1, .slice A2 fs.length c2, .int .i64 tn, .bool st], .int .i64 wk, .int .i64 x, .int .i64 y] V (GaveS [] V (setM a b c d e ts ks fs tn st wk x y))) := hide (fun V hV => set_any a b c d e ts ks fs A0 A1 A2 c0 c1 c2 tn st wk x y V ht hk hf hV)
 generalize setM a b c d e ts ks fs tn st wk x y = o at hC ⊢
 go_enter Tryz.func115, Tryz.ntmps115
 go_wp2_with fail
 generalize hW : ((((w.alloc _).alloc _).alloc _).alloc _).alloc _ = W1
 have M := Sep.e5 hW
 clear hW
 go_call (hC.out _ (H.out.below M.below)) as r W2 ⟨B0, B1, B2, d0, d1, d2, rfl, g1⟩
 replace M := Sep.new M g1
 simp only [zC, zN] at M
 clear g1
 obtain ⟨tS, Ab, Aj, Ae, An⟩ := M.f2 3 rfl
 obtain ⟨tR, Ag, Al, Ad, Ak, Af, Am, Aa, Ai, Ac, Ah⟩ := M.f5 4 rfl
 go_wp2_with fail
 clear tS Ab Aj Ae An tR Ag Al Ad Ak Af Am Aa Ai Ac Ah
 replace M := M.gset5 4 rfl (.slice B0 o.ts.length d0) (.slice B1 o.ks.length d1) (.slice B2 o.fs.length d2) (.int .i64 o.tn) (.bool o.st)
 obtain ⟨W3, eW, M⟩ := M
 rw [eW]
 clear eW
 simp only [zZ, zS] at M
 replace M := M.gset2 3 rfl (.int .i64 o.rp) (.int .i64 o.ou)
 obtain ⟨W4, eW, M⟩ := M
 rw [eW]
 clear eW
 simp only [zZ, zS] at M
 obtain ⟨tS, Ab, Ae⟩ := M.q2 3 rfl
 obtain ⟨tR, Ag, Ad, Af, Aa, Ac⟩ := M.q5 4 rfl
 exact bodyPost_ret (by simp [results, Tryz.results115, go_sem, Ag, Ad, Af, Aa, Ac, Ab, Ae]) rfl ⟨B0, B1, B2, d0, d1, d2, rfl, M.take 3⟩
theorem apply_11 (wk x y : Int) (w : World) (ht : ts.length ≤ 1048576) (hk : ks.length ≤ 1048576) (hf : fs.length ≤ 1048576) (h : InPool w ts ks fs A0 A1 A2) :
 Calls Tryz.prog 115 #[qF a b c d e, qP ts ks fs A0 A1 A2 c0 c1 c2 tn st, .int .i64 wk, .agg #[.int .i64 11, .int .i64 x, .int .i64 y]] w (GaveS [] w (gotM a b c d e ts ks fs tn st wk x)) := by
 unfold qF qP
 have H := hide h
 clear h
 have hC : Hid (∀ V, InPool V ts ks fs A0 A1 A2 → Calls Tryz.prog 162 #[.agg #[.int .i64 a, .int .i64 b, .int .i64 c, .int .i64 d, .int .i64 e], .agg #[.slice A0 ts.length c0, .slice A1 ks.length c1, .slice A2 fs.length c2, .int .i64 tn, .bool st], .int .i64 wk, .int .i64 x] V (GaveS [] V (gotM a b c d e ts ks fs tn st wk x))) := hide (fun V hV => got_any a b c d e ts ks fs A0 A1 A2 c0 c1 c2 tn st wk x V ht hk hf hV)
 generalize gotM a b c d e ts ks fs tn st wk x = o at hC ⊢
 go_enter Tryz.func115, Tryz.ntmps115
 go_wp2_with fail
 generalize hW : ((((w.alloc _).alloc _).alloc _).alloc _).alloc _ = W1
 have M := Sep.e5 hW
 clear hW
 go_call (hC.out _ (H.out.below M.below)) as r W2 ⟨B0, B1, B2, d0, d1, d2, rfl, g1⟩
 replace M := Sep.new M g1
 simp only [zC, zN] at M
 clear g1
 obtain ⟨tS, Ab, Aj, Ae, An⟩ := M.f2 3 rfl
 obtain ⟨tR, Ag, Al, Ad, Ak, Af, Am, Aa, Ai, Ac, Ah⟩ := M.f5 4 rfl
 go_wp2_with fail
 clear tS Ab Aj Ae An tR Ag Al Ad Ak Af Am Aa Ai Ac Ah
 replace M := M.gset5 4 rfl (.slice B0 o.ts.length d0) (.slice B1 o.ks.length d1) (.slice B2 o.fs.length d2) (.int .i64 o.tn) (.bool o.st)
 obtain ⟨W3, eW, M⟩ := M
 rw [eW]
 clear eW
 simp only [zZ, zS] at M
 replace M := M.gset2 3 rfl (.int .i64 o.rp) (.int .i64 o.ou)
 obtain ⟨W4, eW, M⟩ := M
 rw [eW]
 clear eW
 simp only [zZ, zS] at M
 obtain ⟨tS, Ab, Ae⟩ := M.q2 3 rfl
 obtain ⟨tR, Ag, Ad, Af, Aa, Ac⟩ := M.q5 4 rfl
 exact bodyPost_ret (by simp [results, Tryz.results115, go_sem, Ag, Ad, Af, Aa, Ac, Ab, Ae]) rfl ⟨B0, B1, B2, d0, d1, d2, rfl, M.take 3⟩
theorem apply_12 (wk x y : Int) (w : World) (ht : ts.length ≤ 1048576) (hk : ks.length ≤ 1048576) (hf : fs.length ≤ 1048576) (h : InPool w ts ks fs A0 A1 A2) :
 Calls Tryz.prog 115 #[qF a b c d e, qP ts ks fs A0 A1 A2 c0 c1 c2 tn st, .int .i64 wk, .agg #[.int .i64 12, .int .i64 x, .int .i64 y]] w (GaveS [] w (stopM a b c d e ts ks fs tn st wk)) := by
 unfold qF qP
 have H := hide h
 clear h
 have hC : Hid (∀ V, InPool V ts ks fs A0 A1 A2 → Calls Tryz.prog 163 #[.agg #[.int .i64 a, .int .i64 b, .int .i64 c, .int .i64 d, .int .i64 e], .agg #[.slice A0 ts.length c0, .slice A1 ks.length c1, .slice A2 fs.length c2, .int .i64 tn, .bool st], .int .i64 wk] V (GaveS [] V (stopM a b c d e ts ks fs tn st wk))) := hide (fun V hV => stop_any a b c d e ts ks fs A0 A1 A2 c0 c1 c2 tn st wk  V ht hk hf hV)
 generalize stopM a b c d e ts ks fs tn st wk = o at hC ⊢
 go_enter Tryz.func115, Tryz.ntmps115
 go_wp2_with fail
 generalize hW : ((((w.alloc _).alloc _).alloc _).alloc _).alloc _ = W1
 have M := Sep.e5 hW
 clear hW
 go_call (hC.out _ (H.out.below M.below)) as r W2 ⟨B0, B1, B2, d0, d1, d2, rfl, g1⟩
 replace M := Sep.new M g1
 simp only [zC, zN] at M
 clear g1
 obtain ⟨tS, Ab, Aj, Ae, An⟩ := M.f2 3 rfl
 obtain ⟨tR, Ag, Al, Ad, Ak, Af, Am, Aa, Ai, Ac, Ah⟩ := M.f5 4 rfl
 go_wp2_with fail
 clear tS Ab Aj Ae An tR Ag Al Ad Ak Af Am Aa Ai Ac Ah
 replace M := M.gset5 4 rfl (.slice B0 o.ts.length d0) (.slice B1 o.ks.length d1) (.slice B2 o.fs.length d2) (.int .i64 o.tn) (.bool o.st)
 obtain ⟨W3, eW, M⟩ := M
 rw [eW]
 clear eW
 simp only [zZ, zS] at M
 replace M := M.gset2 3 rfl (.int .i64 o.rp) (.int .i64 o.ou)
 obtain ⟨W4, eW, M⟩ := M
 rw [eW]
 clear eW
 simp only [zZ, zS] at M
 obtain ⟨tS, Ab, Ae⟩ := M.q2 3 rfl
 obtain ⟨tR, Ag, Ad, Af, Aa, Ac⟩ := M.q5 4 rfl
 exact bodyPost_ret (by simp [results, Tryz.results115, go_sem, Ag, Ad, Af, Aa, Ac, Ab, Ae]) rfl ⟨B0, B1, B2, d0, d1, d2, rfl, M.take 3⟩
set_option maxHeartbeats 4000000
set_option maxRecDepth 100000
def applyM (a b c d e : Int) (ts : List T7) (ks : List Int) (fs : List F2) (tn : Int) (st : Bool) (wk k x y : Int) : OutP :=
 if k = 1 then spawnM a b c d e ts ks fs tn st wk x
 else if k = 2 then takeM a b c d e ts ks fs tn st wk 
 else if k = 3 then yieldM a b c d e ts ks fs tn st wk 
 else if k = 4 then end_M a b c d e ts ks fs tn st wk x
 else if k = 5 then joinM a b c d e ts ks fs tn st wk x
 else if k = 6 then cancelM a b c d e ts ks fs tn st wk x
 else if k = 7 then levelM a b c d e ts ks fs tn st wk x y
 else if k = 8 then upM a b c d e ts ks fs tn st wk x
 else if k = 9 then downM a b c d e ts ks fs tn st wk x
 else if k = 10 then setM a b c d e ts ks fs tn st wk x y
 else if k = 11 then gotM a b c d e ts ks fs tn st wk x
 else stopM a b c d e ts ks fs tn st wk
theorem apply_any (wk k x y : Int) (w : World) (hc : callB k x y = true) (ht : ts.length ≤ 1048576) (hk : ks.length ≤ 1048576) (hf : fs.length ≤ 1048576) (h : InPool w ts ks fs A0 A1 A2) :
 Calls Tryz.prog 115 #[qF a b c d e, qP ts ks fs A0 A1 A2 c0 c1 c2 tn st, .int .i64 wk, .agg #[.int .i64 k, .int .i64 x, .int .i64 y]] w (GaveS [] w (applyM a b c d e ts ks fs tn st wk k x y)) := by
 unfold qF qP
 have hk12 : 1 ≤ k ∧ k ≤ 12 := by
  simp only [callB, Bool.and_eq_true] at hc
  have h1 := hc.1.1
  simpa [btw] using h1
 clear hc
 rcases Classical.em (k = 1) with rfl | n1
 ·exact apply_1 a b c d e ts ks fs A0 A1 A2 c0 c1 c2 tn st wk x y w ht hk hf h
 rcases Classical.em (k = 2) with rfl | n2
 ·exact apply_2 a b c d e ts ks fs A0 A1 A2 c0 c1 c2 tn st wk x y w ht hk hf h
 rcases Classical.em (k = 3) with rfl | n3
 ·exact apply_3 a b c d e ts ks fs A0 A1 A2 c0 c1 c2 tn st wk x y w ht hk hf h
 rcases Classical.em (k = 4) with rfl | n4
 ·exact apply_4 a b c d e ts ks fs A0 A1 A2 c0 c1 c2 tn st wk x y w ht hk hf h
 rcases Classical.em (k = 5) with rfl | n5
 ·exact apply_5 a b c d e ts ks fs A0 A1 A2 c0 c1 c2 tn st wk x y w ht hk hf h
 rcases Classical.em (k = 6) with rfl | n6
 ·exact apply_6 a b c d e ts ks fs A0 A1 A2 c0 c1 c2 tn st wk x y w ht hk hf h
 rcases Classical.em (k = 7) with rfl | n7
 ·exact apply_7 a b c d e ts ks fs A0 A1 A2 c0 c1 c2 tn st wk x y w ht hk hf h
 rcases Classical.em (k = 8) with rfl | n8
 ·exact apply_8 a b c d e ts ks fs A0 A1 A2 c0 c1 c2 tn st wk x y w ht hk hf h
 rcases Classical.em (k = 9) with rfl | n9
 ·exact apply_9 a b c d e ts ks fs A0 A1 A2 c0 c1 c2 tn st wk x y w ht hk hf h
 rcases Classical.em (k = 10) with rfl | n10
 ·exact apply_10 a b c d e ts ks fs A0 A1 A2 c0 c1 c2 tn st wk x y w ht hk hf h
 rcases Classical.em (k = 11) with rfl | n11
 ·exact apply_11 a b c d e ts ks fs A0 A1 A2 c0 c1 c2 tn st wk x y w ht hk hf h
 rcases Classical.em (k = 12) with rfl | n12
 ·exact apply_12 a b c d e ts ks fs A0 A1 A2 c0 c1 c2 tn st wk x y w ht hk hf h
 omega
theorem callOk_v (c x y : Int) (z : Bool) (hz : callB c x y = z) (w : World) : Calls Tryz.prog 114 #[.agg #[.int .i64 c, .int .i64 x, .int .i64 y]] w fun r w' => r = .returned (.bool z) ∧ Below w.heap.size w w' := hz ▸ callOk_any c x y w
theorem applied_may (wk k x y : Int) (w : World) (ht : ts.length ≤ 1048576) (hk : ks.length ≤ 1048576) (hf : fs.length ≤ 1048576) (h : InPool w ts ks fs A0 A1 A2) (hm : mayB a b c d e ts ks fs tn wk = false) :
 Calls Tryz.prog 49 #[qF a b c d e, qP ts ks fs A0 A1 A2 c0 c1 c2 tn st, .int .i64 wk, .agg #[.int .i64 k, .int .i64 x, .int .i64 y]] w (GaveS [] w (noO (poolB a b c d e ts ks fs tn) ts ks fs tn st 8)) := by
 unfold qF qP
 have H := hide h
 clear h
 have hNo := hide (fun V => l6No_s a b c d e ts ks fs A0 A1 A2 c0 c1 c2 tn st 8 V ht hk hf)
 generalize noO (poolB a b c d e ts ks fs tn) ts ks fs tn st 8 = o at hNo ⊢
 have HY := hide (⟨hm, trivial⟩ : _ ∧ True)
 clear hm
 go_enter Tryz.func49, Tryz.ntmps49
 go_wp2_with fail
 generalize hW : ((((w.alloc _).alloc _).alloc _).alloc _).alloc _ = W1
 have M := Sep.e5 hW
 clear hW
 obtain ⟨tC, Ak, Aa, Aj, Am, Ab, Ac⟩ := M.f3 2 rfl
 obtain ⟨tX, An, Ag, Ao, Ae, Ah⟩ := M.q5 3 rfl
 obtain ⟨tP, Ai, Af, Ap, Al, Ad⟩ := M.q5 4 rfl
 go_call (l6May_v a b c d e ts ks fs A0 A1 A2 c0 c1 c2 tn st wk false HY.out.1 _ ht hk hf (H.out.below M.below)) as r W2 ⟨rfl, g1⟩
 clear tC Ak Aa Aj Am Ab Ac tX An Ag Ao Ae Ah tP Ai Af Ap Al Ad
 replace M := M.call g1
 clear g1
 obtain ⟨tC, Ak, Aa, Aj, Am, Ab, Ac⟩ := M.f3 2 rfl
 obtain ⟨tX, An, Ag, Ao, Ae, Ah⟩ := M.q5 3 rfl
 obtain ⟨tP, Ai, Af, Ap, Al, Ad⟩ := M.q5 4 rfl
 go_wp2_with fail
 go_call (hNo.out _ (H.out.below M.below)) as r W3 ⟨B0, B1, B2, d0, d1, d2, rfl, g1⟩
 clear tC Ak Aa Aj Am Ab Ac tX An Ag Ao Ae Ah tP Ai Af Ap Al Ad
 replace M := Sep.new M g1
 simp only [zC, zN] at M
 clear g1
 obtain ⟨tS, As, Az, Au, Ax⟩ := M.f2 3 rfl
 obtain ⟨tR, Aw, Ay, Av, Bc, At, Bd, Aq, Bb, Ar, Ba⟩ := M.f5 4 rfl
 go_wp2_with fail
 clear tS As Az Au Ax tR Aw Ay Av Bc At Bd Aq Bb Ar Ba
 replace M := M.gset5 4 rfl (.slice B0 o.ts.length d0) (.slice B1 o.ks.length d1) (.slice B2 o.fs.length d2) (.int .i64 o.tn) (.bool o.st)
 obtain ⟨W4, eW, M⟩ := M
 rw [eW]
 clear eW
 simp only [zZ, zS] at M
 replace M := M.gset2 3 rfl (.int .i64 o.rp) (.int .i64 o.ou)
 obtain ⟨W5, eW, M⟩ := M
 rw [eW]
 clear eW
 simp only [zZ, zS] at M
 obtain ⟨tS, As, Au⟩ := M.q2 3 rfl
 obtain ⟨tR, Aw, Av, At, Aq, Ar⟩ := M.q5 4 rfl
 exact bodyPost_ret (by simp [results, Tryz.results49, go_sem, Aw, Av, At, Aq, Ar, As, Au]) rfl ⟨B0, B1, B2, d0, d1, d2, rfl, M.take 3⟩
theorem applied_call (wk k x y : Int) (w : World) (ht : ts.length ≤ 1048576) (hk : ks.length ≤ 1048576) (hf : fs.length ≤ 1048576) (h : InPool w ts ks fs A0 A1 A2) (hm : mayB a b c d e ts ks fs tn wk = true) (hc : callB k x y = false) :
 Calls Tryz.prog 49 #[qF a b c d e, qP ts ks fs A0 A1 A2 c0 c1 c2 tn st, .int .i64 wk, .agg #[.int .i64 k, .int .i64 x, .int .i64 y]] w (GaveS [] w (noO (poolB a b c d e ts ks fs tn) ts ks fs tn st 8)) := by
 unfold qF qP
 have H := hide h
 clear h
 have hNo := hide (fun V => l6No_s a b c d e ts ks fs A0 A1 A2 c0 c1 c2 tn st 8 V ht hk hf)
 generalize noO (poolB a b c d e ts ks fs tn) ts ks fs tn st 8 = o at hNo ⊢
 have HY := hide (⟨hm, hc, trivial⟩ : _ ∧ _ ∧ True)
 clear hm hc
 go_enter Tryz.func49, Tryz.ntmps49
 go_wp2_with fail
 generalize hW : ((((w.alloc _).alloc _).alloc _).alloc _).alloc _ = W1
 have M := Sep.e5 hW
 clear hW
 obtain ⟨tC, Ak, Aa, Aj, Am, Ab, Ac⟩ := M.f3 2 rfl
 obtain ⟨tX, An, Ag, Ao, Ae, Ah⟩ := M.q5 3 rfl
 obtain ⟨tP, Ai, Af, Ap, Al, Ad⟩ := M.q5 4 rfl
 go_call (l6May_v a b c d e ts ks fs A0 A1 A2 c0 c1 c2 tn st wk true HY.out.1 _ ht hk hf (H.out.below M.below)) as r W2 ⟨rfl, g1⟩
 clear tC Ak Aa Aj Am Ab Ac tX An Ag Ao Ae Ah tP Ai Af Ap Al Ad
 replace M := M.call g1
 clear g1
 obtain ⟨tC, Ak, Aa, Aj, Am, Ab, Ac⟩ := M.f3 2 rfl
 obtain ⟨tX, An, Ag, Ao, Ae, Ah⟩ := M.q5 3 rfl
 obtain ⟨tP, Ai, Af, Ap, Al, Ad⟩ := M.q5 4 rfl
 go_wp2_with fail
 go_call (callOk_v k x y false HY.out.2.1 _) as r W3 ⟨rfl, g1⟩
 clear tC Ak Aa Aj Am Ab Ac tX An Ag Ao Ae Ah tP Ai Af Ap Al Ad
 replace M := M.call g1
 clear g1
 obtain ⟨tC, Ak, Aa, Aj, Am, Ab, Ac⟩ := M.f3 2 rfl
 obtain ⟨tX, An, Ag, Ao, Ae, Ah⟩ := M.q5 3 rfl
 obtain ⟨tP, Ai, Af, Ap, Al, Ad⟩ := M.q5 4 rfl
 go_wp2_with fail
 go_call (hNo.out _ (H.out.below M.below)) as r W4 ⟨B0, B1, B2, d0, d1, d2, rfl, g1⟩
 clear tC Ak Aa Aj Am Ab Ac tX An Ag Ao Ae Ah tP Ai Af Ap Al Ad
 replace M := Sep.new M g1
 simp only [zC, zN] at M
 clear g1
 obtain ⟨tS, As, Az, Au, Ax⟩ := M.f2 3 rfl
 obtain ⟨tR, Aw, Ay, Av, Bc, At, Bd, Aq, Bb, Ar, Ba⟩ := M.f5 4 rfl
 go_wp2_with fail
 clear tS As Az Au Ax tR Aw Ay Av Bc At Bd Aq Bb Ar Ba
 replace M := M.gset5 4 rfl (.slice B0 o.ts.length d0) (.slice B1 o.ks.length d1) (.slice B2 o.fs.length d2) (.int .i64 o.tn) (.bool o.st)
 obtain ⟨W5, eW, M⟩ := M
 rw [eW]
 clear eW
 simp only [zZ, zS] at M
 replace M := M.gset2 3 rfl (.int .i64 o.rp) (.int .i64 o.ou)
 obtain ⟨W6, eW, M⟩ := M
 rw [eW]
 clear eW
 simp only [zZ, zS] at M
 obtain ⟨tS, As, Au⟩ := M.q2 3 rfl
 obtain ⟨tR, Aw, Av, At, Aq, Ar⟩ := M.q5 4 rfl
 exact bodyPost_ret (by simp [results, Tryz.results49, go_sem, Aw, Av, At, Aq, Ar, As, Au]) rfl ⟨B0, B1, B2, d0, d1, d2, rfl, M.take 3⟩
theorem applied_main (wk k x y : Int) (w : World) (ht : ts.length ≤ 1048576) (hk : ks.length ≤ 1048576) (hf : fs.length ≤ 1048576) (h : InPool w ts ks fs A0 A1 A2) (hm : mayB a b c d e ts ks fs tn wk = true) (hc : callB k x y = true) :
 Calls Tryz.prog 49 #[qF a b c d e, qP ts ks fs A0 A1 A2 c0 c1 c2 tn st, .int .i64 wk, .agg #[.int .i64 k, .int .i64 x, .int .i64 y]] w (GaveS [] w (applyM a b c d e ts ks fs tn st wk k x y)) := by
 unfold qF qP
 have H := hide h
 clear h
 have hC : Hid (∀ V, InPool V ts ks fs A0 A1 A2 → Calls Tryz.prog 115 #[.agg #[.int .i64 a, .int .i64 b, .int .i64 c, .int .i64 d, .int .i64 e], .agg #[.slice A0 ts.length c0, .slice A1 ks.length c1, .slice A2 fs.length c2, .int .i64 tn, .bool st], .int .i64 wk, .agg #[.int .i64 k, .int .i64 x, .int .i64 y]] V (GaveS [] V (applyM a b c d e ts ks fs tn st wk k x y))) := hide (fun V hV => apply_any a b c d e ts ks fs A0 A1 A2 c0 c1 c2 tn st wk k x y V hc ht hk hf hV)
 generalize applyM a b c d e ts ks fs tn st wk k x y = o at hC ⊢
 have HY := hide (⟨hm, hc, trivial⟩ : _ ∧ _ ∧ True)
 clear hm hc
 go_enter Tryz.func49, Tryz.ntmps49
 go_wp2_with fail
 generalize hW : ((((w.alloc _).alloc _).alloc _).alloc _).alloc _ = W1
 have M := Sep.e5 hW
 clear hW
 obtain ⟨tC, Ak, Aa, Aj, Am, Ab, Ac⟩ := M.f3 2 rfl
 obtain ⟨tX, An, Ag, Ao, Ae, Ah⟩ := M.q5 3 rfl
 obtain ⟨tP, Ai, Af, Ap, Al, Ad⟩ := M.q5 4 rfl
 go_call (l6May_v a b c d e ts ks fs A0 A1 A2 c0 c1 c2 tn st wk true HY.out.1 _ ht hk hf (H.out.below M.below)) as r W2 ⟨rfl, g1⟩
 clear tC Ak Aa Aj Am Ab Ac tX An Ag Ao Ae Ah tP Ai Af Ap Al Ad
 replace M := M.call g1
 clear g1
 obtain ⟨tC, Ak, Aa, Aj, Am, Ab, Ac⟩ := M.f3 2 rfl
 obtain ⟨tX, An, Ag, Ao, Ae, Ah⟩ := M.q5 3 rfl
 obtain ⟨tP, Ai, Af, Ap, Al, Ad⟩ := M.q5 4 rfl
 go_wp2_with fail
 go_call (callOk_v k x y true HY.out.2.1 _) as r W3 ⟨rfl, g1⟩
 clear tC Ak Aa Aj Am Ab Ac tX An Ag Ao Ae Ah tP Ai Af Ap Al Ad
 replace M := M.call g1
 clear g1
 obtain ⟨tC, Ak, Aa, Aj, Am, Ab, Ac⟩ := M.f3 2 rfl
 obtain ⟨tX, An, Ag, Ao, Ae, Ah⟩ := M.q5 3 rfl
 obtain ⟨tP, Ai, Af, Ap, Al, Ad⟩ := M.q5 4 rfl
 go_wp2_with fail
 go_call (hC.out _ (H.out.below M.below)) as r W4 ⟨B0, B1, B2, d0, d1, d2, rfl, g1⟩
 clear tC Ak Aa Aj Am Ab Ac tX An Ag Ao Ae Ah tP Ai Af Ap Al Ad
 replace M := Sep.new M g1
 simp only [zC, zN] at M
 clear g1
 obtain ⟨tS, As, Az, Au, Ax⟩ := M.f2 3 rfl
 obtain ⟨tR, Aw, Ay, Av, Bc, At, Bd, Aq, Bb, Ar, Ba⟩ := M.f5 4 rfl
 go_wp2_with fail
 clear tS As Az Au Ax tR Aw Ay Av Bc At Bd Aq Bb Ar Ba
 replace M := M.gset5 4 rfl (.slice B0 o.ts.length d0) (.slice B1 o.ks.length d1) (.slice B2 o.fs.length d2) (.int .i64 o.tn) (.bool o.st)
 obtain ⟨W5, eW, M⟩ := M
 rw [eW]
 clear eW
 simp only [zZ, zS] at M
 replace M := M.gset2 3 rfl (.int .i64 o.rp) (.int .i64 o.ou)
 obtain ⟨W6, eW, M⟩ := M
 rw [eW]
 clear eW
 simp only [zZ, zS] at M
 obtain ⟨tS, As, Au⟩ := M.q2 3 rfl
 obtain ⟨tR, Aw, Av, At, Aq, Ar⟩ := M.q5 4 rfl
 exact bodyPost_ret (by simp [results, Tryz.results49, go_sem, Aw, Av, At, Aq, Ar, As, Au]) rfl ⟨B0, B1, B2, d0, d1, d2, rfl, M.take 3⟩
def appliedM (a b c d e : Int) (ts : List T7) (ks : List Int) (fs : List F2) (tn : Int) (st : Bool) (wk k x y : Int) : OutP :=
 if mayB a b c d e ts ks fs tn wk = true then (if callB k x y = true then applyM a b c d e ts ks fs tn st wk k x y else noO (poolB a b c d e ts ks fs tn) ts ks fs tn st 8) else noO (poolB a b c d e ts ks fs tn) ts ks fs tn st 8
theorem applied_any (wk k x y : Int) (w : World) (ht : ts.length ≤ 1048576) (hk : ks.length ≤ 1048576) (hf : fs.length ≤ 1048576) (h : InPool w ts ks fs A0 A1 A2) :
 Calls Tryz.prog 49 #[qF a b c d e, qP ts ks fs A0 A1 A2 c0 c1 c2 tn st, .int .i64 wk, .agg #[.int .i64 k, .int .i64 x, .int .i64 y]] w (GaveS [] w (appliedM a b c d e ts ks fs tn st wk k x y)) := by
 unfold qF qP
 unfold appliedM
 split
 ·rename_i hm
  split
  ·rename_i hc; exact applied_main a b c d e ts ks fs A0 A1 A2 c0 c1 c2 tn st wk k x y w ht hk hf h hm hc
  ·rename_i hc; exact applied_call a b c d e ts ks fs A0 A1 A2 c0 c1 c2 tn st wk k x y w ht hk hf h hm (by simpa using hc)
 ·rename_i hm; exact applied_may a b c d e ts ks fs A0 A1 A2 c0 c1 c2 tn st wk k x y w ht hk hf h (by simpa using hm)
end Go.Proofs.YtfkdfkoigojciaaGreatDoor
