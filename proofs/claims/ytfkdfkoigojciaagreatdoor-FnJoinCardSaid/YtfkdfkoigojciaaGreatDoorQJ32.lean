/- The cursor of the model's draws: numbers out of a code's bytes; what was in memory stays as it was, but for the cursor's own block. -/
import Derived.Test.YtfkdfkoigojciaaGreatDoorQJ30
import Derived.Test.YtfkdfkoigojciaaGreatDoorQJ31
import Derived.Test.YtfkdfkoigojciaaGreatDoorQJ10
import Derived.Test.YtfkdfkoigojciaaGreatDoorQJ01

namespace Go.Proofs.YtfkdfkoigojciaaGreatDoor
open Go.RowKit
set_option linter.unusedVariables false
set_option maxRecDepth 100000
def applyM (a b c d e : Int) (ts : List T7) (ks : List Int) (fs : List F2) (tn : Int) (st : Bool) (wk k x y : Int) : OutP :=
 if k = 1 then spawnM a b c d e ts ks fs tn st wk x
 else if k = 2 then takeM a b c d e ts ks fs tn st wk 
 else if k = 3 then yieldM a b c d e ts ks fs tn st wk 
 else if k = 4 then end_M a b c d e ts ks fs tn st wk x
 else if k = 5 then joinM a b c d e ts ks fs tn st wk x
 else if k = 6 then cancelM a b c d e ts ks fs tn st wk x
 else if k = 7 then levelM a b c d e ts ks fs tn st wk x y
 else if k = 8 then upM a b c d e ts ks fs tn st wk x
 else if k = 9 then downM a b c d e ts ks fs tn st wk x
 else if k = 10 then setM a b c d e ts ks fs tn st wk x y
 else if k = 11 then gotM a b c d e ts ks fs tn st wk x
 else stopM a b c d e ts ks fs tn st wk
theorem apply_any (a b c d e : Int) (ts : List T7) (ks : List Int) (fs : List F2) (A0 A1 A2 : Option Addr) (c0 c1 c2 : Nat) (tn : Int) (st : Bool) (wk k x y : Int) (w : World) (hc : callB k x y = true) (ht : ts.length ≤ 1048576) (hk : ks.length ≤ 1048576) (hf : fs.length ≤ 1048576) (h : InPool w ts ks fs A0 A1 A2) :
 Calls Tryz.prog 115 #[.agg #[.int .i64 a, .int .i64 b, .int .i64 c, .int .i64 d, .int .i64 e], .agg #[.slice A0 ts.length c0, .slice A1 ks.length c1, .slice A2 fs.length c2, .int .i64 tn, .bool st], .int .i64 wk, .agg #[.int .i64 k, .int .i64 x, .int .i64 y]] w (GaveS [] w (applyM a b c d e ts ks fs tn st wk k x y)) := by
 have hk12 : 1 ≤ k ∧ k ≤ 12 := by
  simp only [callB, Bool.and_eq_true] at hc
  have h1 := hc.1.1
  simpa [btw] using h1
 clear hc
 rcases Classical.em (k = 1) with rfl | n1
 ·exact apply_1 a b c d e ts ks fs A0 A1 A2 c0 c1 c2 tn st wk x y w ht hk hf h
 rcases Classical.em (k = 2) with rfl | n2
 ·exact apply_2 a b c d e ts ks fs A0 A1 A2 c0 c1 c2 tn st wk x y w ht hk hf h
 rcases Classical.em (k = 3) with rfl | n3
 ·exact apply_3 a b c d e ts ks fs A0 A1 A2 c0 c1 c2 tn st wk x y w ht hk hf h
 rcases Classical.em (k = 4) with rfl | n4
 ·exact apply_4 a b c d e ts ks fs A0 A1 A2 c0 c1 c2 tn st wk x y w ht hk hf h
 rcases Classical.em (k = 5) with rfl | n5
 ·exact apply_5 a b c d e ts ks fs A0 A1 A2 c0 c1 c2 tn st wk x y w ht hk hf h
 rcases Classical.em (k = 6) with rfl | n6
 ·exact apply_6 a b c d e ts ks fs A0 A1 A2 c0 c1 c2 tn st wk x y w ht hk hf h
 rcases Classical.em (k = 7) with rfl | n7
 ·exact apply_7 a b c d e ts ks fs A0 A1 A2 c0 c1 c2 tn st wk x y w ht hk hf h
 rcases Classical.em (k = 8) with rfl | n8
 ·exact apply_8 a b c d e ts ks fs A0 A1 A2 c0 c1 c2 tn st wk x y w ht hk hf h
 rcases Classical.em (k = 9) with rfl | n9
 ·exact apply_9 a b c d e ts ks fs A0 A1 A2 c0 c1 c2 tn st wk x y w ht hk hf h
 rcases Classical.em (k = 10) with rfl | n10
 ·exact apply_10 a b c d e ts ks fs A0 A1 A2 c0 c1 c2 tn st wk x y w ht hk hf h
 rcases Classical.em (k = 11) with rfl | n11
 ·exact apply_11 a b c d e ts ks fs A0 A1 A2 c0 c1 c2 tn st wk x y w ht hk hf h
 rcases Classical.em (k = 12) with rfl | n12
 ·exact apply_12 a b c d e ts ks fs A0 A1 A2 c0 c1 c2 tn st wk x y w ht hk hf h
 omega
theorem callOk_v (c x y : Int) (z : Bool) (hz : callB c x y = z) (w : World) : Calls Tryz.prog 114 #[.agg #[.int .i64 c, .int .i64 x, .int .i64 y]] w fun r w' => r = .returned (.bool z) ∧ Below w.heap.size w w' := hz ▸ callOk_any c x y w
set_option maxHeartbeats 4000000 in
theorem applied_may (a b c d e : Int) (ts : List T7) (ks : List Int) (fs : List F2) (A0 A1 A2 : Option Addr) (c0 c1 c2 : Nat) (tn : Int) (st : Bool) (wk k x y : Int) (w : World) (ht : ts.length ≤ 1048576) (hk : ks.length ≤ 1048576) (hf : fs.length ≤ 1048576) (h : InPool w ts ks fs A0 A1 A2) (hm : mayB a b c d e ts ks fs tn wk = false) :
 Calls Tryz.prog 49 #[.agg #[.int .i64 a, .int .i64 b, .int .i64 c, .int .i64 d, .int .i64 e], .agg #[.slice A0 ts.length c0, .slice A1 ks.length c1, .slice A2 fs.length c2, .int .i64 tn, .bool st], .int .i64 wk, .agg #[.int .i64 k, .int .i64 x, .int .i64 y]] w (GaveS [] w (noO (poolB a b c d e ts ks fs tn) ts ks fs tn st 8)) := by
 have H := hide h
 clear h
 have hNo := hide (fun (V : World) (hV : InPool V ts ks fs A0 A1 A2) => l6No_s a b c d e ts ks fs A0 A1 A2 c0 c1 c2 tn st 8 V ht hk hf hV)
 generalize noO (poolB a b c d e ts ks fs tn) ts ks fs tn st 8 = o at hNo ⊢
 have HY := hide (⟨hm, trivial⟩ : _ ∧ True)
 clear hm
 go_enter Tryz.func49, Tryz.ntmps49
 go_wp2_with fail
 generalize hW : ((((w.alloc _).alloc _).alloc _).alloc _).alloc _ = W1
 have M := Sep.e5 hW
 clear hW
 obtain ⟨tC, Af, Am, Aj, Ah, Ad, An⟩ := M.f3 2 rfl
 obtain ⟨tX, Al, Ai, Ao, Ac, Ab⟩ := M.q5 3 rfl
 obtain ⟨tP, Ag, Ap, Ak, Aa, Ae⟩ := M.q5 4 rfl
 go_call (l6May_v a b c d e ts ks fs A0 A1 A2 c0 c1 c2 tn st wk false HY.out.1 _ ht hk hf (H.out.below M.below)) as r W2 ⟨rfl, g1⟩
 clear tC Af Am Aj Ah Ad An tX Al Ai Ao Ac Ab tP Ag Ap Ak Aa Ae
 replace M := M.call g1
 clear g1
 obtain ⟨tC, Af, Am, Aj, Ah, Ad, An⟩ := M.f3 2 rfl
 obtain ⟨tX, Al, Ai, Ao, Ac, Ab⟩ := M.q5 3 rfl
 obtain ⟨tP, Ag, Ap, Ak, Aa, Ae⟩ := M.q5 4 rfl
 go_wp2_with fail
 go_call (hNo.out _ (H.out.below M.below)) as r W3 ⟨B0, B1, B2, d0, d1, d2, rfl, g1⟩
 clear tC Af Am Aj Ah Ad An tX Al Ai Ao Ac Ab tP Ag Ap Ak Aa Ae
 replace M := Sep.new M g1
 simp only [List.cons_append, List.nil_append] at M
 clear g1
 obtain ⟨tS, At, Bd, Aw, Ax⟩ := M.f2 3 rfl
 obtain ⟨tR, As, Bc, Av, Ay, Ar, Az, Aq, Ba, Au, Bb⟩ := M.f5 4 rfl
 go_wp2_with fail
 clear tS At Bd Aw Ax tR As Bc Av Ay Ar Az Aq Ba Au Bb
 have N := M.gset5 4 rfl (.slice B0 o.ts.length d0) (.slice B1 o.ks.length d1) (.slice B2 o.fs.length d2) (.int .i64 o.tn) (.bool o.st)
 clear M
 obtain ⟨W4, eW, M⟩ := N
 rw [eW]
 clear eW
 simp only [List.set_cons_zero, List.set_cons_succ] at M
 have N := M.gset2 3 rfl (.int .i64 o.rp) (.int .i64 o.ou)
 clear M
 obtain ⟨W5, eW, M⟩ := N
 rw [eW]
 clear eW
 simp only [List.set_cons_zero, List.set_cons_succ] at M
 obtain ⟨tS, At, Aw⟩ := M.q2 3 rfl
 obtain ⟨tR, As, Av, Ar, Aq, Au⟩ := M.q5 4 rfl
 exact bodyPost_ret (by simp [results, Tryz.results49, go_sem, As, Av, Ar, Aq, Au, At, Aw]) rfl ⟨B0, B1, B2, d0, d1, d2, rfl, M.take 3⟩
set_option maxHeartbeats 4000000 in
theorem applied_call (a b c d e : Int) (ts : List T7) (ks : List Int) (fs : List F2) (A0 A1 A2 : Option Addr) (c0 c1 c2 : Nat) (tn : Int) (st : Bool) (wk k x y : Int) (w : World) (ht : ts.length ≤ 1048576) (hk : ks.length ≤ 1048576) (hf : fs.length ≤ 1048576) (h : InPool w ts ks fs A0 A1 A2) (hm : mayB a b c d e ts ks fs tn wk = true) (hc : callB k x y = false) :
 Calls Tryz.prog 49 #[.agg #[.int .i64 a, .int .i64 b, .int .i64 c, .int .i64 d, .int .i64 e], .agg #[.slice A0 ts.length c0, .slice A1 ks.length c1, .slice A2 fs.length c2, .int .i64 tn, .bool st], .int .i64 wk, .agg #[.int .i64 k, .int .i64 x, .int .i64 y]] w (GaveS [] w (noO (poolB a b c d e ts ks fs tn) ts ks fs tn st 8)) := by
 have H := hide h
 clear h
 have hNo := hide (fun (V : World) (hV : InPool V ts ks fs A0 A1 A2) => l6No_s a b c d e ts ks fs A0 A1 A2 c0 c1 c2 tn st 8 V ht hk hf hV)
 generalize noO (poolB a b c d e ts ks fs tn) ts ks fs tn st 8 = o at hNo ⊢
 have HY := hide (⟨hm, hc, trivial⟩ : _ ∧ _ ∧ True)
 clear hm hc
 go_enter Tryz.func49, Tryz.ntmps49
 go_wp2_with fail
 generalize hW : ((((w.alloc _).alloc _).alloc _).alloc _).alloc _ = W1
 have M := Sep.e5 hW
 clear hW
 obtain ⟨tC, Af, Am, Aj, Ah, Ad, An⟩ := M.f3 2 rfl
 obtain ⟨tX, Al, Ai, Ao, Ac, Ab⟩ := M.q5 3 rfl
 obtain ⟨tP, Ag, Ap, Ak, Aa, Ae⟩ := M.q5 4 rfl
 go_call (l6May_v a b c d e ts ks fs A0 A1 A2 c0 c1 c2 tn st wk true HY.out.1 _ ht hk hf (H.out.below M.below)) as r W2 ⟨rfl, g1⟩
 clear tC Af Am Aj Ah Ad An tX Al Ai Ao Ac Ab tP Ag Ap Ak Aa Ae
 replace M := M.call g1
 clear g1
 obtain ⟨tC, Af, Am, Aj, Ah, Ad, An⟩ := M.f3 2 rfl
 obtain ⟨tX, Al, Ai, Ao, Ac, Ab⟩ := M.q5 3 rfl
 obtain ⟨tP, Ag, Ap, Ak, Aa, Ae⟩ := M.q5 4 rfl
 go_wp2_with fail
 go_call (callOk_v k x y false HY.out.2.1 _) as r W3 ⟨rfl, g1⟩
 clear tC Af Am Aj Ah Ad An tX Al Ai Ao Ac Ab tP Ag Ap Ak Aa Ae
 replace M := M.call g1
 clear g1
 obtain ⟨tC, Af, Am, Aj, Ah, Ad, An⟩ := M.f3 2 rfl
 obtain ⟨tX, Al, Ai, Ao, Ac, Ab⟩ := M.q5 3 rfl
 obtain ⟨tP, Ag, Ap, Ak, Aa, Ae⟩ := M.q5 4 rfl
 go_wp2_with fail
 go_call (hNo.out _ (H.out.below M.below)) as r W4 ⟨B0, B1, B2, d0, d1, d2, rfl, g1⟩
 clear tC Af Am Aj Ah Ad An tX Al Ai Ao Ac Ab tP Ag Ap Ak Aa Ae
 replace M := Sep.new M g1
 simp only [List.cons_append, List.nil_append] at M
 clear g1
 obtain ⟨tS, At, Bd, Aw, Ax⟩ := M.f2 3 rfl
 obtain ⟨tR, As, Bc, Av, Ay, Ar, Az, Aq, Ba, Au, Bb⟩ := M.f5 4 rfl
 go_wp2_with fail
 clear tS At Bd Aw Ax tR As Bc Av Ay Ar Az Aq Ba Au Bb
 have N := M.gset5 4 rfl (.slice B0 o.ts.length d0) (.slice B1 o.ks.length d1) (.slice B2 o.fs.length d2) (.int .i64 o.tn) (.bool o.st)
 clear M
 obtain ⟨W5, eW, M⟩ := N
 rw [eW]
 clear eW
 simp only [List.set_cons_zero, List.set_cons_succ] at M
 have N := M.gset2 3 rfl (.int .i64 o.rp) (.int .i64 o.ou)
 clear M
 obtain ⟨W6, eW, M⟩ := N
 rw [eW]
 clear eW
 simp only [List.set_cons_zero, List.set_cons_succ] at M
 obtain ⟨tS, At, Aw⟩ := M.q2 3 rfl
 obtain ⟨tR, As, Av, Ar, Aq, Au⟩ := M.q5 4 rfl
 exact bodyPost_ret (by simp [results, Tryz.results49, go_sem, As, Av, Ar, Aq, Au, At, Aw]) rfl ⟨B0, B1, B2, d0, d1, d2, rfl, M.take 3⟩
set_option maxHeartbeats 4000000 in
theorem applied_main (a b c d e : Int) (ts : List T7) (ks : List Int) (fs : List F2) (A0 A1 A2 : Option Addr) (c0 c1 c2 : Nat) (tn : Int) (st : Bool) (wk k x y : Int) (w : World) (ht : ts.length ≤ 1048576) (hk : ks.length ≤ 1048576) (hf : fs.length ≤ 1048576) (h : InPool w ts ks fs A0 A1 A2) (hm : mayB a b c d e ts ks fs tn wk = true) (hc : callB k x y = true) :
 Calls Tryz.prog 49 #[.agg #[.int .i64 a, .int .i64 b, .int .i64 c, .int .i64 d, .int .i64 e], .agg #[.slice A0 ts.length c0, .slice A1 ks.length c1, .slice A2 fs.length c2, .int .i64 tn, .bool st], .int .i64 wk, .agg #[.int .i64 k, .int .i64 x, .int .i64 y]] w (GaveS [] w (applyM a b c d e ts ks fs tn st wk k x y)) := by
 have H := hide h
 clear h
 have hC : Hid (∀ V, InPool V ts ks fs A0 A1 A2 → Calls Tryz.prog 115 #[.agg #[.int .i64 a, .int .i64 b, .int .i64 c, .int .i64 d, .int .i64 e], .agg #[.slice A0 ts.length c0, .slice A1 ks.length c1, .slice A2 fs.length c2, .int .i64 tn, .bool st], .int .i64 wk, .agg #[.int .i64 k, .int .i64 x, .int .i64 y]] V (GaveS [] V (applyM a b c d e ts ks fs tn st wk k x y))) := hide (fun V hV => apply_any a b c d e ts ks fs A0 A1 A2 c0 c1 c2 tn st wk k x y V hc ht hk hf hV)
 generalize applyM a b c d e ts ks fs tn st wk k x y = o at hC ⊢
 have HY := hide (⟨hm, hc, trivial⟩ : _ ∧ _ ∧ True)
 clear hm hc
 go_enter Tryz.func49, Tryz.ntmps49
 go_wp2_with fail
 generalize hW : ((((w.alloc _).alloc _).alloc _).alloc _).alloc _ = W1
 have M := Sep.e5 hW
 clear hW
 obtain ⟨tC, Af, Am, Aj, Ah, Ad, An⟩ := M.f3 2 rfl
 obtain ⟨tX, Al, Ai, Ao, Ac, Ab⟩ := M.q5 3 rfl
 obtain ⟨tP, Ag, Ap, Ak, Aa, Ae⟩ := M.q5 4 rfl
 go_call (l6May_v a b c d e ts ks fs A0 A1 A2 c0 c1 c2 tn st wk true HY.out.1 _ ht hk hf (H.out.below M.below)) as r W2 ⟨rfl, g1⟩
 clear tC Af Am Aj Ah Ad An tX Al Ai Ao Ac Ab tP Ag Ap Ak Aa Ae
 replace M := M.call g1
 clear g1
 obtain ⟨tC, Af, Am, Aj, Ah, Ad, An⟩ := M.f3 2 rfl
 obtain ⟨tX, Al, Ai, Ao, Ac, Ab⟩ := M.q5 3 rfl
 obtain ⟨tP, Ag, Ap, Ak, Aa, Ae⟩ := M.q5 4 rfl
 go_wp2_with fail
 go_call (callOk_v k x y true HY.out.2.1 _) as r W3 ⟨rfl, g1⟩
 clear tC Af Am Aj Ah Ad An tX Al Ai Ao Ac Ab tP Ag Ap Ak Aa Ae
 replace M := M.call g1
 clear g1
 obtain ⟨tC, Af, Am, Aj, Ah, Ad, An⟩ := M.f3 2 rfl
 obtain ⟨tX, Al, Ai, Ao, Ac, Ab⟩ := M.q5 3 rfl
 obtain ⟨tP, Ag, Ap, Ak, Aa, Ae⟩ := M.q5 4 rfl
 go_wp2_with fail
 go_call (hC.out _ (H.out.below M.below)) as r W4 ⟨B0, B1, B2, d0, d1, d2, rfl, g1⟩
 clear tC Af Am Aj Ah Ad An tX Al Ai Ao Ac Ab tP Ag Ap Ak Aa Ae
 replace M := Sep.new M g1
 simp only [List.cons_append, List.nil_append] at M
 clear g1
 obtain ⟨tS, At, Bd, Aw, Ax⟩ := M.f2 3 rfl
 obtain ⟨tR, As, Bc, Av, Ay, Ar, Az, Aq, Ba, Au, Bb⟩ := M.f5 4 rfl
 go_wp2_with fail
 clear tS At Bd Aw Ax tR As Bc Av Ay Ar Az Aq Ba Au Bb
 have N := M.gset5 4 rfl (.slice B0 o.ts.length d0) (.slice B1 o.ks.length d1) (.slice B2 o.fs.length d2) (.int .i64 o.tn) (.bool o.st)
 clear M
 obtain ⟨W5, eW, M⟩ := N
 rw [eW]
 clear eW
 simp only [List.set_cons_zero, List.set_cons_succ] at M
 have N := M.gset2 3 rfl (.int .i64 o.rp) (.int .i64 o.ou)
 clear M
 obtain ⟨W6, eW, M⟩ := N
 rw [eW]
 clear eW
 simp only [List.set_cons_zero, List.set_cons_succ] at M
 obtain ⟨tS, At, Aw⟩ := M.q2 3 rfl
 obtain ⟨tR, As, Av, Ar, Aq, Au⟩ := M.q5 4 rfl
 exact bodyPost_ret (by simp [results, Tryz.results49, go_sem, As, Av, Ar, Aq, Au, At, Aw]) rfl ⟨B0, B1, B2, d0, d1, d2, rfl, M.take 3⟩
def appliedM (a b c d e : Int) (ts : List T7) (ks : List Int) (fs : List F2) (tn : Int) (st : Bool) (wk k x y : Int) : OutP :=
 if mayB a b c d e ts ks fs tn wk = true then (if callB k x y = true then applyM a b c d e ts ks fs tn st wk k x y else noO (poolB a b c d e ts ks fs tn) ts ks fs tn st 8) else noO (poolB a b c d e ts ks fs tn) ts ks fs tn st 8
theorem applied_any (a b c d e : Int) (ts : List T7) (ks : List Int) (fs : List F2) (A0 A1 A2 : Option Addr) (c0 c1 c2 : Nat) (tn : Int) (st : Bool) (wk k x y : Int) (w : World) (ht : ts.length ≤ 1048576) (hk : ks.length ≤ 1048576) (hf : fs.length ≤ 1048576) (h : InPool w ts ks fs A0 A1 A2) :
 Calls Tryz.prog 49 #[.agg #[.int .i64 a, .int .i64 b, .int .i64 c, .int .i64 d, .int .i64 e], .agg #[.slice A0 ts.length c0, .slice A1 ks.length c1, .slice A2 fs.length c2, .int .i64 tn, .bool st], .int .i64 wk, .agg #[.int .i64 k, .int .i64 x, .int .i64 y]] w (GaveS [] w (appliedM a b c d e ts ks fs tn st wk k x y)) := by
 unfold appliedM
 split
 ·rename_i hm
  split
  ·rename_i hc; exact applied_main a b c d e ts ks fs A0 A1 A2 c0 c1 c2 tn st wk k x y w ht hk hf h hm hc
  ·rename_i hc; exact applied_call a b c d e ts ks fs A0 A1 A2 c0 c1 c2 tn st wk k x y w ht hk hf h hm (by simpa using hc)
 ·rename_i hm; exact applied_may a b c d e ts ks fs A0 A1 A2 c0 c1 c2 tn st wk k x y w ht hk hf h (by simpa using hm)
def RightO (a b c d e : Int) (o : OutP) : Prop := poolB a b c d e o.ts o.ks o.fs o.tn = true
theorem RightO.ite {a b c d e : Int} {p : Prop} [Decidable p] {x y : OutP} (hx : RightO a b c d e x) (hy : RightO a b c d e y) : RightO a b c d e (if p then x else y) := by
 split
 ·exact hx
 ·exact hy
section
variable {a b c d e : Int} {ts : List T7} {ks : List Int} {fs : List F2} {tn : Int} {st : Bool}
theorem spawn_right (wk lv : Int) (h : poolB a b c d e ts ks fs tn = true) : RightO a b c d e (spawnM a b c d e ts ks fs tn st wk lv) := by
 unfold spawnM
 repeat' (with_reducible refine RightO.ite ?_ ?_)
 all_goals (try split)
 all_goals first | exact noO_right h | exact doneO_right h | exact h
theorem take_right (wk : Int) (h : poolB a b c d e ts ks fs tn = true) : RightO a b c d e (takeM a b c d e ts ks fs tn st wk) := by
 unfold takeM
 repeat' (with_reducible refine RightO.ite ?_ ?_)
 all_goals (try split)
 all_goals first | exact noO_right h | exact doneO_right h | exact h
theorem yield_right (wk : Int) (h : poolB a b c d e ts ks fs tn = true) : RightO a b c d e (yieldM a b c d e ts ks fs tn st wk) := by
 unfold yieldM
 repeat' (with_reducible refine RightO.ite ?_ ?_)
 all_goals (try split)
 all_goals first | exact noO_right h | exact doneO_right h | exact h
theorem end__right (wk vv : Int) (h : poolB a b c d e ts ks fs tn = true) : RightO a b c d e (end_M a b c d e ts ks fs tn st wk vv) := by
 unfold end_M
 repeat' (with_reducible refine RightO.ite ?_ ?_)
 all_goals (try split)
 all_goals first | exact noO_right h | exact doneO_right h | exact h
theorem join_right (wk id : Int) (h : poolB a b c d e ts ks fs tn = true) : RightO a b c d e (joinM a b c d e ts ks fs tn st wk id) := by
 unfold joinM
 repeat' (with_reducible refine RightO.ite ?_ ?_)
 all_goals (try split)
 all_goals first | exact noO_right h | exact doneO_right h | exact h
theorem cancel_right (wk id : Int) (h : poolB a b c d e ts ks fs tn = true) : RightO a b c d e (cancelM a b c d e ts ks fs tn st wk id) := by
 unfold cancelM
 repeat' (with_reducible refine RightO.ite ?_ ?_)
 all_goals (try split)
 all_goals first | exact noO_right h | exact doneO_right h | exact h
theorem level_right (wk id lv : Int) (h : poolB a b c d e ts ks fs tn = true) : RightO a b c d e (levelM a b c d e ts ks fs tn st wk id lv) := by
 unfold levelM
 repeat' (with_reducible refine RightO.ite ?_ ?_)
 all_goals (try split)
 all_goals first | exact noO_right h | exact doneO_right h | exact h
theorem up_right (wk id : Int) (h : poolB a b c d e ts ks fs tn = true) : RightO a b c d e (upM a b c d e ts ks fs tn st wk id) := by
 unfold upM
 repeat' (with_reducible refine RightO.ite ?_ ?_)
 all_goals (try split)
 all_goals first | exact noO_right h | exact doneO_right h | exact h
theorem down_right (wk id : Int) (h : poolB a b c d e ts ks fs tn = true) : RightO a b c d e (downM a b c d e ts ks fs tn st wk id) := by
 unfold downM
 repeat' (with_reducible refine RightO.ite ?_ ?_)
 all_goals (try split)
 all_goals first | exact noO_right h | exact doneO_right h | exact h
theorem set_right (wk id vv : Int) (h : poolB a b c d e ts ks fs tn = true) : RightO a b c d e (setM a b c d e ts ks fs tn st wk id vv) := by
 unfold setM
 repeat' (with_reducible refine RightO.ite ?_ ?_)
 all_goals (try split)
 all_goals first | exact noO_right h | exact doneO_right h | exact h
theorem got_right (wk id : Int) (h : poolB a b c d e ts ks fs tn = true) : RightO a b c d e (gotM a b c d e ts ks fs tn st wk id) := by
 unfold gotM
 repeat' (with_reducible refine RightO.ite ?_ ?_)
 all_goals (try split)
 all_goals first | exact noO_right h | exact doneO_right h | exact h
theorem stop_right (wk : Int) (h : poolB a b c d e ts ks fs tn = true) : RightO a b c d e (stopM a b c d e ts ks fs tn st wk) := by
 unfold stopM
 repeat' (with_reducible refine RightO.ite ?_ ?_)
 all_goals (try split)
 all_goals first | exact noO_right h | exact doneO_right h | exact h
theorem applied_right (wk k x y : Int) (h : poolB a b c d e ts ks fs tn = true) : RightO a b c d e (appliedM a b c d e ts ks fs tn st wk k x y) := by
 unfold appliedM applyM
 repeat' (with_reducible refine RightO.ite ?_ ?_)
 all_goals first | (with_reducible exact spawn_right _ _ h) | (with_reducible exact take_right _ h) | (with_reducible exact yield_right _ h) | (with_reducible exact end__right _ _ h) | (with_reducible exact join_right _ _ h) | (with_reducible exact cancel_right _ _ h) | (with_reducible exact level_right _ _ _ h) | (with_reducible exact up_right _ _ h) | (with_reducible exact down_right _ _ h) | (with_reducible exact set_right _ _ _ h) | (with_reducible exact got_right _ _ h) | (with_reducible exact stop_right _ h) | exact noO_right h
theorem poolB_lens (h : poolB a b c d e ts ks fs tn = true) : ts.length ≤ 30 ∧ ks.length ≤ 4 ∧ fs.length ≤ 4 := by
 simp only [poolB, Bool.and_eq_true, decide_eq_true_eq] at h
 have h1 := h.1
 have h2 := h.2.2.1.1
 have h3 := h.2.2.2.1.2
 have h4 := h.2.2.2.2.2
 clear h
 simp [planB, btw] at h1
 omega
theorem newPool_right {d e : Nat} (h : planB a b c d e = true) : poolB a b c d e [] (List.replicate d 0) (List.replicate e ⟨false, 0⟩) 1 = true := by
 have h1 := h
 simp [planB, btw] at h1
 have e1 : (List.replicate d (0 : Int)).all tokB = true := List.all_eq_true.2 fun x hx => by rw [List.eq_of_mem_replicate hx]; rfl
 have e2 : (List.replicate e (⟨false, 0⟩ : F2)).all futB = true := List.all_eq_true.2 fun x hx => by rw [List.eq_of_mem_replicate hx]; rfl
 rw [poolB, h, e1, e2]
 simp [tasksB, allFrom, btw]
 omega
end
def TurnO (m : Int) (o : OutP) : Prop := o.tn ≤ m
theorem TurnO.ite {m : Int} {p : Prop} [Decidable p] {x y : OutP} (hx : TurnO m x) (hy : TurnO m y) : TurnO m (if p then x else y) := by
 split
 ·exact hx
 ·exact hy
section
variable {a b c d e : Int} {ts : List T7} {ks : List Int} {fs : List F2} {tn m : Int} {st : Bool}
theorem noO_turn (z : Bool) (rp : Int) (h0 : 0 ≤ m) (h : tn ≤ m) : TurnO m (noO z ts ks fs tn st rp) := by
 unfold noO TurnO
 split
 ·exact h
 ·exact h0
theorem doneO_turn (z : Bool) (us : List T7) (ks2 : List Int) (fs2 : List F2) (tn2 : Int) (st2 : Bool) (rp ou : Int) (h : tn ≤ m) (h2 : tn2 ≤ m) : TurnO m (doneO z ts ks fs tn st us ks2 fs2 tn2 st2 rp ou) := by
 unfold doneO TurnO
 split
 ·exact h2
 ·exact h
theorem waiters_lt (us : List T7) (wt on : Int) : (waitersM us wt on).length ≤ us.length := lineM_length _ _ _
theorem waiters_set (k : Nat) (x : T7) (wt on : Int) : (waitersM (ts.set k x) wt on).length ≤ ts.length := by have := waiters_lt (ts.set k x) wt on; rwa [List.length_set] at this
theorem wset_le {k : Nat} {x : T7} {wt on : Int} (h : tn + ts.length + 1 ≤ m) : tn + ((waitersM (ts.set k x) wt on).length : Int) ≤ m := by have := waiters_set (ts := ts) k x wt on; omega
theorem wall_le {wt on : Int} (h : tn + ts.length + 1 ≤ m) : tn + ((waitersM ts wt on).length : Int) ≤ m := by have := waiters_lt ts wt on; omega
theorem spawn_turn (wk lv : Int) (h0 : 0 ≤ m) (h : tn + ts.length + 1 ≤ m) : TurnO m (spawnM a b c d e ts ks fs tn st wk lv) := by
 unfold spawnM
 repeat' (with_reducible refine TurnO.ite ?_ ?_)
 all_goals (try split)
 all_goals first | exact noO_turn _ _ h0 (by omega) | (refine doneO_turn _ _ _ _ _ _ _ _ (by omega) ?_; first | omega | (with_reducible exact wall_le h) | (with_reducible exact wset_le h)) | (show _ ≤ m; simp only; omega)
theorem take_turn (wk : Int) (h0 : 0 ≤ m) (h : tn + ts.length + 1 ≤ m) : TurnO m (takeM a b c d e ts ks fs tn st wk) := by
 unfold takeM
 repeat' (with_reducible refine TurnO.ite ?_ ?_)
 all_goals (try split)
 all_goals first | exact noO_turn _ _ h0 (by omega) | (refine doneO_turn _ _ _ _ _ _ _ _ (by omega) ?_; first | omega | (with_reducible exact wall_le h) | (with_reducible exact wset_le h)) | (show _ ≤ m; simp only; omega)
theorem yield_turn (wk : Int) (h0 : 0 ≤ m) (h : tn + ts.length + 1 ≤ m) : TurnO m (yieldM a b c d e ts ks fs tn st wk) := by
 unfold yieldM
 repeat' (with_reducible refine TurnO.ite ?_ ?_)
 all_goals (try split)
 all_goals first | exact noO_turn _ _ h0 (by omega) | (refine doneO_turn _ _ _ _ _ _ _ _ (by omega) ?_; first | omega | (with_reducible exact wall_le h) | (with_reducible exact wset_le h)) | (show _ ≤ m; simp only; omega)
theorem end__turn (wk vv : Int) (h0 : 0 ≤ m) (h : tn + ts.length + 1 ≤ m) : TurnO m (end_M a b c d e ts ks fs tn st wk vv) := by
 unfold end_M
 repeat' (with_reducible refine TurnO.ite ?_ ?_)
 all_goals (try split)
 all_goals first | exact noO_turn _ _ h0 (by omega) | (refine doneO_turn _ _ _ _ _ _ _ _ (by omega) ?_; first | omega | (with_reducible exact wall_le h) | (with_reducible exact wset_le h)) | (show _ ≤ m; simp only; omega)
theorem join_turn (wk id : Int) (h0 : 0 ≤ m) (h : tn + ts.length + 1 ≤ m) : TurnO m (joinM a b c d e ts ks fs tn st wk id) := by
 unfold joinM
 repeat' (with_reducible refine TurnO.ite ?_ ?_)
 all_goals (try split)
 all_goals first | exact noO_turn _ _ h0 (by omega) | (refine doneO_turn _ _ _ _ _ _ _ _ (by omega) ?_; first | omega | (with_reducible exact wall_le h) | (with_reducible exact wset_le h)) | (show _ ≤ m; simp only; omega)
theorem cancel_turn (wk id : Int) (h0 : 0 ≤ m) (h : tn + ts.length + 1 ≤ m) : TurnO m (cancelM a b c d e ts ks fs tn st wk id) := by
 unfold cancelM
 repeat' (with_reducible refine TurnO.ite ?_ ?_)
 all_goals (try split)
 all_goals first | exact noO_turn _ _ h0 (by omega) | (refine doneO_turn _ _ _ _ _ _ _ _ (by omega) ?_; first | omega | (with_reducible exact wall_le h) | (with_reducible exact wset_le h)) | (show _ ≤ m; simp only; omega)
theorem level_turn (wk id lv : Int) (h0 : 0 ≤ m) (h : tn + ts.length + 1 ≤ m) : TurnO m (levelM a b c d e ts ks fs tn st wk id lv) := by
 unfold levelM
 repeat' (with_reducible refine TurnO.ite ?_ ?_)
 all_goals (try split)
 all_goals first | exact noO_turn _ _ h0 (by omega) | (refine doneO_turn _ _ _ _ _ _ _ _ (by omega) ?_; first | omega | (with_reducible exact wall_le h) | (with_reducible exact wset_le h)) | (show _ ≤ m; simp only; omega)
theorem up_turn (wk id : Int) (h0 : 0 ≤ m) (h : tn + ts.length + 1 ≤ m) : TurnO m (upM a b c d e ts ks fs tn st wk id) := by
 unfold upM
 repeat' (with_reducible refine TurnO.ite ?_ ?_)
 all_goals (try split)
 all_goals first | exact noO_turn _ _ h0 (by omega) | (refine doneO_turn _ _ _ _ _ _ _ _ (by omega) ?_; first | omega | (with_reducible exact wall_le h) | (with_reducible exact wset_le h)) | (show _ ≤ m; simp only; omega)
theorem down_turn (wk id : Int) (h0 : 0 ≤ m) (h : tn + ts.length + 1 ≤ m) : TurnO m (downM a b c d e ts ks fs tn st wk id) := by
 unfold downM
 repeat' (with_reducible refine TurnO.ite ?_ ?_)
 all_goals (try split)
 all_goals first | exact noO_turn _ _ h0 (by omega) | (refine doneO_turn _ _ _ _ _ _ _ _ (by omega) ?_; first | omega | (with_reducible exact wall_le h) | (with_reducible exact wset_le h)) | (show _ ≤ m; simp only; omega)
theorem set_turn (wk id vv : Int) (h0 : 0 ≤ m) (h : tn + ts.length + 1 ≤ m) : TurnO m (setM a b c d e ts ks fs tn st wk id vv) := by
 unfold setM
 repeat' (with_reducible refine TurnO.ite ?_ ?_)
 all_goals (try split)
 all_goals first | exact noO_turn _ _ h0 (by omega) | (refine doneO_turn _ _ _ _ _ _ _ _ (by omega) ?_; first | omega | (with_reducible exact wall_le h) | (with_reducible exact wset_le h)) | (show _ ≤ m; simp only; omega)
theorem got_turn (wk id : Int) (h0 : 0 ≤ m) (h : tn + ts.length + 1 ≤ m) : TurnO m (gotM a b c d e ts ks fs tn st wk id) := by
 unfold gotM
 repeat' (with_reducible refine TurnO.ite ?_ ?_)
 all_goals (try split)
 all_goals first | exact noO_turn _ _ h0 (by omega) | (refine doneO_turn _ _ _ _ _ _ _ _ (by omega) ?_; first | omega | (with_reducible exact wall_le h) | (with_reducible exact wset_le h)) | (show _ ≤ m; simp only; omega)
theorem stop_turn (wk : Int) (h0 : 0 ≤ m) (h : tn + ts.length + 1 ≤ m) : TurnO m (stopM a b c d e ts ks fs tn st wk) := by
 unfold stopM
 repeat' (with_reducible refine TurnO.ite ?_ ?_)
 all_goals (try split)
 all_goals first | exact noO_turn _ _ h0 (by omega) | (refine doneO_turn _ _ _ _ _ _ _ _ (by omega) ?_; first | omega | (with_reducible exact wall_le h) | (with_reducible exact wset_le h)) | (show _ ≤ m; simp only; omega)
theorem applied_turn (wk k x y : Int) (h0 : 0 ≤ m) (h : tn + ts.length + 1 ≤ m) : TurnO m (appliedM a b c d e ts ks fs tn st wk k x y) := by
 unfold appliedM applyM
 repeat' (with_reducible refine TurnO.ite ?_ ?_)
 all_goals first | (with_reducible exact spawn_turn _ _ h0 h) | (with_reducible exact take_turn _ h0 h) | (with_reducible exact yield_turn _ h0 h) | (with_reducible exact end__turn _ _ h0 h) | (with_reducible exact join_turn _ _ h0 h) | (with_reducible exact cancel_turn _ _ h0 h) | (with_reducible exact level_turn _ _ _ h0 h) | (with_reducible exact up_turn _ _ h0 h) | (with_reducible exact down_turn _ _ h0 h) | (with_reducible exact set_turn _ _ _ h0 h) | (with_reducible exact got_turn _ _ h0 h) | (with_reducible exact stop_turn _ h0 h) | exact noO_turn _ _ h0 (by omega)
end
set_option maxRecDepth 100000
theorem big_any (A : Option Addr) (len cap : Nat) (w : World) : Calls Tryz.prog 11 #[.slice A len cap] w fun e w' => e = .returned (.bool (decide (4096 < (len : Int)))) ∧ w = w' := by
 go_enter Tryz.func11, Tryz.ntmps11
 go_wp2
 go_ret
 exact ⟨rfl, rfl⟩
/-- A dice at block g, over a code that lies below block B. -/
def DiceAt (B : Nat) (w : World) (g : Nat) (A : Option Addr) (len cap : Nat) : Prop :=
 B ≤ g ∧ len ≤ 4096 ∧ Bytes w B A len ∧ ∃ (i : Nat) (h : Int), Blk w g 68 #[.slice A len cap, .int .i64 (i : Int), .int .u64 h] ∧ i ≤ len
theorem DiceAt.keep {B : Nat} {w w' : World} {g len cap : Nat} {A : Option Addr} (h : DiceAt B w g A len cap) (hk : ∀ b, b ≤ g → w'.heap[b]? = w.heap[b]?) : DiceAt B w' g A len cap := by
 obtain ⟨h1, h2, h3, i, x, h4, h5⟩ := h
 exact ⟨h1, h2, h3.keep fun b hb => hk b (by omega), i, x, (hk g (Nat.le_refl _)).trans h4, h5⟩
theorem DiceAt.lt {B : Nat} {w : World} {g len cap : Nat} {A : Option Addr} (h : DiceAt B w g A len cap) : g < w.heap.size := by
 obtain ⟨_, _, _, _, _, h4, _⟩ := h
 exact h4.lt
/-- A call that may have moved the dice on and made new blocks; nothing else has turned. -/
def Moved (B : Nat) (w w' : World) (g : Nat) (A : Option Addr) (len cap : Nat) : Prop := w.grownBy w' (some g) ∧ DiceAt B w' g A len cap
def Gave (lo hi : Int) (B : Nat) (w : World) (g : Nat) (A : Option Addr) (len cap : Nat) (e : Ending) (w' : World) : Prop :=
 ∃ v : Int, e = .returned (.int .i64 v) ∧ lo ≤ v ∧ v ≤ hi ∧ Moved B w w' g A len cap
set_option maxHeartbeats 1000000 in
theorem below_any (B : Nat) (w : World) (g : Nat) (A : Option Addr) (len cap : Nat) (n : Int) (hn : 1 ≤ n) (hn2 : n ≤ 1000000) (hd : DiceAt B w g A len cap) :
 Calls Tryz.prog 14 #[.pointer (some ⟨g, 0, none⟩), .int .i64 n] w (Gave 0 (n - 1) B w g A len cap) := by
 obtain ⟨hB, hl, hby, i, h, hblk, hi⟩ := hd
 have c0 : w.cell? ⟨g, 0, none⟩ = some (.slice A len cap) := hblk.cell 0
 have c1 : w.cell? ⟨g, 1, none⟩ = some (.int .i64 (i : Int)) := hblk.cell 1
 have c2 : w.cell? ⟨g, 2, none⟩ = some (.int .u64 h) := hblk.cell 2
 have f1 : w.frozen? ⟨g, 1, none⟩ = false := hblk.frozen 1
 have f2 : w.frozen? ⟨g, 2, none⟩ = false := hblk.frozen 2
 go_enter Tryz.func14, Tryz.ntmps14
 go_wp2
 generalize hH : IntKind.u64.wrap (IntKind.u64.wrap (h * 6364136223846793005) + 1442695040888963407) = H
 have hb := and24 (H / 8589934592)
 have hX : wrap64 (bits BinOp.and IntKind.u64 (H / 8589934592) 16777215) = bits BinOp.and IntKind.u64 (H / 8589934592) 16777215 := IntWalk.wrap64_in _ (by omega)
 rw [hX]
 generalize bits BinOp.and IntKind.u64 (H / 8589934592) 16777215 = X at hb
 clear hX hH
 have hblk1 := hblk.set_ 2 (.int .u64 H)
 have hgr1 : w.grownBy (w.setCell ⟨g, 2, none⟩ (.int .u64 H)) (some g) := only_setCell (World.grownBy.refl w _) (.inl rfl) _
 generalize w.setCell ⟨g, 2, none⟩ (.int .u64 H) = w1 at hblk1 hgr1
 clear c0 c1 c2 f1 f2
 have c0 : w1.cell? ⟨g, 0, none⟩ = some (.slice A len cap) := hblk1.cell 0
 have c1 : w1.cell? ⟨g, 1, none⟩ = some (.int .i64 (i : Int)) := hblk1.cell 1
 have f1 : w1.frozen? ⟨g, 1, none⟩ = false := hblk1.frozen 1
 by_cases hlt : i < len
 ·obtain ⟨b, off, rfl, hbB, hz⟩ := hby (by omega)
  obtain ⟨z, hz0, hz1, hz2⟩ := hz i hlt
  have hz3 : w1.cell? ⟨b, off + i, none⟩ = some (.int .u8 z) := (World.cell?_of_block (hgr1.block b (by have := hblk.lt; omega) (by intro e; injection e; omega))).trans hz2
  go_quiet (fail)
  go_wp2_with fail
  go_quiet (fail)
  go_wp2
  go_ret
  refine ⟨(X + z) % n, rfl, Int.emod_nonneg _ (by omega), by have := Int.emod_lt_of_pos (X + z) (by omega : 0 < n); omega, only_setCell (only_drewN hgr1 _) (.inl rfl) _, ?_⟩
  refine ⟨hB, hl, hby.keep fun c hc => ?_, i + 1, H, ((hblk1.drewN _).set_ 1 _).to (by simp), by omega⟩
  exact (only_setCell (only_drewN hgr1 _) (.inl rfl) _).block c (by have := hblk.lt; omega) (by intro e; injection e; omega)
 ·go_quiet (fail)
  go_wp2
  go_ret
  refine ⟨X % n, rfl, Int.emod_nonneg _ (by omega), by have := Int.emod_lt_of_pos X (by omega : 0 < n); omega, only_drewN hgr1 _, ?_⟩
  exact ⟨hB, hl, hby.keep fun c hc => hgr1.block c (by have := hblk.lt; omega) (by intro e; injection e; omega), i, H, (hblk1.drewN _).to (by simp), by omega⟩
set_option maxHeartbeats 1000000 in
theorem roll_any (B : Nat) (w : World) (A : Option Addr) (len cap : Nat) (s : Int) (hB : B ≤ w.heap.size) (hl : len ≤ 4096) (hby : Bytes w B A len) :
 Calls Tryz.prog 12 #[.slice A len cap, .int .u64 s] w fun e w' => e = .returned (.pointer (some ⟨w.heap.size, 0, none⟩)) ∧ Below w.heap.size w w' ∧ DiceAt B w' w.heap.size A len cap := by
 go_enter Tryz.func12, Tryz.ntmps12
 go_wp2
 go_loopw [6] (fun i wr => ∃ (k : Nat) (h : Int), k ≤ len ∧ i = .int .i64 k ∧ Below w.heap.size w wr ∧ Blk wr w.heap.size 68 #[.slice A len cap, .int .i64 0, .int .u64 h]) (fun i _ => len - (intOf i).toNat)
 case atStart => exact ⟨0, _, Nat.zero_le _, rfl, (Below.refl _ _).alloc (Nat.le_refl _) _, Blk.new _ _ _⟩
 case round =>
  obtain ⟨k, h, hk, rfl, hbel, hblk⟩ := hrel
  have c2 : wr.cell? ⟨w.heap.size, 2, none⟩ = some (.int .u64 h) := hblk.cell 2
  have f2 : wr.frozen? ⟨w.heap.size, 2, none⟩ = false := hblk.frozen 2
  by_cases hlt : k < len
  ·obtain ⟨b, off, rfl, hbB, hz⟩ := hby (by omega)
   obtain ⟨z, hz0, hz1, hz2⟩ := hz k hlt
   have hz3 : wr.cell? ⟨b, off + k, none⟩ = some (.int .u8 z) := (World.cell?_of_block (hbel.block b (by omega))).trans hz2
   go_wp2
   go_region
   all_goals go_wp2
   all_goals go_roundw
   case rel => exact ⟨k + 1, _, by omega, by go_num, by go_grown, Blk.to (hblk.set_ 2 _) rfl⟩
   case measure => simp [intOf]; omega
  ·go_wp2
   go_ret
   obtain rfl : k = len := by omega
   refine ⟨rfl, hbel, hB, hl, hby.keep fun c hc => hbel.block c (by omega), 0, h, hblk, by omega⟩
/-- A right plan out of the dice. -/
def GavePlan (B : Nat) (w : World) (g : Nat) (A : Option Addr) (len cap : Nat) (r : Ending) (w' : World) : Prop :=
 ∃ a b c d e : Int, r = .returned (.agg #[.int .i64 a, .int .i64 b, .int .i64 c, .int .i64 d, .int .i64 e]) ∧ 1 ≤ a ∧ a ≤ 5 ∧ 3 ≤ b ∧ b ≤ 12 ∧ 1 ≤ c ∧ c ≤ 3 ∧ 1 ≤ d ∧ d ≤ 2 ∧ 1 ≤ e ∧ e ≤ 2 ∧ Moved B w w' g A len cap
set_option maxHeartbeats 1000000 in
theorem scheme_any (B : Nat) (w : World) (g : Nat) (A : Option Addr) (len cap : Nat) (hd : DiceAt B w g A len cap) :
 Calls Tryz.prog 13 #[.pointer (some ⟨g, 0, none⟩)] w (GavePlan B w g A len cap) := by
 have hg := hd.lt
 go_enter Tryz.func13, Tryz.ntmps13
 go_wp2_with fail
 have hd0 := hd.keep (w' := w.alloc (.cells #[.int .i64 0, .int .i64 0, .int .i64 0, .int .i64 0, .int .i64 0] 28)) fun b hb => Below.heap_alloc w _ b (by omega)
 go_call (below_any B _ g A len cap 5 (by omega) (by omega) hd0) as r w1 ⟨a, rfl, a1, a2, g1, d1⟩
 go_wp2_with fail
 go_call (below_any B _ g A len cap 10 (by omega) (by omega) d1) as r w2 ⟨b, rfl, b1, b2, g2, d2⟩
 go_wp2_with fail
 go_call (below_any B _ g A len cap 3 (by omega) (by omega) d2) as r w3 ⟨c, rfl, c1, c2, g3, d3⟩
 go_wp2_with fail
 go_call (below_any B _ g A len cap 2 (by omega) (by omega) d3) as r w4 ⟨d, rfl, p1, p2, g4, d4⟩
 go_wp2_with fail
 go_call (below_any B _ g A len cap 2 (by omega) (by omega) d4) as r w5 ⟨e, rfl, e1, e2, g5, d5⟩
 have hgr := grownBy_trans (grownBy_trans (grownBy_trans (grownBy_trans g1 g2) g3) g4) g5
 have hx : (w.alloc (.cells #[.int .i64 0, .int .i64 0, .int .i64 0, .int .i64 0, .int .i64 0] 28)).heap.size = w.heap.size + 1 := by simp
 have hblk := (Blk.new w 28 #[.int .i64 0, .int .i64 0, .int .i64 0, .int .i64 0, .int .i64 0]).grown hgr (by intro e; injection e; omega)
 have hsz := hgr.size
 have q0 : w5.cell? ⟨w.heap.size, 0, none⟩ = some (.int .i64 0) := hblk.cell 0
 have f0 : w5.frozen? ⟨w.heap.size, 0, none⟩ = false := hblk.frozen 0
 have q1 : w5.cell? ⟨w.heap.size, 1, none⟩ = some (.int .i64 0) := hblk.cell 1
 have f1 : w5.frozen? ⟨w.heap.size, 1, none⟩ = false := hblk.frozen 1
 have q2 : w5.cell? ⟨w.heap.size, 2, none⟩ = some (.int .i64 0) := hblk.cell 2
 have f2 : w5.frozen? ⟨w.heap.size, 2, none⟩ = false := hblk.frozen 2
 have q3 : w5.cell? ⟨w.heap.size, 3, none⟩ = some (.int .i64 0) := hblk.cell 3
 have f3 : w5.frozen? ⟨w.heap.size, 3, none⟩ = false := hblk.frozen 3
 have q4 : w5.cell? ⟨w.heap.size, 4, none⟩ = some (.int .i64 0) := hblk.cell 4
 have f4 : w5.frozen? ⟨w.heap.size, 4, none⟩ = false := hblk.frozen 4
 go_wp2
 have hb5 := ((((hblk.set_ 0 (.int .i64 (1 + a))).set_ 1 (.int .i64 (3 + b))).set_ 2 (.int .i64 (1 + c))).set_ 3 (.int .i64 (1 + d))).set_ 4 (.int .i64 (1 + e))
 have hgr5 : w.grownBy w5 (some g) := grownBy_trans (only_of_below ((Below.refl _ _).alloc (Nat.le_refl _) _) _) hgr
 have hbel5 : Below w.heap.size w5 (((((w5.setCell ⟨w.heap.size, 0, none⟩ (.int .i64 (1 + a))).setCell ⟨w.heap.size, 1, none⟩ (.int .i64 (3 + b))).setCell ⟨w.heap.size, 2, none⟩ (.int .i64 (1 + c))).setCell ⟨w.heap.size, 3, none⟩ (.int .i64 (1 + d))).setCell ⟨w.heap.size, 4, none⟩ (.int .i64 (1 + e))) := by go_grown
 exact bodyPost_ret (v := .agg #[.int .i64 (1 + a), .int .i64 (3 + b), .int .i64 (1 + c), .int .i64 (1 + d), .int .i64 (1 + e)]) (by simp [results, Tryz.results13, go_sem, q0, q1, q2, q3, q4]) rfl ⟨_, _, _, _, _, rfl, by omega, by omega, by omega, by omega, by omega, by omega, by omega, by omega, by omega, by omega, grown_then_below hgr5 hbel5, d5.keep fun b hb => hbel5.block b (by omega)⟩
/-- A cursor at block g, over a code that lies below block B. -/
def CurAt (B : Nat) (w : World) (g : Nat) (A : Option Addr) (len cap : Nat) : Prop :=
 B ≤ g ∧ len ≤ 4096 ∧ Bytes w B A len ∧ ∃ (i : Nat) (h : Int), Blk w g 143 #[.slice A len cap, .int .i64 (i : Int), .int .i64 h] ∧ i ≤ len
theorem CurAt.keep {B : Nat} {w w' : World} {g len cap : Nat} {A : Option Addr} (h : CurAt B w g A len cap) (hk : ∀ b, b ≤ g → w'.heap[b]? = w.heap[b]?) : CurAt B w' g A len cap := by
 obtain ⟨h1, h2, h3, i, x, h4, h5⟩ := h
 exact ⟨h1, h2, h3.keep fun b hb => hk b (by omega), i, x, (hk g (Nat.le_refl _)).trans h4, h5⟩
theorem CurAt.lt {B : Nat} {w : World} {g len cap : Nat} {A : Option Addr} (h : CurAt B w g A len cap) : g < w.heap.size := by
 obtain ⟨_, _, _, _, _, h4, _⟩ := h
 exact h4.lt
end Go.Proofs.YtfkdfkoigojciaaGreatDoor
