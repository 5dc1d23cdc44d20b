/- The dice of the laws: numbers below n out of a code's bytes; what was in memory stays as it was, but for the dice's own block. -/
import Derived.Test.YtgncjcnobojgbaaQFnLines35
import Derived.Test.YtgncjcnobojgbaaQFnLines36
import Derived.Test.YtgncjcnobojgbaaQFnLines17
import Derived.Test.YtgncjcnobojgbaaQFnLines01

namespace Go.Proofs.Ytgncjcnobojgbaa
open Go.RowKit
set_option linter.unusedVariables false

def applyM (a b c d e : Int) (ts : List T7) (ks : List Int) (fs : List F2) (tn : Int) (st : Bool) (wk k x y : Int) : OutP :=
  if k = 1 then spawnM a b c d e ts ks fs tn st wk x
  else if k = 2 then takeM a b c d e ts ks fs tn st wk 
  else if k = 3 then yieldM a b c d e ts ks fs tn st wk 
  else if k = 4 then end_M a b c d e ts ks fs tn st wk x
  else if k = 5 then joinM a b c d e ts ks fs tn st wk x
  else if k = 6 then cancelM a b c d e ts ks fs tn st wk x
  else if k = 7 then levelM a b c d e ts ks fs tn st wk x y
  else if k = 8 then upM a b c d e ts ks fs tn st wk x
  else if k = 9 then downM a b c d e ts ks fs tn st wk x
  else if k = 10 then setM a b c d e ts ks fs tn st wk x y
  else if k = 11 then gotM a b c d e ts ks fs tn st wk x
  else stopM a b c d e ts ks fs tn st wk
theorem apply_any (a b c d e : Int) (ts : List T7) (ks : List Int) (fs : List F2) (A0 A1 A2 : Option Addr) (c0 c1 c2 : Nat) (tn : Int) (st : Bool) (wk k x y : Int) (w : World) (hc : callB k x y = true) (ht : ts.length ≤ 1048576) (hk : ks.length ≤ 1048576) (hf : fs.length ≤ 1048576) (h : InPool w ts ks fs A0 A1 A2) :
    Calls Try.prog 106 #[.agg #[.int .i64 a, .int .i64 b, .int .i64 c, .int .i64 d, .int .i64 e], .agg #[.slice A0 ts.length c0, .slice A1 ks.length c1, .slice A2 fs.length c2, .int .i64 tn, .bool st], .int .i64 wk, .agg #[.int .i64 k, .int .i64 x, .int .i64 y]] w (GaveS [] w (applyM a b c d e ts ks fs tn st wk k x y)) := by
  have hk12 : 1 ≤ k ∧ k ≤ 12 := by
    simp only [callB, Bool.and_eq_true] at hc
    have h1 := hc.1.1
    simpa [btw] using h1
  clear hc
  rcases Classical.em (k = 1) with rfl | n1
  · exact apply_1 a b c d e ts ks fs A0 A1 A2 c0 c1 c2 tn st wk x y w ht hk hf h
  rcases Classical.em (k = 2) with rfl | n2
  · exact apply_2 a b c d e ts ks fs A0 A1 A2 c0 c1 c2 tn st wk x y w ht hk hf h
  rcases Classical.em (k = 3) with rfl | n3
  · exact apply_3 a b c d e ts ks fs A0 A1 A2 c0 c1 c2 tn st wk x y w ht hk hf h
  rcases Classical.em (k = 4) with rfl | n4
  · exact apply_4 a b c d e ts ks fs A0 A1 A2 c0 c1 c2 tn st wk x y w ht hk hf h
  rcases Classical.em (k = 5) with rfl | n5
  · exact apply_5 a b c d e ts ks fs A0 A1 A2 c0 c1 c2 tn st wk x y w ht hk hf h
  rcases Classical.em (k = 6) with rfl | n6
  · exact apply_6 a b c d e ts ks fs A0 A1 A2 c0 c1 c2 tn st wk x y w ht hk hf h
  rcases Classical.em (k = 7) with rfl | n7
  · exact apply_7 a b c d e ts ks fs A0 A1 A2 c0 c1 c2 tn st wk x y w ht hk hf h
  rcases Classical.em (k = 8) with rfl | n8
  · exact apply_8 a b c d e ts ks fs A0 A1 A2 c0 c1 c2 tn st wk x y w ht hk hf h
  rcases Classical.em (k = 9) with rfl | n9
  · exact apply_9 a b c d e ts ks fs A0 A1 A2 c0 c1 c2 tn st wk x y w ht hk hf h
  rcases Classical.em (k = 10) with rfl | n10
  · exact apply_10 a b c d e ts ks fs A0 A1 A2 c0 c1 c2 tn st wk x y w ht hk hf h
  rcases Classical.em (k = 11) with rfl | n11
  · exact apply_11 a b c d e ts ks fs A0 A1 A2 c0 c1 c2 tn st wk x y w ht hk hf h
  rcases Classical.em (k = 12) with rfl | n12
  · exact apply_12 a b c d e ts ks fs A0 A1 A2 c0 c1 c2 tn st wk x y w ht hk hf h
  omega

theorem callOk_v (c x y : Int) (z : Bool) (hz : callB c x y = z) (w : World) : Calls Try.prog 105 #[.agg #[.int .i64 c, .int .i64 x, .int .i64 y]] w fun r w' => r = .returned (.bool z) ∧ Below w.heap.size w w' := hz ▸ callOk_any c x y w

set_option maxRecDepth 100000 in
set_option maxHeartbeats 4000000 in
theorem applied_may (a b c d e : Int) (ts : List T7) (ks : List Int) (fs : List F2) (A0 A1 A2 : Option Addr) (c0 c1 c2 : Nat) (tn : Int) (st : Bool) (wk k x y : Int) (w : World) (ht : ts.length ≤ 1048576) (hk : ks.length ≤ 1048576) (hf : fs.length ≤ 1048576) (h : InPool w ts ks fs A0 A1 A2) (hm : mayB a b c d e ts ks fs tn wk = false) :
    Calls Try.prog 51 #[.agg #[.int .i64 a, .int .i64 b, .int .i64 c, .int .i64 d, .int .i64 e], .agg #[.slice A0 ts.length c0, .slice A1 ks.length c1, .slice A2 fs.length c2, .int .i64 tn, .bool st], .int .i64 wk, .agg #[.int .i64 k, .int .i64 x, .int .i64 y]] w (GaveS [] w (noO (poolB a b c d e ts ks fs tn) ts ks fs tn st 8)) := by
  have H := hide h
  clear h
  have hNo := hide (fun (V : World) (hV : InPool V ts ks fs A0 A1 A2) => l6No_s a b c d e ts ks fs A0 A1 A2 c0 c1 c2 tn st 8 V ht hk hf hV)
  generalize noO (poolB a b c d e ts ks fs tn) ts ks fs tn st 8 = o at hNo ⊢
  have HY := hide (⟨hm, trivial⟩ : _ ∧ True)
  clear hm
  go_enter Try.func51, Try.ntmps51
  go_wp2_with fail
  generalize hW : ((((w.alloc _).alloc _).alloc _).alloc _).alloc _ = W1
  have M := Sep.e5 hW
  clear hW
  obtain ⟨tC, qC0, fC0, qC1, fC1, qC2, fC2⟩ := M.f3 2 rfl
  obtain ⟨tX, qX0, qX1, qX2, qX3, qX4⟩ := M.q5 3 rfl
  obtain ⟨tP, qP0, qP1, qP2, qP3, qP4⟩ := M.q5 4 rfl
  go_call (l6May_v a b c d e ts ks fs A0 A1 A2 c0 c1 c2 tn st wk false HY.out.1 _ ht hk hf (H.out.below M.below)) as r W2 ⟨rfl, g1⟩
  clear tC qC0 fC0 qC1 fC1 qC2 fC2 tX qX0 qX1 qX2 qX3 qX4 tP qP0 qP1 qP2 qP3 qP4
  replace M := M.call g1
  clear g1
  obtain ⟨tC, qC0, fC0, qC1, fC1, qC2, fC2⟩ := M.f3 2 rfl
  obtain ⟨tX, qX0, qX1, qX2, qX3, qX4⟩ := M.q5 3 rfl
  obtain ⟨tP, qP0, qP1, qP2, qP3, qP4⟩ := M.q5 4 rfl
  go_wp2_with fail
  go_call (hNo.out _ (H.out.below M.below)) as r W3 ⟨B0, B1, B2, d0, d1, d2, rfl, g1⟩
  clear tC qC0 fC0 qC1 fC1 qC2 fC2 tX qX0 qX1 qX2 qX3 qX4 tP qP0 qP1 qP2 qP3 qP4
  replace M := Sep.new M g1
  simp only [List.cons_append, List.nil_append] at M
  clear g1
  obtain ⟨tS, qS0, fS0, qS1, fS1⟩ := M.f2 3 rfl
  obtain ⟨tR, qR0, fR0, qR1, fR1, qR2, fR2, qR3, fR3, qR4, fR4⟩ := M.f5 4 rfl
  go_wp2_with fail
  clear tS qS0 fS0 qS1 fS1 tR qR0 fR0 qR1 fR1 qR2 fR2 qR3 fR3 qR4 fR4
  have N := M.gset5 4 rfl (.slice B0 o.ts.length d0) (.slice B1 o.ks.length d1) (.slice B2 o.fs.length d2) (.int .i64 o.tn) (.bool o.st)
  clear M
  obtain ⟨W4, eW, M⟩ := N
  rw [eW]
  clear eW
  simp only [List.set_cons_zero, List.set_cons_succ] at M
  have N := M.gset2 3 rfl (.int .i64 o.rp) (.int .i64 o.ou)
  clear M
  obtain ⟨W5, eW, M⟩ := N
  rw [eW]
  clear eW
  simp only [List.set_cons_zero, List.set_cons_succ] at M
  obtain ⟨tS, qS0, qS1⟩ := M.q2 3 rfl
  obtain ⟨tR, qR0, qR1, qR2, qR3, qR4⟩ := M.q5 4 rfl
  exact bodyPost_ret (v := .tuple #[.agg #[.slice B0 o.ts.length d0, .slice B1 o.ks.length d1, .slice B2 o.fs.length d2, .int .i64 o.tn, .bool o.st], .agg #[.int .i64 o.rp, .int .i64 o.ou]]) (by simp [results, Try.results51, go_sem, qR0, qR1, qR2, qR3, qR4, qS0, qS1]) rfl ⟨B0, B1, B2, d0, d1, d2, rfl, M.take 3⟩

set_option maxRecDepth 100000 in
set_option maxHeartbeats 4000000 in
theorem applied_call (a b c d e : Int) (ts : List T7) (ks : List Int) (fs : List F2) (A0 A1 A2 : Option Addr) (c0 c1 c2 : Nat) (tn : Int) (st : Bool) (wk k x y : Int) (w : World) (ht : ts.length ≤ 1048576) (hk : ks.length ≤ 1048576) (hf : fs.length ≤ 1048576) (h : InPool w ts ks fs A0 A1 A2) (hm : mayB a b c d e ts ks fs tn wk = true) (hc : callB k x y = false) :
    Calls Try.prog 51 #[.agg #[.int .i64 a, .int .i64 b, .int .i64 c, .int .i64 d, .int .i64 e], .agg #[.slice A0 ts.length c0, .slice A1 ks.length c1, .slice A2 fs.length c2, .int .i64 tn, .bool st], .int .i64 wk, .agg #[.int .i64 k, .int .i64 x, .int .i64 y]] w (GaveS [] w (noO (poolB a b c d e ts ks fs tn) ts ks fs tn st 8)) := by
  have H := hide h
  clear h
  have hNo := hide (fun (V : World) (hV : InPool V ts ks fs A0 A1 A2) => l6No_s a b c d e ts ks fs A0 A1 A2 c0 c1 c2 tn st 8 V ht hk hf hV)
  generalize noO (poolB a b c d e ts ks fs tn) ts ks fs tn st 8 = o at hNo ⊢
  have HY := hide (⟨hm, hc, trivial⟩ : _ ∧ _ ∧ True)
  clear hm hc
  go_enter Try.func51, Try.ntmps51
  go_wp2_with fail
  generalize hW : ((((w.alloc _).alloc _).alloc _).alloc _).alloc _ = W1
  have M := Sep.e5 hW
  clear hW
  obtain ⟨tC, qC0, fC0, qC1, fC1, qC2, fC2⟩ := M.f3 2 rfl
  obtain ⟨tX, qX0, qX1, qX2, qX3, qX4⟩ := M.q5 3 rfl
  obtain ⟨tP, qP0, qP1, qP2, qP3, qP4⟩ := M.q5 4 rfl
  go_call (l6May_v a b c d e ts ks fs A0 A1 A2 c0 c1 c2 tn st wk true HY.out.1 _ ht hk hf (H.out.below M.below)) as r W2 ⟨rfl, g1⟩
  clear tC qC0 fC0 qC1 fC1 qC2 fC2 tX qX0 qX1 qX2 qX3 qX4 tP qP0 qP1 qP2 qP3 qP4
  replace M := M.call g1
  clear g1
  obtain ⟨tC, qC0, fC0, qC1, fC1, qC2, fC2⟩ := M.f3 2 rfl
  obtain ⟨tX, qX0, qX1, qX2, qX3, qX4⟩ := M.q5 3 rfl
  obtain ⟨tP, qP0, qP1, qP2, qP3, qP4⟩ := M.q5 4 rfl
  go_wp2_with fail
  go_call (callOk_v k x y false HY.out.2.1 _) as r W3 ⟨rfl, g1⟩
  clear tC qC0 fC0 qC1 fC1 qC2 fC2 tX qX0 qX1 qX2 qX3 qX4 tP qP0 qP1 qP2 qP3 qP4
  replace M := M.call g1
  clear g1
  obtain ⟨tC, qC0, fC0, qC1, fC1, qC2, fC2⟩ := M.f3 2 rfl
  obtain ⟨tX, qX0, qX1, qX2, qX3, qX4⟩ := M.q5 3 rfl
  obtain ⟨tP, qP0, qP1, qP2, qP3, qP4⟩ := M.q5 4 rfl
  go_wp2_with fail
  go_call (hNo.out _ (H.out.below M.below)) as r W4 ⟨B0, B1, B2, d0, d1, d2, rfl, g1⟩
  clear tC qC0 fC0 qC1 fC1 qC2 fC2 tX qX0 qX1 qX2 qX3 qX4 tP qP0 qP1 qP2 qP3 qP4
  replace M := Sep.new M g1
  simp only [List.cons_append, List.nil_append] at M
  clear g1
  obtain ⟨tS, qS0, fS0, qS1, fS1⟩ := M.f2 3 rfl
  obtain ⟨tR, qR0, fR0, qR1, fR1, qR2, fR2, qR3, fR3, qR4, fR4⟩ := M.f5 4 rfl
  go_wp2_with fail
  clear tS qS0 fS0 qS1 fS1 tR qR0 fR0 qR1 fR1 qR2 fR2 qR3 fR3 qR4 fR4
  have N := M.gset5 4 rfl (.slice B0 o.ts.length d0) (.slice B1 o.ks.length d1) (.slice B2 o.fs.length d2) (.int .i64 o.tn) (.bool o.st)
  clear M
  obtain ⟨W5, eW, M⟩ := N
  rw [eW]
  clear eW
  simp only [List.set_cons_zero, List.set_cons_succ] at M
  have N := M.gset2 3 rfl (.int .i64 o.rp) (.int .i64 o.ou)
  clear M
  obtain ⟨W6, eW, M⟩ := N
  rw [eW]
  clear eW
  simp only [List.set_cons_zero, List.set_cons_succ] at M
  obtain ⟨tS, qS0, qS1⟩ := M.q2 3 rfl
  obtain ⟨tR, qR0, qR1, qR2, qR3, qR4⟩ := M.q5 4 rfl
  exact bodyPost_ret (v := .tuple #[.agg #[.slice B0 o.ts.length d0, .slice B1 o.ks.length d1, .slice B2 o.fs.length d2, .int .i64 o.tn, .bool o.st], .agg #[.int .i64 o.rp, .int .i64 o.ou]]) (by simp [results, Try.results51, go_sem, qR0, qR1, qR2, qR3, qR4, qS0, qS1]) rfl ⟨B0, B1, B2, d0, d1, d2, rfl, M.take 3⟩

set_option maxRecDepth 100000 in
set_option maxHeartbeats 4000000 in
theorem applied_main (a b c d e : Int) (ts : List T7) (ks : List Int) (fs : List F2) (A0 A1 A2 : Option Addr) (c0 c1 c2 : Nat) (tn : Int) (st : Bool) (wk k x y : Int) (w : World) (ht : ts.length ≤ 1048576) (hk : ks.length ≤ 1048576) (hf : fs.length ≤ 1048576) (h : InPool w ts ks fs A0 A1 A2) (hm : mayB a b c d e ts ks fs tn wk = true) (hc : callB k x y = true) :
    Calls Try.prog 51 #[.agg #[.int .i64 a, .int .i64 b, .int .i64 c, .int .i64 d, .int .i64 e], .agg #[.slice A0 ts.length c0, .slice A1 ks.length c1, .slice A2 fs.length c2, .int .i64 tn, .bool st], .int .i64 wk, .agg #[.int .i64 k, .int .i64 x, .int .i64 y]] w (GaveS [] w (applyM a b c d e ts ks fs tn st wk k x y)) := by
  have H := hide h
  clear h
  have hC : Hid (∀ V, InPool V ts ks fs A0 A1 A2 → Calls Try.prog 106 #[.agg #[.int .i64 a, .int .i64 b, .int .i64 c, .int .i64 d, .int .i64 e], .agg #[.slice A0 ts.length c0, .slice A1 ks.length c1, .slice A2 fs.length c2, .int .i64 tn, .bool st], .int .i64 wk, .agg #[.int .i64 k, .int .i64 x, .int .i64 y]] V (GaveS [] V (applyM a b c d e ts ks fs tn st wk k x y))) := hide (fun V hV => apply_any a b c d e ts ks fs A0 A1 A2 c0 c1 c2 tn st wk k x y V hc ht hk hf hV)
  generalize applyM a b c d e ts ks fs tn st wk k x y = o at hC ⊢
  have HY := hide (⟨hm, hc, trivial⟩ : _ ∧ _ ∧ True)
  clear hm hc
  go_enter Try.func51, Try.ntmps51
  go_wp2_with fail
  generalize hW : ((((w.alloc _).alloc _).alloc _).alloc _).alloc _ = W1
  have M := Sep.e5 hW
  clear hW
  obtain ⟨tC, qC0, fC0, qC1, fC1, qC2, fC2⟩ := M.f3 2 rfl
  obtain ⟨tX, qX0, qX1, qX2, qX3, qX4⟩ := M.q5 3 rfl
  obtain ⟨tP, qP0, qP1, qP2, qP3, qP4⟩ := M.q5 4 rfl
  go_call (l6May_v a b c d e ts ks fs A0 A1 A2 c0 c1 c2 tn st wk true HY.out.1 _ ht hk hf (H.out.below M.below)) as r W2 ⟨rfl, g1⟩
  clear tC qC0 fC0 qC1 fC1 qC2 fC2 tX qX0 qX1 qX2 qX3 qX4 tP qP0 qP1 qP2 qP3 qP4
  replace M := M.call g1
  clear g1
  obtain ⟨tC, qC0, fC0, qC1, fC1, qC2, fC2⟩ := M.f3 2 rfl
  obtain ⟨tX, qX0, qX1, qX2, qX3, qX4⟩ := M.q5 3 rfl
  obtain ⟨tP, qP0, qP1, qP2, qP3, qP4⟩ := M.q5 4 rfl
  go_wp2_with fail
  go_call (callOk_v k x y true HY.out.2.1 _) as r W3 ⟨rfl, g1⟩
  clear tC qC0 fC0 qC1 fC1 qC2 fC2 tX qX0 qX1 qX2 qX3 qX4 tP qP0 qP1 qP2 qP3 qP4
  replace M := M.call g1
  clear g1
  obtain ⟨tC, qC0, fC0, qC1, fC1, qC2, fC2⟩ := M.f3 2 rfl
  obtain ⟨tX, qX0, qX1, qX2, qX3, qX4⟩ := M.q5 3 rfl
  obtain ⟨tP, qP0, qP1, qP2, qP3, qP4⟩ := M.q5 4 rfl
  go_wp2_with fail
  go_call (hC.out _ (H.out.below M.below)) as r W4 ⟨B0, B1, B2, d0, d1, d2, rfl, g1⟩
  clear tC qC0 fC0 qC1 fC1 qC2 fC2 tX qX0 qX1 qX2 qX3 qX4 tP qP0 qP1 qP2 qP3 qP4
  replace M := Sep.new M g1
  simp only [List.cons_append, List.nil_append] at M
  clear g1
  obtain ⟨tS, qS0, fS0, qS1, fS1⟩ := M.f2 3 rfl
  obtain ⟨tR, qR0, fR0, qR1, fR1, qR2, fR2, qR3, fR3, qR4, fR4⟩ := M.f5 4 rfl
  go_wp2_with fail
  clear tS qS0 fS0 qS1 fS1 tR qR0 fR0 qR1 fR1 qR2 fR2 qR3 fR3 qR4 fR4
  have N := M.gset5 4 rfl (.slice B0 o.ts.length d0) (.slice B1 o.ks.length d1) (.slice B2 o.fs.length d2) (.int .i64 o.tn) (.bool o.st)
  clear M
  obtain ⟨W5, eW, M⟩ := N
  rw [eW]
  clear eW
  simp only [List.set_cons_zero, List.set_cons_succ] at M
  have N := M.gset2 3 rfl (.int .i64 o.rp) (.int .i64 o.ou)
  clear M
  obtain ⟨W6, eW, M⟩ := N
  rw [eW]
  clear eW
  simp only [List.set_cons_zero, List.set_cons_succ] at M
  obtain ⟨tS, qS0, qS1⟩ := M.q2 3 rfl
  obtain ⟨tR, qR0, qR1, qR2, qR3, qR4⟩ := M.q5 4 rfl
  exact bodyPost_ret (v := .tuple #[.agg #[.slice B0 o.ts.length d0, .slice B1 o.ks.length d1, .slice B2 o.fs.length d2, .int .i64 o.tn, .bool o.st], .agg #[.int .i64 o.rp, .int .i64 o.ou]]) (by simp [results, Try.results51, go_sem, qR0, qR1, qR2, qR3, qR4, qS0, qS1]) rfl ⟨B0, B1, B2, d0, d1, d2, rfl, M.take 3⟩

def appliedM (a b c d e : Int) (ts : List T7) (ks : List Int) (fs : List F2) (tn : Int) (st : Bool) (wk k x y : Int) : OutP :=
  if mayB a b c d e ts ks fs tn wk = true then (if callB k x y = true then applyM a b c d e ts ks fs tn st wk k x y else noO (poolB a b c d e ts ks fs tn) ts ks fs tn st 8) else noO (poolB a b c d e ts ks fs tn) ts ks fs tn st 8
theorem applied_any (a b c d e : Int) (ts : List T7) (ks : List Int) (fs : List F2) (A0 A1 A2 : Option Addr) (c0 c1 c2 : Nat) (tn : Int) (st : Bool) (wk k x y : Int) (w : World) (ht : ts.length ≤ 1048576) (hk : ks.length ≤ 1048576) (hf : fs.length ≤ 1048576) (h : InPool w ts ks fs A0 A1 A2) :
    Calls Try.prog 51 #[.agg #[.int .i64 a, .int .i64 b, .int .i64 c, .int .i64 d, .int .i64 e], .agg #[.slice A0 ts.length c0, .slice A1 ks.length c1, .slice A2 fs.length c2, .int .i64 tn, .bool st], .int .i64 wk, .agg #[.int .i64 k, .int .i64 x, .int .i64 y]] w (GaveS [] w (appliedM a b c d e ts ks fs tn st wk k x y)) := by
  unfold appliedM
  split
  · rename_i hm
    split
    · rename_i hc; exact applied_main a b c d e ts ks fs A0 A1 A2 c0 c1 c2 tn st wk k x y w ht hk hf h hm hc
    · rename_i hc; exact applied_call a b c d e ts ks fs A0 A1 A2 c0 c1 c2 tn st wk k x y w ht hk hf h hm (by simpa using hc)
  · rename_i hm; exact applied_may a b c d e ts ks fs A0 A1 A2 c0 c1 c2 tn st wk k x y w ht hk hf h (by simpa using hm)
end Go.Proofs.Ytgncjcnobojgbaa

namespace Go.Proofs.Ytgncjcnobojgbaa
open Go.RowKit
set_option linter.unusedVariables false

def RightO (a b c d e : Int) (o : OutP) : Prop := poolB a b c d e o.ts o.ks o.fs o.tn = true
theorem RightO.ite {a b c d e : Int} {p : Prop} [Decidable p] {x y : OutP} (hx : RightO a b c d e x) (hy : RightO a b c d e y) : RightO a b c d e (if p then x else y) := by
  split
  · exact hx
  · exact hy
section
variable {a b c d e : Int} {ts : List T7} {ks : List Int} {fs : List F2} {tn : Int} {st : Bool}
theorem spawn_right (wk lv : Int) (h : poolB a b c d e ts ks fs tn = true) : RightO a b c d e (spawnM a b c d e ts ks fs tn st wk lv) := by
  unfold spawnM
  repeat' (with_reducible refine RightO.ite ?_ ?_)
  all_goals (try split)
  all_goals first | exact noO_right h | exact doneO_right h | exact h
theorem take_right (wk : Int) (h : poolB a b c d e ts ks fs tn = true) : RightO a b c d e (takeM a b c d e ts ks fs tn st wk) := by
  unfold takeM
  repeat' (with_reducible refine RightO.ite ?_ ?_)
  all_goals (try split)
  all_goals first | exact noO_right h | exact doneO_right h | exact h
theorem yield_right (wk : Int) (h : poolB a b c d e ts ks fs tn = true) : RightO a b c d e (yieldM a b c d e ts ks fs tn st wk) := by
  unfold yieldM
  repeat' (with_reducible refine RightO.ite ?_ ?_)
  all_goals (try split)
  all_goals first | exact noO_right h | exact doneO_right h | exact h
theorem end__right (wk vv : Int) (h : poolB a b c d e ts ks fs tn = true) : RightO a b c d e (end_M a b c d e ts ks fs tn st wk vv) := by
  unfold end_M
  repeat' (with_reducible refine RightO.ite ?_ ?_)
  all_goals (try split)
  all_goals first | exact noO_right h | exact doneO_right h | exact h
theorem join_right (wk id : Int) (h : poolB a b c d e ts ks fs tn = true) : RightO a b c d e (joinM a b c d e ts ks fs tn st wk id) := by
  unfold joinM
  repeat' (with_reducible refine RightO.ite ?_ ?_)
  all_goals (try split)
  all_goals first | exact noO_right h | exact doneO_right h | exact h
theorem cancel_right (wk id : Int) (h : poolB a b c d e ts ks fs tn = true) : RightO a b c d e (cancelM a b c d e ts ks fs tn st wk id) := by
  unfold cancelM
  repeat' (with_reducible refine RightO.ite ?_ ?_)
  all_goals (try split)
  all_goals first | exact noO_right h | exact doneO_right h | exact h
theorem level_right (wk id lv : Int) (h : poolB a b c d e ts ks fs tn = true) : RightO a b c d e (levelM a b c d e ts ks fs tn st wk id lv) := by
  unfold levelM
  repeat' (with_reducible refine RightO.ite ?_ ?_)
  all_goals (try split)
  all_goals first | exact noO_right h | exact doneO_right h | exact h
theorem up_right (wk id : Int) (h : poolB a b c d e ts ks fs tn = true) : RightO a b c d e (upM a b c d e ts ks fs tn st wk id) := by
  unfold upM
  repeat' (with_reducible refine RightO.ite ?_ ?_)
  all_goals (try split)
  all_goals first | exact noO_right h | exact doneO_right h | exact h
theorem down_right (wk id : Int) (h : poolB a b c d e ts ks fs tn = true) : RightO a b c d e (downM a b c d e ts ks fs tn st wk id) := by
  unfold downM
  repeat' (with_reducible refine RightO.ite ?_ ?_)
  all_goals (try split)
  all_goals first | exact noO_right h | exact doneO_right h | exact h
theorem set_right (wk id vv : Int) (h : poolB a b c d e ts ks fs tn = true) : RightO a b c d e (setM a b c d e ts ks fs tn st wk id vv) := by
  unfold setM
  repeat' (with_reducible refine RightO.ite ?_ ?_)
  all_goals (try split)
  all_goals first | exact noO_right h | exact doneO_right h | exact h
theorem got_right (wk id : Int) (h : poolB a b c d e ts ks fs tn = true) : RightO a b c d e (gotM a b c d e ts ks fs tn st wk id) := by
  unfold gotM
  repeat' (with_reducible refine RightO.ite ?_ ?_)
  all_goals (try split)
  all_goals first | exact noO_right h | exact doneO_right h | exact h
theorem stop_right (wk : Int) (h : poolB a b c d e ts ks fs tn = true) : RightO a b c d e (stopM a b c d e ts ks fs tn st wk) := by
  unfold stopM
  repeat' (with_reducible refine RightO.ite ?_ ?_)
  all_goals (try split)
  all_goals first | exact noO_right h | exact doneO_right h | exact h
theorem applied_right (wk k x y : Int) (h : poolB a b c d e ts ks fs tn = true) : RightO a b c d e (appliedM a b c d e ts ks fs tn st wk k x y) := by
  unfold appliedM applyM
  repeat' (with_reducible refine RightO.ite ?_ ?_)
  all_goals first | (with_reducible exact spawn_right _ _ h) | (with_reducible exact take_right _ h) | (with_reducible exact yield_right _ h) | (with_reducible exact end__right _ _ h) | (with_reducible exact join_right _ _ h) | (with_reducible exact cancel_right _ _ h) | (with_reducible exact level_right _ _ _ h) | (with_reducible exact up_right _ _ h) | (with_reducible exact down_right _ _ h) | (with_reducible exact set_right _ _ _ h) | (with_reducible exact got_right _ _ h) | (with_reducible exact stop_right _ h) | exact noO_right h
theorem poolB_lens (h : poolB a b c d e ts ks fs tn = true) : ts.length ≤ 30 ∧ ks.length ≤ 4 ∧ fs.length ≤ 4 := by
  simp only [poolB, Bool.and_eq_true, decide_eq_true_eq] at h
  have h1 := h.1
  have h2 := h.2.2.1.1
  have h3 := h.2.2.2.1.2
  have h4 := h.2.2.2.2.2
  clear h
  simp [planB, btw] at h1
  omega
theorem newPool_right {d e : Nat} (h : planB a b c d e = true) : poolB a b c d e [] (List.replicate d 0) (List.replicate e ⟨false, 0⟩) 1 = true := by
  have h1 := h
  simp [planB, btw] at h1
  have e1 : (List.replicate d (0 : Int)).all tokB = true := List.all_eq_true.2 fun x hx => by rw [List.eq_of_mem_replicate hx]; rfl
  have e2 : (List.replicate e (⟨false, 0⟩ : F2)).all futB = true := List.all_eq_true.2 fun x hx => by rw [List.eq_of_mem_replicate hx]; rfl
  rw [poolB, h, e1, e2]
  simp [tasksB, allFrom, btw]
  omega
end
end Go.Proofs.Ytgncjcnobojgbaa

namespace Go.Proofs.Ytgncjcnobojgbaa
open Go.RowKit

theorem big_any (A : Option Addr) (len cap : Nat) (w : World) : Calls Try.prog 10 #[.slice A len cap] w fun e w' => e = .returned (.bool (decide (4096 < (len : Int)))) ∧ w = w' := by
  go_enter Try.func10, Try.ntmps10
  go_wp2
  go_ret
  exact ⟨rfl, rfl⟩

/-- A dice at block g, over a code that lies below block B. -/
def DiceAt (B : Nat) (w : World) (g : Nat) (A : Option Addr) (len cap : Nat) : Prop :=
  B ≤ g ∧ len ≤ 4096 ∧ Bytes w B A len ∧ ∃ (i : Nat) (h : Int), Blk w g 73 #[.slice A len cap, .int .i64 (i : Int), .int .u64 h] ∧ i ≤ len
theorem DiceAt.keep {B : Nat} {w w' : World} {g len cap : Nat} {A : Option Addr} (h : DiceAt B w g A len cap) (hk : ∀ b, b ≤ g → w'.heap[b]? = w.heap[b]?) : DiceAt B w' g A len cap := by
  obtain ⟨h1, h2, h3, i, x, h4, h5⟩ := h
  exact ⟨h1, h2, h3.keep fun b hb => hk b (by omega), i, x, (hk g (Nat.le_refl _)).trans h4, h5⟩
theorem DiceAt.lt {B : Nat} {w : World} {g len cap : Nat} {A : Option Addr} (h : DiceAt B w g A len cap) : g < w.heap.size := by
  obtain ⟨_, _, _, _, _, h4, _⟩ := h
  exact h4.lt
end Go.Proofs.Ytgncjcnobojgbaa
