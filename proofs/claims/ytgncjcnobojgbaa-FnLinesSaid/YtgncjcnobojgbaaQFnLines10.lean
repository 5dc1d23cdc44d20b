/- The model's questions ahead of a call: whether a worker may ask, whether a call is right. Lists no longer than a million. -/
import Derived.Test.YtgncjcnobojgbaaQFnLines09

namespace Go.Proofs.Ytgncjcnobojgbaa
open Go.RowKit
set_option linter.unusedVariables false

def mayB (a b c d e : Int) (ts : List T7) (ks : List Int) (fs : List F2) (tn w : Int) : Bool := poolB a b c d e ts ks fs tn && workB a b c d e w

set_option maxHeartbeats 4000000 in
theorem l6May_any (a b c d e : Int) (ts : List T7) (ks : List Int) (fs : List F2) (A0 A1 A2 : Option Addr) (c0 c1 c2 : Nat) (tn : Int) (st : Bool) (wk : Int) (w : World) (ht : ts.length ≤ 1048576) (hk : ks.length ≤ 1048576) (hf : fs.length ≤ 1048576) (h : InPool w ts ks fs A0 A1 A2) :
    Calls Try.prog 89 #[.agg #[.int .i64 a, .int .i64 b, .int .i64 c, .int .i64 d, .int .i64 e], .agg #[.slice A0 ts.length c0, .slice A1 ks.length c1, .slice A2 fs.length c2, .int .i64 tn, .bool st], .int .i64 wk] w fun r w' => r = .returned (.bool (mayB a b c d e ts ks fs tn wk)) ∧ Below w.heap.size w w' := by
  have H := hide h
  clear h
  have q0 : Hid (∀ V, Below w.heap.size w V → Calls Try.prog 21 #[.agg #[.int .i64 a, .int .i64 b, .int .i64 c, .int .i64 d, .int .i64 e], .agg #[.slice A0 ts.length c0, .slice A1 ks.length c1, .slice A2 fs.length c2, .int .i64 tn, .bool st]] V fun r w' => r = .returned (.bool (poolB a b c d e ts ks fs tn)) ∧ Below V.heap.size V w') := hide (fun V hV => sPoolOk_any a b c d e ts ks fs A0 A1 A2 c0 c1 c2 tn st V ht hk hf (H.out.below hV))
  unfold mayB
  generalize poolB a b c d e ts ks fs tn = x0 at q0 ⊢
  go_enter Try.func89, Try.ntmps89
  go_wp2_with fail
  have G := Below.refl w.heap.size w
  have kP := Blk.new w 28 #[.int .i64 a, .int .i64 b, .int .i64 c, .int .i64 d, .int .i64 e]
  have hbs := G.size
  replace G := G.alloc (by omega) (.cells #[.int .i64 a, .int .i64 b, .int .i64 c, .int .i64 d, .int .i64 e] 28)
  have z1 : (w.alloc (.cells #[.int .i64 a, .int .i64 b, .int .i64 c, .int .i64 d, .int .i64 e] 28)).heap.size = w.heap.size + 1 := by simp
  clear hbs
  generalize w.alloc (.cells #[.int .i64 a, .int .i64 b, .int .i64 c, .int .i64 d, .int .i64 e] 28) = W1 at kP G z1 ⊢
  have kX : Blk (W1.alloc (.cells #[.slice A0 ts.length c0, .slice A1 ks.length c1, .slice A2 fs.length c2, .int .i64 tn, .bool st] 34)) (w.heap.size + 1) 34 #[.slice A0 ts.length c0, .slice A1 ks.length c1, .slice A2 fs.length c2, .int .i64 tn, .bool st] := by
    have h := Blk.new W1 34 #[.slice A0 ts.length c0, .slice A1 ks.length c1, .slice A2 fs.length c2, .int .i64 tn, .bool st]
    rw [show W1.heap.size = w.heap.size + 1 by omega] at h
    exact h
  replace kP := kP.alloc (.cells #[.slice A0 ts.length c0, .slice A1 ks.length c1, .slice A2 fs.length c2, .int .i64 tn, .bool st] 34)
  have hbs := G.size
  replace G := G.alloc (by omega) (.cells #[.slice A0 ts.length c0, .slice A1 ks.length c1, .slice A2 fs.length c2, .int .i64 tn, .bool st] 34)
  have z2 : (W1.alloc (.cells #[.slice A0 ts.length c0, .slice A1 ks.length c1, .slice A2 fs.length c2, .int .i64 tn, .bool st] 34)).heap.size = W1.heap.size + 1 := by simp
  clear hbs
  generalize W1.alloc (.cells #[.slice A0 ts.length c0, .slice A1 ks.length c1, .slice A2 fs.length c2, .int .i64 tn, .bool st] 34) = W2 at kP kX G z2 ⊢
  go_call (q0.out _ G) as r W3 ⟨rfl, g1⟩
  have hbs := G.size
  replace kP := kP.below g1 kP.lt
  replace kX := kX.below g1 kX.lt
  replace G := G.trans (g1.mono (by omega))
  have z3 := g1.size
  clear g1 hbs
  cases x0
  · have tP : w.heap.size < W3.heap.size := kP.lt
    have qP0 : W3.cell? ⟨w.heap.size, 0, none⟩ = some (.int .i64 a) := kP.cell 0
    have qP1 : W3.cell? ⟨w.heap.size, 1, none⟩ = some (.int .i64 b) := kP.cell 1
    have qP2 : W3.cell? ⟨w.heap.size, 2, none⟩ = some (.int .i64 c) := kP.cell 2
    have qP3 : W3.cell? ⟨w.heap.size, 3, none⟩ = some (.int .i64 d) := kP.cell 3
    have qP4 : W3.cell? ⟨w.heap.size, 4, none⟩ = some (.int .i64 e) := kP.cell 4
    have tX : w.heap.size + 1 < W3.heap.size := kX.lt
    have qX0 : W3.cell? ⟨w.heap.size + 1, 0, none⟩ = some (.slice A0 ts.length c0) := kX.cell 0
    have qX1 : W3.cell? ⟨w.heap.size + 1, 1, none⟩ = some (.slice A1 ks.length c1) := kX.cell 1
    have qX2 : W3.cell? ⟨w.heap.size + 1, 2, none⟩ = some (.slice A2 fs.length c2) := kX.cell 2
    have qX3 : W3.cell? ⟨w.heap.size + 1, 3, none⟩ = some (.int .i64 tn) := kX.cell 3
    have qX4 : W3.cell? ⟨w.heap.size + 1, 4, none⟩ = some (.bool st) := kX.cell 4
    go_wp2_with fail
    go_ret
    exact ⟨ret_bool (by simp), G⟩
  · have tP : w.heap.size < W3.heap.size := kP.lt
    have qP0 : W3.cell? ⟨w.heap.size, 0, none⟩ = some (.int .i64 a) := kP.cell 0
    have qP1 : W3.cell? ⟨w.heap.size, 1, none⟩ = some (.int .i64 b) := kP.cell 1
    have qP2 : W3.cell? ⟨w.heap.size, 2, none⟩ = some (.int .i64 c) := kP.cell 2
    have qP3 : W3.cell? ⟨w.heap.size, 3, none⟩ = some (.int .i64 d) := kP.cell 3
    have qP4 : W3.cell? ⟨w.heap.size, 4, none⟩ = some (.int .i64 e) := kP.cell 4
    have tX : w.heap.size + 1 < W3.heap.size := kX.lt
    have qX0 : W3.cell? ⟨w.heap.size + 1, 0, none⟩ = some (.slice A0 ts.length c0) := kX.cell 0
    have qX1 : W3.cell? ⟨w.heap.size + 1, 1, none⟩ = some (.slice A1 ks.length c1) := kX.cell 1
    have qX2 : W3.cell? ⟨w.heap.size + 1, 2, none⟩ = some (.slice A2 fs.length c2) := kX.cell 2
    have qX3 : W3.cell? ⟨w.heap.size + 1, 3, none⟩ = some (.int .i64 tn) := kX.cell 3
    have qX4 : W3.cell? ⟨w.heap.size + 1, 4, none⟩ = some (.bool st) := kX.cell 4
    go_wp2_with fail
    go_call (sWorkerIn_any a b c d e wk _) as r W4 ⟨rfl, g1⟩
    clear tP qP0 qP1 qP2 qP3 qP4 tX qX0 qX1 qX2 qX3 qX4
    have hbs := G.size
    replace kP := kP.below g1 kP.lt
    replace kX := kX.below g1 kX.lt
    replace G := G.trans (g1.mono (by omega))
    have z4 := g1.size
    clear g1 hbs
    have tP : w.heap.size < W4.heap.size := kP.lt
    have qP0 : W4.cell? ⟨w.heap.size, 0, none⟩ = some (.int .i64 a) := kP.cell 0
    have qP1 : W4.cell? ⟨w.heap.size, 1, none⟩ = some (.int .i64 b) := kP.cell 1
    have qP2 : W4.cell? ⟨w.heap.size, 2, none⟩ = some (.int .i64 c) := kP.cell 2
    have qP3 : W4.cell? ⟨w.heap.size, 3, none⟩ = some (.int .i64 d) := kP.cell 3
    have qP4 : W4.cell? ⟨w.heap.size, 4, none⟩ = some (.int .i64 e) := kP.cell 4
    have tX : w.heap.size + 1 < W4.heap.size := kX.lt
    have qX0 : W4.cell? ⟨w.heap.size + 1, 0, none⟩ = some (.slice A0 ts.length c0) := kX.cell 0
    have qX1 : W4.cell? ⟨w.heap.size + 1, 1, none⟩ = some (.slice A1 ks.length c1) := kX.cell 1
    have qX2 : W4.cell? ⟨w.heap.size + 1, 2, none⟩ = some (.slice A2 fs.length c2) := kX.cell 2
    have qX3 : W4.cell? ⟨w.heap.size + 1, 3, none⟩ = some (.int .i64 tn) := kX.cell 3
    have qX4 : W4.cell? ⟨w.heap.size + 1, 4, none⟩ = some (.bool st) := kX.cell 4
    go_wp2_with fail
    go_ret
    exact ⟨ret_bool (by simp), G⟩

def argsM (c : Int) : Int := if c = 7 ∨ c = 10 then 2 else if c = 2 ∨ c = 3 ∨ c = 12 then 0 else 1
set_option maxHeartbeats 4000000 in
theorem l10Args_any (c : Int) (w : World) : Calls Try.prog 138 #[.int .i64 c] w fun r w' => r = .returned (.int .i64 (argsM c)) ∧ w = w' := by
  by_cases h7 : c = 7
  · subst h7
    rw [show argsM 7 = 2 from rfl]
    go_enter Try.func138, Try.ntmps138
    go_wp2
    go_ret
    exact ⟨rfl, rfl⟩
  by_cases h10 : c = 10
  · subst h10
    rw [show argsM 10 = 2 from rfl]
    go_enter Try.func138, Try.ntmps138
    go_wp2
    go_ret
    exact ⟨rfl, rfl⟩
  by_cases h2 : c = 2
  · subst h2
    rw [show argsM 2 = 0 from rfl]
    go_enter Try.func138, Try.ntmps138
    go_wp2
    go_ret
    exact ⟨rfl, rfl⟩
  by_cases h3 : c = 3
  · subst h3
    rw [show argsM 3 = 0 from rfl]
    go_enter Try.func138, Try.ntmps138
    go_wp2
    go_ret
    exact ⟨rfl, rfl⟩
  by_cases h12 : c = 12
  · subst h12
    rw [show argsM 12 = 0 from rfl]
    go_enter Try.func138, Try.ntmps138
    go_wp2
    go_ret
    exact ⟨rfl, rfl⟩
  rw [show argsM c = 1 from by simp [argsM, h7, h10, h2, h3, h12]]
  go_enter Try.func138, Try.ntmps138
  go_wp2
  go_ret
  exact ⟨rfl, rfl⟩

def callB (c x y : Int) : Bool := (btw c 1 12 && (btw x 0 9999 && btw y 0 9999)) && ((decide (0 < argsM c) || x == 0) && (decide (1 < argsM c) || y == 0))
theorem l1Value_v (v : Int) (z : Bool) (h : btw v 0 9999 = z) (w : World) : Calls Try.prog 60 #[.int .i64 v] w fun r w' => r = .returned (.bool z) ∧ w = w' := h ▸ l1Value_any v w
theorem l1In_v (n l h : Int) (z : Bool) (e : btw n l h = z) (w : World) : Calls Try.prog 59 #[.int .i64 n, .int .i64 l, .int .i64 h] w fun r w' => r = .returned (.bool z) ∧ w = w' := e ▸ l1In_any n l h w
theorem l10Args_v (c n : Int) (e : argsM c = n) (w : World) : Calls Try.prog 138 #[.int .i64 c] w fun r w' => r = .returned (.int .i64 n) ∧ w = w' := e ▸ l10Args_any c w

set_option maxRecDepth 100000 in
set_option maxHeartbeats 8000000 in
theorem callOk_any (c x y : Int) (w : World) : Calls Try.prog 105 #[.agg #[.int .i64 c, .int .i64 x, .int .i64 y]] w fun r w' => r = .returned (.bool (callB c x y)) ∧ Below w.heap.size w w' := by
  have harg : argsM c = 0 ∨ argsM c = 1 ∨ argsM c = 2 := by unfold argsM; split <;> (try split) <;> simp
  obtain ⟨x1, e1⟩ : ∃ z, btw c 1 12 = z := ⟨_, rfl⟩
  obtain ⟨x2, e2⟩ : ∃ z, btw x 0 9999 = z := ⟨_, rfl⟩
  obtain ⟨x3, e3⟩ : ∃ z, btw y 0 9999 = z := ⟨_, rfl⟩
  obtain ⟨n, e4⟩ : ∃ n, argsM c = n := ⟨_, rfl⟩
  rw [e4] at harg
  have E := hide (⟨e1, e2, e3, e4⟩ : _ ∧ _ ∧ _ ∧ _)
  unfold callB
  rw [e1, e2, e3, e4]
  clear e1 e2 e3 e4
  cases x1
  · go_enter Try.func105, Try.ntmps105
    go_wp2_with (first | (go_at_call 59; refine (l1In_v c 1 12 _ E.out.1 _).mono ?_; rintro r w' ⟨rfl, rfl⟩) | (go_at_call 60; refine (l1Value_v x _ E.out.2.1 _).mono ?_; rintro r w' ⟨rfl, rfl⟩) | (go_at_call 60; refine (l1Value_v y _ E.out.2.2.1 _).mono ?_; rintro r w' ⟨rfl, rfl⟩) | (go_at_call 138; refine (l10Args_v c _ E.out.2.2.2 _).mono ?_; rintro r w' ⟨rfl, rfl⟩))
    all_goals go_ret
    all_goals exact ⟨ret_bool (by simp_all), by go_grown⟩
  cases x2
  · go_enter Try.func105, Try.ntmps105
    go_wp2_with (first | (go_at_call 59; refine (l1In_v c 1 12 _ E.out.1 _).mono ?_; rintro r w' ⟨rfl, rfl⟩) | (go_at_call 60; refine (l1Value_v x _ E.out.2.1 _).mono ?_; rintro r w' ⟨rfl, rfl⟩) | (go_at_call 60; refine (l1Value_v y _ E.out.2.2.1 _).mono ?_; rintro r w' ⟨rfl, rfl⟩) | (go_at_call 138; refine (l10Args_v c _ E.out.2.2.2 _).mono ?_; rintro r w' ⟨rfl, rfl⟩))
    all_goals go_ret
    all_goals exact ⟨ret_bool (by simp_all), by go_grown⟩
  cases x3
  · go_enter Try.func105, Try.ntmps105
    go_wp2_with (first | (go_at_call 59; refine (l1In_v c 1 12 _ E.out.1 _).mono ?_; rintro r w' ⟨rfl, rfl⟩) | (go_at_call 60; refine (l1Value_v x _ E.out.2.1 _).mono ?_; rintro r w' ⟨rfl, rfl⟩) | (go_at_call 60; refine (l1Value_v y _ E.out.2.2.1 _).mono ?_; rintro r w' ⟨rfl, rfl⟩) | (go_at_call 138; refine (l10Args_v c _ E.out.2.2.2 _).mono ?_; rintro r w' ⟨rfl, rfl⟩))
    all_goals go_ret
    all_goals exact ⟨ret_bool (by simp_all), by go_grown⟩
  rcases harg with rfl | rfl | rfl
  · go_enter Try.func105, Try.ntmps105
    go_wp2_with (first | (go_at_call 59; refine (l1In_v c 1 12 _ E.out.1 _).mono ?_; rintro r w' ⟨rfl, rfl⟩) | (go_at_call 60; refine (l1Value_v x _ E.out.2.1 _).mono ?_; rintro r w' ⟨rfl, rfl⟩) | (go_at_call 60; refine (l1Value_v y _ E.out.2.2.1 _).mono ?_; rintro r w' ⟨rfl, rfl⟩) | (go_at_call 138; refine (l10Args_v c _ E.out.2.2.2 _).mono ?_; rintro r w' ⟨rfl, rfl⟩))
    all_goals go_ret
    all_goals exact ⟨ret_bool (by simp_all), by go_grown⟩
  · go_enter Try.func105, Try.ntmps105
    go_wp2_with (first | (go_at_call 59; refine (l1In_v c 1 12 _ E.out.1 _).mono ?_; rintro r w' ⟨rfl, rfl⟩) | (go_at_call 60; refine (l1Value_v x _ E.out.2.1 _).mono ?_; rintro r w' ⟨rfl, rfl⟩) | (go_at_call 60; refine (l1Value_v y _ E.out.2.2.1 _).mono ?_; rintro r w' ⟨rfl, rfl⟩) | (go_at_call 138; refine (l10Args_v c _ E.out.2.2.2 _).mono ?_; rintro r w' ⟨rfl, rfl⟩))
    all_goals go_ret
    all_goals exact ⟨ret_bool (by simp_all), by go_grown⟩
  · go_enter Try.func105, Try.ntmps105
    go_wp2_with (first | (go_at_call 59; refine (l1In_v c 1 12 _ E.out.1 _).mono ?_; rintro r w' ⟨rfl, rfl⟩) | (go_at_call 60; refine (l1Value_v x _ E.out.2.1 _).mono ?_; rintro r w' ⟨rfl, rfl⟩) | (go_at_call 60; refine (l1Value_v y _ E.out.2.2.1 _).mono ?_; rintro r w' ⟨rfl, rfl⟩) | (go_at_call 138; refine (l10Args_v c _ E.out.2.2.2 _).mono ?_; rintro r w' ⟨rfl, rfl⟩))
    all_goals go_ret
    all_goals exact ⟨ret_bool (by simp_all), by go_grown⟩
end Go.Proofs.Ytgncjcnobojgbaa
