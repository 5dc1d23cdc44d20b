import Derived.Test.YtfkdfkoigojciaaGreatDoorQU08
import Derived.Test.YtfkdfkoigojciaaGreatDoorQU03
import Derived.Test.YtfkdfkoigojciaaGreatDoorQU02

namespace Go.Proofs.YtfkdfkoigojciaaGreatDoor
open Go.RowKit
set_option linter.unusedVariables false
set_option maxHeartbeats 8000000
def mayB (a b c d e : Int) (ts : List T7) (ks : List Int) (fs : List F2) (tn w : Int) : Bool := poolB a b c d e ts ks fs tn && workB a b c d e w
theorem l6May_any (a b c d e : Int) (ts : List T7) (ks : List Int) (fs : List F2) (A0 A1 A2 : Option Addr) (c0 c1 c2 : Nat) (tn : Int) (st : Bool) (wk : Int) (w : World) (ht : ts.length ≤ 1048576) (hk : ks.length ≤ 1048576) (hf : fs.length ≤ 1048576) (h : InPool w ts ks fs A0 A1 A2) :
 Calls Tryz.prog 51 #[qF a b c d e, qP ts ks fs A0 A1 A2 c0 c1 c2 tn st, .int .i64 wk] w fun r w' => r = .returned (.bool (mayB a b c d e ts ks fs tn wk)) ∧ Below w.heap.size w w' := by
 unfold qF qP
 have H := hide h
 clear h
 have q0 : Hid (∀ V, Below w.heap.size w V → Calls Tryz.prog 30 #[.agg #[.int .i64 a, .int .i64 b, .int .i64 c, .int .i64 d, .int .i64 e], .agg #[.slice A0 ts.length c0, .slice A1 ks.length c1, .slice A2 fs.length c2, .int .i64 tn, .bool st]] V fun r w' => r = .returned (.bool (poolB a b c d e ts ks fs tn)) ∧ Below V.heap.size V w') := hide (fun V hV => sPoolOk_any a b c d e ts ks fs A0 A1 A2 c0 c1 c2 tn st V ht hk hf (H.out.below hV))
 unfold mayB
 generalize poolB a b c d e ts ks fs tn = x0 at q0 ⊢
 go_enter Tryz.func51, Tryz.ntmps51
 go_wp2_with fail
 have G := Below.refl w.heap.size w
 have kP := Blk.new w 28 #[.int .i64 a, .int .i64 b, .int .i64 c, .int .i64 d, .int .i64 e]
 have hbs := G.size
 replace G := G.alloc (by omega) (.cells #[.int .i64 a, .int .i64 b, .int .i64 c, .int .i64 d, .int .i64 e] 28)
 have z1 : (w.alloc (.cells #[.int .i64 a, .int .i64 b, .int .i64 c, .int .i64 d, .int .i64 e] 28)).heap.size = w.heap.size + 1 := by simp
 clear hbs
 generalize w.alloc (.cells #[.int .i64 a, .int .i64 b, .int .i64 c, .int .i64 d, .int .i64 e] 28) = W1 at kP G z1 ⊢
 have kX : Blk (W1.alloc (.cells #[.slice A0 ts.length c0, .slice A1 ks.length c1, .slice A2 fs.length c2, .int .i64 tn, .bool st] 35)) (w.heap.size + 1) 35 #[.slice A0 ts.length c0, .slice A1 ks.length c1, .slice A2 fs.length c2, .int .i64 tn, .bool st] := by
  have h := Blk.new W1 35 #[.slice A0 ts.length c0, .slice A1 ks.length c1, .slice A2 fs.length c2, .int .i64 tn, .bool st]
  rw [show W1.heap.size = w.heap.size + 1 by omega] at h
  exact h
 replace kP := kP.alloc (.cells #[.slice A0 ts.length c0, .slice A1 ks.length c1, .slice A2 fs.length c2, .int .i64 tn, .bool st] 35)
 have hbs := G.size
 replace G := G.alloc (by omega) (.cells #[.slice A0 ts.length c0, .slice A1 ks.length c1, .slice A2 fs.length c2, .int .i64 tn, .bool st] 35)
 have z2 : (W1.alloc (.cells #[.slice A0 ts.length c0, .slice A1 ks.length c1, .slice A2 fs.length c2, .int .i64 tn, .bool st] 35)).heap.size = W1.heap.size + 1 := by simp
 clear hbs
 generalize W1.alloc (.cells #[.slice A0 ts.length c0, .slice A1 ks.length c1, .slice A2 fs.length c2, .int .i64 tn, .bool st] 35) = W2 at kP kX G z2 ⊢
 go_call (q0.out _ G) as r W3 ⟨rfl, g1⟩
 have hbs := G.size
 replace kP := kP.below g1 kP.lt
 replace kX := kX.below g1 kX.lt
 replace G := G.trans (g1.mono (by omega))
 have z3 := g1.size
 clear g1 hbs
 cases x0
 ·have tP : w.heap.size < W3.heap.size := kP.lt
  have qP0 : W3.cell? ⟨w.heap.size, 0, none⟩ = some (.int .i64 a) := kP.cell 0
  have qP1 : W3.cell? ⟨w.heap.size, 1, none⟩ = some (.int .i64 b) := kP.cell 1
  have qP2 : W3.cell? ⟨w.heap.size, 2, none⟩ = some (.int .i64 c) := kP.cell 2
  have qP3 : W3.cell? ⟨w.heap.size, 3, none⟩ = some (.int .i64 d) := kP.cell 3
  have qP4 : W3.cell? ⟨w.heap.size, 4, none⟩ = some (.int .i64 e) := kP.cell 4
  have tX : w.heap.size + 1 < W3.heap.size := kX.lt
  have qX0 : W3.cell? ⟨w.heap.size + 1, 0, none⟩ = some (.slice A0 ts.length c0) := kX.cell 0
  have qX1 : W3.cell? ⟨w.heap.size + 1, 1, none⟩ = some (.slice A1 ks.length c1) := kX.cell 1
  have qX2 : W3.cell? ⟨w.heap.size + 1, 2, none⟩ = some (.slice A2 fs.length c2) := kX.cell 2
  have qX3 : W3.cell? ⟨w.heap.size + 1, 3, none⟩ = some (.int .i64 tn) := kX.cell 3
  have qX4 : W3.cell? ⟨w.heap.size + 1, 4, none⟩ = some (.bool st) := kX.cell 4
  go_wp2_with fail
  go_ret
  exact ⟨ret_bool (by simp), G⟩
 ·have tP : w.heap.size < W3.heap.size := kP.lt
  have qP0 : W3.cell? ⟨w.heap.size, 0, none⟩ = some (.int .i64 a) := kP.cell 0
  have qP1 : W3.cell? ⟨w.heap.size, 1, none⟩ = some (.int .i64 b) := kP.cell 1
  have qP2 : W3.cell? ⟨w.heap.size, 2, none⟩ = some (.int .i64 c) := kP.cell 2
  have qP3 : W3.cell? ⟨w.heap.size, 3, none⟩ = some (.int .i64 d) := kP.cell 3
  have qP4 : W3.cell? ⟨w.heap.size, 4, none⟩ = some (.int .i64 e) := kP.cell 4
  have tX : w.heap.size + 1 < W3.heap.size := kX.lt
  have qX0 : W3.cell? ⟨w.heap.size + 1, 0, none⟩ = some (.slice A0 ts.length c0) := kX.cell 0
  have qX1 : W3.cell? ⟨w.heap.size + 1, 1, none⟩ = some (.slice A1 ks.length c1) := kX.cell 1
  have qX2 : W3.cell? ⟨w.heap.size + 1, 2, none⟩ = some (.slice A2 fs.length c2) := kX.cell 2
  have qX3 : W3.cell? ⟨w.heap.size + 1, 3, none⟩ = some (.int .i64 tn) := kX.cell 3
  have qX4 : W3.cell? ⟨w.heap.size + 1, 4, none⟩ = some (.bool st) := kX.cell 4
  go_wp2_with fail
  go_call (sWorkerIn_any a b c d e wk _) as r W4 ⟨rfl, g1⟩
  clear tP qP0 qP1 qP2 qP3 qP4 tX qX0 qX1 qX2 qX3 qX4
  have hbs := G.size
  replace kP := kP.below g1 kP.lt
  replace kX := kX.below g1 kX.lt
  replace G := G.trans (g1.mono (by omega))
  have z4 := g1.size
  clear g1 hbs
  have tP : w.heap.size < W4.heap.size := kP.lt
  have qP0 : W4.cell? ⟨w.heap.size, 0, none⟩ = some (.int .i64 a) := kP.cell 0
  have qP1 : W4.cell? ⟨w.heap.size, 1, none⟩ = some (.int .i64 b) := kP.cell 1
  have qP2 : W4.cell? ⟨w.heap.size, 2, none⟩ = some (.int .i64 c) := kP.cell 2
  have qP3 : W4.cell? ⟨w.heap.size, 3, none⟩ = some (.int .i64 d) := kP.cell 3
  have qP4 : W4.cell? ⟨w.heap.size, 4, none⟩ = some (.int .i64 e) := kP.cell 4
  have tX : w.heap.size + 1 < W4.heap.size := kX.lt
  have qX0 : W4.cell? ⟨w.heap.size + 1, 0, none⟩ = some (.slice A0 ts.length c0) := kX.cell 0
  have qX1 : W4.cell? ⟨w.heap.size + 1, 1, none⟩ = some (.slice A1 ks.length c1) := kX.cell 1
  have qX2 : W4.cell? ⟨w.heap.size + 1, 2, none⟩ = some (.slice A2 fs.length c2) := kX.cell 2
  have qX3 : W4.cell? ⟨w.heap.size + 1, 3, none⟩ = some (.int .i64 tn) := kX.cell 3
  have qX4 : W4.cell? ⟨w.heap.size + 1, 4, none⟩ = some (.bool st) := kX.cell 4
  go_wp2_with fail
  go_ret
  exact ⟨ret_bool (by simp), G⟩
def argsM (c : Int) : Int := if c = 7 ∨ c = 10 then 2 else if c = 2 ∨ c = 3 ∨ c = 12 then 0 else 1
theorem l10Args_any (c : Int) (w : World) : Calls Tryz.prog 158 #[.int .i64 c] w fun r w' => r = .returned (.int .i64 (argsM c)) ∧ w = w' := by
 by_cases h7 : c = 7
 ·subst h7
  rw [show argsM 7 = 2 from rfl]
  go_enter Tryz.func158, Tryz.ntmps158
  go_wp2
  go_ret
  exact ⟨rfl, rfl⟩
 by_cases h10 : c = 10
 ·subst h10
  rw [show argsM 10 = 2 from rfl]
  go_enter Tryz.func158, Tryz.ntmps158
  go_wp2
  go_ret
  exact ⟨rfl, rfl⟩
 by_cases h2 : c = 2
 ·subst h2
  rw [show argsM 2 = 0 from rfl]
  go_enter Tryz.func158, Tryz.ntmps158
  go_wp2
  go_ret
  exact ⟨rfl, rfl⟩
 by_cases h3 : c = 3
 ·subst h3
  rw [show argsM 3 = 0 from rfl]
  go_enter Tryz.func158, Tryz.ntmps158
  go_wp2
  go_ret
  exact ⟨rfl, rfl⟩
 by_cases h12 : c = 12
 ·subst h12
  rw [show argsM 12 = 0 from rfl]
  go_enter Tryz.func158, Tryz.ntmps158
  go_wp2
  go_ret
  exact ⟨rfl, rfl⟩
 rw [show argsM c = 1 from by simp [argsM, h7, h10, h2, h3, h12]]
 go_enter Tryz.func158, Tryz.ntmps158
 go_wp2
 go_ret
 exact ⟨rfl, rfl⟩
theorem l1Value_v (v : Int) (z : Bool) (h : btw v 0 9999 = z) (w : World) : Calls Tryz.prog 79 #[.int .i64 v] w fun r w' => r = .returned (.bool z) ∧ w = w' := h ▸ l1Value_any v w
theorem l1In_v (n l h : Int) (z : Bool) (e : btw n l h = z) (w : World) : Calls Tryz.prog 78 #[.int .i64 n, .int .i64 l, .int .i64 h] w fun r w' => r = .returned (.bool z) ∧ w = w' := e ▸ l1In_any n l h w
def callB (c x y : Int) : Bool := (btw c 1 12 && (btw x 0 9999 && btw y 0 9999)) && ((decide (0 < argsM c) || x == 0) && (decide (1 < argsM c) || y == 0))
theorem l10Args_v (c n : Int) (e : argsM c = n) (w : World) : Calls Tryz.prog 158 #[.int .i64 c] w fun r w' => r = .returned (.int .i64 n) ∧ w = w' := e ▸ l10Args_any c w
set_option maxRecDepth 100000 in
theorem callOk_any (c x y : Int) (w : World) : Calls Tryz.prog 114 #[.agg #[.int .i64 c, .int .i64 x, .int .i64 y]] w fun r w' => r = .returned (.bool (callB c x y)) ∧ Below w.heap.size w w' := by
 have harg : argsM c = 0 ∨ argsM c = 1 ∨ argsM c = 2 := by unfold argsM; split <;> (try split) <;> simp
 obtain ⟨x1, e1⟩ : ∃ z, btw c 1 12 = z := ⟨_, rfl⟩
 obtain ⟨x2, e2⟩ : ∃ z, btw x 0 9999 = z := ⟨_, rfl⟩
 obtain ⟨x3, e3⟩ : ∃ z, btw y 0 9999 = z := ⟨_, rfl⟩
 obtain ⟨n, e4⟩ : ∃ n, argsM c = n := ⟨_, rfl⟩
 rw [e4] at harg
 have E := hide (⟨e1, e2, e3, e4⟩ : _ ∧ _ ∧ _ ∧ _)
 unfold callB
 rw [e1, e2, e3, e4]
 clear e1 e2 e3 e4
 cases x1
 ·go_enter Tryz.func114, Tryz.ntmps114
  go_wp2_with (first | (go_at_call 78; refine (l1In_v c 1 12 _ E.out.1 _).mono ?_; rintro r w' ⟨rfl, rfl⟩) | (go_at_call 79; refine (l1Value_v x _ E.out.2.1 _).mono ?_; rintro r w' ⟨rfl, rfl⟩) | (go_at_call 79; refine (l1Value_v y _ E.out.2.2.1 _).mono ?_; rintro r w' ⟨rfl, rfl⟩) | (go_at_call 158; refine (l10Args_v c _ E.out.2.2.2 _).mono ?_; rintro r w' ⟨rfl, rfl⟩))
  all_goals go_ret
  all_goals exact ⟨ret_bool (by simp_all), by go_grown⟩
 cases x2
 ·go_enter Tryz.func114, Tryz.ntmps114
  go_wp2_with (first | (go_at_call 78; refine (l1In_v c 1 12 _ E.out.1 _).mono ?_; rintro r w' ⟨rfl, rfl⟩) | (go_at_call 79; refine (l1Value_v x _ E.out.2.1 _).mono ?_; rintro r w' ⟨rfl, rfl⟩) | (go_at_call 79; refine (l1Value_v y _ E.out.2.2.1 _).mono ?_; rintro r w' ⟨rfl, rfl⟩) | (go_at_call 158; refine (l10Args_v c _ E.out.2.2.2 _).mono ?_; rintro r w' ⟨rfl, rfl⟩))
  all_goals go_ret
  all_goals exact ⟨ret_bool (by simp_all), by go_grown⟩
 cases x3
 ·go_enter Tryz.func114, Tryz.ntmps114
  go_wp2_with (first | (go_at_call 78; refine (l1In_v c 1 12 _ E.out.1 _).mono ?_; rintro r w' ⟨rfl, rfl⟩) | (go_at_call 79; refine (l1Value_v x _ E.out.2.1 _).mono ?_; rintro r w' ⟨rfl, rfl⟩) | (go_at_call 79; refine (l1Value_v y _ E.out.2.2.1 _).mono ?_; rintro r w' ⟨rfl, rfl⟩) | (go_at_call 158; refine (l10Args_v c _ E.out.2.2.2 _).mono ?_; rintro r w' ⟨rfl, rfl⟩))
  all_goals go_ret
  all_goals exact ⟨ret_bool (by simp_all), by go_grown⟩
 rcases harg with rfl | rfl | rfl
 ·go_enter Tryz.func114, Tryz.ntmps114
  go_wp2_with (first | (go_at_call 78; refine (l1In_v c 1 12 _ E.out.1 _).mono ?_; rintro r w' ⟨rfl, rfl⟩) | (go_at_call 79; refine (l1Value_v x _ E.out.2.1 _).mono ?_; rintro r w' ⟨rfl, rfl⟩) | (go_at_call 79; refine (l1Value_v y _ E.out.2.2.1 _).mono ?_; rintro r w' ⟨rfl, rfl⟩) | (go_at_call 158; refine (l10Args_v c _ E.out.2.2.2 _).mono ?_; rintro r w' ⟨rfl, rfl⟩))
  all_goals go_ret
  all_goals exact ⟨ret_bool (by simp_all), by go_grown⟩
 ·go_enter Tryz.func114, Tryz.ntmps114
  go_wp2_with (first | (go_at_call 78; refine (l1In_v c 1 12 _ E.out.1 _).mono ?_; rintro r w' ⟨rfl, rfl⟩) | (go_at_call 79; refine (l1Value_v x _ E.out.2.1 _).mono ?_; rintro r w' ⟨rfl, rfl⟩) | (go_at_call 79; refine (l1Value_v y _ E.out.2.2.1 _).mono ?_; rintro r w' ⟨rfl, rfl⟩) | (go_at_call 158; refine (l10Args_v c _ E.out.2.2.2 _).mono ?_; rintro r w' ⟨rfl, rfl⟩))
  all_goals go_ret
  all_goals exact ⟨ret_bool (by simp_all), by go_grown⟩
 ·go_enter Tryz.func114, Tryz.ntmps114
  go_wp2_with (first | (go_at_call 78; refine (l1In_v c 1 12 _ E.out.1 _).mono ?_; rintro r w' ⟨rfl, rfl⟩) | (go_at_call 79; refine (l1Value_v x _ E.out.2.1 _).mono ?_; rintro r w' ⟨rfl, rfl⟩) | (go_at_call 79; refine (l1Value_v y _ E.out.2.2.1 _).mono ?_; rintro r w' ⟨rfl, rfl⟩) | (go_at_call 158; refine (l10Args_v c _ E.out.2.2.2 _).mono ?_; rintro r w' ⟨rfl, rfl⟩))
  all_goals go_ret
  all_goals exact ⟨ret_bool (by simp_all), by go_grown⟩
theorem OwnR.made {w : World} {lo : Nat} {e : TypeId} {size g n : Nat} {xs : List Value} {cs : Array Value} (h : Blk w g e cs) (hl : lo ≤ g) (hm : n ≤ maxLen) (hs : cs.size = n * size) (hx : cs.toList = xs) : OwnR w lo w.heap.size e size (.slice (some ⟨g, 0, none⟩) n n) n xs := by
 refine ⟨⟨?_, .inr ⟨g, n, cs, rfl, hl, h, Nat.le_refl _, hm, hs, ?_⟩⟩, fun k hk => ?_⟩
 ·rw [← hx, Array.length_toList, hs]
 ·rw [← hx, List.take_of_length_le (by rw [Array.length_toList, hs]; exact Nat.le_refl _)]
 ·have : g = k := by simpa [Value.ownBlock] using hk
  subst this; exact h.lt
theorem OwnR.nil_ (w : World) (lo hi : Nat) (e : TypeId) (size : Nat) : OwnR w lo hi e size (.slice none 0 0) 0 [] := ⟨World.ownsRow_nil _ _ _ _, fun k hk => by simp [Value.ownBlock] at hk⟩
theorem madeI (n : Nat) (w : World) (lo g : Nat) (hl : lo ≤ g) (hn : n ≤ 1048576) (h : Blk w g 2 (madeCells #[.int .i64 0] n)) : OwnR w lo w.heap.size 2 1 (.slice (some ⟨g, 0, none⟩) (List.replicate n (0 : Int)).length n) (List.replicate n (0 : Int)).length (icells (List.replicate n 0)) := by
 rw [List.length_replicate]
 exact OwnR.made h hl (by unfold maxLen; omega) (by rw [size_madeCells]; omega) (by have := imade n; rw [Nat.mul_one] at this; exact this)
theorem madeF (n : Nat) (w : World) (lo g : Nat) (hl : lo ≤ g) (hn : n ≤ 1048576) (h : Blk w g 103 (madeCells #[.bool false, .int .i64 0] (n * 2))) : OwnR w lo w.heap.size 103 2 (.slice (some ⟨g, 0, none⟩) (List.replicate n (⟨false, 0⟩ : F2)).length n) (List.replicate n (⟨false, 0⟩ : F2)).length (fcells (List.replicate n ⟨false, 0⟩)) := by
 rw [List.length_replicate]
 exact OwnR.made h hl (by unfold maxLen; omega) (by rw [size_madeCells]) (fmade n)
set_option maxRecDepth 100000 in
set_option maxHeartbeats 4000000 in
theorem sNewPool_any (a b c : Int) (d e : Nat) (w : World) (hp : planB a b c d e = true) :
 Calls Tryz.prog 48 #[.agg #[.int .i64 a, .int .i64 b, .int .i64 c, .int .i64 d, .int .i64 e]] w (MadePool w [] (List.replicate d 0) (List.replicate e ⟨false, 0⟩) 1 false) := by
 have hbd := planB_all hp
 obtain ⟨i0, hi, hz0, hz1, hz2⟩ := info_parts infoInt
 obtain ⟨i1, gi, gz0, gz1, gz2⟩ := info_parts infoFut
 have m0 := fun w => run_make (P := Tryz.prog) w 32 2 i0 (.int .i64 0) Tryz.underlying32 hi hz0 .i64 .i64 d d (by omega) (by omega) (by rw [hz2]; omega) (by omega)
 have m1 := fun w => run_make (P := Tryz.prog) w 33 103 i1 (.agg #[.bool false, .int .i64 0]) Tryz.underlying33 gi gz0 .i64 .i64 e e (by omega) (by omega) (by rw [gz2]; omega) (by omega)
 rw [hz1] at m0
 rw [gz1] at m1
 simp only [Int.toNat_natCast] at m0 m1
 go_enter Tryz.func48, Tryz.ntmps48
 go_wp2_with fail
 have G := Below.refl w.heap.size w
 have kP := Blk.new w 28 #[.int .i64 a, .int .i64 b, .int .i64 c, .int .i64 d, .int .i64 e]
 have hbs := G.size
 replace G := G.alloc (by omega) (.cells #[.int .i64 a, .int .i64 b, .int .i64 c, .int .i64 d, .int .i64 e] 28)
 have z1 : (w.alloc (.cells #[.int .i64 a, .int .i64 b, .int .i64 c, .int .i64 d, .int .i64 e] 28)).heap.size = w.heap.size + 1 := by simp
 clear hbs
 generalize w.alloc (.cells #[.int .i64 a, .int .i64 b, .int .i64 c, .int .i64 d, .int .i64 e] 28) = W1 at kP G z1 ⊢
 have kR : Blk (W1.alloc (.cells #[.slice none 0 0, .slice none 0 0, .slice none 0 0, .int .i64 0, .bool false] 35)) (w.heap.size + 1) 35 #[.slice none 0 0, .slice none 0 0, .slice none 0 0, .int .i64 0, .bool false] := by
  have h := Blk.new W1 35 #[.slice none 0 0, .slice none 0 0, .slice none 0 0, .int .i64 0, .bool false]
  rw [show W1.heap.size = w.heap.size + 1 by omega] at h
  exact h
 replace kP := kP.alloc (.cells #[.slice none 0 0, .slice none 0 0, .slice none 0 0, .int .i64 0, .bool false] 35)
 have hbs := G.size
 replace G := G.alloc (by omega) (.cells #[.slice none 0 0, .slice none 0 0, .slice none 0 0, .int .i64 0, .bool false] 35)
 have z2 : (W1.alloc (.cells #[.slice none 0 0, .slice none 0 0, .slice none 0 0, .int .i64 0, .bool false] 35)).heap.size = W1.heap.size + 1 := by simp
 clear hbs
 generalize W1.alloc (.cells #[.slice none 0 0, .slice none 0 0, .slice none 0 0, .int .i64 0, .bool false] 35) = W2 at kP kR G z2 ⊢
 go_call (sPlanOk_any a b c d e _) as r W3 ⟨rfl, g1⟩
 have hbs := G.size
 replace kP := kP.below g1 kP.lt
 replace kR := kR.below g1 kR.lt
 replace G := G.trans (g1.mono (by omega))
 have z3 := g1.size
 clear g1 hbs
 rw [hp]
 obtain ⟨tP, qP0, fP0, qP1, fP1, qP2, fP2, qP3, fP3, qP4, fP4⟩ := kP.f5
 obtain ⟨tR, qR0, fR0, qR1, fR1, qR2, fR2, qR3, fR3, qR4, fR4⟩ := kR.f5
 go_wp2_with fail
 go_region
 all_goals go_wp2
 ·clear tP qP0 fP0 qP1 fP1 qP2 fP2 qP3 fP3 qP4 fP4 tR qR0 fR0 qR1 fR1 qR2 fR2 qR3 fR3 qR4 fR4
  replace kP := kP.far (p := ⟨w.heap.size + 1, 0, none⟩) (show w.heap.size ≠ w.heap.size + 1 by omega) (.slice none 0 0)
  replace kR : Blk (W3.setCell ⟨w.heap.size + 1, 0, none⟩ (.slice none 0 0)) (w.heap.size + 1) 35 #[.slice none 0 0, .slice none 0 0, .slice none 0 0, .int .i64 0, .bool false] := kR.set_ 0 (.slice none 0 0)
  replace G : Below w.heap.size w (W3.setCell ⟨w.heap.size + 1, 0, none⟩ (.slice none 0 0)) := Below.setCell G (show w.heap.size ≤ w.heap.size + 1 by omega) _
  have z4 : (W3.setCell ⟨w.heap.size + 1, 0, none⟩ (.slice none 0 0)).heap.size = W3.heap.size := by simp [World.setCell]
  generalize W3.setCell ⟨w.heap.size + 1, 0, none⟩ (.slice none 0 0) = W4 at kP kR G z4 ⊢
  replace kP := kP.far (p := ⟨w.heap.size + 1, 1, none⟩) (show w.heap.size ≠ w.heap.size + 1 by omega) (.slice (some ⟨W3.heap.size, 0, none⟩) d d)
  replace kR : Blk (W4.setCell ⟨w.heap.size + 1, 1, none⟩ (.slice (some ⟨W3.heap.size, 0, none⟩) d d)) (w.heap.size + 1) 35 #[.slice none 0 0, .slice (some ⟨W3.heap.size, 0, none⟩) d d, .slice none 0 0, .int .i64 0, .bool false] := kR.set_ 1 (.slice (some ⟨W3.heap.size, 0, none⟩) d d)
  replace G : Below w.heap.size w (W4.setCell ⟨w.heap.size + 1, 1, none⟩ (.slice (some ⟨W3.heap.size, 0, none⟩) d d)) := Below.setCell G (show w.heap.size ≤ w.heap.size + 1 by omega) _
  have z5 : (W4.setCell ⟨w.heap.size + 1, 1, none⟩ (.slice (some ⟨W3.heap.size, 0, none⟩) d d)).heap.size = W4.heap.size := by simp [World.setCell]
  generalize W4.setCell ⟨w.heap.size + 1, 1, none⟩ (.slice (some ⟨W3.heap.size, 0, none⟩) d d) = W5 at kP kR G z5 ⊢
  replace kP := kP.far (p := ⟨w.heap.size + 1, 2, none⟩) (show w.heap.size ≠ w.heap.size + 1 by omega) (.slice (some ⟨W3.heap.size + 1, 0, none⟩) e e)
  replace kR : Blk (W5.setCell ⟨w.heap.size + 1, 2, none⟩ (.slice (some ⟨W3.heap.size + 1, 0, none⟩) e e)) (w.heap.size + 1) 35 #[.slice none 0 0, .slice (some ⟨W3.heap.size, 0, none⟩) d d, .slice (some ⟨W3.heap.size + 1, 0, none⟩) e e, .int .i64 0, .bool false] := kR.set_ 2 (.slice (some ⟨W3.heap.size + 1, 0, none⟩) e e)
  replace G : Below w.heap.size w (W5.setCell ⟨w.heap.size + 1, 2, none⟩ (.slice (some ⟨W3.heap.size + 1, 0, none⟩) e e)) := Below.setCell G (show w.heap.size ≤ w.heap.size + 1 by omega) _
  have z6 : (W5.setCell ⟨w.heap.size + 1, 2, none⟩ (.slice (some ⟨W3.heap.size + 1, 0, none⟩) e e)).heap.size = W5.heap.size := by simp [World.setCell]
  generalize W5.setCell ⟨w.heap.size + 1, 2, none⟩ (.slice (some ⟨W3.heap.size + 1, 0, none⟩) e e) = W6 at kP kR G z6 ⊢
  replace kP := kP.far (p := ⟨w.heap.size + 1, 3, none⟩) (show w.heap.size ≠ w.heap.size + 1 by omega) (.int .i64 1)
  replace kR : Blk (W6.setCell ⟨w.heap.size + 1, 3, none⟩ (.int .i64 1)) (w.heap.size + 1) 35 #[.slice none 0 0, .slice (some ⟨W3.heap.size, 0, none⟩) d d, .slice (some ⟨W3.heap.size + 1, 0, none⟩) e e, .int .i64 1, .bool false] := kR.set_ 3 (.int .i64 1)
  replace G : Below w.heap.size w (W6.setCell ⟨w.heap.size + 1, 3, none⟩ (.int .i64 1)) := Below.setCell G (show w.heap.size ≤ w.heap.size + 1 by omega) _
  have z7 : (W6.setCell ⟨w.heap.size + 1, 3, none⟩ (.int .i64 1)).heap.size = W6.heap.size := by simp [World.setCell]
  generalize W6.setCell ⟨w.heap.size + 1, 3, none⟩ (.int .i64 1) = W7 at kP kR G z7 ⊢
  replace kP := kP.far (p := ⟨w.heap.size + 1, 4, none⟩) (show w.heap.size ≠ w.heap.size + 1 by omega) (.bool false)
  replace kR : Blk (W7.setCell ⟨w.heap.size + 1, 4, none⟩ (.bool false)) (w.heap.size + 1) 35 #[.slice none 0 0, .slice (some ⟨W3.heap.size, 0, none⟩) d d, .slice (some ⟨W3.heap.size + 1, 0, none⟩) e e, .int .i64 1, .bool false] := kR.set_ 4 (.bool false)
  replace G : Below w.heap.size w (W7.setCell ⟨w.heap.size + 1, 4, none⟩ (.bool false)) := Below.setCell G (show w.heap.size ≤ w.heap.size + 1 by omega) _
  have z8 : (W7.setCell ⟨w.heap.size + 1, 4, none⟩ (.bool false)).heap.size = W7.heap.size := by simp [World.setCell]
  generalize W7.setCell ⟨w.heap.size + 1, 4, none⟩ (.bool false) = W8 at kP kR G z8 ⊢
  have kI : Blk (W8.alloc (.cells (madeCells #[.int .i64 0] d) 2)) (W3.heap.size) 2 (madeCells #[.int .i64 0] d) := by
   have h := Blk.new W8 2 (madeCells #[.int .i64 0] d)
   rw [show W8.heap.size = W3.heap.size by omega] at h
   exact h
  replace kP := kP.alloc (.cells (madeCells #[.int .i64 0] d) 2)
  replace kR := kR.alloc (.cells (madeCells #[.int .i64 0] d) 2)
  have hbs := G.size
  replace G := G.alloc (by omega) (.cells (madeCells #[.int .i64 0] d) 2)
  have z9 : (W8.alloc (.cells (madeCells #[.int .i64 0] d) 2)).heap.size = W8.heap.size + 1 := by simp
  clear hbs
  generalize W8.alloc (.cells (madeCells #[.int .i64 0] d) 2) = W9 at kP kR kI G z9 ⊢
  have kF : Blk (W9.alloc (.cells (madeCells #[.bool false, .int .i64 0] (e * 2)) 103)) (W3.heap.size + 1) 103 (madeCells #[.bool false, .int .i64 0] (e * 2)) := by
   have h := Blk.new W9 103 (madeCells #[.bool false, .int .i64 0] (e * 2))
   rw [show W9.heap.size = W3.heap.size + 1 by omega] at h
   exact h
  replace kP := kP.alloc (.cells (madeCells #[.bool false, .int .i64 0] (e * 2)) 103)
  replace kR := kR.alloc (.cells (madeCells #[.bool false, .int .i64 0] (e * 2)) 103)
  replace kI := kI.alloc (.cells (madeCells #[.bool false, .int .i64 0] (e * 2)) 103)
  have hbs := G.size
  replace G := G.alloc (by omega) (.cells (madeCells #[.bool false, .int .i64 0] (e * 2)) 103)
  have z10 : (W9.alloc (.cells (madeCells #[.bool false, .int .i64 0] (e * 2)) 103)).heap.size = W9.heap.size + 1 := by simp
  clear hbs
  generalize W9.alloc (.cells (madeCells #[.bool false, .int .i64 0] (e * 2)) 103) = W10 at kP kR kI kF G z10 ⊢
  replace kP := kP.drew
  replace kR := kR.drew
  replace kI := kI.drew
  replace kF := kF.drew
  replace G := G.drew
  have z11 : (W10.drew).heap.size = W10.heap.size := rfl
  generalize W10.drew = W11 at kP kR kI kF G z11 ⊢
  obtain ⟨tR, qR0, qR1, qR2, qR3, qR4⟩ := kR.q5
  exact bodyPost_ret (v := .agg #[.slice none 0 0, .slice (some ⟨W3.heap.size, 0, none⟩) d d, .slice (some ⟨W3.heap.size + 1, 0, none⟩) e e, .int .i64 1, .bool false]) (by simp [results, Tryz.results48, go_sem, qR0, qR1, qR2, qR3, qR4]) rfl ⟨none, some ⟨W3.heap.size, 0, none⟩, some ⟨W3.heap.size + 1, 0, none⟩, 0, d, e, by simp, ⟨OwnR.nil_ _ _ _ _ _, madeI d _ _ _ (by omega) (by omega) kI, madeF e _ _ _ (by omega) (by omega) kF⟩, G⟩
 ·clear tP qP0 fP0 qP1 fP1 qP2 fP2 qP3 fP3 qP4 fP4 tR qR0 fR0 qR1 fR1 qR2 fR2 qR3 fR3 qR4 fR4
  replace kP := kP.far (p := ⟨w.heap.size + 1, 0, none⟩) (show w.heap.size ≠ w.heap.size + 1 by omega) (.slice none 0 0)
  replace kR : Blk (W3.setCell ⟨w.heap.size + 1, 0, none⟩ (.slice none 0 0)) (w.heap.size + 1) 35 #[.slice none 0 0, .slice none 0 0, .slice none 0 0, .int .i64 0, .bool false] := kR.set_ 0 (.slice none 0 0)
  replace G : Below w.heap.size w (W3.setCell ⟨w.heap.size + 1, 0, none⟩ (.slice none 0 0)) := Below.setCell G (show w.heap.size ≤ w.heap.size + 1 by omega) _
  have z4 : (W3.setCell ⟨w.heap.size + 1, 0, none⟩ (.slice none 0 0)).heap.size = W3.heap.size := by simp [World.setCell]
  generalize W3.setCell ⟨w.heap.size + 1, 0, none⟩ (.slice none 0 0) = W4 at kP kR G z4 ⊢
  replace kP := kP.far (p := ⟨w.heap.size + 1, 1, none⟩) (show w.heap.size ≠ w.heap.size + 1 by omega) (.slice (some ⟨W3.heap.size + 1, 0, none⟩) d d)
  replace kR : Blk (W4.setCell ⟨w.heap.size + 1, 1, none⟩ (.slice (some ⟨W3.heap.size + 1, 0, none⟩) d d)) (w.heap.size + 1) 35 #[.slice none 0 0, .slice (some ⟨W3.heap.size + 1, 0, none⟩) d d, .slice none 0 0, .int .i64 0, .bool false] := kR.set_ 1 (.slice (some ⟨W3.heap.size + 1, 0, none⟩) d d)
  replace G : Below w.heap.size w (W4.setCell ⟨w.heap.size + 1, 1, none⟩ (.slice (some ⟨W3.heap.size + 1, 0, none⟩) d d)) := Below.setCell G (show w.heap.size ≤ w.heap.size + 1 by omega) _
  have z5 : (W4.setCell ⟨w.heap.size + 1, 1, none⟩ (.slice (some ⟨W3.heap.size + 1, 0, none⟩) d d)).heap.size = W4.heap.size := by simp [World.setCell]
  generalize W4.setCell ⟨w.heap.size + 1, 1, none⟩ (.slice (some ⟨W3.heap.size + 1, 0, none⟩) d d) = W5 at kP kR G z5 ⊢
  replace kP := kP.far (p := ⟨w.heap.size + 1, 2, none⟩) (show w.heap.size ≠ w.heap.size + 1 by omega) (.slice (some ⟨W3.heap.size, 0, none⟩) e e)
  replace kR : Blk (W5.setCell ⟨w.heap.size + 1, 2, none⟩ (.slice (some ⟨W3.heap.size, 0, none⟩) e e)) (w.heap.size + 1) 35 #[.slice none 0 0, .slice (some ⟨W3.heap.size + 1, 0, none⟩) d d, .slice (some ⟨W3.heap.size, 0, none⟩) e e, .int .i64 0, .bool false] := kR.set_ 2 (.slice (some ⟨W3.heap.size, 0, none⟩) e e)
  replace G : Below w.heap.size w (W5.setCell ⟨w.heap.size + 1, 2, none⟩ (.slice (some ⟨W3.heap.size, 0, none⟩) e e)) := Below.setCell G (show w.heap.size ≤ w.heap.size + 1 by omega) _
  have z6 : (W5.setCell ⟨w.heap.size + 1, 2, none⟩ (.slice (some ⟨W3.heap.size, 0, none⟩) e e)).heap.size = W5.heap.size := by simp [World.setCell]
  generalize W5.setCell ⟨w.heap.size + 1, 2, none⟩ (.slice (some ⟨W3.heap.size, 0, none⟩) e e) = W6 at kP kR G z6 ⊢
  replace kP := kP.far (p := ⟨w.heap.size + 1, 3, none⟩) (show w.heap.size ≠ w.heap.size + 1 by omega) (.int .i64 1)
  replace kR : Blk (W6.setCell ⟨w.heap.size + 1, 3, none⟩ (.int .i64 1)) (w.heap.size + 1) 35 #[.slice none 0 0, .slice (some ⟨W3.heap.size + 1, 0, none⟩) d d, .slice (some ⟨W3.heap.size, 0, none⟩) e e, .int .i64 1, .bool false] := kR.set_ 3 (.int .i64 1)
  replace G : Below w.heap.size w (W6.setCell ⟨w.heap.size + 1, 3, none⟩ (.int .i64 1)) := Below.setCell G (show w.heap.size ≤ w.heap.size + 1 by omega) _
  have z7 : (W6.setCell ⟨w.heap.size + 1, 3, none⟩ (.int .i64 1)).heap.size = W6.heap.size := by simp [World.setCell]
  generalize W6.setCell ⟨w.heap.size + 1, 3, none⟩ (.int .i64 1) = W7 at kP kR G z7 ⊢
  replace kP := kP.far (p := ⟨w.heap.size + 1, 4, none⟩) (show w.heap.size ≠ w.heap.size + 1 by omega) (.bool false)
  replace kR : Blk (W7.setCell ⟨w.heap.size + 1, 4, none⟩ (.bool false)) (w.heap.size + 1) 35 #[.slice none 0 0, .slice (some ⟨W3.heap.size + 1, 0, none⟩) d d, .slice (some ⟨W3.heap.size, 0, none⟩) e e, .int .i64 1, .bool false] := kR.set_ 4 (.bool false)
  replace G : Below w.heap.size w (W7.setCell ⟨w.heap.size + 1, 4, none⟩ (.bool false)) := Below.setCell G (show w.heap.size ≤ w.heap.size + 1 by omega) _
  have z8 : (W7.setCell ⟨w.heap.size + 1, 4, none⟩ (.bool false)).heap.size = W7.heap.size := by simp [World.setCell]
  generalize W7.setCell ⟨w.heap.size + 1, 4, none⟩ (.bool false) = W8 at kP kR G z8 ⊢
  have kF : Blk (W8.alloc (.cells (madeCells #[.bool false, .int .i64 0] (e * 2)) 103)) (W3.heap.size) 103 (madeCells #[.bool false, .int .i64 0] (e * 2)) := by
   have h := Blk.new W8 103 (madeCells #[.bool false, .int .i64 0] (e * 2))
   rw [show W8.heap.size = W3.heap.size by omega] at h
   exact h
  replace kP := kP.alloc (.cells (madeCells #[.bool false, .int .i64 0] (e * 2)) 103)
  replace kR := kR.alloc (.cells (madeCells #[.bool false, .int .i64 0] (e * 2)) 103)
  have hbs := G.size
  replace G := G.alloc (by omega) (.cells (madeCells #[.bool false, .int .i64 0] (e * 2)) 103)
  have z9 : (W8.alloc (.cells (madeCells #[.bool false, .int .i64 0] (e * 2)) 103)).heap.size = W8.heap.size + 1 := by simp
  clear hbs
  generalize W8.alloc (.cells (madeCells #[.bool false, .int .i64 0] (e * 2)) 103) = W9 at kP kR kF G z9 ⊢
  have kI : Blk (W9.alloc (.cells (madeCells #[.int .i64 0] d) 2)) (W3.heap.size + 1) 2 (madeCells #[.int .i64 0] d) := by
   have h := Blk.new W9 2 (madeCells #[.int .i64 0] d)
   rw [show W9.heap.size = W3.heap.size + 1 by omega] at h
   exact h
  replace kP := kP.alloc (.cells (madeCells #[.int .i64 0] d) 2)
  replace kR := kR.alloc (.cells (madeCells #[.int .i64 0] d) 2)
  replace kF := kF.alloc (.cells (madeCells #[.int .i64 0] d) 2)
  have hbs := G.size
  replace G := G.alloc (by omega) (.cells (madeCells #[.int .i64 0] d) 2)
  have z10 : (W9.alloc (.cells (madeCells #[.int .i64 0] d) 2)).heap.size = W9.heap.size + 1 := by simp
  clear hbs
  generalize W9.alloc (.cells (madeCells #[.int .i64 0] d) 2) = W10 at kP kR kF kI G z10 ⊢
  replace kP := kP.drew
  replace kR := kR.drew
  replace kF := kF.drew
  replace kI := kI.drew
  replace G := G.drew
  have z11 : (W10.drew).heap.size = W10.heap.size := rfl
  generalize W10.drew = W11 at kP kR kF kI G z11 ⊢
  obtain ⟨tR, qR0, qR1, qR2, qR3, qR4⟩ := kR.q5
  exact bodyPost_ret (v := .agg #[.slice none 0 0, .slice (some ⟨W3.heap.size + 1, 0, none⟩) d d, .slice (some ⟨W3.heap.size, 0, none⟩) e e, .int .i64 1, .bool false]) (by simp [results, Tryz.results48, go_sem, qR0, qR1, qR2, qR3, qR4]) rfl ⟨none, some ⟨W3.heap.size + 1, 0, none⟩, some ⟨W3.heap.size, 0, none⟩, 0, d, e, by simp, ⟨OwnR.nil_ _ _ _ _ _, madeI d _ _ _ (by omega) (by omega) kI, madeF e _ _ _ (by omega) (by omega) kF⟩, G⟩
theorem Sep.e1 {w W : World} {o1 : Array Value} {t1 : TypeId} (h : w.alloc (.cells o1 t1) = W) : Sep [] w W [.blk w.heap.size t1 o1] := h ▸ (Sep.start w).alloc t1 o1 w.heap.size rfl
theorem Sep.e2 {w W : World} {o1 o2 : Array Value} {t1 t2 : TypeId} (h : (w.alloc (.cells o1 t1)).alloc (.cells o2 t2) = W) : Sep [] w W [.blk (w.heap.size + 1) t2 o2, .blk w.heap.size t1 o1] := h ▸ Sep.enter2 w
theorem Sep.e3 {w W : World} {o1 o2 o3 : Array Value} {t1 t2 t3 : TypeId} (h : ((w.alloc (.cells o1 t1)).alloc (.cells o2 t2)).alloc (.cells o3 t3) = W) : Sep [] w W [.blk (w.heap.size + 2) t3 o3, .blk (w.heap.size + 1) t2 o2, .blk w.heap.size t1 o1] := h ▸ Sep.enter3 w
theorem Sep.e4 {w W : World} {o1 o2 o3 o4 : Array Value} {t1 t2 t3 t4 : TypeId} (h : (((w.alloc (.cells o1 t1)).alloc (.cells o2 t2)).alloc (.cells o3 t3)).alloc (.cells o4 t4) = W) : Sep [] w W [.blk (w.heap.size + 3) t4 o4, .blk (w.heap.size + 2) t3 o3, .blk (w.heap.size + 1) t2 o2, .blk w.heap.size t1 o1] := h ▸ Sep.enter4 w
theorem Sep.e5 {w W : World} {o1 o2 o3 o4 o5 : Array Value} {t1 t2 t3 t4 t5 : TypeId} (h : ((((w.alloc (.cells o1 t1)).alloc (.cells o2 t2)).alloc (.cells o3 t3)).alloc (.cells o4 t4)).alloc (.cells o5 t5) = W) : Sep [] w W [.blk (w.heap.size + 4) t5 o5, .blk (w.heap.size + 3) t4 o4, .blk (w.heap.size + 2) t3 o3, .blk (w.heap.size + 1) t2 o2, .blk w.heap.size t1 o1] := h ▸ Sep.enter5 w
end Go.Proofs.YtfkdfkoigojciaaGreatDoor
