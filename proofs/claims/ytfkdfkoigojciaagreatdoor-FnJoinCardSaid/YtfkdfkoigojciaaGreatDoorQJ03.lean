/- What a call that writes into rows of the caller's leaves as it was: all blocks but those between two marks. No condition. -/
import Derived.Test.YtfkdfkoigojciaaGreatDoorQJ02
import Derived.Test.YtfkdfkoigojciaaGreatDoorQJ01

namespace Go.Proofs.YtfkdfkoigojciaaGreatDoor
open Go.RowKit
set_option linter.unusedVariables false
def ownM (s o : Int) (x : Bool) : Bool := if s = 2 then x else o == -1
def parkM (s wt : Int) : Bool := (s == 3) == (wt != 0)
def knd (b d e wt : Int) : Int := if wt = 1 then b else if wt = 2 then d else if wt = 3 then e else 1
set_option maxHeartbeats 1000000 in
theorem l2Kinds_any (a b c d e wt : Int) (w : World) :
 Calls Tryz.prog 179 #[.agg #[.int .i64 a, .int .i64 b, .int .i64 c, .int .i64 d, .int .i64 e], .int .i64 wt] w fun r w' => r = .returned (.int .i64 (knd b d e wt)) ∧ Below w.heap.size w w' := by
 go_enter Tryz.func179, Tryz.ntmps179
 go_wp2_with fail
 all_goals go_ret
 all_goals refine ⟨?_, (Below.refl _ _).alloc (Nat.le_refl _) _⟩
 all_goals simp_all [knd]
set_option maxHeartbeats 1000000 in
theorem l1Value_any (v : Int) (w : World) :
 Calls Tryz.prog 79 #[.int .i64 v] w fun r w' => r = .returned (.bool (btw v 0 9999)) ∧ w = w' := by
 go_enter Tryz.func79, Tryz.ntmps79
 go_wp2_with fail
 go_call (l1In_any _ _ _ _) as r w1 ⟨rfl, rfl⟩
 go_wp2_with fail
 go_ret
 exact ⟨rfl, rfl⟩
theorem park_eq (s wt : Int) : parkM s wt = (decide (s = 3) == decide (wt ≠ 0)) := by
 unfold parkM
 rw [show (s == 3) = decide (s = 3) by by_cases h : s = 3 <;> simp [h], show (wt != 0) = decide (wt ≠ 0) by by_cases k : wt = 0 <;> simp [k]]
/-- The same Bool, in the model's order. -/
theorem taskB_model (a b c d e s l o wt on v t : Int) : taskB a b c d e s l o wt on v t =
 (planB a b c d e && (btw s 1 5 && (levelB a b c d e l && (btw v 0 9999 && (btw t 0 1000000 && (ownM s o (workB a b c d e o) && (btw wt 0 3 && (parkM s wt && btw on 0 (knd b d e wt - 1))))))))) := by
 rw [park_eq]
 unfold taskB ownB waitB levelB workB ownM
 cases hp : planB a b c d e
 ·simp
 ·have hk : btw on 0 0 = (on == 0) := by rw [Bool.eq_iff_iff]; simp [btw]; omega
  by_cases h2 : s = 2
  ·subst h2
   by_cases hw : wt = 0
   ·subst hw
    simp [knd, hk]
    cases btw l 0 (c - 1) <;> cases btw o 0 (a - 1) <;> cases on == 0 <;> cases btw v 0 9999 <;> cases btw t 0 1000000 <;> simp [btw]
   ·simp [hw]
  ·by_cases h3 : s = 3
   ·subst h3
    have hw : (btw wt 0 3 && (decide (wt ≠ 0) && btw on 0 (knd b d e wt - 1))) = btw on 0 (cnt b d e wt - 1) := by
     by_cases w0 : wt = 0
     ·subst w0; simp [cnt, btw]; omega
     ·by_cases w1 : wt = 1
      ·subst w1; simp [cnt, knd, btw]
      ·by_cases w2 : wt = 2
       ·subst w2; simp [cnt, knd, btw]
       ·by_cases w3 : wt = 3
        ·subst w3; simp [cnt, knd, btw]
        ·rw [Bool.eq_iff_iff]; simp [cnt, btw, w0, w1, w2, w3]; omega
    rw [← hw]
    simp
    cases btw l 0 (c - 1) <;> cases o == -1 <;> cases btw wt 0 3 <;> cases btw v 0 9999 <;> cases btw t 0 1000000 <;> cases btw on 0 (knd b d e wt - 1) <;> simp
   ·by_cases hw : wt = 0
    ·subst hw
     simp [h2, h3, knd, hk]
     cases btw s 1 5 <;> cases btw l 0 (c - 1) <;> cases o == -1 <;> cases on == 0 <;> cases btw v 0 9999 <;> cases btw t 0 1000000 <;> simp [btw]
    ·simp [hw, h2, h3]
set_option maxRecDepth 100000 in
set_option maxHeartbeats 4000000 in
theorem sTaskOk_any (a b c d e s l o wt on v t : Int) (w : World) :
 Calls Tryz.prog 142 #[.agg #[.int .i64 a, .int .i64 b, .int .i64 c, .int .i64 d, .int .i64 e], .agg #[.int .i64 s, .int .i64 l, .int .i64 o, .int .i64 wt, .int .i64 on, .int .i64 v, .int .i64 t]] w fun r w' => r = .returned (.bool (taskB a b c d e s l o wt on v t)) ∧ Below w.heap.size w w' := by
 rw [taskB_model]
 have hkn : planB a b c d e = true → 0 ≤ knd b d e wt ∧ knd b d e wt ≤ 30 := fun h => by
  have := planB_all h
  unfold knd; split <;> (try split) <;> (try split) <;> omega
 have hc0 : Hid (∀ w, Calls Tryz.prog 77 #[.agg #[.int .i64 a, .int .i64 b, .int .i64 c, .int .i64 d, .int .i64 e]] w fun r w' => r = .returned (.bool (planB a b c d e)) ∧ Below w.heap.size w w') := hide (fun w => sPlanOk_any a b c d e w)
 have hc1 : Hid (∀ w, Calls Tryz.prog 78 #[.int .i64 s, .int .i64 1, .int .i64 5] w fun r w' => r = .returned (.bool (btw s 1 5)) ∧ w = w') := hide (fun w => l1In_any s 1 5 w)
 have hc2 : Hid (∀ w, Calls Tryz.prog 52 #[.agg #[.int .i64 a, .int .i64 b, .int .i64 c, .int .i64 d, .int .i64 e], .int .i64 l] w fun r w' => r = .returned (.bool (levelB a b c d e l)) ∧ Below w.heap.size w w') := hide (fun w => sLevelIn_any a b c d e l w)
 have hc3 : Hid (∀ w, Calls Tryz.prog 79 #[.int .i64 v] w fun r w' => r = .returned (.bool (btw v 0 9999)) ∧ w = w') := hide (fun w => l1Value_any v w)
 have hc4 : Hid (∀ w, Calls Tryz.prog 78 #[.int .i64 t, .int .i64 0, .int .i64 1000000] w fun r w' => r = .returned (.bool (btw t 0 1000000)) ∧ w = w') := hide (fun w => l1In_any t 0 1000000 w)
 have hc5 : Hid (∀ w, Calls Tryz.prog 116 #[.agg #[.int .i64 a, .int .i64 b, .int .i64 c, .int .i64 d, .int .i64 e], .int .i64 o] w fun r w' => r = .returned (.bool (workB a b c d e o)) ∧ Below w.heap.size w w') := hide (fun w => sWorkerIn_any a b c d e o w)
 have hc6 : Hid (∀ w, Calls Tryz.prog 78 #[.int .i64 wt, .int .i64 0, .int .i64 3] w fun r w' => r = .returned (.bool (btw wt 0 3)) ∧ w = w') := hide (fun w => l1In_any wt 0 3 w)
 have hc7 : Hid (∀ w, Calls Tryz.prog 179 #[.agg #[.int .i64 a, .int .i64 b, .int .i64 c, .int .i64 d, .int .i64 e], .int .i64 wt] w fun r w' => r = .returned (.int .i64 (knd b d e wt)) ∧ Below w.heap.size w w') := hide (fun w => l2Kinds_any a b c d e wt w)
 generalize planB a b c d e = x0 at hc0 hkn ⊢
 generalize btw s 1 5 = x1 at hc1 ⊢
 generalize levelB a b c d e l = x2 at hc2 ⊢
 generalize btw v 0 9999 = x3 at hc3 ⊢
 generalize btw t 0 1000000 = x4 at hc4 ⊢
 generalize workB a b c d e o = x5 at hc5 ⊢
 generalize btw wt 0 3 = x6 at hc6 ⊢
 generalize knd b d e wt = kn at hc7 hkn ⊢
 go_enter Tryz.func142, Tryz.ntmps142
 go_wp2_with fail
 have kb0 := Blk.new w 28 #[.int .i64 a, .int .i64 b, .int .i64 c, .int .i64 d, .int .i64 e]
 have hz0 : (w.alloc (.cells #[.int .i64 a, .int .i64 b, .int .i64 c, .int .i64 d, .int .i64 e] 28)).heap.size = w.heap.size + 1 := by simp
 have kb1 := Blk.new (w.alloc (.cells #[.int .i64 a, .int .i64 b, .int .i64 c, .int .i64 d, .int .i64 e] 28)) 45 #[.int .i64 s, .int .i64 l, .int .i64 o, .int .i64 wt, .int .i64 on, .int .i64 v, .int .i64 t]
 have hz1 : ((w.alloc (.cells #[.int .i64 a, .int .i64 b, .int .i64 c, .int .i64 d, .int .i64 e] 28)).alloc (.cells #[.int .i64 s, .int .i64 l, .int .i64 o, .int .i64 wt, .int .i64 on, .int .i64 v, .int .i64 t] 45)).heap.size = w.heap.size + 2 := by simp
 rw [hz0] at kb1
 replace kb0 := kb0.alloc (.cells #[.int .i64 s, .int .i64 l, .int .i64 o, .int .i64 wt, .int .i64 on, .int .i64 v, .int .i64 t] 45)
 have hBel : Below w.heap.size w ((w.alloc (.cells #[.int .i64 a, .int .i64 b, .int .i64 c, .int .i64 d, .int .i64 e] 28)).alloc (.cells #[.int .i64 s, .int .i64 l, .int .i64 o, .int .i64 wt, .int .i64 on, .int .i64 v, .int .i64 t] 45)) := by go_grown
 generalize ((w.alloc (.cells #[.int .i64 a, .int .i64 b, .int .i64 c, .int .i64 d, .int .i64 e] 28)).alloc (.cells #[.int .i64 s, .int .i64 l, .int .i64 o, .int .i64 wt, .int .i64 on, .int .i64 v, .int .i64 t] 45)) = W0 at kb0 kb1 hBel hz1 ⊢
 have c0_0 := KeptW.cell (W0 := W0) (b := w.heap.size) (o := 0) (u := .int .i64 a) (kb0.cell 0)
 have c0_1 := KeptW.cell (W0 := W0) (b := w.heap.size) (o := 1) (u := .int .i64 b) (kb0.cell 1)
 have c0_2 := KeptW.cell (W0 := W0) (b := w.heap.size) (o := 2) (u := .int .i64 c) (kb0.cell 2)
 have c0_3 := KeptW.cell (W0 := W0) (b := w.heap.size) (o := 3) (u := .int .i64 d) (kb0.cell 3)
 have c0_4 := KeptW.cell (W0 := W0) (b := w.heap.size) (o := 4) (u := .int .i64 e) (kb0.cell 4)
 have c1_0 := KeptW.cell (W0 := W0) (b := w.heap.size + 1) (o := 0) (u := .int .i64 s) (kb1.cell 0)
 have c1_1 := KeptW.cell (W0 := W0) (b := w.heap.size + 1) (o := 1) (u := .int .i64 l) (kb1.cell 1)
 have c1_2 := KeptW.cell (W0 := W0) (b := w.heap.size + 1) (o := 2) (u := .int .i64 o) (kb1.cell 2)
 have c1_3 := KeptW.cell (W0 := W0) (b := w.heap.size + 1) (o := 3) (u := .int .i64 wt) (kb1.cell 3)
 have c1_4 := KeptW.cell (W0 := W0) (b := w.heap.size + 1) (o := 4) (u := .int .i64 on) (kb1.cell 4)
 have c1_5 := KeptW.cell (W0 := W0) (b := w.heap.size + 1) (o := 5) (u := .int .i64 v) (kb1.cell 5)
 have c1_6 := KeptW.cell (W0 := W0) (b := w.heap.size + 1) (o := 6) (u := .int .i64 t) (kb1.cell 6)
 have H := hide (⟨hBel, by omega⟩ : Below w.heap.size w W0 ∧ w.heap.size ≤ W0.heap.size)
 clear hBel hz0 kb0 hz1 kb1
 have hx0 := KeptW.mk'_w (Below.refl W0.heap.size W0)
 generalize KeptW.mk' (Below.refl W0.heap.size W0) = x at hx0
 rw [← hx0]
 clear hx0
 cases x0
 ·go_wp2_with (first | (go_at_call 77; with_reducible refine Calls.mono (kept_call (hc0.out _)) ?_; rintro _ _ ⟨rfl, x, rfl⟩) | (go_at_call 78; with_reducible refine Calls.mono (kept_same (hc1.out _)) ?_; rintro _ _ ⟨rfl, x, rfl⟩) | (go_at_call 52; with_reducible refine Calls.mono (kept_call (hc2.out _)) ?_; rintro _ _ ⟨rfl, x, rfl⟩) | (go_at_call 79; with_reducible refine Calls.mono (kept_same (hc3.out _)) ?_; rintro _ _ ⟨rfl, x, rfl⟩) | (go_at_call 78; with_reducible refine Calls.mono (kept_same (hc4.out _)) ?_; rintro _ _ ⟨rfl, x, rfl⟩) | (go_at_call 116; with_reducible refine Calls.mono (kept_call (hc5.out _)) ?_; rintro _ _ ⟨rfl, x, rfl⟩) | (go_at_call 78; with_reducible refine Calls.mono (kept_same (hc6.out _)) ?_; rintro _ _ ⟨rfl, x, rfl⟩) | (go_at_call 179; with_reducible refine Calls.mono (kept_call (hc7.out _)) ?_; rintro _ _ ⟨rfl, x, rfl⟩) | (go_at_call 78; with_reducible refine Calls.mono (kept_same (l1In_any on 0 (kn - 1) _)) ?_; rintro _ _ ⟨rfl, x, rfl⟩))
  go_ret
  exact ⟨rfl, H.out.1.trans (x.below.mono H.out.2)⟩
 cases x1
 ·go_wp2_with (first | (go_at_call 77; with_reducible refine Calls.mono (kept_call (hc0.out _)) ?_; rintro _ _ ⟨rfl, x, rfl⟩) | (go_at_call 78; with_reducible refine Calls.mono (kept_same (hc1.out _)) ?_; rintro _ _ ⟨rfl, x, rfl⟩) | (go_at_call 52; with_reducible refine Calls.mono (kept_call (hc2.out _)) ?_; rintro _ _ ⟨rfl, x, rfl⟩) | (go_at_call 79; with_reducible refine Calls.mono (kept_same (hc3.out _)) ?_; rintro _ _ ⟨rfl, x, rfl⟩) | (go_at_call 78; with_reducible refine Calls.mono (kept_same (hc4.out _)) ?_; rintro _ _ ⟨rfl, x, rfl⟩) | (go_at_call 116; with_reducible refine Calls.mono (kept_call (hc5.out _)) ?_; rintro _ _ ⟨rfl, x, rfl⟩) | (go_at_call 78; with_reducible refine Calls.mono (kept_same (hc6.out _)) ?_; rintro _ _ ⟨rfl, x, rfl⟩) | (go_at_call 179; with_reducible refine Calls.mono (kept_call (hc7.out _)) ?_; rintro _ _ ⟨rfl, x, rfl⟩) | (go_at_call 78; with_reducible refine Calls.mono (kept_same (l1In_any on 0 (kn - 1) _)) ?_; rintro _ _ ⟨rfl, x, rfl⟩))
  go_ret
  exact ⟨rfl, H.out.1.trans (x.below.mono H.out.2)⟩
 cases x2
 ·go_wp2_with (first | (go_at_call 77; with_reducible refine Calls.mono (kept_call (hc0.out _)) ?_; rintro _ _ ⟨rfl, x, rfl⟩) | (go_at_call 78; with_reducible refine Calls.mono (kept_same (hc1.out _)) ?_; rintro _ _ ⟨rfl, x, rfl⟩) | (go_at_call 52; with_reducible refine Calls.mono (kept_call (hc2.out _)) ?_; rintro _ _ ⟨rfl, x, rfl⟩) | (go_at_call 79; with_reducible refine Calls.mono (kept_same (hc3.out _)) ?_; rintro _ _ ⟨rfl, x, rfl⟩) | (go_at_call 78; with_reducible refine Calls.mono (kept_same (hc4.out _)) ?_; rintro _ _ ⟨rfl, x, rfl⟩) | (go_at_call 116; with_reducible refine Calls.mono (kept_call (hc5.out _)) ?_; rintro _ _ ⟨rfl, x, rfl⟩) | (go_at_call 78; with_reducible refine Calls.mono (kept_same (hc6.out _)) ?_; rintro _ _ ⟨rfl, x, rfl⟩) | (go_at_call 179; with_reducible refine Calls.mono (kept_call (hc7.out _)) ?_; rintro _ _ ⟨rfl, x, rfl⟩) | (go_at_call 78; with_reducible refine Calls.mono (kept_same (l1In_any on 0 (kn - 1) _)) ?_; rintro _ _ ⟨rfl, x, rfl⟩))
  go_ret
  exact ⟨rfl, H.out.1.trans (x.below.mono H.out.2)⟩
 cases x3
 ·go_wp2_with (first | (go_at_call 77; with_reducible refine Calls.mono (kept_call (hc0.out _)) ?_; rintro _ _ ⟨rfl, x, rfl⟩) | (go_at_call 78; with_reducible refine Calls.mono (kept_same (hc1.out _)) ?_; rintro _ _ ⟨rfl, x, rfl⟩) | (go_at_call 52; with_reducible refine Calls.mono (kept_call (hc2.out _)) ?_; rintro _ _ ⟨rfl, x, rfl⟩) | (go_at_call 79; with_reducible refine Calls.mono (kept_same (hc3.out _)) ?_; rintro _ _ ⟨rfl, x, rfl⟩) | (go_at_call 78; with_reducible refine Calls.mono (kept_same (hc4.out _)) ?_; rintro _ _ ⟨rfl, x, rfl⟩) | (go_at_call 116; with_reducible refine Calls.mono (kept_call (hc5.out _)) ?_; rintro _ _ ⟨rfl, x, rfl⟩) | (go_at_call 78; with_reducible refine Calls.mono (kept_same (hc6.out _)) ?_; rintro _ _ ⟨rfl, x, rfl⟩) | (go_at_call 179; with_reducible refine Calls.mono (kept_call (hc7.out _)) ?_; rintro _ _ ⟨rfl, x, rfl⟩) | (go_at_call 78; with_reducible refine Calls.mono (kept_same (l1In_any on 0 (kn - 1) _)) ?_; rintro _ _ ⟨rfl, x, rfl⟩))
  go_ret
  exact ⟨rfl, H.out.1.trans (x.below.mono H.out.2)⟩
 cases x4
 ·go_wp2_with (first | (go_at_call 77; with_reducible refine Calls.mono (kept_call (hc0.out _)) ?_; rintro _ _ ⟨rfl, x, rfl⟩) | (go_at_call 78; with_reducible refine Calls.mono (kept_same (hc1.out _)) ?_; rintro _ _ ⟨rfl, x, rfl⟩) | (go_at_call 52; with_reducible refine Calls.mono (kept_call (hc2.out _)) ?_; rintro _ _ ⟨rfl, x, rfl⟩) | (go_at_call 79; with_reducible refine Calls.mono (kept_same (hc3.out _)) ?_; rintro _ _ ⟨rfl, x, rfl⟩) | (go_at_call 78; with_reducible refine Calls.mono (kept_same (hc4.out _)) ?_; rintro _ _ ⟨rfl, x, rfl⟩) | (go_at_call 116; with_reducible refine Calls.mono (kept_call (hc5.out _)) ?_; rintro _ _ ⟨rfl, x, rfl⟩) | (go_at_call 78; with_reducible refine Calls.mono (kept_same (hc6.out _)) ?_; rintro _ _ ⟨rfl, x, rfl⟩) | (go_at_call 179; with_reducible refine Calls.mono (kept_call (hc7.out _)) ?_; rintro _ _ ⟨rfl, x, rfl⟩) | (go_at_call 78; with_reducible refine Calls.mono (kept_same (l1In_any on 0 (kn - 1) _)) ?_; rintro _ _ ⟨rfl, x, rfl⟩))
  go_ret
  exact ⟨rfl, H.out.1.trans (x.below.mono H.out.2)⟩
 have hk1 := (hkn rfl).1
 have hk2 := (hkn rfl).2
 clear hkn
 go_wp2_with (first | (go_at_call 77; with_reducible refine Calls.mono (kept_call (hc0.out _)) ?_; rintro _ _ ⟨rfl, x, rfl⟩) | (go_at_call 78; with_reducible refine Calls.mono (kept_same (hc1.out _)) ?_; rintro _ _ ⟨rfl, x, rfl⟩) | (go_at_call 52; with_reducible refine Calls.mono (kept_call (hc2.out _)) ?_; rintro _ _ ⟨rfl, x, rfl⟩) | (go_at_call 79; with_reducible refine Calls.mono (kept_same (hc3.out _)) ?_; rintro _ _ ⟨rfl, x, rfl⟩) | (go_at_call 78; with_reducible refine Calls.mono (kept_same (hc4.out _)) ?_; rintro _ _ ⟨rfl, x, rfl⟩) | (go_at_call 116; with_reducible refine Calls.mono (kept_call (hc5.out _)) ?_; rintro _ _ ⟨rfl, x, rfl⟩) | (go_at_call 78; with_reducible refine Calls.mono (kept_same (hc6.out _)) ?_; rintro _ _ ⟨rfl, x, rfl⟩) | (go_at_call 179; with_reducible refine Calls.mono (kept_call (hc7.out _)) ?_; rintro _ _ ⟨rfl, x, rfl⟩) | (go_at_call 78; with_reducible refine Calls.mono (kept_same (l1In_any on 0 (kn - 1) _)) ?_; rintro _ _ ⟨rfl, x, rfl⟩))
 all_goals first
  | (go_ret
     refine ⟨ret_bool ?_, H.out.1.trans (x.below.mono H.out.2)⟩
     clear c0_0 c0_1 c0_2 c0_3 c0_4 c1_0 c1_1 c1_2 c1_3 c1_4 c1_5 c1_6 hc0 hc1 hc2 hc3 hc4 hc5 hc6 hc7
     simp_all [ownM, parkM]; done)
  | (refine region_kept (by kernel_rfl) (by kernel_rfl) ?_
     repeat (go_big_quiet_step (first | (go_at_call 77; with_reducible exact (kept_call (hc0.out _))) | (go_at_call 78; with_reducible exact (kept_same (hc1.out _))) | (go_at_call 52; with_reducible exact (kept_call (hc2.out _))) | (go_at_call 79; with_reducible exact (kept_same (hc3.out _))) | (go_at_call 78; with_reducible exact (kept_same (hc4.out _))) | (go_at_call 116; with_reducible exact (kept_call (hc5.out _))) | (go_at_call 78; with_reducible exact (kept_same (hc6.out _))) | (go_at_call 179; with_reducible exact (kept_call (hc7.out _))) | (go_at_call 78; with_reducible exact (kept_same (l1In_any on 0 (kn - 1) _)))))
     refine wpQuiet_nil ?_
     rintro _ ⟨x, rfl⟩
     go_wp2
     go_ret
     refine ⟨ret_bool ?_, H.out.1.trans (x.below.mono H.out.2)⟩
     clear c0_0 c0_1 c0_2 c0_3 c0_4 c1_0 c1_1 c1_2 c1_3 c1_4 c1_5 c1_6 hc0 hc1 hc2 hc3 hc4 hc5 hc6 hc7
     simp_all [ownM, parkM]; done)
set_option maxHeartbeats 1000000 in
theorem sIsOpen_any (s l o wt on v t : Int) (w : World) :
 Calls Tryz.prog 72 #[.agg #[.int .i64 s, .int .i64 l, .int .i64 o, .int .i64 wt, .int .i64 on, .int .i64 v, .int .i64 t]] w fun r w' => r = .returned (.bool (openB s)) ∧ Below w.heap.size w w' := by
 go_enter Tryz.func72, Tryz.ntmps72
 go_wp2_with fail
 go_call (l1In_any _ _ _ _) as r w1 ⟨rfl, rfl⟩
 go_wp2_with fail
 go_ret
 exact ⟨rfl, by go_grown⟩
set_option maxHeartbeats 1000000 in
theorem sNewTask_any (lv tn : Int) (w : World) :
 Calls Tryz.prog 55 #[.int .i64 lv, .int .i64 tn] w fun r w' => r = .returned (.agg #[.int .i64 1, .int .i64 lv, .int .i64 (-1), .int .i64 0, .int .i64 0, .int .i64 0, .int .i64 tn]) ∧ Below w.heap.size w w' := by
 go_enter Tryz.func55, Tryz.ntmps55
 go_wp2
 exact bodyPost_ret (v := .agg #[.int .i64 1, .int .i64 lv, .int .i64 (-1), .int .i64 0, .int .i64 0, .int .i64 0, .int .i64 tn]) (by simp [results, Tryz.results55, go_sem]) rfl ⟨rfl, by go_grown⟩
/-- A pool whose lists are rows of the call's own, between two marks. -/
def OwnPool (w : World) (lo hi : Nat) (ts : List T7) (ks : List Int) (fs : List F2) (A0 A1 A2 : Option Addr) (c0 c1 c2 : Nat) : Prop :=
 OwnR w lo hi 45 7 (.slice A0 ts.length c0) ts.length (tcells ts) ∧ OwnR w lo hi 2 1 (.slice A1 ks.length c1) ks.length (icells ks) ∧ OwnR w lo hi 103 2 (.slice A2 fs.length c2) fs.length (fcells fs)
/-- A pool that can be read. -/
def InPool (w : World) (ts : List T7) (ks : List Int) (fs : List F2) (A0 A1 A2 : Option Addr) : Prop := Row w A0 (tcells ts) ∧ Row w A1 (icells ks) ∧ Row w A2 (fcells fs)
section
variable {w w' : World} {lo hi : Nat} {ts : List T7} {ks : List Int} {fs : List F2} {A0 A1 A2 : Option Addr} {c0 c1 c2 : Nat}
theorem OwnPool.reads (h : OwnPool w lo hi ts ks fs A0 A1 A2 c0 c1 c2) : InPool w ts ks fs A0 A1 A2 := ⟨h.1.row, h.2.1.row, h.2.2.row⟩
theorem OwnPool.below (h : OwnPool w lo hi ts ks fs A0 A1 A2 c0 c1 c2) (hb : Below w.heap.size w w') : OwnPool w' lo hi ts ks fs A0 A1 A2 c0 c1 c2 := ⟨h.1.below hb, h.2.1.below hb, h.2.2.below hb⟩
theorem OwnPool.alloc (h : OwnPool w lo hi ts ks fs A0 A1 A2 c0 c1 c2) (o : Obj) : OwnPool (w.alloc o) lo hi ts ks fs A0 A1 A2 c0 c1 c2 := ⟨h.1.alloc o, h.2.1.alloc o, h.2.2.alloc o⟩
theorem OwnPool.wide {l2 h2 : Nat} (h : OwnPool w lo hi ts ks fs A0 A1 A2 c0 c1 c2) (hl : l2 ≤ lo) (hh : hi ≤ h2) : OwnPool w l2 h2 ts ks fs A0 A1 A2 c0 c1 c2 := ⟨h.1.wide hl hh, h.2.1.wide hl hh, h.2.2.wide hl hh⟩
theorem OwnPool.store (h : OwnPool w lo hi ts ks fs A0 A1 A2 c0 c1 c2) {p : Addr} (hp : p.block < lo ∨ hi ≤ p.block) (u : Value) : OwnPool (w.setCell p u) lo hi ts ks fs A0 A1 A2 c0 c1 c2 := ⟨h.1.store hp u, h.2.1.store hp u, h.2.2.store hp u⟩
theorem InPool.below (h : InPool w ts ks fs A0 A1 A2) (hb : Below w.heap.size w w') : InPool w' ts ks fs A0 A1 A2 := ⟨Row.below h.1 hb, Row.below h.2.1 hb, Row.below h.2.2 hb⟩
end
/-- What a function that makes a pool leaves. -/
def MadePool (w : World) (ts : List T7) (ks : List Int) (fs : List F2) (tn : Int) (st : Bool) (r : Ending) (w' : World) : Prop :=
 ∃ (A0 A1 A2 : Option Addr) (c0 c1 c2 : Nat), r = .returned (.agg #[.slice A0 ts.length c0, .slice A1 ks.length c1, .slice A2 fs.length c2, .int .i64 tn, .bool st]) ∧ OwnPool w' w.heap.size w'.heap.size ts ks fs A0 A1 A2 c0 c1 c2 ∧ Below w.heap.size w w'
/-- Two rows of elements of different types are two blocks. -/
theorem own_ne_own {w : World} {b1 b2 : Nat} {e1 e2 : TypeId} {s1 s2 n1 n2 : Nat} {v1 v2 : Value} {x1 x2 : List Value} (h1 : w.ownsRow b1 e1 s1 v1 n1 x1) (h2 : w.ownsRow b2 e2 s2 v2 n2 x2) (hne : e1 ≠ e2) : v1.ownBlock = none ∨ v1.ownBlock ≠ v2.ownBlock := by
 rcases h1.2 with ⟨rfl, _⟩ | ⟨g1, c1, u1, rfl, _, k1, _⟩
 ·exact .inl rfl
 ·rcases h2.2 with ⟨rfl, _⟩ | ⟨g2, c2, u2, rfl, _, k2, _⟩
  ·exact .inr (by simp [Value.ownBlock])
  ·refine .inr fun e => ?_
   have e' : g1 = g2 := by simpa [Value.ownBlock] using e
   subst e'
   exact Blk.ne_ (t := e1) (t' := e2) k1 k2 hne rfl
theorem OwnR.grown {w w' : World} {lo hi : Nat} {e : TypeId} {size n : Nat} {v : Value} {xs : List Value} {row : Option Nat} (h : OwnR w lo hi e size v n xs) (hg : w.grownBy w' row) (hne : v.ownBlock = none ∨ v.ownBlock ≠ row) : OwnR w' lo hi e size v n xs := ⟨h.1.kept hg hne, h.2⟩
/-- All blocks but those between two marks are as they were. -/
def Within (lo hi : Nat) (w w' : World) : Prop := w'.os = w.os ∧ w'.tape = w.tape ∧ w'.output = w.output ∧ w.heap.size ≤ w'.heap.size ∧ ∀ b, b < w.heap.size → (b < lo ∨ hi ≤ b) → w'.heap[b]? = w.heap[b]?
section
variable {lo hi B : Nat} {w w' w2 : World}
theorem Within.refl (lo hi : Nat) (w : World) : Within lo hi w w := ⟨rfl, rfl, rfl, Nat.le_refl _, fun _ _ _ => rfl⟩
theorem Within.size (h : Within lo hi w w') : w.heap.size ≤ w'.heap.size := h.2.2.2.1
theorem Within.alloc (h : Within lo hi w w') (_ : w.heap.size ≤ w'.heap.size) (o : Obj) : Within lo hi w (w'.alloc o) :=
 ⟨h.1, h.2.1, h.2.2.1, Nat.le_trans h.2.2.2.1 (by simp), fun b hb ho => (Below.heap_alloc w' o b (Nat.lt_of_lt_of_le hb h.2.2.2.1)).trans (h.2.2.2.2 b hb ho)⟩
theorem Within.setNew (h : Within lo hi w w') {p : Addr} (hp : w.heap.size ≤ p.block) (v : Value) : Within lo hi w (w'.setCell p v) :=
 ⟨h.1, h.2.1, h.2.2.1, by simpa [World.setCell] using h.2.2.2.1, fun b hb ho => (Below.heap_setCell w' p v b (by intro e; subst e; omega)).trans (h.2.2.2.2 b hb ho)⟩
theorem Within.setIn (h : Within lo hi w w') {p : Addr} (hp : lo ≤ p.block ∧ p.block < hi) (v : Value) : Within lo hi w (w'.setCell p v) :=
 ⟨h.1, h.2.1, h.2.2.1, by simpa [World.setCell] using h.2.2.2.1, fun b hb ho => (Below.heap_setCell w' p v b (by intro e; subst e; omega)).trans (h.2.2.2.2 b hb ho)⟩
theorem Within.drew (h : Within lo hi w w') : Within lo hi w w'.drew := h
theorem Within.wide {l2 h2 : Nat} (h : Within lo hi w w') (hl : l2 ≤ lo) (hh : hi ≤ h2) : Within l2 h2 w w' := ⟨h.1, h.2.1, h.2.2.1, h.2.2.2.1, fun b hb ho => h.2.2.2.2 b hb (by omega)⟩
theorem Within.trans (h : Within lo hi w w') (k : Within lo hi w' w2) : Within lo hi w w2 :=
 ⟨k.1.trans h.1, k.2.1.trans h.2.1, k.2.2.1.trans h.2.2.1, Nat.le_trans h.2.2.2.1 k.2.2.2.1, fun b hb ho => (k.2.2.2.2 b (Nat.lt_of_lt_of_le hb h.2.2.2.1) ho).trans (h.2.2.2.2 b hb ho)⟩
theorem Within.of_below (h : Below w.heap.size w w') : Within lo hi w w' := ⟨h.os, h.tape, h.output, h.size, fun b hb _ => h.block b hb⟩
theorem Within.blk {g : Nat} {t : TypeId} {cs : Array Value} (h : Within lo hi w w') (hk : Blk w g t cs) (hg : g < lo ∨ hi ≤ g) : Blk w' g t cs := (h.2.2.2.2 g hk.lt hg).trans hk
theorem Within.under {a : World} (h : Within lo hi w w') (hb : Below B a w) (hB : B ≤ lo) (hw : B ≤ w.heap.size) : Below B a w' :=
 ⟨h.1.trans hb.os, h.2.1.trans hb.tape, h.2.2.1.trans hb.output, Nat.le_trans hb.size h.2.2.2.1, fun i hi => (h.2.2.2.2 i (by omega) (.inl (by omega))).trans (hb.block i hi)⟩
theorem Within.own {l2 h2 : Nat} {e : TypeId} {size n : Nat} {v : Value} {xs : List Value} (h : Within lo hi w w') (k : OwnR w l2 h2 e size v n xs) (hd : h2 ≤ lo ∨ hi ≤ l2) : OwnR w' l2 h2 e size v n xs := by
 refine ⟨⟨k.1.1, ?_⟩, k.2⟩
 rcases k.1.2 with k2 | ⟨g, cap, cur, hv, hb, hg, hr⟩
 ·exact .inl k2
 ·have hlt : g < w.heap.size := Blk.lt (t := e) (cs := cur) hg
  have hhi := k.2 g (by rw [hv]; rfl)
  exact .inr ⟨g, cap, cur, hv, hb, (h.2.2.2.2 g hlt (by omega)).trans hg, hr⟩
end
theorem Within.pool {lo hi l2 h2 : Nat} {w w' : World} {ts : List T7} {ks : List Int} {fs : List F2} {A0 A1 A2 : Option Addr} {c0 c1 c2 : Nat} (h : Within lo hi w w') (k : OwnPool w l2 h2 ts ks fs A0 A1 A2 c0 c1 c2) (hd : h2 ≤ lo ∨ hi ≤ l2) : OwnPool w' l2 h2 ts ks fs A0 A1 A2 c0 c1 c2 := ⟨h.own k.1 hd, h.own k.2.1 hd, h.own k.2.2 hd⟩
end Go.Proofs.YtfkdfkoigojciaaGreatDoor
