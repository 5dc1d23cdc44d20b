import Derived.Test.YtfkdfkoigojciaaGreatDoorQU01
import Derived.WalkKit
import Derived.WalkSpells
import Derived.WalkLawsBesides
import Derived.Handy
import Derived.Deep.Quiet
import Derived.Deep.QuietTactic
import Derived.BigQuiet

namespace Go.Proofs.YtfkdfkoigojciaaGreatDoor
open Go.RowKit
set_option linter.unusedVariables false
set_option maxHeartbeats 1000000
def btw (n l h : Int) : Bool := decide (l ≤ n) && decide (n ≤ h)
theorem btw_t {n l h : Int} (a : l ≤ n) (b : n ≤ h) : btw n l h = true := by simp [btw, a, b]
theorem btw_f1 {n l h : Int} (a : ¬ l ≤ n) : btw n l h = false := by simp [btw, a]
theorem btw_f2 {n l h : Int} (b : ¬ n ≤ h) : btw n l h = false := by simp [btw, b]
theorem ret_bool {a b : Bool} (h : a = b) : Ending.returned (.bool a) = .returned (.bool b) := by rw [h]
theorem between_any (n l h : Int) (w : World) :
 Calls Tryz.prog 119 #[.int .i64 n, .int .i64 l, .int .i64 h] w fun e w' => e = .returned (.bool (btw n l h)) ∧ w = w' := by
 by_cases a : l ≤ n
 ·by_cases b : n ≤ h
  ·rw [btw_t a b]
   go_enter Tryz.func119, Tryz.ntmps119
   go_wp2
   go_ret
   exact ⟨rfl, rfl⟩
  ·rw [btw_f2 b]
   go_enter Tryz.func119, Tryz.ntmps119
   go_wp2
   go_ret
   exact ⟨rfl, rfl⟩
 ·rw [btw_f1 a]
  go_enter Tryz.func119, Tryz.ntmps119
  go_wp2
  go_ret
  exact ⟨rfl, rfl⟩
theorem l1In_any (n l h : Int) (w : World) :
 Calls Tryz.prog 78 #[.int .i64 n, .int .i64 l, .int .i64 h] w fun e w' => e = .returned (.bool (btw n l h)) ∧ w = w' := by
 by_cases a : l ≤ n
 ·by_cases b : n ≤ h
  ·rw [btw_t a b]
   go_enter Tryz.func78, Tryz.ntmps78
   go_wp2
   go_ret
   exact ⟨rfl, rfl⟩
  ·rw [btw_f2 b]
   go_enter Tryz.func78, Tryz.ntmps78
   go_wp2
   go_ret
   exact ⟨rfl, rfl⟩
 ·rw [btw_f1 a]
  go_enter Tryz.func78, Tryz.ntmps78
  go_wp2
  go_ret
  exact ⟨rfl, rfl⟩
def planB (a b c d e : Int) : Bool := btw a 1 8 && (btw b 1 30 && (btw c 1 4 && (btw d 0 4 && btw e 0 4)))
theorem right_any (a b c d e : Int) (w : World) :
 Calls Tryz.prog 83 #[.agg #[.int .i64 a, .int .i64 b, .int .i64 c, .int .i64 d, .int .i64 e]] w fun r w' => r = .returned (.bool (planB a b c d e)) ∧ Below w.heap.size w w' := by
 go_enter Tryz.func83, Tryz.ntmps83
 go_wp2_with (go_at_call 119; refine (between_any _ _ _ _).mono ?_; rintro e w' ⟨rfl, rfl⟩)
 all_goals go_ret
 all_goals exact ⟨ret_bool (by simp_all [planB]), (Below.refl _ _).alloc (Nat.le_refl _) _⟩
theorem sPlanOk_any (a b c d e : Int) (w : World) :
 Calls Tryz.prog 77 #[.agg #[.int .i64 a, .int .i64 b, .int .i64 c, .int .i64 d, .int .i64 e]] w fun r w' => r = .returned (.bool (planB a b c d e)) ∧ Below w.heap.size w w' := by
 go_enter Tryz.func77, Tryz.ntmps77
 go_wp2_with (go_at_call 78; refine (l1In_any _ _ _ _).mono ?_; rintro e w' ⟨rfl, rfl⟩)
 all_goals go_ret
 all_goals exact ⟨ret_bool (by simp_all [planB]), (Below.refl _ _).alloc (Nat.le_refl _) _⟩
def workB (a b c d e n : Int) : Bool := planB a b c d e && btw n 0 (a - 1)
def levelB (a b c d e n : Int) : Bool := planB a b c d e && btw n 0 (c - 1)
theorem planB_a {a b c d e : Int} (h : planB a b c d e = true) : 1 ≤ a ∧ a ≤ 8 := by
 simp [planB, btw] at h; omega
theorem planB_c {a b c d e : Int} (h : planB a b c d e = true) : 1 ≤ c ∧ c ≤ 4 := by
 simp [planB, btw] at h; omega
theorem sWorkerIn_any (a b c d e n : Int) (w : World) :
 Calls Tryz.prog 116 #[.agg #[.int .i64 a, .int .i64 b, .int .i64 c, .int .i64 d, .int .i64 e], .int .i64 n] w fun r w' => r = .returned (.bool (workB a b c d e n)) ∧ Below w.heap.size w w' := by
 by_cases hp : planB a b c d e = true
 ·have hbd := planB_a hp
  go_enter Tryz.func116, Tryz.ntmps116
  go_wp2_with first | (go_at_call 77; refine (sPlanOk_any _ _ _ _ _ _).mono ?_; rintro r w' ⟨rfl, hb1⟩; obtain ⟨hc, hf⟩ := bcell hb1) | (go_at_call 78; refine (l1In_any _ _ _ _).mono ?_; rintro e w' ⟨rfl, rfl⟩)
  go_ret
  exact ⟨ret_bool (by simp [workB, hp]), ((Below.refl _ _).alloc (Nat.le_refl _) _).trans (hb1.mono (by simp))⟩
 ·have hp' : planB a b c d e = false := by simpa using hp
  clear hp
  go_enter Tryz.func116, Tryz.ntmps116
  go_wp2_with first | (go_at_call 77; refine (sPlanOk_any _ _ _ _ _ _).mono ?_; rintro r w' ⟨rfl, hb1⟩; obtain ⟨hc, hf⟩ := bcell hb1)
  go_ret
  exact ⟨ret_bool (by simp [workB, hp']), ((Below.refl _ _).alloc (Nat.le_refl _) _).trans (hb1.mono (by simp))⟩
theorem sLevelIn_any (a b c d e n : Int) (w : World) :
 Calls Tryz.prog 52 #[.agg #[.int .i64 a, .int .i64 b, .int .i64 c, .int .i64 d, .int .i64 e], .int .i64 n] w fun r w' => r = .returned (.bool (levelB a b c d e n)) ∧ Below w.heap.size w w' := by
 by_cases hp : planB a b c d e = true
 ·have hbd := planB_c hp
  go_enter Tryz.func52, Tryz.ntmps52
  go_wp2_with first | (go_at_call 77; refine (sPlanOk_any _ _ _ _ _ _).mono ?_; rintro r w' ⟨rfl, hb1⟩; obtain ⟨hc, hf⟩ := bcell hb1) | (go_at_call 78; refine (l1In_any _ _ _ _).mono ?_; rintro e w' ⟨rfl, rfl⟩)
  go_ret
  exact ⟨ret_bool (by simp [levelB, hp]), ((Below.refl _ _).alloc (Nat.le_refl _) _).trans (hb1.mono (by simp))⟩
 ·have hp' : planB a b c d e = false := by simpa using hp
  clear hp
  go_enter Tryz.func52, Tryz.ntmps52
  go_wp2_with first | (go_at_call 77; refine (sPlanOk_any _ _ _ _ _ _).mono ?_; rintro r w' ⟨rfl, hb1⟩; obtain ⟨hc, hf⟩ := bcell hb1)
  go_ret
  exact ⟨ret_bool (by simp [levelB, hp']), ((Below.refl _ _).alloc (Nat.le_refl _) _).trans (hb1.mono (by simp))⟩
theorem hasWorker_any (a b c d e n : Int) (w : World) (h1 : 1 ≤ a) (h2 : a ≤ 30) :
 Calls Tryz.prog 133 #[.agg #[.int .i64 a, .int .i64 b, .int .i64 c, .int .i64 d, .int .i64 e], .int .i64 n] w fun r w' => r = .returned (.bool (btw n 0 (a - 1))) ∧ Below w.heap.size w w' := by
 go_enter Tryz.func133, Tryz.ntmps133
 go_wp2_with (go_at_call 119; refine (between_any _ _ _ _).mono ?_; rintro e w' ⟨rfl, rfl⟩)
 go_ret
 exact ⟨rfl, (Below.refl _ _).alloc (Nat.le_refl _) _⟩
theorem hasLevel_any (a b c d e n : Int) (w : World) (h1 : 1 ≤ c) (h2 : c ≤ 30) :
 Calls Tryz.prog 139 #[.agg #[.int .i64 a, .int .i64 b, .int .i64 c, .int .i64 d, .int .i64 e], .int .i64 n] w fun r w' => r = .returned (.bool (btw n 0 (c - 1))) ∧ Below w.heap.size w w' := by
 go_enter Tryz.func139, Tryz.ntmps139
 go_wp2_with (go_at_call 119; refine (between_any _ _ _ _).mono ?_; rintro e w' ⟨rfl, rfl⟩)
 go_ret
 exact ⟨rfl, (Below.refl _ _).alloc (Nat.le_refl _) _⟩
def KeptW (W0 : World) : Type := { w : World // Below W0.heap.size W0 w }
def KeptW.w {W0 : World} (x : KeptW W0) : World := x.1
theorem KeptW.below {W0 : World} (x : KeptW W0) : Below W0.heap.size W0 x.w := x.2
def KeptW.mk' {W0 w : World} (h : Below W0.heap.size W0 w) : KeptW W0 := ⟨w, h⟩
theorem KeptW.mk'_w {W0 w : World} (h : Below W0.heap.size W0 w) : (KeptW.mk' h).w = w := rfl
instance (W0 : World) : Nonempty (KeptW W0) := ⟨KeptW.mk' (Below.refl _ _)⟩
theorem KeptW.cell {W0 : World} {b o : Nat} {u : Value} (h : W0.cell? ⟨b, o, none⟩ = some u) (x : KeptW W0) : x.w.cell? ⟨b, o, none⟩ = some u :=
 (x.below.cell (p := ⟨b, o, none⟩) (World.block_lt_of_cell? W0 _ h)).trans h
theorem kept_call {P : Program} {f : FuncId} {args : Array Value} {W0 : World} {x : KeptW W0} {v : Value}
 (h : Calls P f args x.w fun e w' => e = .returned v ∧ Below x.w.heap.size x.w w') : Calls P f args x.w fun e w'' => e = .returned v ∧ ∃ y : KeptW W0, w'' = y.w :=
 h.mono fun _ _ ⟨he, hb⟩ => ⟨he, KeptW.mk' (x.below.trans (hb.mono x.below.size)), rfl⟩
theorem kept_same {P : Program} {f : FuncId} {args : Array Value} {W0 : World} {x : KeptW W0} {v : Value}
 (h : Calls P f args x.w fun e w' => e = .returned v ∧ x.w = w') : Calls P f args x.w fun e w'' => e = .returned v ∧ ∃ y : KeptW W0, w'' = y.w :=
 h.mono fun _ _ ⟨he, hb⟩ => ⟨he, x, hb.symm⟩
theorem kept_start {R : World → Prop} {W0 : World} (h : ∀ x : KeptW W0, R x.w) : R W0 := h (KeptW.mk' (Below.refl _ _))
theorem region_kept {P : Program} {id : Nat} {Q : Exit → Act → World → Prop} {a : Act} {W0 : World} {x : KeptW W0} {l : List Oper} (hm : P.follows .mixedOrders = true) (hB : Region.lexB .any l.toArray = true)
 (h : wpQuiet P l.toArray (fun w' => ∃ x : KeptW W0, w' = x.w) (fun a' => ∀ w', (∃ x : KeptW W0, w' = x.w) → Q .normal a' w') l a) : (Code.region id l.toArray true).wp P Q a x.w :=
 wp_region_quiet (C := fun w' => ∃ x : KeptW W0, w' = x.w) hm hB ⟨KeptW.mk' x.below.drew, rfl⟩ (by simpa using h)
set_option maxHeartbeats 4000000
def cnt (b d e wt : Int) : Int := if wt = 1 then b else if wt = 2 then d else if wt = 3 then e else 0
def ownB (a s o : Int) : Bool := if s = 2 then btw o 0 (a - 1) else o == -1
def waitB (b d e s wt on : Int) : Bool := if s = 3 then btw on 0 (cnt b d e wt - 1) else (wt == 0 && on == 0)
def taskB (a b c d e s l o wt on v t : Int) : Bool := planB a b c d e && (btw s 1 5 && (btw l 0 (c - 1) && (ownB a s o && (waitB b d e s wt on && (btw v 0 9999 && btw t 0 1000000)))))
def openB (s : Int) : Bool := btw s 1 3
theorem planB_all {a b c d e : Int} (h : planB a b c d e = true) : (1 ≤ a ∧ a ≤ 8) ∧ (1 ≤ b ∧ b ≤ 30) ∧ (1 ≤ c ∧ c ≤ 4) ∧ (0 ≤ d ∧ d ≤ 4) ∧ (0 ≤ e ∧ e ≤ 4) := by
 simp [planB, btw] at h; omega
theorem cnt_in {a b c d e : Int} (h : planB a b c d e = true) (wt : Int) : 0 ≤ cnt b d e wt ∧ cnt b d e wt ≤ 30 := by
 have := planB_all h
 unfold cnt; split <;> (try split) <;> (try split) <;> omega
theorem countFor_any (a b c d e wt : Int) (w : World) :
 Calls Tryz.prog 203 #[.agg #[.int .i64 a, .int .i64 b, .int .i64 c, .int .i64 d, .int .i64 e], .int .i64 wt] w fun r w' => r = .returned (.int .i64 (cnt b d e wt)) ∧ Below w.heap.size w w' := by
 go_enter Tryz.func203, Tryz.ntmps203
 go_wp2_with fail
 all_goals go_ret
 all_goals refine ⟨?_, (Below.refl _ _).alloc (Nat.le_refl _) _⟩
 all_goals simp_all [cnt]
theorem state_any (s l o wt on v t : Int) (w : World) :
 Calls Tryz.prog 171 #[.agg #[.int .i64 s, .int .i64 l, .int .i64 o, .int .i64 wt, .int .i64 on, .int .i64 v, .int .i64 t]] w fun r w' => r = .returned (.int .i64 s) ∧ Below w.heap.size w w' := by
 go_enter Tryz.func171, Tryz.ntmps171
 go_wp2_with fail
 go_ret
 exact ⟨rfl, (Below.refl _ _).alloc (Nat.le_refl _) _⟩
theorem known_any (s : Int) (w : World) :
 Calls Tryz.prog 198 #[.int .i64 s] w fun r w' => r = .returned (.bool (btw s 1 5)) ∧ Below w.heap.size w w' := by
 go_enter Tryz.func198, Tryz.ntmps198
 go_wp2_with fail
 go_call (between_any _ _ _ _) as r w1 ⟨rfl, rfl⟩
 go_wp2_with fail
 go_ret
 exact ⟨rfl, Below.refl _ _⟩
theorem ownerFits_any (a b c d e s o : Int) (w : World) (hp : planB a b c d e = true) :
 Calls Tryz.prog 199 #[.int .i64 s, .agg #[.int .i64 a, .int .i64 b, .int .i64 c, .int .i64 d, .int .i64 e], .int .i64 o] w fun r w' => r = .returned (.bool (ownB a s o)) ∧ Below w.heap.size w w' := by
 have hbd := planB_all hp
 by_cases h2 : s = 2
 ·subst h2
  go_enter Tryz.func199, Tryz.ntmps199
  go_wp2_with fail
  go_call (hasWorker_any a b c d e o _ (by omega) (by omega)) as r w1 ⟨rfl, hb1⟩
  go_wp2_with fail
  go_ret
  exact ⟨rfl, ((Below.refl _ _).alloc (Nat.le_refl _) _).trans (hb1.mono (by simp))⟩
 ·go_enter Tryz.func199, Tryz.ntmps199
  go_wp2_with fail
  go_ret
  exact ⟨ret_bool (by simp [ownB, h2]), (Below.refl _ _).alloc (Nat.le_refl _) _⟩
theorem waitFits_any (a b c d e s wt on : Int) (w : World) (hp : planB a b c d e = true) :
 Calls Tryz.prog 200 #[.int .i64 s, .agg #[.int .i64 a, .int .i64 b, .int .i64 c, .int .i64 d, .int .i64 e], .int .i64 wt, .int .i64 on] w fun r w' => r = .returned (.bool (waitB b d e s wt on)) ∧ Below w.heap.size w w' := by
 have hbd := cnt_in hp wt
 by_cases h2 : s = 3
 ·subst h2
  go_enter Tryz.func200, Tryz.ntmps200
  go_wp2_with fail
  go_call (countFor_any a b c d e wt _) as r w1 ⟨rfl, hb1⟩
  go_wp2_with fail
  go_call (between_any _ _ _ _) as r w2 ⟨rfl, rfl⟩
  go_wp2_with fail
  go_ret
  exact ⟨ret_bool (by simp [waitB]), ((Below.refl _ _).alloc (Nat.le_refl _) _).trans (hb1.mono (by simp))⟩
 ·go_enter Tryz.func200, Tryz.ntmps200
  go_wp2_with fail
  all_goals go_ret
  all_goals exact ⟨ret_bool (by simp_all [waitB]), (Below.refl _ _).alloc (Nat.le_refl _) _⟩
set_option maxRecDepth 100000 in
theorem tright_any (a b c d e s l o wt on v t : Int) (w : World) :
 Calls Tryz.prog 184 #[.agg #[.int .i64 s, .int .i64 l, .int .i64 o, .int .i64 wt, .int .i64 on, .int .i64 v, .int .i64 t], .agg #[.int .i64 a, .int .i64 b, .int .i64 c, .int .i64 d, .int .i64 e]] w fun r w' => r = .returned (.bool (taskB a b c d e s l o wt on v t)) ∧ Below w.heap.size w w' := by
 have hbd : planB a b c d e = true → _ := planB_all
 have hc1 : Hid (∀ w, Calls Tryz.prog 83 #[.agg #[.int .i64 a, .int .i64 b, .int .i64 c, .int .i64 d, .int .i64 e]] w fun r w' => r = .returned (.bool (planB a b c d e)) ∧ Below w.heap.size w w') := hide (fun w => right_any a b c d e w)
 have hc2 : Hid (∀ w, Calls Tryz.prog 198 #[.int .i64 s] w fun r w' => r = .returned (.bool (btw s 1 5)) ∧ Below w.heap.size w w') := hide (fun w => known_any s w)
 have hc3 : Hid (planB a b c d e = true → ∀ w, Calls Tryz.prog 139 #[.agg #[.int .i64 a, .int .i64 b, .int .i64 c, .int .i64 d, .int .i64 e], .int .i64 l] w fun r w' => r = .returned (.bool (btw l 0 (c - 1))) ∧ Below w.heap.size w w') := hide (fun h w => hasLevel_any a b c d e l w (by have := hbd h; omega) (by have := hbd h; omega))
 have hc4 : Hid (planB a b c d e = true → ∀ w, Calls Tryz.prog 199 #[.int .i64 s, .agg #[.int .i64 a, .int .i64 b, .int .i64 c, .int .i64 d, .int .i64 e], .int .i64 o] w fun r w' => r = .returned (.bool (ownB a s o)) ∧ Below w.heap.size w w') := hide (fun h w => ownerFits_any a b c d e s o w h)
 have hc5 : Hid (planB a b c d e = true → ∀ w, Calls Tryz.prog 200 #[.int .i64 s, .agg #[.int .i64 a, .int .i64 b, .int .i64 c, .int .i64 d, .int .i64 e], .int .i64 wt, .int .i64 on] w fun r w' => r = .returned (.bool (waitB b d e s wt on)) ∧ Below w.heap.size w w') := hide (fun h w => waitFits_any a b c d e s wt on w h)
 have hc6 : Hid (∀ w, Calls Tryz.prog 119 #[.int .i64 v, .int .i64 0, .int .i64 9999] w fun r w' => r = .returned (.bool (btw v 0 9999)) ∧ w = w') := hide (fun w => between_any v 0 9999 w)
 have hc7 : Hid (∀ w, Calls Tryz.prog 119 #[.int .i64 t, .int .i64 0, .int .i64 1000000] w fun r w' => r = .returned (.bool (btw t 0 1000000)) ∧ w = w') := hide (fun w => between_any t 0 1000000 w)
 unfold taskB
 clear hbd
 generalize planB a b c d e = x0 at hc1 hc3 hc4 hc5 ⊢
 generalize btw s 1 5 = x1 at hc2 ⊢
 generalize btw l 0 (c - 1) = x2 at hc3 ⊢
 generalize ownB a s o = x3 at hc4 ⊢
 generalize waitB b d e s wt on = x4 at hc5 ⊢
 generalize btw v 0 9999 = x5 at hc6 ⊢
 generalize btw t 0 1000000 = x6 at hc7 ⊢
 go_enter Tryz.func184, Tryz.ntmps184
 go_wp2_with fail
 have kp := (Blk.new w 45 #[.int .i64 s, .int .i64 l, .int .i64 o, .int .i64 wt, .int .i64 on, .int .i64 v, .int .i64 t]).alloc (.cells #[.int .i64 a, .int .i64 b, .int .i64 c, .int .i64 d, .int .i64 e] 28)
 have kq := Blk.new (w.alloc (.cells #[.int .i64 s, .int .i64 l, .int .i64 o, .int .i64 wt, .int .i64 on, .int .i64 v, .int .i64 t] 45)) 28 #[.int .i64 a, .int .i64 b, .int .i64 c, .int .i64 d, .int .i64 e]
 have B3 : Below w.heap.size w ((w.alloc (.cells #[.int .i64 s, .int .i64 l, .int .i64 o, .int .i64 wt, .int .i64 on, .int .i64 v, .int .i64 t] 45)).alloc (.cells #[.int .i64 a, .int .i64 b, .int .i64 c, .int .i64 d, .int .i64 e] 28)) := by go_grown
 have hs4 : ((w.alloc (.cells #[.int .i64 s, .int .i64 l, .int .i64 o, .int .i64 wt, .int .i64 on, .int .i64 v, .int .i64 t] 45)).alloc (.cells #[.int .i64 a, .int .i64 b, .int .i64 c, .int .i64 d, .int .i64 e] 28)).heap.size = w.heap.size + 2 := by simp
 have hs3 : (w.alloc (.cells #[.int .i64 s, .int .i64 l, .int .i64 o, .int .i64 wt, .int .i64 on, .int .i64 v, .int .i64 t] 45)).heap.size = w.heap.size + 1 := by simp
 rw [hs3] at kq
 generalize ((w.alloc (.cells #[.int .i64 s, .int .i64 l, .int .i64 o, .int .i64 wt, .int .i64 on, .int .i64 v, .int .i64 t] 45)).alloc (.cells #[.int .i64 a, .int .i64 b, .int .i64 c, .int .i64 d, .int .i64 e] 28)) = W0 at kp kq B3 hs4
 have k0 := KeptW.cell (W0 := W0) (b := w.heap.size) (o := 0) (u := .int .i64 s) (kp.cell 0)
 have k1 := KeptW.cell (W0 := W0) (b := w.heap.size) (o := 1) (u := .int .i64 l) (kp.cell 1)
 have k2 := KeptW.cell (W0 := W0) (b := w.heap.size) (o := 2) (u := .int .i64 o) (kp.cell 2)
 have k3 := KeptW.cell (W0 := W0) (b := w.heap.size) (o := 3) (u := .int .i64 wt) (kp.cell 3)
 have k4 := KeptW.cell (W0 := W0) (b := w.heap.size) (o := 4) (u := .int .i64 on) (kp.cell 4)
 have k5 := KeptW.cell (W0 := W0) (b := w.heap.size) (o := 5) (u := .int .i64 v) (kp.cell 5)
 have k6 := KeptW.cell (W0 := W0) (b := w.heap.size) (o := 6) (u := .int .i64 t) (kp.cell 6)
 have l0 := KeptW.cell (W0 := W0) (b := w.heap.size + 1) (o := 0) (u := .int .i64 a) (kq.cell 0)
 have l1 := KeptW.cell (W0 := W0) (b := w.heap.size + 1) (o := 1) (u := .int .i64 b) (kq.cell 1)
 have l2 := KeptW.cell (W0 := W0) (b := w.heap.size + 1) (o := 2) (u := .int .i64 c) (kq.cell 2)
 have l3 := KeptW.cell (W0 := W0) (b := w.heap.size + 1) (o := 3) (u := .int .i64 d) (kq.cell 3)
 have l4 := KeptW.cell (W0 := W0) (b := w.heap.size + 1) (o := 4) (u := .int .i64 e) (kq.cell 4)
 have H := hide (⟨B3, by omega⟩ : Below w.heap.size w W0 ∧ w.heap.size ≤ W0.heap.size)
 have hp3 : w.heap.size + 1 < W0.heap.size := by omega
 have hp2 : w.heap.size < W0.heap.size := by omega
 clear B3 hs4 kp kq hs3
 refine kept_start ?_
 intro x
 cases x0
 ·refine region_kept (by kernel_rfl) (by kernel_rfl) ?_
  repeat (go_big_quiet_step (first | (go_at_call 83; with_reducible exact kept_call (hc1.out _)) | (go_at_call 171; with_reducible exact kept_call (state_any s l o wt on v t _)) | (go_at_call 198; with_reducible exact kept_call (hc2.out _)) | (go_at_call 139; with_reducible exact kept_call (hc3.out rfl _)) | (go_at_call 199; with_reducible exact kept_call (hc4.out rfl _)) | (go_at_call 200; with_reducible exact kept_call (hc5.out rfl _)) | (go_at_call 119; with_reducible exact kept_same (hc6.out _)) | (go_at_call 119; with_reducible exact kept_same (hc7.out _))))
  refine wpQuiet_nil ?_
  rintro _ ⟨x, rfl⟩
  go_wp2
  go_ret
  exact ⟨rfl, H.out.1.trans (x.below.mono H.out.2)⟩
 cases x1
 ·refine region_kept (by kernel_rfl) (by kernel_rfl) ?_
  repeat (go_big_quiet_step (first | (go_at_call 83; with_reducible exact kept_call (hc1.out _)) | (go_at_call 171; with_reducible exact kept_call (state_any s l o wt on v t _)) | (go_at_call 198; with_reducible exact kept_call (hc2.out _)) | (go_at_call 139; with_reducible exact kept_call (hc3.out rfl _)) | (go_at_call 199; with_reducible exact kept_call (hc4.out rfl _)) | (go_at_call 200; with_reducible exact kept_call (hc5.out rfl _)) | (go_at_call 119; with_reducible exact kept_same (hc6.out _)) | (go_at_call 119; with_reducible exact kept_same (hc7.out _))))
  refine wpQuiet_nil ?_
  rintro _ ⟨x, rfl⟩
  go_wp2
  go_ret
  exact ⟨rfl, H.out.1.trans (x.below.mono H.out.2)⟩
 cases x2
 ·refine region_kept (by kernel_rfl) (by kernel_rfl) ?_
  repeat (go_big_quiet_step (first | (go_at_call 83; with_reducible exact kept_call (hc1.out _)) | (go_at_call 171; with_reducible exact kept_call (state_any s l o wt on v t _)) | (go_at_call 198; with_reducible exact kept_call (hc2.out _)) | (go_at_call 139; with_reducible exact kept_call (hc3.out rfl _)) | (go_at_call 199; with_reducible exact kept_call (hc4.out rfl _)) | (go_at_call 200; with_reducible exact kept_call (hc5.out rfl _)) | (go_at_call 119; with_reducible exact kept_same (hc6.out _)) | (go_at_call 119; with_reducible exact kept_same (hc7.out _))))
  refine wpQuiet_nil ?_
  rintro _ ⟨x, rfl⟩
  go_wp2
  go_ret
  exact ⟨rfl, H.out.1.trans (x.below.mono H.out.2)⟩
 cases x3
 ·refine region_kept (by kernel_rfl) (by kernel_rfl) ?_
  repeat (go_big_quiet_step (first | (go_at_call 83; with_reducible exact kept_call (hc1.out _)) | (go_at_call 171; with_reducible exact kept_call (state_any s l o wt on v t _)) | (go_at_call 198; with_reducible exact kept_call (hc2.out _)) | (go_at_call 139; with_reducible exact kept_call (hc3.out rfl _)) | (go_at_call 199; with_reducible exact kept_call (hc4.out rfl _)) | (go_at_call 200; with_reducible exact kept_call (hc5.out rfl _)) | (go_at_call 119; with_reducible exact kept_same (hc6.out _)) | (go_at_call 119; with_reducible exact kept_same (hc7.out _))))
  refine wpQuiet_nil ?_
  rintro _ ⟨x, rfl⟩
  go_wp2
  go_ret
  exact ⟨rfl, H.out.1.trans (x.below.mono H.out.2)⟩
 cases x4
 ·refine region_kept (by kernel_rfl) (by kernel_rfl) ?_
  repeat (go_big_quiet_step (first | (go_at_call 83; with_reducible exact kept_call (hc1.out _)) | (go_at_call 171; with_reducible exact kept_call (state_any s l o wt on v t _)) | (go_at_call 198; with_reducible exact kept_call (hc2.out _)) | (go_at_call 139; with_reducible exact kept_call (hc3.out rfl _)) | (go_at_call 199; with_reducible exact kept_call (hc4.out rfl _)) | (go_at_call 200; with_reducible exact kept_call (hc5.out rfl _)) | (go_at_call 119; with_reducible exact kept_same (hc6.out _)) | (go_at_call 119; with_reducible exact kept_same (hc7.out _))))
  refine wpQuiet_nil ?_
  rintro _ ⟨x, rfl⟩
  go_wp2
  go_ret
  exact ⟨rfl, H.out.1.trans (x.below.mono H.out.2)⟩
 cases x5
 ·refine region_kept (by kernel_rfl) (by kernel_rfl) ?_
  repeat (go_big_quiet_step (first | (go_at_call 83; with_reducible exact kept_call (hc1.out _)) | (go_at_call 171; with_reducible exact kept_call (state_any s l o wt on v t _)) | (go_at_call 198; with_reducible exact kept_call (hc2.out _)) | (go_at_call 139; with_reducible exact kept_call (hc3.out rfl _)) | (go_at_call 199; with_reducible exact kept_call (hc4.out rfl _)) | (go_at_call 200; with_reducible exact kept_call (hc5.out rfl _)) | (go_at_call 119; with_reducible exact kept_same (hc6.out _)) | (go_at_call 119; with_reducible exact kept_same (hc7.out _))))
  refine wpQuiet_nil ?_
  rintro _ ⟨x, rfl⟩
  go_wp2
  go_ret
  exact ⟨rfl, H.out.1.trans (x.below.mono H.out.2)⟩
 ·refine region_kept (by kernel_rfl) (by kernel_rfl) ?_
  repeat (go_big_quiet_step (first | (go_at_call 83; with_reducible exact kept_call (hc1.out _)) | (go_at_call 171; with_reducible exact kept_call (state_any s l o wt on v t _)) | (go_at_call 198; with_reducible exact kept_call (hc2.out _)) | (go_at_call 139; with_reducible exact kept_call (hc3.out rfl _)) | (go_at_call 199; with_reducible exact kept_call (hc4.out rfl _)) | (go_at_call 200; with_reducible exact kept_call (hc5.out rfl _)) | (go_at_call 119; with_reducible exact kept_same (hc6.out _)) | (go_at_call 119; with_reducible exact kept_same (hc7.out _))))
  refine wpQuiet_nil ?_
  rintro _ ⟨x, rfl⟩
  go_wp2
  go_ret
  exact ⟨rfl, H.out.1.trans (x.below.mono H.out.2)⟩
set_option maxHeartbeats 4000000
def ownM (s o : Int) (x : Bool) : Bool := if s = 2 then x else o == -1
def parkM (s wt : Int) : Bool := (s == 3) == (wt != 0)
def knd (b d e wt : Int) : Int := if wt = 1 then b else if wt = 2 then d else if wt = 3 then e else 1
theorem l2Kinds_any (a b c d e wt : Int) (w : World) :
 Calls Tryz.prog 179 #[.agg #[.int .i64 a, .int .i64 b, .int .i64 c, .int .i64 d, .int .i64 e], .int .i64 wt] w fun r w' => r = .returned (.int .i64 (knd b d e wt)) ∧ Below w.heap.size w w' := by
 go_enter Tryz.func179, Tryz.ntmps179
 go_wp2_with fail
 all_goals go_ret
 all_goals refine ⟨?_, (Below.refl _ _).alloc (Nat.le_refl _) _⟩
 all_goals simp_all [knd]
theorem l1Value_any (v : Int) (w : World) :
 Calls Tryz.prog 79 #[.int .i64 v] w fun r w' => r = .returned (.bool (btw v 0 9999)) ∧ w = w' := by
 go_enter Tryz.func79, Tryz.ntmps79
 go_wp2_with fail
 go_call (l1In_any _ _ _ _) as r w1 ⟨rfl, rfl⟩
 go_wp2_with fail
 go_ret
 exact ⟨rfl, rfl⟩
theorem park_eq (s wt : Int) : parkM s wt = (decide (s = 3) == decide (wt ≠ 0)) := by
 unfold parkM
 rw [show (s == 3) = decide (s = 3) by by_cases h : s = 3 <;> simp [h], show (wt != 0) = decide (wt ≠ 0) by by_cases k : wt = 0 <;> simp [k]]
theorem taskB_model (a b c d e s l o wt on v t : Int) : taskB a b c d e s l o wt on v t =
 (planB a b c d e && (btw s 1 5 && (levelB a b c d e l && (btw v 0 9999 && (btw t 0 1000000 && (ownM s o (workB a b c d e o) && (btw wt 0 3 && (parkM s wt && btw on 0 (knd b d e wt - 1))))))))) := by
 rw [park_eq]
 unfold taskB ownB waitB levelB workB ownM
 cases hp : planB a b c d e
 ·simp
 ·have hk : btw on 0 0 = (on == 0) := by rw [Bool.eq_iff_iff]; simp [btw]; omega
  by_cases h2 : s = 2
  ·subst h2
   by_cases hw : wt = 0
   ·subst hw
    simp [knd, hk]
    cases btw l 0 (c - 1) <;> cases btw o 0 (a - 1) <;> cases on == 0 <;> cases btw v 0 9999 <;> cases btw t 0 1000000 <;> simp [btw]
   ·simp [hw]
  ·by_cases h3 : s = 3
   ·subst h3
    have hw : (btw wt 0 3 && (decide (wt ≠ 0) && btw on 0 (knd b d e wt - 1))) = btw on 0 (cnt b d e wt - 1) := by
     by_cases w0 : wt = 0
     ·subst w0; simp [cnt, btw]; omega
     ·by_cases w1 : wt = 1
      ·subst w1; simp [cnt, knd, btw]
      ·by_cases w2 : wt = 2
       ·subst w2; simp [cnt, knd, btw]
       ·by_cases w3 : wt = 3
        ·subst w3; simp [cnt, knd, btw]
        ·rw [Bool.eq_iff_iff]; simp [cnt, btw, w0, w1, w2, w3]; omega
    rw [← hw]
    simp
    cases btw l 0 (c - 1) <;> cases o == -1 <;> cases btw wt 0 3 <;> cases btw v 0 9999 <;> cases btw t 0 1000000 <;> cases btw on 0 (knd b d e wt - 1) <;> simp
   ·by_cases hw : wt = 0
    ·subst hw
     simp [h2, h3, knd, hk]
     cases btw s 1 5 <;> cases btw l 0 (c - 1) <;> cases o == -1 <;> cases on == 0 <;> cases btw v 0 9999 <;> cases btw t 0 1000000 <;> simp [btw]
    ·simp [hw, h2, h3]
set_option maxRecDepth 100000 in
theorem sTaskOk_any (a b c d e s l o wt on v t : Int) (w : World) :
 Calls Tryz.prog 142 #[.agg #[.int .i64 a, .int .i64 b, .int .i64 c, .int .i64 d, .int .i64 e], .agg #[.int .i64 s, .int .i64 l, .int .i64 o, .int .i64 wt, .int .i64 on, .int .i64 v, .int .i64 t]] w fun r w' => r = .returned (.bool (taskB a b c d e s l o wt on v t)) ∧ Below w.heap.size w w' := by
 rw [taskB_model]
 have hkn : planB a b c d e = true → 0 ≤ knd b d e wt ∧ knd b d e wt ≤ 30 := fun h => by
  have := planB_all h
  unfold knd; split <;> (try split) <;> (try split) <;> omega
 have hc0 : Hid (∀ w, Calls Tryz.prog 77 #[.agg #[.int .i64 a, .int .i64 b, .int .i64 c, .int .i64 d, .int .i64 e]] w fun r w' => r = .returned (.bool (planB a b c d e)) ∧ Below w.heap.size w w') := hide (fun w => sPlanOk_any a b c d e w)
 have hc1 : Hid (∀ w, Calls Tryz.prog 78 #[.int .i64 s, .int .i64 1, .int .i64 5] w fun r w' => r = .returned (.bool (btw s 1 5)) ∧ w = w') := hide (fun w => l1In_any s 1 5 w)
 have hc2 : Hid (∀ w, Calls Tryz.prog 52 #[.agg #[.int .i64 a, .int .i64 b, .int .i64 c, .int .i64 d, .int .i64 e], .int .i64 l] w fun r w' => r = .returned (.bool (levelB a b c d e l)) ∧ Below w.heap.size w w') := hide (fun w => sLevelIn_any a b c d e l w)
 have hc3 : Hid (∀ w, Calls Tryz.prog 79 #[.int .i64 v] w fun r w' => r = .returned (.bool (btw v 0 9999)) ∧ w = w') := hide (fun w => l1Value_any v w)
 have hc4 : Hid (∀ w, Calls Tryz.prog 78 #[.int .i64 t, .int .i64 0, .int .i64 1000000] w fun r w' => r = .returned (.bool (btw t 0 1000000)) ∧ w = w') := hide (fun w => l1In_any t 0 1000000 w)
 have hc5 : Hid (∀ w, Calls Tryz.prog 116 #[.agg #[.int .i64 a, .int .i64 b, .int .i64 c, .int .i64 d, .int .i64 e], .int .i64 o] w fun r w' => r = .returned (.bool (workB a b c d e o)) ∧ Below w.heap.size w w') := hide (fun w => sWorkerIn_any a b c d e o w)
 have hc6 : Hid (∀ w, Calls Tryz.prog 78 #[.int .i64 wt, .int .i64 0, .int .i64 3] w fun r w' => r = .returned (.bool (btw wt 0 3)) ∧ w = w') := hide (fun w => l1In_any wt 0 3 w)
 have hc7 : Hid (∀ w, Calls Tryz.prog 179 #[.agg #[.int .i64 a, .int .i64 b, .int .i64 c, .int .i64 d, .int .i64 e], .int .i64 wt] w fun r w' => r = .returned (.int .i64 (knd b d e wt)) ∧ Below w.heap.size w w') := hide (fun w => l2Kinds_any a b c d e wt w)
 generalize planB a b c d e = x0 at hc0 hkn ⊢
 generalize btw s 1 5 = x1 at hc1 ⊢
 generalize levelB a b c d e l = x2 at hc2 ⊢
 generalize btw v 0 9999 = x3 at hc3 ⊢
 generalize btw t 0 1000000 = x4 at hc4 ⊢
 generalize workB a b c d e o = x5 at hc5 ⊢
 generalize btw wt 0 3 = x6 at hc6 ⊢
 generalize knd b d e wt = kn at hc7 hkn ⊢
 go_enter Tryz.func142, Tryz.ntmps142
 go_wp2_with fail
 have kb0 := Blk.new w 28 #[.int .i64 a, .int .i64 b, .int .i64 c, .int .i64 d, .int .i64 e]
 have hz0 : (w.alloc (.cells #[.int .i64 a, .int .i64 b, .int .i64 c, .int .i64 d, .int .i64 e] 28)).heap.size = w.heap.size + 1 := by simp
 have kb1 := Blk.new (w.alloc (.cells #[.int .i64 a, .int .i64 b, .int .i64 c, .int .i64 d, .int .i64 e] 28)) 45 #[.int .i64 s, .int .i64 l, .int .i64 o, .int .i64 wt, .int .i64 on, .int .i64 v, .int .i64 t]
 have hz1 : ((w.alloc (.cells #[.int .i64 a, .int .i64 b, .int .i64 c, .int .i64 d, .int .i64 e] 28)).alloc (.cells #[.int .i64 s, .int .i64 l, .int .i64 o, .int .i64 wt, .int .i64 on, .int .i64 v, .int .i64 t] 45)).heap.size = w.heap.size + 2 := by simp
 rw [hz0] at kb1
 replace kb0 := kb0.alloc (.cells #[.int .i64 s, .int .i64 l, .int .i64 o, .int .i64 wt, .int .i64 on, .int .i64 v, .int .i64 t] 45)
 have hBel : Below w.heap.size w ((w.alloc (.cells #[.int .i64 a, .int .i64 b, .int .i64 c, .int .i64 d, .int .i64 e] 28)).alloc (.cells #[.int .i64 s, .int .i64 l, .int .i64 o, .int .i64 wt, .int .i64 on, .int .i64 v, .int .i64 t] 45)) := by go_grown
 generalize ((w.alloc (.cells #[.int .i64 a, .int .i64 b, .int .i64 c, .int .i64 d, .int .i64 e] 28)).alloc (.cells #[.int .i64 s, .int .i64 l, .int .i64 o, .int .i64 wt, .int .i64 on, .int .i64 v, .int .i64 t] 45)) = W0 at kb0 kb1 hBel hz1 ⊢
 have c0_0 := KeptW.cell (W0 := W0) (b := w.heap.size) (o := 0) (u := .int .i64 a) (kb0.cell 0)
 have c0_1 := KeptW.cell (W0 := W0) (b := w.heap.size) (o := 1) (u := .int .i64 b) (kb0.cell 1)
 have c0_2 := KeptW.cell (W0 := W0) (b := w.heap.size) (o := 2) (u := .int .i64 c) (kb0.cell 2)
 have c0_3 := KeptW.cell (W0 := W0) (b := w.heap.size) (o := 3) (u := .int .i64 d) (kb0.cell 3)
 have c0_4 := KeptW.cell (W0 := W0) (b := w.heap.size) (o := 4) (u := .int .i64 e) (kb0.cell 4)
 have c1_0 := KeptW.cell (W0 := W0) (b := w.heap.size + 1) (o := 0) (u := .int .i64 s) (kb1.cell 0)
 have c1_1 := KeptW.cell (W0 := W0) (b := w.heap.size + 1) (o := 1) (u := .int .i64 l) (kb1.cell 1)
 have c1_2 := KeptW.cell (W0 := W0) (b := w.heap.size + 1) (o := 2) (u := .int .i64 o) (kb1.cell 2)
 have c1_3 := KeptW.cell (W0 := W0) (b := w.heap.size + 1) (o := 3) (u := .int .i64 wt) (kb1.cell 3)
 have c1_4 := KeptW.cell (W0 := W0) (b := w.heap.size + 1) (o := 4) (u := .int .i64 on) (kb1.cell 4)
 have c1_5 := KeptW.cell (W0 := W0) (b := w.heap.size + 1) (o := 5) (u := .int .i64 v) (kb1.cell 5)
 have c1_6 := KeptW.cell (W0 := W0) (b := w.heap.size + 1) (o := 6) (u := .int .i64 t) (kb1.cell 6)
 have H := hide (⟨hBel, by omega⟩ : Below w.heap.size w W0 ∧ w.heap.size ≤ W0.heap.size)
 clear hBel hz0 kb0 hz1 kb1
 have hx0 := KeptW.mk'_w (Below.refl W0.heap.size W0)
 generalize KeptW.mk' (Below.refl W0.heap.size W0) = x at hx0
 rw [← hx0]
 clear hx0
 cases x0
 ·go_wp2_with (first | (go_at_call 77; with_reducible refine Calls.mono (kept_call (hc0.out _)) ?_; rintro _ _ ⟨rfl, x, rfl⟩) | (go_at_call 78; with_reducible refine Calls.mono (kept_same (hc1.out _)) ?_; rintro _ _ ⟨rfl, x, rfl⟩) | (go_at_call 52; with_reducible refine Calls.mono (kept_call (hc2.out _)) ?_; rintro _ _ ⟨rfl, x, rfl⟩) | (go_at_call 79; with_reducible refine Calls.mono (kept_same (hc3.out _)) ?_; rintro _ _ ⟨rfl, x, rfl⟩) | (go_at_call 78; with_reducible refine Calls.mono (kept_same (hc4.out _)) ?_; rintro _ _ ⟨rfl, x, rfl⟩) | (go_at_call 116; with_reducible refine Calls.mono (kept_call (hc5.out _)) ?_; rintro _ _ ⟨rfl, x, rfl⟩) | (go_at_call 78; with_reducible refine Calls.mono (kept_same (hc6.out _)) ?_; rintro _ _ ⟨rfl, x, rfl⟩) | (go_at_call 179; with_reducible refine Calls.mono (kept_call (hc7.out _)) ?_; rintro _ _ ⟨rfl, x, rfl⟩) | (go_at_call 78; with_reducible refine Calls.mono (kept_same (l1In_any on 0 (kn - 1) _)) ?_; rintro _ _ ⟨rfl, x, rfl⟩))
  go_ret
  exact ⟨rfl, H.out.1.trans (x.below.mono H.out.2)⟩
 cases x1
 ·go_wp2_with (first | (go_at_call 77; with_reducible refine Calls.mono (kept_call (hc0.out _)) ?_; rintro _ _ ⟨rfl, x, rfl⟩) | (go_at_call 78; with_reducible refine Calls.mono (kept_same (hc1.out _)) ?_; rintro _ _ ⟨rfl, x, rfl⟩) | (go_at_call 52; with_reducible refine Calls.mono (kept_call (hc2.out _)) ?_; rintro _ _ ⟨rfl, x, rfl⟩) | (go_at_call 79; with_reducible refine Calls.mono (kept_same (hc3.out _)) ?_; rintro _ _ ⟨rfl, x, rfl⟩) | (go_at_call 78; with_reducible refine Calls.mono (kept_same (hc4.out _)) ?_; rintro _ _ ⟨rfl, x, rfl⟩) | (go_at_call 116; with_reducible refine Calls.mono (kept_call (hc5.out _)) ?_; rintro _ _ ⟨rfl, x, rfl⟩) | (go_at_call 78; with_reducible refine Calls.mono (kept_same (hc6.out _)) ?_; rintro _ _ ⟨rfl, x, rfl⟩) | (go_at_call 179; with_reducible refine Calls.mono (kept_call (hc7.out _)) ?_; rintro _ _ ⟨rfl, x, rfl⟩) | (go_at_call 78; with_reducible refine Calls.mono (kept_same (l1In_any on 0 (kn - 1) _)) ?_; rintro _ _ ⟨rfl, x, rfl⟩))
  go_ret
  exact ⟨rfl, H.out.1.trans (x.below.mono H.out.2)⟩
 cases x2
 ·go_wp2_with (first | (go_at_call 77; with_reducible refine Calls.mono (kept_call (hc0.out _)) ?_; rintro _ _ ⟨rfl, x, rfl⟩) | (go_at_call 78; with_reducible refine Calls.mono (kept_same (hc1.out _)) ?_; rintro _ _ ⟨rfl, x, rfl⟩) | (go_at_call 52; with_reducible refine Calls.mono (kept_call (hc2.out _)) ?_; rintro _ _ ⟨rfl, x, rfl⟩) | (go_at_call 79; with_reducible refine Calls.mono (kept_same (hc3.out _)) ?_; rintro _ _ ⟨rfl, x, rfl⟩) | (go_at_call 78; with_reducible refine Calls.mono (kept_same (hc4.out _)) ?_; rintro _ _ ⟨rfl, x, rfl⟩) | (go_at_call 116; with_reducible refine Calls.mono (kept_call (hc5.out _)) ?_; rintro _ _ ⟨rfl, x, rfl⟩) | (go_at_call 78; with_reducible refine Calls.mono (kept_same (hc6.out _)) ?_; rintro _ _ ⟨rfl, x, rfl⟩) | (go_at_call 179; with_reducible refine Calls.mono (kept_call (hc7.out _)) ?_; rintro _ _ ⟨rfl, x, rfl⟩) | (go_at_call 78; with_reducible refine Calls.mono (kept_same (l1In_any on 0 (kn - 1) _)) ?_; rintro _ _ ⟨rfl, x, rfl⟩))
  go_ret
  exact ⟨rfl, H.out.1.trans (x.below.mono H.out.2)⟩
 cases x3
 ·go_wp2_with (first | (go_at_call 77; with_reducible refine Calls.mono (kept_call (hc0.out _)) ?_; rintro _ _ ⟨rfl, x, rfl⟩) | (go_at_call 78; with_reducible refine Calls.mono (kept_same (hc1.out _)) ?_; rintro _ _ ⟨rfl, x, rfl⟩) | (go_at_call 52; with_reducible refine Calls.mono (kept_call (hc2.out _)) ?_; rintro _ _ ⟨rfl, x, rfl⟩) | (go_at_call 79; with_reducible refine Calls.mono (kept_same (hc3.out _)) ?_; rintro _ _ ⟨rfl, x, rfl⟩) | (go_at_call 78; with_reducible refine Calls.mono (kept_same (hc4.out _)) ?_; rintro _ _ ⟨rfl, x, rfl⟩) | (go_at_call 116; with_reducible refine Calls.mono (kept_call (hc5.out _)) ?_; rintro _ _ ⟨rfl, x, rfl⟩) | (go_at_call 78; with_reducible refine Calls.mono (kept_same (hc6.out _)) ?_; rintro _ _ ⟨rfl, x, rfl⟩) | (go_at_call 179; with_reducible refine Calls.mono (kept_call (hc7.out _)) ?_; rintro _ _ ⟨rfl, x, rfl⟩) | (go_at_call 78; with_reducible refine Calls.mono (kept_same (l1In_any on 0 (kn - 1) _)) ?_; rintro _ _ ⟨rfl, x, rfl⟩))
  go_ret
  exact ⟨rfl, H.out.1.trans (x.below.mono H.out.2)⟩
 cases x4
 ·go_wp2_with (first | (go_at_call 77; with_reducible refine Calls.mono (kept_call (hc0.out _)) ?_; rintro _ _ ⟨rfl, x, rfl⟩) | (go_at_call 78; with_reducible refine Calls.mono (kept_same (hc1.out _)) ?_; rintro _ _ ⟨rfl, x, rfl⟩) | (go_at_call 52; with_reducible refine Calls.mono (kept_call (hc2.out _)) ?_; rintro _ _ ⟨rfl, x, rfl⟩) | (go_at_call 79; with_reducible refine Calls.mono (kept_same (hc3.out _)) ?_; rintro _ _ ⟨rfl, x, rfl⟩) | (go_at_call 78; with_reducible refine Calls.mono (kept_same (hc4.out _)) ?_; rintro _ _ ⟨rfl, x, rfl⟩) | (go_at_call 116; with_reducible refine Calls.mono (kept_call (hc5.out _)) ?_; rintro _ _ ⟨rfl, x, rfl⟩) | (go_at_call 78; with_reducible refine Calls.mono (kept_same (hc6.out _)) ?_; rintro _ _ ⟨rfl, x, rfl⟩) | (go_at_call 179; with_reducible refine Calls.mono (kept_call (hc7.out _)) ?_; rintro _ _ ⟨rfl, x, rfl⟩) | (go_at_call 78; with_reducible refine Calls.mono (kept_same (l1In_any on 0 (kn - 1) _)) ?_; rintro _ _ ⟨rfl, x, rfl⟩))
  go_ret
  exact ⟨rfl, H.out.1.trans (x.below.mono H.out.2)⟩
 have hk1 := (hkn rfl).1
 have hk2 := (hkn rfl).2
 clear hkn
 go_wp2_with (first | (go_at_call 77; with_reducible refine Calls.mono (kept_call (hc0.out _)) ?_; rintro _ _ ⟨rfl, x, rfl⟩) | (go_at_call 78; with_reducible refine Calls.mono (kept_same (hc1.out _)) ?_; rintro _ _ ⟨rfl, x, rfl⟩) | (go_at_call 52; with_reducible refine Calls.mono (kept_call (hc2.out _)) ?_; rintro _ _ ⟨rfl, x, rfl⟩) | (go_at_call 79; with_reducible refine Calls.mono (kept_same (hc3.out _)) ?_; rintro _ _ ⟨rfl, x, rfl⟩) | (go_at_call 78; with_reducible refine Calls.mono (kept_same (hc4.out _)) ?_; rintro _ _ ⟨rfl, x, rfl⟩) | (go_at_call 116; with_reducible refine Calls.mono (kept_call (hc5.out _)) ?_; rintro _ _ ⟨rfl, x, rfl⟩) | (go_at_call 78; with_reducible refine Calls.mono (kept_same (hc6.out _)) ?_; rintro _ _ ⟨rfl, x, rfl⟩) | (go_at_call 179; with_reducible refine Calls.mono (kept_call (hc7.out _)) ?_; rintro _ _ ⟨rfl, x, rfl⟩) | (go_at_call 78; with_reducible refine Calls.mono (kept_same (l1In_any on 0 (kn - 1) _)) ?_; rintro _ _ ⟨rfl, x, rfl⟩))
 all_goals first
  | (go_ret
     refine ⟨ret_bool ?_, H.out.1.trans (x.below.mono H.out.2)⟩
     clear c0_0 c0_1 c0_2 c0_3 c0_4 c1_0 c1_1 c1_2 c1_3 c1_4 c1_5 c1_6 hc0 hc1 hc2 hc3 hc4 hc5 hc6 hc7
     simp_all [ownM, parkM]; done)
  | (refine region_kept (by kernel_rfl) (by kernel_rfl) ?_
     repeat (go_big_quiet_step (first | (go_at_call 77; with_reducible exact (kept_call (hc0.out _))) | (go_at_call 78; with_reducible exact (kept_same (hc1.out _))) | (go_at_call 52; with_reducible exact (kept_call (hc2.out _))) | (go_at_call 79; with_reducible exact (kept_same (hc3.out _))) | (go_at_call 78; with_reducible exact (kept_same (hc4.out _))) | (go_at_call 116; with_reducible exact (kept_call (hc5.out _))) | (go_at_call 78; with_reducible exact (kept_same (hc6.out _))) | (go_at_call 179; with_reducible exact (kept_call (hc7.out _))) | (go_at_call 78; with_reducible exact (kept_same (l1In_any on 0 (kn - 1) _)))))
     refine wpQuiet_nil ?_
     rintro _ ⟨x, rfl⟩
     go_wp2
     go_ret
     refine ⟨ret_bool ?_, H.out.1.trans (x.below.mono H.out.2)⟩
     clear c0_0 c0_1 c0_2 c0_3 c0_4 c1_0 c1_1 c1_2 c1_3 c1_4 c1_5 c1_6 hc0 hc1 hc2 hc3 hc4 hc5 hc6 hc7
     simp_all [ownM, parkM]; done)
end Go.Proofs.YtfkdfkoigojciaaGreatDoor
