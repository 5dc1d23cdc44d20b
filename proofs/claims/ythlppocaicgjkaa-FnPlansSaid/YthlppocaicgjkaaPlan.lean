/- The plan's functions of chapter 1, program and model: each answers by the same Bool, and what was in memory stays as it was. No condition. -/
import Derived.Test.YthlppocaicgjkaaWords
import Derived.WalkKit
import Derived.WalkSpells
import Derived.WalkLawsBesides
import Derived.Handy
namespace Go.Proofs.Ythlppocaicgjkaa
open Go.RowKit

def btw (n l h : Int) : Bool := decide (l ≤ n) && decide (n ≤ h)
theorem btw_t {n l h : Int} (a : l ≤ n) (b : n ≤ h) : btw n l h = true := by simp [btw, a, b]
theorem btw_f1 {n l h : Int} (a : ¬ l ≤ n) : btw n l h = false := by simp [btw, a]
theorem btw_f2 {n l h : Int} (b : ¬ n ≤ h) : btw n l h = false := by simp [btw, b]
theorem ret_bool {a b : Bool} (h : a = b) : Ending.returned (.bool a) = .returned (.bool b) := by rw [h]

set_option maxHeartbeats 400000 in
theorem between_any (n l h : Int) (w : World) :
    Calls Try.prog 31 #[.int .i64 n, .int .i64 l, .int .i64 h] w fun e w' => e = .returned (.bool (btw n l h)) ∧ w = w' := by
  by_cases a : l ≤ n
  · by_cases b : n ≤ h
    · rw [btw_t a b]
      go_enter Try.func31, Try.ntmps31
      go_wp2
      go_ret
      exact ⟨rfl, rfl⟩
    · rw [btw_f2 b]
      go_enter Try.func31, Try.ntmps31
      go_wp2
      go_ret
      exact ⟨rfl, rfl⟩
  · rw [btw_f1 a]
    go_enter Try.func31, Try.ntmps31
    go_wp2
    go_ret
    exact ⟨rfl, rfl⟩

set_option maxHeartbeats 400000 in
theorem l1In_any (n l h : Int) (w : World) :
    Calls Try.prog 26 #[.int .i64 n, .int .i64 l, .int .i64 h] w fun e w' => e = .returned (.bool (btw n l h)) ∧ w = w' := by
  by_cases a : l ≤ n
  · by_cases b : n ≤ h
    · rw [btw_t a b]
      go_enter Try.func26, Try.ntmps26
      go_wp2
      go_ret
      exact ⟨rfl, rfl⟩
    · rw [btw_f2 b]
      go_enter Try.func26, Try.ntmps26
      go_wp2
      go_ret
      exact ⟨rfl, rfl⟩
  · rw [btw_f1 a]
    go_enter Try.func26, Try.ntmps26
    go_wp2
    go_ret
    exact ⟨rfl, rfl⟩

def planB (a b c d e : Int) : Bool := btw a 1 8 && (btw b 1 30 && (btw c 1 4 && (btw d 0 4 && btw e 0 4)))

set_option maxHeartbeats 1000000 in
theorem right_any (a b c d e : Int) (w : World) :
    Calls Try.prog 22 #[.agg #[.int .i64 a, .int .i64 b, .int .i64 c, .int .i64 d, .int .i64 e]] w fun r w' => r = .returned (.bool (planB a b c d e)) ∧ Below w.heap.size w w' := by
  go_enter Try.func22, Try.ntmps22
  go_wp2_with (go_at_call 31; refine (between_any _ _ _ _).mono ?_; rintro e w' ⟨rfl, rfl⟩)
  all_goals go_ret
  all_goals exact ⟨ret_bool (by simp_all [planB]), (Below.refl _ _).alloc (Nat.le_refl _) _⟩

set_option maxHeartbeats 1000000 in
theorem sPlanOk_any (a b c d e : Int) (w : World) :
    Calls Try.prog 14 #[.agg #[.int .i64 a, .int .i64 b, .int .i64 c, .int .i64 d, .int .i64 e]] w fun r w' => r = .returned (.bool (planB a b c d e)) ∧ Below w.heap.size w w' := by
  go_enter Try.func14, Try.ntmps14
  go_wp2_with (go_at_call 26; refine (l1In_any _ _ _ _).mono ?_; rintro e w' ⟨rfl, rfl⟩)
  all_goals go_ret
  all_goals exact ⟨ret_bool (by simp_all [planB]), (Below.refl _ _).alloc (Nat.le_refl _) _⟩

set_option maxHeartbeats 1000000 in
theorem gPlanOk_any (a b c d e : Int) (w : World) :
    Calls Try.prog 11 #[.agg #[.int .i64 a, .int .i64 b, .int .i64 c, .int .i64 d, .int .i64 e]] w fun r w' => r = .returned (.bool (planB a b c d e)) ∧ Below w.heap.size w w' := by
  go_enter Try.func11, Try.ntmps11
  go_wp2_with (go_at_call 22; refine (right_any _ _ _ _ _ _).mono ?_; rintro e w' ⟨rfl, hb1⟩)
  go_ret
  exact ⟨rfl, ((Below.refl _ _).alloc (Nat.le_refl _) _).trans (hb1.mono (by simp))⟩

set_option maxHeartbeats 1000000 in
theorem toPlan_any (a b c d e : Int) (w : World) :
    Calls Try.prog 17 #[.agg #[.int .i64 a, .int .i64 b, .int .i64 c, .int .i64 d, .int .i64 e]] w fun r w' => r = .returned (.agg #[.int .i64 a, .int .i64 b, .int .i64 c, .int .i64 d, .int .i64 e]) ∧ Below w.heap.size w w' := by
  go_enter Try.func17, Try.ntmps17
  go_wp2
  exact bodyPost_ret (v := .agg #[.int .i64 a, .int .i64 b, .int .i64 c, .int .i64 d, .int .i64 e]) (by simp [results, Try.results17, go_sem]) rfl ⟨rfl, (((Below.refl _ _).alloc (Nat.le_refl _) _).alloc (by simp) _).alloc (by simp; omega) _⟩

def workB (a b c d e n : Int) : Bool := planB a b c d e && btw n 0 (a - 1)
def levelB (a b c d e n : Int) : Bool := planB a b c d e && btw n 0 (c - 1)
theorem planB_a {a b c d e : Int} (h : planB a b c d e = true) : 1 ≤ a ∧ a ≤ 8 := by
  simp [planB, btw] at h; omega
theorem planB_c {a b c d e : Int} (h : planB a b c d e = true) : 1 ≤ c ∧ c ≤ 4 := by
  simp [planB, btw] at h; omega

set_option maxHeartbeats 1000000 in
theorem sWorkerIn_any (a b c d e n : Int) (w : World) :
    Calls Try.prog 15 #[.agg #[.int .i64 a, .int .i64 b, .int .i64 c, .int .i64 d, .int .i64 e], .int .i64 n] w fun r w' => r = .returned (.bool (workB a b c d e n)) ∧ Below w.heap.size w w' := by
  by_cases hp : planB a b c d e = true
  · have hbd := planB_a hp
    go_enter Try.func15, Try.ntmps15
    go_wp2_with first | (go_at_call 14; refine (sPlanOk_any _ _ _ _ _ _).mono ?_; rintro r w' ⟨rfl, hb1⟩; obtain ⟨hc, hf⟩ := bcell hb1) | (go_at_call 26; refine (l1In_any _ _ _ _).mono ?_; rintro e w' ⟨rfl, rfl⟩)
    go_ret
    exact ⟨ret_bool (by simp [workB, hp]), ((Below.refl _ _).alloc (Nat.le_refl _) _).trans (hb1.mono (by simp))⟩
  · have hp' : planB a b c d e = false := by simpa using hp
    clear hp
    go_enter Try.func15, Try.ntmps15
    go_wp2_with first | (go_at_call 14; refine (sPlanOk_any _ _ _ _ _ _).mono ?_; rintro r w' ⟨rfl, hb1⟩; obtain ⟨hc, hf⟩ := bcell hb1)
    go_ret
    exact ⟨ret_bool (by simp [workB, hp']), ((Below.refl _ _).alloc (Nat.le_refl _) _).trans (hb1.mono (by simp))⟩

set_option maxHeartbeats 1000000 in
theorem sLevelIn_any (a b c d e n : Int) (w : World) :
    Calls Try.prog 16 #[.agg #[.int .i64 a, .int .i64 b, .int .i64 c, .int .i64 d, .int .i64 e], .int .i64 n] w fun r w' => r = .returned (.bool (levelB a b c d e n)) ∧ Below w.heap.size w w' := by
  by_cases hp : planB a b c d e = true
  · have hbd := planB_c hp
    go_enter Try.func16, Try.ntmps16
    go_wp2_with first | (go_at_call 14; refine (sPlanOk_any _ _ _ _ _ _).mono ?_; rintro r w' ⟨rfl, hb1⟩; obtain ⟨hc, hf⟩ := bcell hb1) | (go_at_call 26; refine (l1In_any _ _ _ _).mono ?_; rintro e w' ⟨rfl, rfl⟩)
    go_ret
    exact ⟨ret_bool (by simp [levelB, hp]), ((Below.refl _ _).alloc (Nat.le_refl _) _).trans (hb1.mono (by simp))⟩
  · have hp' : planB a b c d e = false := by simpa using hp
    clear hp
    go_enter Try.func16, Try.ntmps16
    go_wp2_with first | (go_at_call 14; refine (sPlanOk_any _ _ _ _ _ _).mono ?_; rintro r w' ⟨rfl, hb1⟩; obtain ⟨hc, hf⟩ := bcell hb1)
    go_ret
    exact ⟨ret_bool (by simp [levelB, hp']), ((Below.refl _ _).alloc (Nat.le_refl _) _).trans (hb1.mono (by simp))⟩

set_option maxHeartbeats 1000000 in
theorem hasWorker_any (a b c d e n : Int) (w : World) (h1 : 1 ≤ a) (h2 : a ≤ 30) :
    Calls Try.prog 24 #[.agg #[.int .i64 a, .int .i64 b, .int .i64 c, .int .i64 d, .int .i64 e], .int .i64 n] w fun r w' => r = .returned (.bool (btw n 0 (a - 1))) ∧ Below w.heap.size w w' := by
  go_enter Try.func24, Try.ntmps24
  go_wp2_with (go_at_call 31; refine (between_any _ _ _ _).mono ?_; rintro e w' ⟨rfl, rfl⟩)
  go_ret
  exact ⟨rfl, (Below.refl _ _).alloc (Nat.le_refl _) _⟩

set_option maxHeartbeats 1000000 in
theorem hasLevel_any (a b c d e n : Int) (w : World) (h1 : 1 ≤ c) (h2 : c ≤ 30) :
    Calls Try.prog 25 #[.agg #[.int .i64 a, .int .i64 b, .int .i64 c, .int .i64 d, .int .i64 e], .int .i64 n] w fun r w' => r = .returned (.bool (btw n 0 (c - 1))) ∧ Below w.heap.size w w' := by
  go_enter Try.func25, Try.ntmps25
  go_wp2_with (go_at_call 31; refine (between_any _ _ _ _).mono ?_; rintro e w' ⟨rfl, rfl⟩)
  go_ret
  exact ⟨rfl, (Below.refl _ _).alloc (Nat.le_refl _) _⟩

set_option maxHeartbeats 1000000 in
theorem gWorkerIn_any (a b c d e n : Int) (w : World) :
    Calls Try.prog 12 #[.agg #[.int .i64 a, .int .i64 b, .int .i64 c, .int .i64 d, .int .i64 e], .int .i64 n] w fun r w' => r = .returned (.bool (workB a b c d e n)) ∧ Below w.heap.size w w' := by
  by_cases hp : planB a b c d e = true
  · have hbd := planB_a hp
    go_enter Try.func12, Try.ntmps12
    go_wp2_with first | (go_at_call 22; refine (right_any _ _ _ _ _ _).mono ?_; rintro r w1 ⟨rfl, hb1⟩; obtain ⟨hc, hf⟩ := bcell hb1) | (go_at_call 24; refine (hasWorker_any _ _ _ _ _ _ _ (by omega) (by omega)).mono ?_; rintro r w2 ⟨rfl, hb2⟩) | (go_at_call 23; go_in)
    go_ret
    exact ⟨ret_bool (by simp [workB, hp]), ((((Below.refl _ _).alloc (Nat.le_refl _) _).alloc (by simp) _).trans (hb1.mono (by simp; omega))).trans (hb2.mono (by have := hb1.size; simp at this; omega))⟩
  · have hp' : planB a b c d e = false := by simpa using hp
    clear hp
    go_enter Try.func12, Try.ntmps12
    go_wp2_with first | (go_at_call 22; refine (right_any _ _ _ _ _ _).mono ?_; rintro r w1 ⟨rfl, hb1⟩; obtain ⟨hc, hf⟩ := bcell hb1) | (go_at_call 23; go_in)
    go_ret
    exact ⟨ret_bool (by simp [workB, hp']), (((Below.refl _ _).alloc (Nat.le_refl _) _).alloc (by simp) _).trans (hb1.mono (by simp; omega))⟩

set_option maxHeartbeats 1000000 in
theorem gLevelIn_any (a b c d e n : Int) (w : World) :
    Calls Try.prog 13 #[.agg #[.int .i64 a, .int .i64 b, .int .i64 c, .int .i64 d, .int .i64 e], .int .i64 n] w fun r w' => r = .returned (.bool (levelB a b c d e n)) ∧ Below w.heap.size w w' := by
  by_cases hp : planB a b c d e = true
  · have hbd := planB_c hp
    go_enter Try.func13, Try.ntmps13
    go_wp2_with first | (go_at_call 22; refine (right_any _ _ _ _ _ _).mono ?_; rintro r w1 ⟨rfl, hb1⟩; obtain ⟨hc, hf⟩ := bcell hb1) | (go_at_call 25; refine (hasLevel_any _ _ _ _ _ _ _ (by omega) (by omega)).mono ?_; rintro r w2 ⟨rfl, hb2⟩) | (go_at_call 23; go_in)
    go_ret
    exact ⟨ret_bool (by simp [levelB, hp]), ((((Below.refl _ _).alloc (Nat.le_refl _) _).alloc (by simp) _).trans (hb1.mono (by simp; omega))).trans (hb2.mono (by have := hb1.size; simp at this; omega))⟩
  · have hp' : planB a b c d e = false := by simpa using hp
    clear hp
    go_enter Try.func13, Try.ntmps13
    go_wp2_with first | (go_at_call 22; refine (right_any _ _ _ _ _ _).mono ?_; rintro r w1 ⟨rfl, hb1⟩; obtain ⟨hc, hf⟩ := bcell hb1) | (go_at_call 23; go_in)
    go_ret
    exact ⟨ret_bool (by simp [levelB, hp']), (((Below.refl _ _).alloc (Nat.le_refl _) _).alloc (by simp) _).trans (hb1.mono (by simp; omega))⟩

set_option maxHeartbeats 1000000 in
theorem xPlanOk_any (a b c d e : Int) (w : World) :
    Calls Try.prog 4 #[.agg #[.int .i64 a, .int .i64 b, .int .i64 c, .int .i64 d, .int .i64 e]] w fun r w' => r = .returned (.bool true) ∧ Below w.heap.size w w' := by
  go_enter Try.func4, Try.ntmps4
  go_wp2_with fail
  go_call (toPlan_any _ _ _ _ _ _) as r w1 ⟨rfl, hb1⟩
  have hB1 : Below (World.heap (w.alloc (.cells #[.int .i64 a, .int .i64 b, .int .i64 c, .int .i64 d, .int .i64 e] 34))).size (w.alloc (.cells #[.int .i64 a, .int .i64 b, .int .i64 c, .int .i64 d, .int .i64 e] 34)) w1 := Below.trans (by go_grown) (hb1.mono (by go_size))
  clear hb1
  obtain ⟨hc1, hf1⟩ := bcell hB1
  have hy1 := hB1.size
  go_wp2_with fail
  go_call (sPlanOk_any _ _ _ _ _ _) as r w2 ⟨rfl, hb2⟩
  have hB2 : Below (World.heap (w.alloc (.cells #[.int .i64 a, .int .i64 b, .int .i64 c, .int .i64 d, .int .i64 e] 34))).size (w.alloc (.cells #[.int .i64 a, .int .i64 b, .int .i64 c, .int .i64 d, .int .i64 e] 34)) w2 := Below.trans (by go_grown) (hb2.mono (by go_size))
  clear hb2
  clear hc1 hf1
  obtain ⟨hc2, hf2⟩ := bcell hB2
  have hy2 := hB2.size
  go_wp2_with fail
  go_call (toPlan_any _ _ _ _ _ _) as r w3 ⟨rfl, hb3⟩
  have hB3 : Below (World.heap (w.alloc (.cells #[.int .i64 a, .int .i64 b, .int .i64 c, .int .i64 d, .int .i64 e] 34))).size (w.alloc (.cells #[.int .i64 a, .int .i64 b, .int .i64 c, .int .i64 d, .int .i64 e] 34)) w3 := Below.trans (by go_grown) (hb3.mono (by go_size))
  clear hb3
  clear hc2 hf2
  obtain ⟨hc3, hf3⟩ := bcell hB3
  have hy3 := hB3.size
  go_wp2_with fail
  go_call (gPlanOk_any _ _ _ _ _ _) as r w4 ⟨rfl, hb4⟩
  have hB4 : Below (World.heap (w.alloc (.cells #[.int .i64 a, .int .i64 b, .int .i64 c, .int .i64 d, .int .i64 e] 34))).size (w.alloc (.cells #[.int .i64 a, .int .i64 b, .int .i64 c, .int .i64 d, .int .i64 e] 34)) w4 := Below.trans (by go_grown) (hb4.mono (by go_size))
  clear hb4
  clear hc3 hf3
  obtain ⟨hc4, hf4⟩ := bcell hB4
  have hy4 := hB4.size
  go_wp2_with fail
  go_ret
  exact ⟨rfl, Below.trans ((Below.refl _ _).alloc (Nat.le_refl _) _) (hB4.mono (by go_size))⟩

set_option maxHeartbeats 1000000 in
theorem xWorkerIn_any (a b c d e n : Int) (w : World) :
    Calls Try.prog 5 #[.agg #[.int .i64 a, .int .i64 b, .int .i64 c, .int .i64 d, .int .i64 e], .int .i64 n] w fun r w' => r = .returned (.bool true) ∧ Below w.heap.size w w' := by
  go_enter Try.func5, Try.ntmps5
  go_wp2_with fail
  go_call (toPlan_any _ _ _ _ _ _) as r w1 ⟨rfl, hb1⟩
  have hB1 : Below (World.heap (w.alloc (.cells #[.int .i64 a, .int .i64 b, .int .i64 c, .int .i64 d, .int .i64 e] 34))).size (w.alloc (.cells #[.int .i64 a, .int .i64 b, .int .i64 c, .int .i64 d, .int .i64 e] 34)) w1 := Below.trans (by go_grown) (hb1.mono (by go_size))
  clear hb1
  obtain ⟨hc1, hf1⟩ := bcell hB1
  have hy1 := hB1.size
  go_wp2_with fail
  go_call (sWorkerIn_any _ _ _ _ _ _ _) as r w2 ⟨rfl, hb2⟩
  have hB2 : Below (World.heap (w.alloc (.cells #[.int .i64 a, .int .i64 b, .int .i64 c, .int .i64 d, .int .i64 e] 34))).size (w.alloc (.cells #[.int .i64 a, .int .i64 b, .int .i64 c, .int .i64 d, .int .i64 e] 34)) w2 := Below.trans (by go_grown) (hb2.mono (by go_size))
  clear hb2
  clear hc1 hf1
  obtain ⟨hc2, hf2⟩ := bcell hB2
  have hy2 := hB2.size
  go_wp2_with fail
  go_call (toPlan_any _ _ _ _ _ _) as r w3 ⟨rfl, hb3⟩
  have hB3 : Below (World.heap (w.alloc (.cells #[.int .i64 a, .int .i64 b, .int .i64 c, .int .i64 d, .int .i64 e] 34))).size (w.alloc (.cells #[.int .i64 a, .int .i64 b, .int .i64 c, .int .i64 d, .int .i64 e] 34)) w3 := Below.trans (by go_grown) (hb3.mono (by go_size))
  clear hb3
  clear hc2 hf2
  obtain ⟨hc3, hf3⟩ := bcell hB3
  have hy3 := hB3.size
  go_wp2_with fail
  go_call (gWorkerIn_any _ _ _ _ _ _ _) as r w4 ⟨rfl, hb4⟩
  have hB4 : Below (World.heap (w.alloc (.cells #[.int .i64 a, .int .i64 b, .int .i64 c, .int .i64 d, .int .i64 e] 34))).size (w.alloc (.cells #[.int .i64 a, .int .i64 b, .int .i64 c, .int .i64 d, .int .i64 e] 34)) w4 := Below.trans (by go_grown) (hb4.mono (by go_size))
  clear hb4
  clear hc3 hf3
  obtain ⟨hc4, hf4⟩ := bcell hB4
  have hy4 := hB4.size
  go_wp2_with fail
  go_ret
  exact ⟨rfl, Below.trans ((Below.refl _ _).alloc (Nat.le_refl _) _) (hB4.mono (by go_size))⟩

set_option maxHeartbeats 1000000 in
theorem xLevelIn_any (a b c d e n : Int) (w : World) :
    Calls Try.prog 6 #[.agg #[.int .i64 a, .int .i64 b, .int .i64 c, .int .i64 d, .int .i64 e], .int .i64 n] w fun r w' => r = .returned (.bool true) ∧ Below w.heap.size w w' := by
  go_enter Try.func6, Try.ntmps6
  go_wp2_with fail
  go_call (toPlan_any _ _ _ _ _ _) as r w1 ⟨rfl, hb1⟩
  have hB1 : Below (World.heap (w.alloc (.cells #[.int .i64 a, .int .i64 b, .int .i64 c, .int .i64 d, .int .i64 e] 34))).size (w.alloc (.cells #[.int .i64 a, .int .i64 b, .int .i64 c, .int .i64 d, .int .i64 e] 34)) w1 := Below.trans (by go_grown) (hb1.mono (by go_size))
  clear hb1
  obtain ⟨hc1, hf1⟩ := bcell hB1
  have hy1 := hB1.size
  go_wp2_with fail
  go_call (sLevelIn_any _ _ _ _ _ _ _) as r w2 ⟨rfl, hb2⟩
  have hB2 : Below (World.heap (w.alloc (.cells #[.int .i64 a, .int .i64 b, .int .i64 c, .int .i64 d, .int .i64 e] 34))).size (w.alloc (.cells #[.int .i64 a, .int .i64 b, .int .i64 c, .int .i64 d, .int .i64 e] 34)) w2 := Below.trans (by go_grown) (hb2.mono (by go_size))
  clear hb2
  clear hc1 hf1
  obtain ⟨hc2, hf2⟩ := bcell hB2
  have hy2 := hB2.size
  go_wp2_with fail
  go_call (toPlan_any _ _ _ _ _ _) as r w3 ⟨rfl, hb3⟩
  have hB3 : Below (World.heap (w.alloc (.cells #[.int .i64 a, .int .i64 b, .int .i64 c, .int .i64 d, .int .i64 e] 34))).size (w.alloc (.cells #[.int .i64 a, .int .i64 b, .int .i64 c, .int .i64 d, .int .i64 e] 34)) w3 := Below.trans (by go_grown) (hb3.mono (by go_size))
  clear hb3
  clear hc2 hf2
  obtain ⟨hc3, hf3⟩ := bcell hB3
  have hy3 := hB3.size
  go_wp2_with fail
  go_call (gLevelIn_any _ _ _ _ _ _ _) as r w4 ⟨rfl, hb4⟩
  have hB4 : Below (World.heap (w.alloc (.cells #[.int .i64 a, .int .i64 b, .int .i64 c, .int .i64 d, .int .i64 e] 34))).size (w.alloc (.cells #[.int .i64 a, .int .i64 b, .int .i64 c, .int .i64 d, .int .i64 e] 34)) w4 := Below.trans (by go_grown) (hb4.mono (by go_size))
  clear hb4
  clear hc3 hf3
  obtain ⟨hc4, hf4⟩ := bcell hB4
  have hy4 := hB4.size
  go_wp2_with fail
  go_ret
  exact ⟨rfl, Below.trans ((Below.refl _ _).alloc (Nat.le_refl _) _) (hB4.mono (by go_size))⟩

end Go.Proofs.Ythlppocaicgjkaa
