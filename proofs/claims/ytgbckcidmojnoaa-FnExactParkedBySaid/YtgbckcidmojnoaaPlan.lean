/- The plan's functions of chapter 1, program and model: each answers by the same Bool, and what was in memory stays as it was. No condition. -/
import Derived.Test.YtgbckcidmojnoaaWords
import Derived.WalkKit
import Derived.WalkSpells
import Derived.WalkLawsBesides
import Derived.Handy
namespace Go.Proofs.Ytgbckcidmojnoaa
open Go.RowKit

def btw (n l h : Int) : Bool := decide (l ≤ n) && decide (n ≤ h)
theorem btw_t {n l h : Int} (a : l ≤ n) (b : n ≤ h) : btw n l h = true := by simp [btw, a, b]
theorem btw_f1 {n l h : Int} (a : ¬ l ≤ n) : btw n l h = false := by simp [btw, a]
theorem btw_f2 {n l h : Int} (b : ¬ n ≤ h) : btw n l h = false := by simp [btw, b]
theorem ret_bool {a b : Bool} (h : a = b) : Ending.returned (.bool a) = .returned (.bool b) := by rw [h]

set_option maxHeartbeats 400000 in
theorem between_any (n l h : Int) (w : World) :
    Calls Try.prog 91 #[.int .i64 n, .int .i64 l, .int .i64 h] w fun e w' => e = .returned (.bool (btw n l h)) ∧ w = w' := by
  by_cases a : l ≤ n
  · by_cases b : n ≤ h
    · rw [btw_t a b]
      go_enter Try.func91, Try.ntmps91
      go_wp2
      go_ret
      exact ⟨rfl, rfl⟩
    · rw [btw_f2 b]
      go_enter Try.func91, Try.ntmps91
      go_wp2
      go_ret
      exact ⟨rfl, rfl⟩
  · rw [btw_f1 a]
    go_enter Try.func91, Try.ntmps91
    go_wp2
    go_ret
    exact ⟨rfl, rfl⟩

set_option maxHeartbeats 400000 in
theorem l1In_any (n l h : Int) (w : World) :
    Calls Try.prog 59 #[.int .i64 n, .int .i64 l, .int .i64 h] w fun e w' => e = .returned (.bool (btw n l h)) ∧ w = w' := by
  by_cases a : l ≤ n
  · by_cases b : n ≤ h
    · rw [btw_t a b]
      go_enter Try.func59, Try.ntmps59
      go_wp2
      go_ret
      exact ⟨rfl, rfl⟩
    · rw [btw_f2 b]
      go_enter Try.func59, Try.ntmps59
      go_wp2
      go_ret
      exact ⟨rfl, rfl⟩
  · rw [btw_f1 a]
    go_enter Try.func59, Try.ntmps59
    go_wp2
    go_ret
    exact ⟨rfl, rfl⟩

def planB (a b c d e : Int) : Bool := btw a 1 8 && (btw b 1 30 && (btw c 1 4 && (btw d 0 4 && btw e 0 4)))

set_option maxHeartbeats 1000000 in
theorem right_any (a b c d e : Int) (w : World) :
    Calls Try.prog 47 #[.agg #[.int .i64 a, .int .i64 b, .int .i64 c, .int .i64 d, .int .i64 e]] w fun r w' => r = .returned (.bool (planB a b c d e)) ∧ Below w.heap.size w w' := by
  go_enter Try.func47, Try.ntmps47
  go_wp2_with (go_at_call 91; refine (between_any _ _ _ _).mono ?_; rintro e w' ⟨rfl, rfl⟩)
  all_goals go_ret
  all_goals exact ⟨ret_bool (by simp_all [planB]), (Below.refl _ _).alloc (Nat.le_refl _) _⟩

set_option maxHeartbeats 1000000 in
theorem sPlanOk_any (a b c d e : Int) (w : World) :
    Calls Try.prog 58 #[.agg #[.int .i64 a, .int .i64 b, .int .i64 c, .int .i64 d, .int .i64 e]] w fun r w' => r = .returned (.bool (planB a b c d e)) ∧ Below w.heap.size w w' := by
  go_enter Try.func58, Try.ntmps58
  go_wp2_with (go_at_call 59; refine (l1In_any _ _ _ _).mono ?_; rintro e w' ⟨rfl, rfl⟩)
  all_goals go_ret
  all_goals exact ⟨ret_bool (by simp_all [planB]), (Below.refl _ _).alloc (Nat.le_refl _) _⟩

set_option maxHeartbeats 1000000 in
theorem toPlan_any (a b c d e : Int) (w : World) :
    Calls Try.prog 40 #[.agg #[.int .i64 a, .int .i64 b, .int .i64 c, .int .i64 d, .int .i64 e]] w fun r w' => r = .returned (.agg #[.int .i64 a, .int .i64 b, .int .i64 c, .int .i64 d, .int .i64 e]) ∧ Below w.heap.size w w' := by
  go_enter Try.func40, Try.ntmps40
  go_wp2
  exact bodyPost_ret (v := .agg #[.int .i64 a, .int .i64 b, .int .i64 c, .int .i64 d, .int .i64 e]) (by simp [results, Try.results40, go_sem]) rfl ⟨rfl, (((Below.refl _ _).alloc (Nat.le_refl _) _).alloc (by simp) _).alloc (by simp; omega) _⟩

def workB (a b c d e n : Int) : Bool := planB a b c d e && btw n 0 (a - 1)
def levelB (a b c d e n : Int) : Bool := planB a b c d e && btw n 0 (c - 1)
theorem planB_a {a b c d e : Int} (h : planB a b c d e = true) : 1 ≤ a ∧ a ≤ 8 := by
  simp [planB, btw] at h; omega
theorem planB_c {a b c d e : Int} (h : planB a b c d e = true) : 1 ≤ c ∧ c ≤ 4 := by
  simp [planB, btw] at h; omega

set_option maxHeartbeats 1000000 in
theorem sWorkerIn_any (a b c d e n : Int) (w : World) :
    Calls Try.prog 119 #[.agg #[.int .i64 a, .int .i64 b, .int .i64 c, .int .i64 d, .int .i64 e], .int .i64 n] w fun r w' => r = .returned (.bool (workB a b c d e n)) ∧ Below w.heap.size w w' := by
  by_cases hp : planB a b c d e = true
  · have hbd := planB_a hp
    go_enter Try.func119, Try.ntmps119
    go_wp2_with first | (go_at_call 58; refine (sPlanOk_any _ _ _ _ _ _).mono ?_; rintro r w' ⟨rfl, hb1⟩; obtain ⟨hc, hf⟩ := bcell hb1) | (go_at_call 59; refine (l1In_any _ _ _ _).mono ?_; rintro e w' ⟨rfl, rfl⟩)
    go_ret
    exact ⟨ret_bool (by simp [workB, hp]), ((Below.refl _ _).alloc (Nat.le_refl _) _).trans (hb1.mono (by simp))⟩
  · have hp' : planB a b c d e = false := by simpa using hp
    clear hp
    go_enter Try.func119, Try.ntmps119
    go_wp2_with first | (go_at_call 58; refine (sPlanOk_any _ _ _ _ _ _).mono ?_; rintro r w' ⟨rfl, hb1⟩; obtain ⟨hc, hf⟩ := bcell hb1)
    go_ret
    exact ⟨ret_bool (by simp [workB, hp']), ((Below.refl _ _).alloc (Nat.le_refl _) _).trans (hb1.mono (by simp))⟩

set_option maxHeartbeats 1000000 in
theorem sLevelIn_any (a b c d e n : Int) (w : World) :
    Calls Try.prog 140 #[.agg #[.int .i64 a, .int .i64 b, .int .i64 c, .int .i64 d, .int .i64 e], .int .i64 n] w fun r w' => r = .returned (.bool (levelB a b c d e n)) ∧ Below w.heap.size w w' := by
  by_cases hp : planB a b c d e = true
  · have hbd := planB_c hp
    go_enter Try.func140, Try.ntmps140
    go_wp2_with first | (go_at_call 58; refine (sPlanOk_any _ _ _ _ _ _).mono ?_; rintro r w' ⟨rfl, hb1⟩; obtain ⟨hc, hf⟩ := bcell hb1) | (go_at_call 59; refine (l1In_any _ _ _ _).mono ?_; rintro e w' ⟨rfl, rfl⟩)
    go_ret
    exact ⟨ret_bool (by simp [levelB, hp]), ((Below.refl _ _).alloc (Nat.le_refl _) _).trans (hb1.mono (by simp))⟩
  · have hp' : planB a b c d e = false := by simpa using hp
    clear hp
    go_enter Try.func140, Try.ntmps140
    go_wp2_with first | (go_at_call 58; refine (sPlanOk_any _ _ _ _ _ _).mono ?_; rintro r w' ⟨rfl, hb1⟩; obtain ⟨hc, hf⟩ := bcell hb1)
    go_ret
    exact ⟨ret_bool (by simp [levelB, hp']), ((Below.refl _ _).alloc (Nat.le_refl _) _).trans (hb1.mono (by simp))⟩

set_option maxHeartbeats 1000000 in
theorem hasWorker_any (a b c d e n : Int) (w : World) (h1 : 1 ≤ a) (h2 : a ≤ 30) :
    Calls Try.prog 157 #[.agg #[.int .i64 a, .int .i64 b, .int .i64 c, .int .i64 d, .int .i64 e], .int .i64 n] w fun r w' => r = .returned (.bool (btw n 0 (a - 1))) ∧ Below w.heap.size w w' := by
  go_enter Try.func157, Try.ntmps157
  go_wp2_with (go_at_call 91; refine (between_any _ _ _ _).mono ?_; rintro e w' ⟨rfl, rfl⟩)
  go_ret
  exact ⟨rfl, (Below.refl _ _).alloc (Nat.le_refl _) _⟩

set_option maxHeartbeats 1000000 in
theorem hasLevel_any (a b c d e n : Int) (w : World) (h1 : 1 ≤ c) (h2 : c ≤ 30) :
    Calls Try.prog 154 #[.agg #[.int .i64 a, .int .i64 b, .int .i64 c, .int .i64 d, .int .i64 e], .int .i64 n] w fun r w' => r = .returned (.bool (btw n 0 (c - 1))) ∧ Below w.heap.size w w' := by
  go_enter Try.func154, Try.ntmps154
  go_wp2_with (go_at_call 91; refine (between_any _ _ _ _).mono ?_; rintro e w' ⟨rfl, rfl⟩)
  go_ret
  exact ⟨rfl, (Below.refl _ _).alloc (Nat.le_refl _) _⟩

end Go.Proofs.Ytgbckcidmojnoaa
