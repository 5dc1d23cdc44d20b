/- Of a right pool: counts of all states make up all tasks; as many workers run one as tasks are run. No condition. -/
import Derived.Test.YtgncjcnobojgbaaQFnPools18
import Derived.Test.YtgncjcnobojgbaaQFnPools17
import Derived.Test.YtgncjcnobojgbaaQFnPools11
import Derived.Test.YtgncjcnobojgbaaQFnPools04
import Derived.Test.YtgncjcnobojgbaaQFnPools05

namespace Go.Proofs.Ytgncjcnobojgbaa
open Go.RowKit
set_option linter.unusedVariables false

theorem allFrom_iff (P : Nat → T7 → Bool) (ts : List T7) (i : Nat) : allFrom P i ts = true ↔ ∀ (k : Nat) (t : T7), ts[k]? = some t → P (i + k) t = true := by
  induction ts generalizing i with
  | nil => simp [allFrom]
  | cons x r ih =>
    simp only [allFrom, Bool.and_eq_true, ih]
    constructor
    · rintro ⟨h1, h2⟩ k t hk
      cases k with
      | zero => simp only [List.getElem?_cons_zero, Option.some.injEq] at hk; subst hk; exact h1
      | succ k =>
        have := h2 k t (by simpa using hk)
        rwa [show i + 1 + k = i + (k + 1) by omega] at this
    · intro h
      refine ⟨h 0 x rfl, fun k t hk => ?_⟩
      have := h (k + 1) t (by simpa using hk)
      rwa [show i + (k + 1) = i + 1 + k by omega] at this
theorem tasksB_iff (a b c d e : Int) (ts : List T7) (tn : Int) : tasksB a b c d e ts tn = true ↔ ∀ (k : Nat) (t : T7), ts[k]? = some t → fitB a b c d e ts tn k t = true := by
  unfold tasksB
  rw [allFrom_iff]
  simp
theorem poolB_parts {a b c d e : Int} {ts : List T7} {ks : List Int} {fs : List F2} {tn : Int} (h : poolB a b c d e ts ks fs tn = true) : planB a b c d e = true ∧ (0 ≤ tn ∧ tn ≤ 1000000) ∧ (ts.length : Int) ≤ b ∧ tasksB a b c d e ts tn = true := by
  simp only [poolB, Bool.and_eq_true, decide_eq_true_eq] at h
  refine ⟨h.1, ?_, h.2.2.1.1, h.2.2.1.2⟩
  have := h.2.1
  simp [btw] at this
  exact this
end Go.Proofs.Ytgncjcnobojgbaa

namespace Go.Proofs.Ytgncjcnobojgbaa
open Go.RowKit
set_option linter.unusedVariables false

theorem count_states (ts : List T7) (h : ∀ t ∈ ts, 1 ≤ t.s ∧ t.s ≤ 5) : countM ts 1 + countM ts 2 + countM ts 3 + countM ts 4 + countM ts 5 = ts.length := by
  induction ts with
  | nil => rfl
  | cons t r ih =>
    have h1 := ih (fun u hu => h u (List.mem_cons_of_mem _ hu))
    have h2 := h t List.mem_cons_self
    have hs : t.s = 1 ∨ t.s = 2 ∨ t.s = 3 ∨ t.s = 4 ∨ t.s = 5 := by omega
    simp only [countM, List.length_cons]
    rcases hs with hs | hs | hs | hs | hs <;> simp [hs] <;> omega
def hasRun (ts : List T7) (w : Int) : Bool := ts.any fun t => t.s == 2 && t.o == w
theorem hasRun_cons (t : T7) (r : List T7) (w : Int) : hasRun (t :: r) w = ((t.s == 2 && t.o == w) || hasRun r w) := rfl
theorem runM_has (ts : List T7) (w i : Int) (hi : 0 ≤ i) : decide (0 ≤ runM ts w i) = hasRun ts w := by
  induction ts generalizing i with
  | nil => rfl
  | cons t r ih =>
    simp only [runM, hasRun, List.any_cons]
    split
    · rename_i h
      simp [h.1, h.2, hi]
    · rename_i h
      have h1 : (t.s == 2 && t.o == w) = false := by simpa using h
      rw [h1, Bool.false_or]
      exact ih (i + 1) (by omega)
def sumW (f : Nat → Nat) : Nat → Nat
  | 0 => 0
  | n + 1 => sumW f n + f n
theorem sumW_add (f g : Nat → Nat) (n : Nat) : sumW (fun k => f k + g k) n = sumW f n + sumW g n := by
  induction n with
  | zero => rfl
  | succ n ih => simp only [sumW, ih]; omega
theorem sumW_congr {f g : Nat → Nat} {n : Nat} (h : ∀ k, k < n → f k = g k) : sumW f n = sumW g n := by
  induction n with
  | zero => rfl
  | succ n ih => simp only [sumW]; rw [ih (fun k hk => h k (by omega)), h n (by omega)]
theorem sumW_one (o : Int) (n : Nat) (h0 : 0 ≤ o) : sumW (fun k => if o = (k : Int) then 1 else 0) n = if o < n then 1 else 0 := by
  induction n with
  | zero => simp [sumW]; omega
  | succ n ih =>
    simp only [sumW, ih]
    split <;> split <;> split <;> omega
theorem sumW_zero (n : Nat) : sumW (fun _ => 0) n = 0 := by
  induction n with
  | zero => rfl
  | succ n ih => simp [sumW, ih]
theorem ran_count (ts : List T7) (a : Nat) (ho : ∀ t ∈ ts, t.s = 2 → 0 ≤ t.o ∧ t.o < a) (hp : ts.Pairwise fun t u => ¬ (t.s = 2 ∧ u.s = 2 ∧ t.o = u.o)) : sumW (fun w => if hasRun ts w = true then 1 else 0) a = countM ts 2 := by
  induction ts with
  | nil => exact sumW_zero a
  | cons t r ih =>
    have ih := ih (fun u hu => ho u (List.mem_cons_of_mem _ hu)) (List.pairwise_cons.1 hp).2
    have hd := (List.pairwise_cons.1 hp).1
    simp only [countM]
    by_cases hs : t.s = 2
    · have hto := ho t List.mem_cons_self hs
      rw [if_pos hs, ← ih]
      have e : sumW (fun w => if hasRun (t :: r) w = true then 1 else 0) a = sumW (fun w => (if hasRun r w = true then 1 else 0) + (if t.o = (w : Int) then 1 else 0)) a := by
        refine sumW_congr fun k hk => ?_
        rw [hasRun_cons]
        by_cases hk2 : t.o = (k : Int)
        · have hr : hasRun r (k : Int) = false := by
            unfold hasRun
            rw [List.any_eq_false]
            intro u hu
            have := hd u hu
            simp only [hs, true_and, not_and] at this
            simp only [Bool.and_eq_true, beq_iff_eq, not_and]
            intro h2 h3
            exact this h2 (by omega)
          rw [hr]
          simp [hs, hk2]
        · have h2 : (t.s == 2 && t.o == (k : Int)) = false := by simp [hk2]
          rw [h2, Bool.false_or, if_neg hk2, Nat.add_zero]
      rw [e, sumW_add, sumW_one t.o a hto.1, if_pos hto.2]
    · rw [if_neg hs, ← ih]
      refine sumW_congr fun k hk => ?_
      have h2 : (t.s == 2 && t.o == (k : Int)) = false := by simp [hs]
      rw [hasRun_cons, h2, Bool.false_or]
theorem right_states {a b c d e : Int} {ts : List T7} {tn : Int} (h : tasksB a b c d e ts tn = true) : ∀ t ∈ ts, 1 ≤ t.s ∧ t.s ≤ 5 := by
  intro t ht
  obtain ⟨k, hk, rfl⟩ := List.mem_iff_getElem.1 ht
  have h1 := (tasksB_iff ..).1 h k _ (List.getElem?_eq_getElem hk)
  simp only [fitB, taskB, Bool.and_eq_true] at h1
  have h2 := h1.1.2.1
  simp [btw] at h2
  omega
theorem right_owner {a b c d e : Int} {ts : List T7} {tn : Int} (h : tasksB a b c d e ts tn = true) : ∀ t ∈ ts, t.s = 2 → 0 ≤ t.o ∧ t.o < a := by
  intro t ht hs
  obtain ⟨k, hk, rfl⟩ := List.mem_iff_getElem.1 ht
  have h1 := (tasksB_iff ..).1 h k _ (List.getElem?_eq_getElem hk)
  simp only [fitB, taskB, Bool.and_eq_true] at h1
  have h2 := h1.1.2.2.2.1
  unfold ownB at h2
  rw [if_pos hs] at h2
  simp [btw] at h2
  omega
theorem right_solo {a b c d e : Int} {ts : List T7} {tn : Int} (h : tasksB a b c d e ts tn = true) : ts.Pairwise fun t u => ¬ (t.s = 2 ∧ u.s = 2 ∧ t.o = u.o) := by
  rw [List.pairwise_iff_getElem]
  rintro i j hi hj hij ⟨h1, h2, h3⟩
  have h4 := (tasksB_iff ..).1 h j _ (List.getElem?_eq_getElem hj)
  simp only [fitB, Bool.and_eq_true] at h4
  have h5 := h4.2.2.1
  unfold soloTo at h5
  rw [h2] at h5
  simp only [beq_self_eq_true, Bool.not_true, Bool.false_or, List.all_eq_true] at h5
  have h6 := h5 ts[i] (by rw [List.mem_take_iff_getElem]; exact ⟨i, by omega, rfl⟩)
  simp [h1, h3] at h6
end Go.Proofs.Ytgncjcnobojgbaa
