/- A right pool in which a task that waits is woken is right, where a turn is left. No condition. -/
import Derived.Test.YtgncjcnobojgbaaGWake
namespace Go.Proofs.Ytgncjcnobojgbaa
open Go.RowKit
set_option linter.unusedVariables false

theorem allFrom_iff (P : Nat → T7 → Bool) (ts : List T7) (i : Nat) : allFrom P i ts = true ↔ ∀ (k : Nat) (t : T7), ts[k]? = some t → P (i + k) t = true := by
  induction ts generalizing i with
  | nil => simp [allFrom]
  | cons x r ih =>
    simp only [allFrom, Bool.and_eq_true, ih]
    constructor
    · rintro ⟨h1, h2⟩ k t hk
      cases k with
      | zero => simp only [List.getElem?_cons_zero, Option.some.injEq] at hk; subst hk; exact h1
      | succ k =>
        have := h2 k t (by simpa using hk)
        rwa [show i + 1 + k = i + (k + 1) by omega] at this
    · intro h
      refine ⟨h 0 x rfl, fun k t hk => ?_⟩
      have := h (k + 1) t (by simpa using hk)
      rwa [show i + (k + 1) = i + 1 + k by omega] at this
theorem tasksB_iff (a b c d e : Int) (ts : List T7) (tn : Int) : tasksB a b c d e ts tn = true ↔ ∀ (k : Nat) (t : T7), ts[k]? = some t → fitB a b c d e ts tn k t = true := by
  unfold tasksB
  rw [allFrom_iff]
  simp
/-- Who alone runs stays alone where one that does not run is put in another one's place. -/
theorem soloTo_set {ts : List T7} {k : Nat} {y : T7} (hy : y.s ≠ 2) (j : Nat) (s o : Int) (h : soloTo ts j s o = true) : soloTo (ts.set k y) j s o = true := by
  unfold soloTo at h ⊢
  rw [Bool.or_eq_true] at h ⊢
  rcases h with h | h
  · exact .inl h
  · refine .inr ?_
    rw [List.all_eq_true] at h ⊢
    intro u hu
    rw [List.take_set] at hu
    rcases List.mem_or_eq_of_mem_set hu with hu | rfl
    · exact h u hu
    · simp [hy]
/-- One task becomes another one that does not run; the pool's turn goes on. -/
theorem tasksB_set {a b c d e : Int} {ts : List T7} {tn tn' : Int} {k : Nat} {y : T7} (h : tasksB a b c d e ts tn = true) (ht : tn ≤ tn') (hs : y.s ≠ 2) (hy : fitB a b c d e (ts.set k y) tn' k y = true) : tasksB a b c d e (ts.set k y) tn' = true := by
  rw [tasksB_iff] at h ⊢
  intro j t hj
  by_cases e1 : k = j
  · subst e1
    rw [List.getElem?_set] at hj
    by_cases hl : k < ts.length
    · simp only [if_true, if_pos hl, Option.some.injEq] at hj
      subst hj; exact hy
    · simp [hl] at hj
  · rw [List.getElem?_set_ne e1] at hj
    have h1 := h j t hj
    simp only [fitB, Bool.and_eq_true, decide_eq_true_eq] at h1 ⊢
    refine ⟨h1.1, by omega, soloTo_set hs j _ _ h1.2.2.1, ?_⟩
    rw [List.length_set]
    exact h1.2.2.2
theorem poolB_parts {a b c d e : Int} {ts : List T7} {ks : List Int} {fs : List F2} {tn : Int} (h : poolB a b c d e ts ks fs tn = true) : planB a b c d e = true ∧ (0 ≤ tn ∧ tn ≤ 1000000) ∧ (ts.length : Int) ≤ b ∧ tasksB a b c d e ts tn = true := by
  simp only [poolB, Bool.and_eq_true, decide_eq_true_eq] at h
  refine ⟨h.1, ?_, h.2.2.1.1, h.2.2.1.2⟩
  have := h.2.1
  simp [btw] at this
  exact this
theorem poolB_turn {a b c d e : Int} {ts us : List T7} {ks : List Int} {fs : List F2} {tn tn' : Int} (h : poolB a b c d e ts ks fs tn = true) (hl : us.length = ts.length) (ht : 0 ≤ tn' ∧ tn' ≤ 1000000) (hu : tasksB a b c d e us tn' = true) : poolB a b c d e us ks fs tn' = true := by
  simp only [poolB, Bool.and_eq_true, decide_eq_true_eq] at h ⊢
  refine ⟨h.1, ?_, ⟨?_, hu⟩, h.2.2.2⟩
  · simp [btw]; exact ht
  · rw [hl]; exact h.2.2.1.1
theorem wakeT_fit {a b c d e : Int} {ts us : List T7} {tn v : Int} {k : Nat} {x : T7} (hp : planB a b c d e = true) (ht : 0 ≤ tn ∧ tn ≤ 1000000) (hx : fitB a b c d e ts tn k x = true) (hs : x.s = 3) (hv : btw v 0 9999 = true) : fitB a b c d e us (tn + 1) k (wakeT x tn v) = true := by
  simp only [fitB, taskB, Bool.and_eq_true, decide_eq_true_eq] at hx ⊢
  obtain ⟨⟨_, _, hl, ho, hw, _, _⟩, _⟩ := hx
  refine ⟨⟨hp, by simp [wakeT, btw], hl, ?_, ?_, hv, ?_⟩, by show tn < tn + 1; omega, by simp [soloTo, wakeT], by simp [waitsOk, wakeT]⟩
  · rw [hs] at ho
    simp only [wakeT]
    unfold ownB at ho ⊢
    simpa using ho
  · simp only [wakeT]
    unfold waitB
    simp
  · exact btw_t ht.1 ht.2
theorem wake_right {a b c d e : Int} {ts : List T7} {ks : List Int} {fs : List F2} {tn v : Int} {k : Nat} {x : T7} (h : poolB a b c d e ts ks fs tn = true) (hx : ts[k]? = some x) (hs : x.s = 3) (hv : btw v 0 9999 = true) (ht : tn < 1000000) : poolB a b c d e (ts.set k (wakeT x tn v)) ks fs (tn + 1) = true := by
  obtain ⟨hp, hb, _, hT⟩ := poolB_parts h
  refine poolB_turn h (by simp) (by omega) (tasksB_set hT (by omega) (by simp [wakeT]) ?_)
  exact wakeT_fit hp hb ((tasksB_iff ..).1 hT k x hx) hs hv
theorem turn_over {a b c d e : Int} {ts : List T7} {ks : List Int} {fs : List F2} {tn : Int} (h : ¬ tn ≤ 1000000) : poolB a b c d e ts ks fs tn = false := by
  rw [Bool.eq_false_iff]
  intro h1
  exact h (poolB_parts h1).2.1.2
end Go.Proofs.Ytgncjcnobojgbaa
