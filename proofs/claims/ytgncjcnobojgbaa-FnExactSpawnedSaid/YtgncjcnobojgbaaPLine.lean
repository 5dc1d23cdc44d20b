/- The program's places in a line: their order; how they lie in memory. No condition. -/
import Derived.Test.YtgncjcnobojgbaaB1
namespace Go.Proofs.Ytgncjcnobojgbaa
open Go.RowKit
set_option linter.unusedVariables false

/-- A place in a line: level, turn, number. -/
structure P3 where (l t i : Int)
instance : Inhabited P3 := ⟨⟨0, 0, 0⟩⟩
def P3.cs (x : P3) : List Value := [.int .i64 x.l, .int .i64 x.t, .int .i64 x.i]
def P3.val (x : P3) : Value := .agg #[.int .i64 x.l, .int .i64 x.t, .int .i64 x.i]
def pcells (ps : List P3) : List Value := ps.flatMap P3.cs
def aheadP (x y : P3) : Bool := if x.l = y.l then (if x.t = y.t then decide (x.i < y.i) else decide (x.t < y.t)) else decide (y.l < x.l)
theorem pcells_length (ps : List P3) : (pcells ps).length = ps.length * 3 := by
  induction ps with
  | nil => rfl
  | cons x r ih => simp only [pcells, List.flatMap_cons, List.length_append, List.length_cons] at ih ⊢; rw [ih]; simp [P3.cs]; omega
theorem pcells_get (ps : List P3) (k : Nat) (hk : k < ps.length) (j : Nat) (hj : j < 3) : (pcells ps)[k * 3 + j]? = ps[k].cs[j]? := by
  induction ps generalizing k with
  | nil => simp at hk
  | cons x r ih =>
    have e : pcells (x :: r) = x.cs ++ pcells r := rfl
    rw [e]
    cases k with
    | zero => rw [List.getElem?_append_left (by simp [P3.cs]; omega)]; simp
    | succ k =>
      have hl : x.cs.length = 3 := rfl
      rw [List.getElem?_append_right (by rw [hl]; omega), hl, show (k + 1) * 3 + j - 3 = k * 3 + j from by omega, ih k (by simpa using hk)]
      simp
theorem pcells_at (ps : List P3) (j : Nat) : (pcells ps)[j]? = (ps[j / 3]?).bind (fun t => t.cs[j % 3]?) := by
  by_cases h : j / 3 < ps.length
  · have := pcells_get ps (j / 3) h (j % 3) (by omega)
    rw [show j / 3 * 3 + j % 3 = j from by omega] at this
    rw [this]; simp [h]
  · rw [List.getElem?_eq_none (by rw [pcells_length]; omega), List.getElem?_eq_none (by omega)]; rfl
theorem pcells_put (ps : List P3) (k : Nat) (x : P3) : (((pcells ps).set (k * 3) (.int .i64 x.l)).set (k * 3 + 1) (.int .i64 x.t)).set (k * 3 + 2) (.int .i64 x.i) = pcells (ps.set k x) := by
  apply List.ext_getElem?
  intro j
  rw [pcells_at (ps.set k x)]
  simp only [List.getElem?_set, List.length_set, pcells_length]
  by_cases hk : k = j / 3
  · subst hk
    by_cases hl : j / 3 < ps.length
    · have h3 : j % 3 = 0 ∨ j % 3 = 1 ∨ j % 3 = 2 := by omega
      have hj : j < ps.length * 3 := by omega
      rcases h3 with h | h | h
      all_goals rw [h]
      all_goals simp only [hl, if_true, Option.bind_some, P3.cs]
      · rw [if_neg (by omega), if_neg (by omega), if_pos (by omega), if_pos (by omega)]; rfl
      · rw [if_neg (by omega), if_pos (by omega), if_pos (by omega)]; rfl
      · rw [if_pos (by omega), if_pos (by omega)]; rfl
    · simp only [hl, if_false, if_true, Option.bind_none]
      repeat (split; · first | omega | (split <;> first | omega | rfl))
      rw [List.getElem?_eq_none (by rw [pcells_length]; omega)]
  · rw [if_neg hk, if_neg (by omega), if_neg (by omega), if_neg (by omega), pcells_at]
theorem pcells_app (xs ys : List P3) : pcells xs ++ pcells ys = pcells (xs ++ ys) := by simp [pcells]
theorem pcells_take (xs : List P3) (k : Nat) : (pcells xs).take (k * 3) = pcells (xs.take k) := by
  apply List.ext_getElem?
  intro j
  rw [List.getElem?_take, pcells_at, pcells_at, List.getElem?_take]
  by_cases h : j < k * 3
  · rw [if_pos h, if_pos (show j / 3 < k by omega)]
  · rw [if_neg h, if_neg (show ¬ j / 3 < k by omega)]; rfl
theorem pcells_one (ps : List P3) : ∀ v ∈ pcells ps, v.oneCell' = true := by
  intro v hv
  obtain ⟨t, _, ht⟩ := List.mem_flatMap.1 hv
  simp only [P3.cs, List.mem_cons, List.not_mem_nil, or_false] at ht
  rcases ht with rfl | rfl | rfl <;> rfl
theorem infoPlace : (Try.prog.info? 135).map (fun i => (i.zero, i.size, i.bytes)) = some (some (.agg #[.int .i64 0, .int .i64 0, .int .i64 0]), 3, 24) := by kernel_rfl
theorem aheadP_asymm {x y : P3} (h : aheadP x y = true) : aheadP y x = false := by
  unfold aheadP at h ⊢
  by_cases h1 : x.l = y.l <;> by_cases h2 : x.t = y.t
  · simp only [h1, h2, if_true, decide_eq_true_eq] at h ⊢; simpa using (by omega : x.i ≤ y.i)
  · simp only [h1, h2, if_true, if_false, decide_eq_true_eq] at h ⊢; rw [if_neg (fun e => h2 e.symm)]; simpa using (by omega : x.t ≤ y.t)
  · simp only [h1, if_false, decide_eq_true_eq] at h ⊢; rw [if_neg (fun e => h1 e.symm)]; simpa using (by omega : y.l ≤ x.l)
  · simp only [h1, if_false, decide_eq_true_eq] at h ⊢; rw [if_neg (fun e => h1 e.symm)]; simpa using (by omega : y.l ≤ x.l)

set_option maxHeartbeats 4000000 in
theorem ahead_any (l t i l2 t2 i2 : Int) (w : World) :
    Calls Try.prog 193 #[.agg #[.int .i64 l, .int .i64 t, .int .i64 i], .agg #[.int .i64 l2, .int .i64 t2, .int .i64 i2]] w fun r w' => r = .returned (.bool (aheadP ⟨l, t, i⟩ ⟨l2, t2, i2⟩)) ∧ Below w.heap.size w w' := by
  by_cases k1 : l = l2
  · by_cases k2 : t = t2
    · have e : aheadP ⟨l, t, i⟩ ⟨l2, t2, i2⟩ = decide (i < i2) := by simp [aheadP, k1, k2]
      rw [e]
      subst k1 k2
      go_enter Try.func193, Try.ntmps193
      go_wp2
      go_ret
      exact ⟨rfl, by go_grown⟩
    · have e : aheadP ⟨l, t, i⟩ ⟨l2, t2, i2⟩ = decide (t < t2) := by simp [aheadP, k1, k2]
      rw [e]
      subst k1
      go_enter Try.func193, Try.ntmps193
      go_wp2
      go_ret
      exact ⟨rfl, by go_grown⟩
  · have e : aheadP ⟨l, t, i⟩ ⟨l2, t2, i2⟩ = decide (l2 < l) := by simp [aheadP, k1]
    rw [e]
    go_enter Try.func193, Try.ntmps193
    go_wp2
    go_ret
    exact ⟨rfl, by go_grown⟩
end Go.Proofs.Ytgncjcnobojgbaa
