/- Heaps of places, as container/heap has them: what a change of two places, a step up and a step down keep; and that the model's lines are sorted. No condition. -/
import Derived.Test.YtgncjcnobojgbaaQFnLines48

namespace Go.Proofs.Ytgncjcnobojgbaa
open Go.RowKit
set_option linter.unusedVariables false

theorem aheadP_iff {x y : P3} : aheadP x y = true ↔ y.l < x.l ∨ x.l = y.l ∧ (x.t < y.t ∨ x.t = y.t ∧ x.i < y.i) := by
  unfold aheadP
  split
  · rename_i h1
    split
    · rename_i h2; simp only [decide_eq_true_eq]; omega
    · rename_i h2; simp only [decide_eq_true_eq]; omega
  · rename_i h1; simp only [decide_eq_true_eq]; omega
/-- x stands no later than y. -/
def leP (x y : P3) : Prop := aheadP y x = false
theorem leP_iff {x y : P3} : leP x y ↔ ¬ (x.l < y.l ∨ y.l = x.l ∧ (y.t < x.t ∨ y.t = x.t ∧ y.i < x.i)) := by
  rw [← aheadP_iff]; unfold leP; simp
theorem leP.refl (x : P3) : leP x x := by rw [leP_iff]; omega
theorem leP.trans {x y z : P3} (h : leP x y) (k : leP y z) : leP x z := by rw [leP_iff] at *; omega
theorem leP.antisymm {x y : P3} (h : leP x y) (k : leP y x) : x = y := by
  rw [leP_iff] at *
  have h1 : x.l = y.l ∧ x.t = y.t ∧ x.i = y.i := by omega
  cases x; cases y
  simp only at h1
  obtain ⟨h1, h2, h3⟩ := h1
  subst h1 h2 h3
  rfl
theorem leP.of_ahead {x y : P3} (h : aheadP x y = true) : leP x y := by rw [aheadP_iff] at h; rw [leP_iff]; omega
def swapL (ps : List P3) (i j : Nat) : List P3 := (ps.set i (ps.getD j default)).set j (ps.getD i default)
@[simp] theorem swapL_length (ps : List P3) (i j : Nat) : (swapL ps i j).length = ps.length := by simp [swapL]
theorem getD3 {ps : List P3} {k : Nat} (hk : k < ps.length) : ps.getD k default = ps[k] := by rw [List.getD_eq_getElem?_getD, List.getElem?_eq_getElem hk]; rfl
theorem swapL_get {ps : List P3} {i j : Nat} (hi : i < ps.length) (hj : j < ps.length) (k : Nat) (hk : k < ps.length) :
    (swapL ps i j).getD k default = if k = j then ps.getD i default else if k = i then ps.getD j default else ps.getD k default := by
  simp only [List.getD_eq_getElem?_getD, swapL, List.getElem?_set, List.length_set]
  by_cases h1 : k = j
  · subst h1; simp [hj]
  · rw [if_neg h1, if_neg (show ¬ j = k from fun e => h1 e.symm)]
    by_cases h2 : k = i
    · subst h2; simp [hi]
    · rw [if_neg h2, if_neg (show ¬ i = k from fun e => h2 e.symm)]
theorem swapL_self {ps : List P3} {i : Nat} (hi : i < ps.length) : swapL ps i i = ps := by
  unfold swapL
  rw [getD3 hi, List.set_set, List.set_getElem_self]
theorem set_perm {ps : List P3} {j : Nat} (hj : j < ps.length) (x : P3) : (ps[j] :: ps.set j x).Perm (x :: ps) := by
  induction ps generalizing j with
  | nil => simp at hj
  | cons y r ih =>
    cases j with
    | zero => exact List.Perm.swap _ _ _
    | succ j =>
      have h := ih (j := j) (by simpa using hj)
      simp only [List.getElem_cons_succ, List.set_cons_succ]
      exact (List.Perm.swap _ _ _).trans ((h.cons y).trans (List.Perm.swap _ _ _))
theorem swapL_perm {ps : List P3} {i j : Nat} (hi : i < ps.length) (hj : j < ps.length) : (swapL ps i j).Perm ps := by
  by_cases hij : i = j
  · subst hij; rw [swapL_self hi]
  · unfold swapL
    rw [getD3 hi, getD3 hj]
    have h1 := set_perm (ps := ps.set i ps[j]) (j := j) (by simpa using hj) ps[i]
    rw [List.getElem_set_ne hij] at h1
    have h2 := set_perm hi ps[j]
    exact (List.perm_cons ps[j]).1 (h1.trans h2)
theorem swapL_append {qs : List P3} {i j : Nat} (hi : i < qs.length) (hj : j < qs.length) (rs : List P3) : swapL (qs ++ rs) i j = swapL qs i j ++ rs := by
  unfold swapL
  rw [getD3 (by simp; omega), getD3 (by simp; omega), List.getElem_append_left hi, List.getElem_append_left hj, getD3 hi, getD3 hj, List.set_append_left _ _ hi, List.set_append_left _ _ (by simpa using hj)]

/-- The place of number k. -/
abbrev at3 (ps : List P3) (k : Nat) : P3 := ps.getD k default
def par (k : Nat) : Nat := (k - 1) / 2
def HeapL (ps : List P3) : Prop := ∀ k, 0 < k → k < ps.length → leP (at3 ps (par k)) (at3 ps k)
/-- A heap, but for number j, which may be ahead of those above it. -/
def HeapUp (ps : List P3) (j : Nat) : Prop :=
  (∀ k, 0 < k → k < ps.length → k ≠ j → leP (at3 ps (par k)) (at3 ps k)) ∧ (0 < j → ∀ k, 0 < k → k < ps.length → par k = j → leP (at3 ps (par j)) (at3 ps k))
/-- A heap, but for number i, which may be behind those below it. -/
def HeapDn (ps : List P3) (i : Nat) : Prop :=
  (∀ k, 0 < k → k < ps.length → par k ≠ i → leP (at3 ps (par k)) (at3 ps k)) ∧ (0 < i → ∀ k, 0 < k → k < ps.length → par k = i → leP (at3 ps (par i)) (at3 ps k))
theorem par_lt {k : Nat} (h : 0 < k) : par k < k := by unfold par; omega
theorem HeapL.root {ps : List P3} (h : HeapL ps) (k : Nat) (hk : k < ps.length) : leP (at3 ps 0) (at3 ps k) := by
  induction k using Nat.strongRecOn with
  | ind k ih =>
    by_cases h0 : k = 0
    · subst h0; exact leP.refl _
    · have h1 := par_lt (k := k) (by omega)
      exact (ih (par k) h1 (by omega)).trans (h k (by omega) hk)
theorem HeapL.first {ps : List P3} (h : HeapL ps) : ∀ x ∈ ps, leP (at3 ps 0) x := by
  intro x hx
  obtain ⟨k, hk, rfl⟩ := List.mem_iff_getElem.1 hx
  have := h.root k hk
  unfold at3 at this ⊢
  rwa [getD3 hk] at this
theorem HeapUp.zero {ps : List P3} (h : HeapUp ps 0) : HeapL ps := fun k h0 hk => h.1 k h0 hk (by omega)
theorem HeapUp.done {ps : List P3} {j : Nat} (h : HeapUp ps j) (hj : aheadP (at3 ps j) (at3 ps (par j)) = false) : HeapL ps := fun k h0 hk => by
  by_cases e : k = j
  · subst e; exact hj
  · exact h.1 k h0 hk e
theorem HeapUp.swap {ps : List P3} {j : Nat} (h : HeapUp ps j) (h0 : 0 < j) (hj : j < ps.length) (ha : aheadP (at3 ps j) (at3 ps (par j)) = true) : HeapUp (swapL ps (par j) j) (par j) := by
  have hp := par_lt h0
  have hi : par j < ps.length := by omega
  have hle := leP.of_ahead ha
  refine ⟨fun k hk0 hk hne => ?_, fun hp0 k hk0 hk hpk => ?_⟩
  · rw [swapL_length] at hk
    have hk1 := par_lt hk0
    unfold at3
    rw [swapL_get hi hj _ hk, swapL_get hi hj _ (by omega)]
    by_cases e1 : k = j
    · subst e1
      rw [if_pos rfl, if_neg (by omega), if_pos rfl]
      exact hle
    · rw [if_neg e1, if_neg hne]
      by_cases e2 : par k = j
      · rw [if_pos e2]
        exact h.2 h0 k hk0 hk e2
      · rw [if_neg e2]
        by_cases e3 : par k = par j
        · rw [if_pos e3]
          have := h.1 k hk0 hk e1
          rw [e3] at this
          exact hle.trans this
        · rw [if_neg e3]
          exact h.1 k hk0 hk e1
  · rw [swapL_length] at hk
    have hk1 := par_lt hk0
    have hpp := par_lt hp0
    unfold at3
    rw [swapL_get hi hj _ hk, swapL_get hi hj _ (by omega), if_neg (by omega), if_neg (by omega)]
    by_cases e1 : k = j
    · subst e1
      rw [if_pos rfl]
      exact h.1 (par k) (by omega) hi (by omega)
    · rw [if_neg e1, if_neg (by omega)]
      have h1 := h.1 k hk0 hk e1
      rw [hpk] at h1
      exact (h.1 (par j) (by omega) hi (by omega)).trans h1
/-- No one below number i is ahead of it: a heap. -/
theorem HeapDn.done {ps : List P3} {i : Nat} (h : HeapDn ps i) (hi : ∀ k, 0 < k → k < ps.length → par k = i → leP (at3 ps i) (at3 ps k)) : HeapL ps := fun k h0 hk => by
  by_cases e : par k = i
  · rw [e]; exact hi k h0 hk e
  · exact h.1 k h0 hk e
/-- Number i changes places with the first one of those below it. -/
theorem HeapDn.swap {ps : List P3} {i j : Nat} (h : HeapDn ps i) (h0 : 0 < j) (hj : j < ps.length) (hp : par j = i) (ha : aheadP (at3 ps j) (at3 ps i) = true)
    (hm : ∀ k, 0 < k → k < ps.length → par k = i → leP (at3 ps j) (at3 ps k)) : HeapDn (swapL ps i j) j := by
  have hpl := par_lt h0
  have hi : i < ps.length := by omega
  have hle := leP.of_ahead ha
  refine ⟨fun k hk0 hk hne => ?_, fun hp0 k hk0 hk hpk => ?_⟩
  · rw [swapL_length] at hk
    have hk1 := par_lt hk0
    unfold at3
    rw [swapL_get hi hj _ hk, swapL_get hi hj _ (by omega)]
    by_cases e1 : k = j
    · subst e1
      rw [if_pos rfl, if_neg (by omega), if_pos hp]
      exact hle
    · rw [if_neg e1, if_neg hne]
      by_cases e2 : k = i
      · rw [if_pos e2, if_neg (by omega)]
        have h1 := h.2 (by omega) j h0 hj hp
        rw [← e2] at h1
        exact h1
      · rw [if_neg e2]
        by_cases e3 : par k = i
        · rw [if_pos e3]
          exact hm k hk0 hk e3
        · rw [if_neg e3]
          exact h.1 k hk0 hk e3
  · rw [swapL_length] at hk
    have hk1 := par_lt hk0
    unfold at3
    rw [swapL_get hi hj _ hk, swapL_get hi hj _ (by omega), if_neg (show ¬ par j = j by omega), if_pos hp, if_neg (show ¬ k = j by omega), if_neg (show ¬ k = i by omega)]
    have h1 := h.1 k hk0 hk (by omega)
    rw [hpk] at h1
    exact h1
theorem HeapL.push {ps : List P3} (h : HeapL ps) (x : P3) : HeapUp (ps ++ [x]) ps.length := by
  refine ⟨fun k h0 hk hne => ?_, fun h0 k hk0 hk hp => ?_⟩
  · simp at hk
    have hk1 := par_lt h0
    have e : ∀ m, m < ps.length → at3 (ps ++ [x]) m = at3 ps m := fun m hm => by unfold at3; rw [getD3 (by simp; omega), getD3 hm, List.getElem_append_left hm]
    rw [e k (by omega), e (par k) (by omega)]
    exact h k h0 (by omega)
  · simp at hk
    have hk1 := par_lt hk0
    omega
/-- The last one at the root: a heap but for it. -/
theorem HeapL.popped {qs : List P3} {x : P3} (h : HeapL (qs ++ [x])) (hq : 0 < qs.length) : HeapDn (qs.set 0 x) 0 := by
  refine ⟨fun k h0 hk hne => ?_, fun h0 => by omega⟩
  rw [List.length_set] at hk
  have hk1 := par_lt h0
  have e : ∀ m, 0 < m → m < qs.length → at3 (qs.set 0 x) m = at3 (qs ++ [x]) m := fun m hm0 hm => by
    unfold at3; rw [getD3 (by simp; omega), getD3 (by simp; omega), List.getElem_append_left hm, List.getElem_set_ne (by omega)]
  rw [e k (by omega) hk, e (par k) (by omega) (by omega)]
  exact h k h0 (by simp; omega)
theorem HeapL.nil : HeapL [] := fun k _ hk => by simp at hk
theorem swap_last {qs : List P3} {x : P3} (hq : 0 < qs.length) : swapL (qs ++ [x]) 0 qs.length = qs.set 0 x ++ [at3 qs 0] := by
  unfold swapL at3
  rw [getD3 (by simp), getD3 (by simp), getD3 hq, List.getElem_append_left hq, List.getElem_concat_length rfl, List.set_append_left _ _ hq, List.set_append_right _ _ (by simp)]
  simp
theorem popped_perm {qs : List P3} {x : P3} (hq : 0 < qs.length) : (at3 qs 0 :: qs.set 0 x).Perm (qs ++ [x]) := by
  have h := set_perm hq x
  unfold at3
  rw [getD3 hq]
  exact h.trans (List.perm_append_comm (l₁ := [x]) (l₂ := qs))

/-! ### The model's lines are sorted. -/
theorem sorted_ins (pl : Int → P3) (P : Int → Bool) (k : Int) : ∀ (xs : List Int), (∀ j ∈ xs, P j = aheadP (pl k) (pl j)) → (xs.map pl).Pairwise leP → ((insAt xs (posDown P xs xs.length) k).map pl).Pairwise leP := by
  intro xs hP hs
  have hpos : ∀ n, n ≤ xs.length → (∀ m, posDown P xs n ≤ m → m < n → P (xs.getD m 0) = true) ∧ (0 < posDown P xs n → P (xs.getD (posDown P xs n - 1) 0) = false) := by
    intro n hn
    induction n with
    | zero => exact ⟨fun m h1 h2 => by omega, fun h => by simp [posDown] at h⟩
    | succ n ih =>
      have ih := ih (by omega)
      simp only [posDown]
      split
      · rename_i hp
        refine ⟨fun m h1 h2 => ?_, ih.2⟩
        by_cases e : m = n
        · subst e; exact hp
        · exact ih.1 m h1 (by omega)
      · rename_i hp
        exact ⟨fun m h1 h2 => by omega, fun _ => by simpa using hp⟩
  obtain ⟨h1, h2⟩ := hpos xs.length (Nat.le_refl _)
  have hle := posDown_le P xs xs.length
  generalize posDown P xs xs.length = p at *
  have hg : ∀ m (hm : m < xs.length), xs.getD m 0 = xs[m] := fun m hm => by rw [List.getD_eq_getElem?_getD, List.getElem?_eq_getElem hm]; rfl
  unfold insAt
  rw [List.map_append, List.map_append, List.map_take, List.map_drop]
  have hall := hs
  rw [← List.take_append_drop p (xs.map pl)] at hall
  have hap := List.pairwise_append.1 hall
  -- those ahead
  have ht : ∀ y ∈ (xs.map pl).take p, leP y (pl k) := by
    intro y hy
    rcases Nat.eq_zero_or_pos p with rfl | hp
    · simp at hy
    · have hq : p - 1 < xs.length := by omega
      have hlast : leP (pl xs[p - 1]) (pl k) := by
        have h3 := h2 hp
        rw [hg _ hq, hP _ (List.getElem_mem hq)] at h3
        exact h3
      obtain ⟨m, hm, rfl⟩ := List.mem_iff_getElem.1 hy
      rw [List.length_take] at hm
      have hm' : m < xs.length := by simp at hm; omega
      rw [List.getElem_take, List.getElem_map]
      by_cases e : m = p - 1
      · subst e; exact hlast
      · have := (List.pairwise_iff_getElem.1 hs) m (p - 1) (by simpa using hm') (by simpa using hq) (by simp at hm; omega)
        rw [List.getElem_map, List.getElem_map] at this
        exact this.trans hlast
  have hd : ∀ y ∈ (xs.map pl).drop p, leP (pl k) y := by
    intro y hy
    obtain ⟨m, hm, rfl⟩ := List.mem_iff_getElem.1 hy
    rw [List.length_drop] at hm
    have hm' : p + m < xs.length := by simp at hm; omega
    rw [List.getElem_drop, List.getElem_map]
    have h3 := h1 (p + m) (by omega) hm'
    rw [hg _ hm', hP _ (List.getElem_mem hm')] at h3
    exact leP.of_ahead h3
  refine List.pairwise_append.2 ⟨List.pairwise_append.2 ⟨hap.1, by simp, fun a ha b hb => ?_⟩, hap.2.1, fun a ha b hb => ?_⟩
  · simp at hb; subst hb; exact ht a ha
  · rcases List.mem_append.1 ha with ha | ha
    · exact hap.2.2 a ha b hb
    · simp at ha; subst ha; exact hd b hb
theorem ins_perm (xs : List Int) (p : Nat) (k : Int) : (insAt xs p k).Perm (k :: xs) := by
  unfold insAt
  rw [List.append_assoc]
  refine (List.perm_append_comm (l₁ := xs.take p) (l₂ := [k] ++ xs.drop p)).trans ?_
  rw [List.append_assoc, List.singleton_append]
  refine List.Perm.cons k ?_
  exact (List.perm_append_comm).trans (by rw [List.take_append_drop])
/-- All numbers below n that meet q, in order. -/
def pick (q : Nat → Bool) : Nat → List Nat
  | 0 => []
  | k + 1 => if q k then pick q k ++ [k] else pick q k
theorem lineM_perm (q : Nat → Bool) (P : Nat → Int → Bool) (n : Nat) : (lineM q P n).Perm ((pick q n).map Int.ofNat) := by
  induction n with
  | zero => exact List.Perm.nil
  | succ n ih =>
    simp only [lineM, pick]
    split
    · rw [List.map_append]
      exact (ins_perm _ _ _).trans ((ih.cons _).trans (List.perm_append_comm (l₁ := [(n : Int)]) (l₂ := (pick q n).map Int.ofNat)))
    · exact ih
theorem lineM_sorted (q : Nat → Bool) (P : Nat → Int → Bool) (pl : Int → P3) (hP : ∀ k j : Nat, j < k → P k j = aheadP (pl k) (pl j)) (n : Nat) : ((lineM q P n).map pl).Pairwise leP := by
  induction n with
  | zero => exact List.Pairwise.nil
  | succ n ih =>
    simp only [lineM]
    split
    · refine sorted_ins pl (P n) n _ (fun j hj => ?_) ih
      obtain ⟨m, rfl, hm⟩ := lineM_mem q P n j hj
      exact hP n m hm
    · exact ih
/-- Whatever lists just these places in order is the model's line. -/
theorem line_eq (q : Nat → Bool) (P : Nat → Int → Bool) (pl : Int → P3) (hi : ∀ k, (pl k).i = k) (hP : ∀ k j : Nat, j < k → P k j = aheadP (pl k) (pl j)) (n : Nat) (out : List P3) (hs : out.Pairwise leP) (hp : out.Perm ((pick q n).map fun k => pl (Int.ofNat k))) : out.map P3.i = lineM q P n := by
  have h1 : out = (lineM q P n).map pl := by
    refine List.Perm.eq_of_pairwise (le := leP) (fun a b _ _ h k => leP.antisymm h k) hs (lineM_sorted q P pl hP n) (hp.trans ?_)
    have := (lineM_perm q P n).map pl
    rw [List.map_map] at this
    exact this.symm
  rw [h1, List.map_map]
  have : (P3.i ∘ pl) = id := by funext k; exact hi k
  rw [this, List.map_id]
/-- Its first one. -/
theorem line_first (q : Nat → Bool) (P : Nat → Int → Bool) (pl : Int → P3) (hi : ∀ k, (pl k).i = k) (hP : ∀ k j : Nat, j < k → P k j = aheadP (pl k) (pl j)) (n : Nat) (ps : List P3) (hh : HeapL ps) (hp : ps.Perm ((pick q n).map fun k => pl (Int.ofNat k))) : (ps.map P3.i).headD (-1) = (lineM q P n).headD (-1) := by
  have hq : ps.Perm ((lineM q P n).map pl) := by
    refine hp.trans ?_
    have := (lineM_perm q P n).map pl
    rw [List.map_map] at this
    exact this.symm
  cases ps with
  | nil =>
    have := hq.symm.eq_nil
    rw [List.map_eq_nil_iff] at this
    rw [this]; rfl
  | cons x r =>
    cases hL : lineM q P n with
    | nil => rw [hL] at hq; exact absurd hq.eq_nil (by simp)
    | cons y s =>
      rw [hL] at hq
      have hs := lineM_sorted q P pl hP n
      rw [hL] at hs
      have e : x = pl y := by
        refine leP.antisymm ?_ ?_
        · exact hh.first _ (hq.symm.subset (by simp))
        · have hx : x ∈ (y :: s).map pl := hq.subset (by simp)
          rw [List.map_cons] at hs hx
          rcases List.mem_cons.1 hx with h | h
          · rw [h]; exact leP.refl _
          · exact (List.pairwise_cons.1 hs).1 x h
      simp only [List.map_cons, List.headD_cons]
      rw [e, hi]
end Go.Proofs.Ytgncjcnobojgbaa
