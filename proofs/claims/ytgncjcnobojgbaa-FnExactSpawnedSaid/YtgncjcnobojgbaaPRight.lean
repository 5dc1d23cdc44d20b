/- A right pool in which one task is taken, given back, ended or spawned is right, where a turn is left. No condition. -/
import Derived.Test.YtgncjcnobojgbaaWakeR
import Derived.Test.YtgncjcnobojgbaaB2
import Derived.Test.YtgncjcnobojgbaaPWaiters
import Derived.Test.YtgncjcnobojgbaaPLifeH
namespace Go.Proofs.Ytgncjcnobojgbaa
open Go.RowKit
set_option linter.unusedVariables false

theorem fit_parts {a b c d e : Int} {ts : List T7} {tn : Int} {k : Nat} {x : T7} (h : fitB a b c d e ts tn k x = true) : planB a b c d e = true ∧ btw x.s 1 5 = true ∧ btw x.l 0 (c - 1) = true ∧ ownB a x.s x.o = true ∧ waitB b d e x.s x.wt x.on = true ∧ btw x.v 0 9999 = true ∧ btw x.t 0 1000000 = true ∧ x.t < tn ∧ soloTo ts k x.s x.o = true ∧ waitsOk ts.length k x.wt x.on = true := by
  simp only [fitB, taskB, Bool.and_eq_true, decide_eq_true_eq] at h
  obtain ⟨⟨h1, h2, h3, h4, h5, h6, h7⟩, h8, h9, h10⟩ := h
  exact ⟨h1, h2, h3, h4, h5, h6, h7, h8, h9, h10⟩
theorem fit_mk {a b c d e : Int} {ts : List T7} {tn : Int} {k : Nat} {x : T7} (h1 : planB a b c d e = true) (h2 : btw x.s 1 5 = true) (h3 : btw x.l 0 (c - 1) = true) (h4 : ownB a x.s x.o = true) (h5 : waitB b d e x.s x.wt x.on = true) (h6 : btw x.v 0 9999 = true) (h7 : btw x.t 0 1000000 = true) (h8 : x.t < tn) (h9 : soloTo ts k x.s x.o = true) (h10 : waitsOk ts.length k x.wt x.on = true) : fitB a b c d e ts tn k x = true := by
  simp only [fitB, taskB, Bool.and_eq_true, decide_eq_true_eq]
  exact ⟨⟨h1, h2, h3, h4, h5, h6, h7⟩, h8, h9, h10⟩
theorem wait_run {b d e s wt on : Int} (h : waitB b d e s wt on = true) (hs : s ≠ 3) : wt = 0 ∧ on = 0 := by
  simp only [waitB, if_neg hs, Bool.and_eq_true, beq_iff_eq] at h
  exact h
theorem wait_no {b d e s : Int} (hs : s ≠ 3) : waitB b d e s 0 0 = true := by simp [waitB, hs]
theorem solo_no {ts : List T7} {k : Nat} {s o : Int} (hs : s ≠ 2) : soloTo ts k s o = true := by simp [soloTo, hs]
theorem waits_no {n k : Nat} {on : Int} : waitsOk n k 0 on = true := by simp [waitsOk]
theorem own_no {a s : Int} (hs : s ≠ 2) : ownB a s (-1) = true := by simp [ownB, hs]
theorem pool_fit {a b c d e : Int} {ts : List T7} {ks : List Int} {fs : List F2} {tn : Int} {k : Nat} {x : T7} (h : poolB a b c d e ts ks fs tn = true) (hx : ts[k]? = some x) : fitB a b c d e ts tn k x = true := (tasksB_iff ..).1 (poolB_parts h).2.2.2 k x hx

theorem give_right {a b c d e : Int} {ts : List T7} {ks : List Int} {fs : List F2} {tn : Int} {k : Nat} {s l o wt on v t : Int} (h : poolB a b c d e ts ks fs tn = true) (hx : ts[k]? = some ⟨s, l, o, wt, on, v, t⟩) (hs : s = 2) (ht : tn < 1000000) : poolB a b c d e (ts.set k ⟨1, l, -1, wt, on, v, tn⟩) ks fs (tn + 1) = true := by
  obtain ⟨h1, h2, h3, h4, h5, h6, h7, h8, h9, h10⟩ := fit_parts (pool_fit h hx)
  obtain ⟨hp, hb, _, hT⟩ := poolB_parts h
  simp only at h2 h3 h4 h5 h6 h7 h8 h9 h10
  obtain ⟨rfl, rfl⟩ := wait_run h5 (by omega)
  refine poolB_turn h (by simp) (by omega) (tasksB_set hT (by omega) (by simp) ?_)
  exact fit_mk hp (by simp [btw]) h3 (own_no (by simp)) (wait_no (by simp)) h6 (btw_t hb.1 hb.2) (by simp only; omega) (solo_no (by simp)) waits_no
theorem end_right {a b c d e : Int} {ts : List T7} {ks : List Int} {fs : List F2} {tn : Int} {k : Nat} {s l o wt on v t vv : Int} (h : poolB a b c d e ts ks fs tn = true) (hx : ts[k]? = some ⟨s, l, o, wt, on, v, t⟩) (hs : s = 2) (hv : btw vv 0 9999 = true) : poolB a b c d e (ts.set k ⟨4, l, -1, wt, on, vv, t⟩) ks fs tn = true := by
  obtain ⟨h1, h2, h3, h4, h5, h6, h7, h8, h9, h10⟩ := fit_parts (pool_fit h hx)
  obtain ⟨hp, hb, _, hT⟩ := poolB_parts h
  simp only at h2 h3 h4 h5 h6 h7 h8 h9 h10
  obtain ⟨rfl, rfl⟩ := wait_run h5 (by omega)
  refine poolB_turn h (by simp) hb (tasksB_set hT (by omega) (by simp) ?_)
  exact fit_mk hp (by simp [btw]) h3 (own_no (by simp)) (wait_no (by simp)) hv h7 h8 (solo_no (by simp)) waits_no
theorem runM_nobody {ts : List T7} {wk i : Int} (hi : 0 ≤ i) (h : runM ts wk i = -1) : ∀ u ∈ ts, (u.s == 2 && u.o == wk) = false := by
  induction ts generalizing i with
  | nil => simp
  | cons t r ih =>
    simp only [runM] at h
    split at h
    · omega
    · rename_i hn
      intro u hu
      rcases List.mem_cons.1 hu with rfl | hu
      · simpa using hn
      · exact ih (by omega) h u hu
theorem runM_runs {ts : List T7} {wk i : Int} {k : Nat} (hi : 0 ≤ i) (h : runM ts wk i = i + k) : ∃ x, ts[k]? = some x ∧ x.s = 2 ∧ x.o = wk := by
  induction ts generalizing i k with
  | nil => simp only [runM] at h; omega
  | cons t r ih =>
    simp only [runM] at h
    split at h
    · rename_i hm
      obtain rfl : k = 0 := by omega
      exact ⟨t, rfl, hm.1, hm.2⟩
    · cases k with
      | zero => rcases runM_low r wk (i + 1) with h1 | h1 <;> omega
      | succ k =>
        obtain ⟨x, hx, h1⟩ := ih (i := i + 1) (k := k) (by omega) (by omega)
        exact ⟨x, by simpa using hx, h1⟩
theorem take_right {a b c d e : Int} {ts : List T7} {ks : List Int} {fs : List F2} {tn : Int} {k : Nat} {s l o wt on v t wk : Int} (h : poolB a b c d e ts ks fs tn = true) (hx : ts[k]? = some ⟨s, l, o, wt, on, v, t⟩) (hs : s = 1) (hw : btw wk 0 (a - 1) = true) (hr : runM ts wk 0 = -1) : poolB a b c d e (ts.set k ⟨2, l, wk, wt, on, v, t⟩) ks fs tn = true := by
  obtain ⟨h1, h2, h3, h4, h5, h6, h7, h8, h9, h10⟩ := fit_parts (pool_fit h hx)
  obtain ⟨hp, hb, _, hT⟩ := poolB_parts h
  simp only at h2 h3 h4 h5 h6 h7 h8 h9 h10
  obtain ⟨rfl, rfl⟩ := wait_run h5 (by omega)
  have hno := runM_nobody (Int.le_refl 0) hr
  refine poolB_turn h (by simp) hb ?_
  rw [tasksB_iff] at hT ⊢
  intro j u hj
  by_cases e1 : k = j
  · subst e1
    have hl : k < ts.length := by
      rcases Nat.lt_or_ge k ts.length with h | h
      · exact h
      · rw [List.getElem?_eq_none h] at hx; cases hx
    rw [List.getElem?_set_self hl] at hj
    injection hj with hj
    subst hj
    refine fit_mk hp (by simp [btw]) h3 (by simpa [ownB] using hw) (wait_no (by simp)) h6 h7 h8 ?_ waits_no
    simp only [soloTo, Bool.or_eq_true, List.all_eq_true]
    refine .inr fun u hu => ?_
    rw [List.take_set_of_le (Nat.le_refl _)] at hu
    have := hno u (List.mem_of_mem_take hu)
    show (!(u.s == 2 && u.o == wk)) = true
    rw [this]
    rfl
  · rw [List.getElem?_set_ne e1] at hj
    obtain ⟨g1, g2, g3, g4, g5, g6, g7, g8, g9, g10⟩ := fit_parts (hT j u hj)
    refine fit_mk hp g2 g3 g4 g5 g6 g7 g8 ?_ (by rw [List.length_set]; exact g10)
    simp only [soloTo, Bool.or_eq_true, List.all_eq_true] at g9 ⊢
    rcases g9 with g9 | g9
    · exact .inl g9
    · by_cases hu2 : u.s = 2
      · refine .inr fun z hz => ?_
        rw [List.take_set] at hz
        rcases List.mem_or_eq_of_mem_set hz with hz | rfl
        · exact g9 z hz
        · have := hno u (List.mem_of_getElem? hj)
          simp only [hu2, beq_self_eq_true, Bool.true_and, beq_eq_false_iff_ne] at this
          simp only [beq_self_eq_true, Bool.true_and, Bool.not_eq_true', beq_eq_false_iff_ne]
          exact fun h => this h.symm
      · exact .inl (by simp [hu2])
theorem spawn_right {a b c d e : Int} {ts : List T7} {ks : List Int} {fs : List F2} {tn lv : Int} (h : poolB a b c d e ts ks fs tn = true) (hl : btw lv 0 (c - 1) = true) (hb : (ts.length : Int) < b) (ht : tn < 1000000) : poolB a b c d e (ts ++ [⟨1, lv, -1, 0, 0, 0, tn⟩]) ks fs (tn + 1) = true := by
  obtain ⟨hp, hT, hlen, hTs⟩ := poolB_parts h
  have h2 := h
  simp only [poolB, Bool.and_eq_true, decide_eq_true_eq] at h2 ⊢
  refine ⟨h2.1, by simp [btw]; omega, ⟨by simp; omega, ?_⟩, h2.2.2.2⟩
  rw [tasksB_iff] at hTs ⊢
  intro k u hk
  rcases Nat.lt_or_ge k ts.length with h1 | h1
  · rw [List.getElem?_append_left h1] at hk
    obtain ⟨g1, g2, g3, g4, g5, g6, g7, g8, g9, g10⟩ := fit_parts (hTs k u hk)
    refine fit_mk hp g2 g3 g4 g5 g6 g7 (by omega) ?_ ?_
    · simp only [soloTo] at g9 ⊢
      rw [List.take_append_of_le_length (by omega)]
      exact g9
    · simp only [waitsOk, Bool.or_eq_true, Bool.and_eq_true, decide_eq_true_eq, List.length_append, List.length_singleton] at g10 ⊢
      refine g10.imp id (fun hh => ⟨by omega, hh.2⟩)
  · rw [List.getElem?_append_right h1] at hk
    have hk0 : k - ts.length = 0 := by
      rcases Nat.eq_zero_or_pos (k - ts.length) with h | h
      · exact h
      · rw [List.getElem?_eq_none (by simp; omega)] at hk; cases hk
    rw [hk0] at hk
    simp at hk
    subst hk
    exact fit_mk hp (by simp [btw]) hl (own_no (by simp)) (wait_no (by simp)) (by simp [btw]) (btw_t hT.1 hT.2) (by simp only; omega) (solo_no (by simp)) waits_no
theorem wakeAll_right2 {a b c d e : Int} {ks : List Int} {fs : List F2} {v : Int} (hv : btw v 0 9999 = true) : ∀ (L : List Int) (ts : List T7) (tn : Int), poolB a b c d e ts ks fs tn = true → L.Nodup → (∀ j ∈ L, ∃ (k : Nat) (x : T7), j = k ∧ ts[k]? = some x ∧ x.s = 3) → tn + L.length ≤ 1000000 → poolB a b c d e (wakeAllT L ts tn v) ks fs (tn + L.length) = true
  | [], ts, tn, hp, _, _, _ => by simpa [wakeAllT] using hp
  | j :: r, ts, tn, hp, hn, hm, hb => by
    obtain ⟨k, x, rfl, hx, hs⟩ := hm j (List.mem_cons_self ..)
    have h1 := wake_right (v := v) hp hx hs hv (by simp at hb; omega)
    obtain ⟨hn1, hn2⟩ := List.nodup_cons.1 hn
    have h2 := wakeAll_right2 hv r (ts.set k (wakeT x tn v)) (tn + 1) h1 hn2 (fun i hi => by
      obtain ⟨k2, x2, rfl, hx2, hs2⟩ := hm i (List.mem_cons_of_mem _ hi)
      refine ⟨k2, x2, rfl, ?_, hs2⟩
      rw [List.getElem?_set_ne (by intro e; apply hn1; rw [e]; exact hi)]
      exact hx2) (by simp at hb; omega)
    simp only [wakeAllT, Int.toNat_natCast, taskAt_of hx, List.length_cons]
    rw [show tn + ((r.length + 1 : Nat) : Int) = tn + 1 + (r.length : Int) by omega]
    exact h2
/-- Those who wait are woken: the pool is right just where there is a turn for each. -/
theorem wakeAll_ok {a b c d e : Int} {ts : List T7} {ks : List Int} {fs : List F2} {tn v wt on : Int} (hv : btw v 0 9999 = true) (h : poolB a b c d e ts ks fs tn = true) : poolB a b c d e (wakeAllT (waitersM ts wt on) ts tn v) ks fs (tn + (waitersM ts wt on).length) = okAll (waitersM ts wt on) v tn := by
  by_cases hb : tn + ((waitersM ts wt on).length : Int) ≤ 1000000
  · rw [wakeAll_right2 hv _ ts tn h (waitersM_nodup ts wt on) (fun j hj => by
      obtain ⟨k, x, h1, _, h2, h3, _⟩ := waitersM_mem hj
      exact ⟨k, x, h1, h2, h3⟩) hb]
    simp [okAll, hv, hb]
  · rw [turn_over hb]
    have he : (waitersM ts wt on).isEmpty = false := by
      cases hL : waitersM ts wt on with
      | nil => rw [hL] at hb; simp at hb; have := (poolB_parts h).2.1; omega
      | cons i r => rfl
    simp only [okAll, he, hv, Bool.false_or, Bool.true_and, decide_eq_false hb]
end Go.Proofs.Ytgncjcnobojgbaa
