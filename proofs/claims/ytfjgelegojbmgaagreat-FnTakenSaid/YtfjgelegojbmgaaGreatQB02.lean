/- Regions that draw their order, whose operations only read and whose callees write into nothing that was there (they may make memory): one walk in the order of the text serves every order. No condition. -/
import Derived.Test.YtfjgelegojbmgaaGreatQB01
import Derived.WalkKit
import Derived.WalkSpells
import Derived.WalkLawsBesides
import Derived.Handy
import Derived.Deep.Quiet
import Derived.Deep.QuietTactic
import Derived.BigQuiet

namespace Go.Proofs.YtfjgelegojbmgaaGreat
open Go.RowKit
set_option linter.unusedVariables false
theorem infoTask : (Tryz.prog.info? 44).map (fun i => (i.zero, i.size, i.bytes)) = some (some (.agg #[.int .i64 0, .int .i64 0, .int .i64 0, .int .i64 0, .int .i64 0, .int .i64 0, .int .i64 0]), 7, 56) := by kernel_rfl
theorem infoInt : (Tryz.prog.info? 2).map (fun i => (i.zero, i.size, i.bytes)) = some (some (.int .i64 0), 1, 8) := by kernel_rfl
theorem infoFut : (Tryz.prog.info? 78).map (fun i => (i.zero, i.size, i.bytes)) = some (some (.agg #[.bool false, .int .i64 0]), 2, 16) := by kernel_rfl
theorem tcells_at (ts : List T7) (j : Nat) : (tcells ts)[j]? = (ts[j / 7]?).bind (fun t => t.cs[j % 7]?) := by
 by_cases h : j / 7 < ts.length
 ·have := tcells_get ts (j / 7) h (j % 7) (by omega)
  rw [show j / 7 * 7 + j % 7 = j from by omega] at this
  rw [this]; simp [h]
 ·rw [List.getElem?_eq_none (by rw [tcells_length]; omega), List.getElem?_eq_none (by omega)]; rfl
theorem fcells_at (fs : List F2) (j : Nat) : (fcells fs)[j]? = (fs[j / 2]?).bind (fun t => t.cs[j % 2]?) := by
 by_cases h : j / 2 < fs.length
 ·have := fcells_get fs (j / 2) h (j % 2) (by omega)
  rw [show j / 2 * 2 + j % 2 = j from by omega] at this
  rw [this]; simp [h]
 ·rw [List.getElem?_eq_none (by rw [fcells_length]; omega), List.getElem?_eq_none (by omega)]; rfl
theorem tcells_put (us : List T7) (k : Nat) (t : T7) :
 (((((((tcells us).set (k * 7) (.int .i64 t.s)).set (k * 7 + 1) (.int .i64 t.l)).set (k * 7 + 2) (.int .i64 t.o)).set (k * 7 + 3) (.int .i64 t.wt)).set (k * 7 + 4) (.int .i64 t.on)).set (k * 7 + 5) (.int .i64 t.v)).set (k * 7 + 6) (.int .i64 t.t) = tcells (us.set k t) := by
 apply List.ext_getElem?
 intro j
 rw [tcells_at (us.set k t)]
 simp only [List.getElem?_set, List.length_set, tcells_length]
 by_cases hk : k = j / 7
 ·subst hk
  by_cases hl : j / 7 < us.length
  ·have h7 : j % 7 = 0 ∨ j % 7 = 1 ∨ j % 7 = 2 ∨ j % 7 = 3 ∨ j % 7 = 4 ∨ j % 7 = 5 ∨ j % 7 = 6 := by omega
   have hj : j < us.length * 7 := by omega
   rcases h7 with h | h | h | h | h | h | h
   all_goals rw [h]
   all_goals simp only [hl, if_true, Option.bind_some, T7.cs]
   ·rw [if_neg (by omega), if_neg (by omega), if_neg (by omega), if_neg (by omega), if_neg (by omega), if_neg (by omega), if_pos (by omega), if_pos (by omega)]; rfl
   ·rw [if_neg (by omega), if_neg (by omega), if_neg (by omega), if_neg (by omega), if_neg (by omega), if_pos (by omega), if_pos (by omega)]; rfl
   ·rw [if_neg (by omega), if_neg (by omega), if_neg (by omega), if_neg (by omega), if_pos (by omega), if_pos (by omega)]; rfl
   ·rw [if_neg (by omega), if_neg (by omega), if_neg (by omega), if_pos (by omega), if_pos (by omega)]; rfl
   ·rw [if_neg (by omega), if_neg (by omega), if_pos (by omega), if_pos (by omega)]; rfl
   ·rw [if_neg (by omega), if_pos (by omega), if_pos (by omega)]; rfl
   ·rw [if_pos (by omega), if_pos (by omega)]; rfl
  ·simp only [hl, if_false, if_true, Option.bind_none]
   repeat (split; · first | omega | (split <;> first | omega | rfl))
   rw [List.getElem?_eq_none (by rw [tcells_length]; omega)]
 ·rw [if_neg hk, if_neg (by omega), if_neg (by omega), if_neg (by omega), if_neg (by omega), if_neg (by omega), if_neg (by omega), if_neg (by omega), tcells_at]
theorem fcells_put (us : List F2) (k : Nat) (t : F2) : ((fcells us).set (k * 2) (.bool t.b)).set (k * 2 + 1) (.int .i64 t.v) = fcells (us.set k t) := by
 apply List.ext_getElem?
 intro j
 rw [fcells_at (us.set k t)]
 simp only [List.getElem?_set, List.length_set, fcells_length]
 by_cases hk : k = j / 2
 ·subst hk
  by_cases hl : j / 2 < us.length
  ·have h7 : j % 2 = 0 ∨ j % 2 = 1 := by omega
   have hj : j < us.length * 2 := by omega
   rcases h7 with h | h
   all_goals rw [h]
   all_goals simp only [hl, if_true, Option.bind_some, F2.cs]
   ·rw [if_neg (by omega), if_pos (by omega), if_pos (by omega)]; rfl
   ·rw [if_pos (by omega), if_pos (by omega)]; rfl
  ·simp only [hl, if_false, if_true, Option.bind_none]
   repeat (split; · first | omega | (split <;> first | omega | rfl))
   rw [List.getElem?_eq_none (by rw [fcells_length]; omega)]
 ·rw [if_neg hk, if_neg (by omega), if_neg (by omega), fcells_at]
theorem icells_put (us : List Int) (k : Nat) (v : Int) : (icells us).set k (.int .i64 v) = icells (us.set k v) := by simp [icells, List.map_set]
theorem fmade (n : Nat) : (madeCells (Value.agg #[.bool false, .int .i64 0]).cells (n * 2)).toList = fcells (List.replicate n ⟨false, 0⟩) := by
 apply List.ext_getElem?
 intro j
 rw [fcells_at]
 have h7 : j % 2 = 0 ∨ j % 2 = 1 := by omega
 by_cases hj : j < n * 2
 ·have hk : j / 2 < n := by omega
  rcases h7 with h | h
  all_goals simp [madeCells, hj, hk, h, F2.cs, Value.cells]
 ·have hk : ¬ j / 2 < n := by omega
  simp [madeCells, hj, hk]
theorem imade (n : Nat) : (madeCells (Value.int .i64 0).cells (n * 1)).toList = icells (List.replicate n 0) := by
 rw [Nat.mul_one]
 show (madeCells #[.int .i64 0] n).toList = _
 rw [toList_madeCells_one]; simp [icells]
section
variable {w : World} {base : Nat} {e : TypeId} {g n c : Nat}
theorem Own.t7 {us : List T7} (h : w.ownsRow base e 7 (.slice (some ⟨g, 0, none⟩) n c) n (tcells us)) {k : Nat} (hk : k < us.length) : ∃ s l o wt on v t : Int, us[k]? = some ⟨s, l, o, wt, on, v, t⟩ ∧
 w.cell? ⟨g, k * 7, none⟩ = some (.int .i64 s) ∧ w.cell? ⟨g, k * 7 + 1, none⟩ = some (.int .i64 l) ∧ w.cell? ⟨g, k * 7 + 2, none⟩ = some (.int .i64 o) ∧ w.cell? ⟨g, k * 7 + 3, none⟩ = some (.int .i64 wt) ∧
  w.cell? ⟨g, k * 7 + 4, none⟩ = some (.int .i64 on) ∧ w.cell? ⟨g, k * 7 + 5, none⟩ = some (.int .i64 v) ∧ w.cell? ⟨g, k * 7 + 6, none⟩ = some (.int .i64 t) := by
 obtain ⟨b, off, s, l, o, wt, on, v, t, e1, _, hu, _, z⟩ := (Row.of_own h).ts_at hk
 injection e1 with e1; injection e1 with e1 e2; subst e1 e2
 simp only [Nat.zero_add] at z
 exact ⟨s, l, o, wt, on, v, t, hu, z⟩
theorem Own.f2 {us : List F2} (h : w.ownsRow base e 2 (.slice (some ⟨g, 0, none⟩) n c) n (fcells us)) {k : Nat} (hk : k < us.length) : ∃ (s : Bool) (v : Int), us[k]? = some ⟨s, v⟩ ∧
 w.cell? ⟨g, k * 2, none⟩ = some (.bool s) ∧ w.cell? ⟨g, k * 2 + 1, none⟩ = some (.int .i64 v) := by
 obtain ⟨b, off, s, v, e1, _, hu, _, z⟩ := (Row.of_own h).fs_at hk
 injection e1 with e1; injection e1 with e1 e2; subst e1 e2
 simp only [Nat.zero_add] at z
 exact ⟨s, v, hu, z⟩
theorem Own.i1 {us : List Int} (h : w.ownsRow base e 1 (.slice (some ⟨g, 0, none⟩) n c) n (icells us)) {k : Nat} (hk : k < us.length) : ∃ v : Int, us[k]? = some v ∧ w.cell? ⟨g, k, none⟩ = some (.int .i64 v) := by
 obtain ⟨b, off, v, e1, _, hu, _, z⟩ := (Row.of_own h).ks_at hk
 injection e1 with e1; injection e1 with e1 e2; subst e1 e2
 simp only [Nat.zero_add] at z
 exact ⟨v, hu, z⟩
theorem Own.fz {size : Nat} {xs : List Value} (h : w.ownsRow base e size (.slice (some ⟨g, 0, none⟩) n c) n xs) : ∀ j, w.frozen? ⟨g, j, none⟩ = false := fun j => h.frozenAt j
theorem Own.put7 {us : List T7} (h : w.ownsRow base e 7 (.slice (some ⟨g, 0, none⟩) n c) n (tcells us)) (k : Nat) (s l o wt on v t : Int) :
 (((((((w.setCell ⟨g, k * 7, none⟩ (.int .i64 s)).setCell ⟨g, k * 7 + 1, none⟩ (.int .i64 l)).setCell ⟨g, k * 7 + 2, none⟩ (.int .i64 o)).setCell ⟨g, k * 7 + 3, none⟩ (.int .i64 wt)).setCell ⟨g, k * 7 + 4, none⟩ (.int .i64 on)).setCell ⟨g, k * 7 + 5, none⟩ (.int .i64 v)).setCell ⟨g, k * 7 + 6, none⟩ (.int .i64 t)).ownsRow base e 7 (.slice (some ⟨g, 0, none⟩) n c) n (tcells (us.set k ⟨s, l, o, wt, on, v, t⟩)) := by
 rw [← tcells_put]
 exact (((((((h.stored (k * 7) _).1.stored (k * 7 + 1) _).1.stored (k * 7 + 2) _).1.stored (k * 7 + 3) _).1.stored (k * 7 + 4) _).1.stored (k * 7 + 5) _).1.stored (k * 7 + 6) _).1
theorem Own.below {w' : World} {size : Nat} {v : Value} {xs : List Value} (h : w.ownsRow base e size v n xs) (hb : Below w.heap.size w w') : w'.ownsRow base e size v n xs :=
 h.kept (only_of_below hb none) (by
  rcases h' : v.ownBlock with _ | g
  ·exact .inl rfl
  ·exact .inr (by simp))
theorem Own.lower {b2 size : Nat} {v : Value} {xs : List Value} (h : w.ownsRow base e size v n xs) (hb : b2 ≤ base) : w.ownsRow b2 e size v n xs := by
 refine ⟨h.1, ?_⟩
 rcases h.2 with h2 | ⟨g, cap, cur, h3, h4, h5⟩
 ·exact .inl h2
 ·exact .inr ⟨g, cap, cur, h3, by omega, h5⟩
end
/-- A row of the call's own, between two marks: a store elsewhere leaves it as it is. -/
def OwnR (w : World) (lo hi : Nat) (e : TypeId) (size : Nat) (v : Value) (n : Nat) (xs : List Value) : Prop := w.ownsRow lo e size v n xs ∧ ∀ k, v.ownBlock = some k → k < hi
section
variable {w w' : World} {lo hi : Nat} {e : TypeId} {size n c : Nat} {v : Value} {xs : List Value} {A : Option Addr}
theorem OwnR.of (h : w.ownsRow lo e size v n xs) (hh : w.heap.size ≤ hi) : OwnR w lo hi e size v n xs := ⟨h, fun k hk => Nat.lt_of_lt_of_le (h.lt k hk).2 hh⟩
theorem OwnR.row (h : OwnR w lo hi e size (.slice A n c) n xs) : Row w A xs := Row.of_own h.1
theorem OwnR.below (h : OwnR w lo hi e size v n xs) (hb : Below w.heap.size w w') : OwnR w' lo hi e size v n xs := ⟨Own.below h.1 hb, h.2⟩
theorem OwnR.alloc (h : OwnR w lo hi e size v n xs) (o : Obj) : OwnR (w.alloc o) lo hi e size v n xs := ⟨h.1.alloc o, h.2⟩
theorem OwnR.wide {l2 h2 : Nat} (h : OwnR w lo hi e size v n xs) (hl : l2 ≤ lo) (hh : hi ≤ h2) : OwnR w l2 h2 e size v n xs := ⟨Own.lower h.1 hl, fun k hk => by have := h.2 k hk; omega⟩
theorem OwnR.store (h : OwnR w lo hi e size v n xs) {p : Addr} (hp : p.block < lo ∨ hi ≤ p.block) (u : Value) : OwnR (w.setCell p u) lo hi e size v n xs := by
 refine ⟨h.1.kept (row := some p.block) ⟨rfl, rfl, rfl, by simp [World.setCell], fun i hi hne => Below.heap_setCell w p u i (by intro e; exact hne (by rw [e]))⟩ ?_, h.2⟩
 rcases hv : v.ownBlock with _ | g
 ·exact .inl rfl
 ·refine .inr fun he => ?_
  injection he with he
  have h1 := (h.1.lt g hv).1
  have h2 := h.2 g hv
  omega
theorem OwnR.drew (h : OwnR w lo hi e size v n xs) : OwnR w.drew lo hi e size v n xs := h
end
/-- A list that agrees with ts as far as k, and then at k: it agrees as far as k + 1. -/
theorem take_set {α : Type} {us ts : List α} {k : Nat} {x : α} (hl : us.length = ts.length) (h : us.take k = ts.take k) (hx : ts[k]? = some x) : (us.set k x).take (k + 1) = ts.take (k + 1) := by
 have hk : k < ts.length := by
  rcases Nat.lt_or_ge k ts.length with h1 | h1
  ·exact h1
  ·rw [List.getElem?_eq_none h1] at hx; cases hx
 apply List.ext_getElem?
 intro j
 simp only [List.getElem?_take]
 by_cases hj : j < k + 1
 ·simp only [hj, if_true]
  by_cases he : k = j
  ·subst he; rw [List.getElem?_set_self (by omega), hx]
  ·rw [List.getElem?_set_ne he]
   have := congrArg (·[j]?) h
   simp only [List.getElem?_take] at this
   have hjk : j < k := by omega
   simpa [hjk] using this
 ·simp [hj]
def btw (n l h : Int) : Bool := decide (l ≤ n) && decide (n ≤ h)
theorem btw_t {n l h : Int} (a : l ≤ n) (b : n ≤ h) : btw n l h = true := by simp [btw, a, b]
theorem btw_f1 {n l h : Int} (a : ¬ l ≤ n) : btw n l h = false := by simp [btw, a]
theorem btw_f2 {n l h : Int} (b : ¬ n ≤ h) : btw n l h = false := by simp [btw, b]
theorem ret_bool {a b : Bool} (h : a = b) : Ending.returned (.bool a) = .returned (.bool b) := by rw [h]
set_option maxHeartbeats 400000 in
theorem between_any (n l h : Int) (w : World) :
 Calls Tryz.prog 92 #[.int .i64 n, .int .i64 l, .int .i64 h] w fun e w' => e = .returned (.bool (btw n l h)) ∧ w = w' := by
 by_cases a : l ≤ n
 ·by_cases b : n ≤ h
  ·rw [btw_t a b]
   go_enter Tryz.func92, Tryz.ntmps92
   go_wp2
   go_ret
   exact ⟨rfl, rfl⟩
  ·rw [btw_f2 b]
   go_enter Tryz.func92, Tryz.ntmps92
   go_wp2
   go_ret
   exact ⟨rfl, rfl⟩
 ·rw [btw_f1 a]
  go_enter Tryz.func92, Tryz.ntmps92
  go_wp2
  go_ret
  exact ⟨rfl, rfl⟩
set_option maxHeartbeats 400000 in
theorem l1In_any (n l h : Int) (w : World) :
 Calls Tryz.prog 58 #[.int .i64 n, .int .i64 l, .int .i64 h] w fun e w' => e = .returned (.bool (btw n l h)) ∧ w = w' := by
 by_cases a : l ≤ n
 ·by_cases b : n ≤ h
  ·rw [btw_t a b]
   go_enter Tryz.func58, Tryz.ntmps58
   go_wp2
   go_ret
   exact ⟨rfl, rfl⟩
  ·rw [btw_f2 b]
   go_enter Tryz.func58, Tryz.ntmps58
   go_wp2
   go_ret
   exact ⟨rfl, rfl⟩
 ·rw [btw_f1 a]
  go_enter Tryz.func58, Tryz.ntmps58
  go_wp2
  go_ret
  exact ⟨rfl, rfl⟩
def planB (a b c d e : Int) : Bool := btw a 1 8 && (btw b 1 30 && (btw c 1 4 && (btw d 0 4 && btw e 0 4)))
set_option maxHeartbeats 1000000 in
theorem right_any (a b c d e : Int) (w : World) :
 Calls Tryz.prog 91 #[.agg #[.int .i64 a, .int .i64 b, .int .i64 c, .int .i64 d, .int .i64 e]] w fun r w' => r = .returned (.bool (planB a b c d e)) ∧ Below w.heap.size w w' := by
 go_enter Tryz.func91, Tryz.ntmps91
 go_wp2_with (go_at_call 92; refine (between_any _ _ _ _).mono ?_; rintro e w' ⟨rfl, rfl⟩)
 all_goals go_ret
 all_goals exact ⟨ret_bool (by simp_all [planB]), (Below.refl _ _).alloc (Nat.le_refl _) _⟩
set_option maxHeartbeats 1000000 in
theorem sPlanOk_any (a b c d e : Int) (w : World) :
 Calls Tryz.prog 57 #[.agg #[.int .i64 a, .int .i64 b, .int .i64 c, .int .i64 d, .int .i64 e]] w fun r w' => r = .returned (.bool (planB a b c d e)) ∧ Below w.heap.size w w' := by
 go_enter Tryz.func57, Tryz.ntmps57
 go_wp2_with (go_at_call 58; refine (l1In_any _ _ _ _).mono ?_; rintro e w' ⟨rfl, rfl⟩)
 all_goals go_ret
 all_goals exact ⟨ret_bool (by simp_all [planB]), (Below.refl _ _).alloc (Nat.le_refl _) _⟩
def workB (a b c d e n : Int) : Bool := planB a b c d e && btw n 0 (a - 1)
def levelB (a b c d e n : Int) : Bool := planB a b c d e && btw n 0 (c - 1)
theorem planB_a {a b c d e : Int} (h : planB a b c d e = true) : 1 ≤ a ∧ a ≤ 8 := by
 simp [planB, btw] at h; omega
theorem planB_c {a b c d e : Int} (h : planB a b c d e = true) : 1 ≤ c ∧ c ≤ 4 := by
 simp [planB, btw] at h; omega
set_option maxHeartbeats 1000000 in
theorem sWorkerIn_any (a b c d e n : Int) (w : World) :
 Calls Tryz.prog 114 #[.agg #[.int .i64 a, .int .i64 b, .int .i64 c, .int .i64 d, .int .i64 e], .int .i64 n] w fun r w' => r = .returned (.bool (workB a b c d e n)) ∧ Below w.heap.size w w' := by
 by_cases hp : planB a b c d e = true
 ·have hbd := planB_a hp
  go_enter Tryz.func114, Tryz.ntmps114
  go_wp2_with first | (go_at_call 57; refine (sPlanOk_any _ _ _ _ _ _).mono ?_; rintro r w' ⟨rfl, hb1⟩; obtain ⟨hc, hf⟩ := bcell hb1) | (go_at_call 58; refine (l1In_any _ _ _ _).mono ?_; rintro e w' ⟨rfl, rfl⟩)
  go_ret
  exact ⟨ret_bool (by simp [workB, hp]), ((Below.refl _ _).alloc (Nat.le_refl _) _).trans (hb1.mono (by simp))⟩
 ·have hp' : planB a b c d e = false := by simpa using hp
  clear hp
  go_enter Tryz.func114, Tryz.ntmps114
  go_wp2_with first | (go_at_call 57; refine (sPlanOk_any _ _ _ _ _ _).mono ?_; rintro r w' ⟨rfl, hb1⟩; obtain ⟨hc, hf⟩ := bcell hb1)
  go_ret
  exact ⟨ret_bool (by simp [workB, hp']), ((Below.refl _ _).alloc (Nat.le_refl _) _).trans (hb1.mono (by simp))⟩
set_option maxHeartbeats 1000000 in
theorem sLevelIn_any (a b c d e n : Int) (w : World) :
 Calls Tryz.prog 80 #[.agg #[.int .i64 a, .int .i64 b, .int .i64 c, .int .i64 d, .int .i64 e], .int .i64 n] w fun r w' => r = .returned (.bool (levelB a b c d e n)) ∧ Below w.heap.size w w' := by
 by_cases hp : planB a b c d e = true
 ·have hbd := planB_c hp
  go_enter Tryz.func80, Tryz.ntmps80
  go_wp2_with first | (go_at_call 57; refine (sPlanOk_any _ _ _ _ _ _).mono ?_; rintro r w' ⟨rfl, hb1⟩; obtain ⟨hc, hf⟩ := bcell hb1) | (go_at_call 58; refine (l1In_any _ _ _ _).mono ?_; rintro e w' ⟨rfl, rfl⟩)
  go_ret
  exact ⟨ret_bool (by simp [levelB, hp]), ((Below.refl _ _).alloc (Nat.le_refl _) _).trans (hb1.mono (by simp))⟩
 ·have hp' : planB a b c d e = false := by simpa using hp
  clear hp
  go_enter Tryz.func80, Tryz.ntmps80
  go_wp2_with first | (go_at_call 57; refine (sPlanOk_any _ _ _ _ _ _).mono ?_; rintro r w' ⟨rfl, hb1⟩; obtain ⟨hc, hf⟩ := bcell hb1)
  go_ret
  exact ⟨ret_bool (by simp [levelB, hp']), ((Below.refl _ _).alloc (Nat.le_refl _) _).trans (hb1.mono (by simp))⟩
set_option maxHeartbeats 1000000 in
theorem hasWorker_any (a b c d e n : Int) (w : World) (h1 : 1 ≤ a) (h2 : a ≤ 30) :
 Calls Tryz.prog 111 #[.agg #[.int .i64 a, .int .i64 b, .int .i64 c, .int .i64 d, .int .i64 e], .int .i64 n] w fun r w' => r = .returned (.bool (btw n 0 (a - 1))) ∧ Below w.heap.size w w' := by
 go_enter Tryz.func111, Tryz.ntmps111
 go_wp2_with (go_at_call 92; refine (between_any _ _ _ _).mono ?_; rintro e w' ⟨rfl, rfl⟩)
 go_ret
 exact ⟨rfl, (Below.refl _ _).alloc (Nat.le_refl _) _⟩
set_option maxHeartbeats 1000000 in
theorem hasLevel_any (a b c d e n : Int) (w : World) (h1 : 1 ≤ c) (h2 : c ≤ 30) :
 Calls Tryz.prog 118 #[.agg #[.int .i64 a, .int .i64 b, .int .i64 c, .int .i64 d, .int .i64 e], .int .i64 n] w fun r w' => r = .returned (.bool (btw n 0 (c - 1))) ∧ Below w.heap.size w w' := by
 go_enter Tryz.func118, Tryz.ntmps118
 go_wp2_with (go_at_call 92; refine (between_any _ _ _ _).mono ?_; rintro e w' ⟨rfl, rfl⟩)
 go_ret
 exact ⟨rfl, (Below.refl _ _).alloc (Nat.le_refl _) _⟩
/-- A world that has all that was in W0, as it was. -/
def KeptW (W0 : World) : Type := { w : World // Below W0.heap.size W0 w }
def KeptW.w {W0 : World} (x : KeptW W0) : World := x.1
theorem KeptW.below {W0 : World} (x : KeptW W0) : Below W0.heap.size W0 x.w := x.2
def KeptW.mk' {W0 w : World} (h : Below W0.heap.size W0 w) : KeptW W0 := ⟨w, h⟩
theorem KeptW.mk'_w {W0 w : World} (h : Below W0.heap.size W0 w) : (KeptW.mk' h).w = w := rfl
instance (W0 : World) : Nonempty (KeptW W0) := ⟨KeptW.mk' (Below.refl _ _)⟩
theorem KeptW.cell {W0 : World} {b o : Nat} {u : Value} (h : W0.cell? ⟨b, o, none⟩ = some u) (x : KeptW W0) : x.w.cell? ⟨b, o, none⟩ = some u :=
 (x.below.cell (p := ⟨b, o, none⟩) (World.block_lt_of_cell? W0 _ h)).trans h
theorem kept_call {P : Program} {f : FuncId} {args : Array Value} {W0 : World} {x : KeptW W0} {v : Value}
 (h : Calls P f args x.w fun e w' => e = .returned v ∧ Below x.w.heap.size x.w w') : Calls P f args x.w fun e w'' => e = .returned v ∧ ∃ y : KeptW W0, w'' = y.w :=
 h.mono fun _ _ ⟨he, hb⟩ => ⟨he, KeptW.mk' (x.below.trans (hb.mono x.below.size)), rfl⟩
theorem kept_same {P : Program} {f : FuncId} {args : Array Value} {W0 : World} {x : KeptW W0} {v : Value}
 (h : Calls P f args x.w fun e w' => e = .returned v ∧ x.w = w') : Calls P f args x.w fun e w'' => e = .returned v ∧ ∃ y : KeptW W0, w'' = y.w :=
 h.mono fun _ _ ⟨he, hb⟩ => ⟨he, x, hb.symm⟩
theorem kept_start {R : World → Prop} {W0 : World} (h : ∀ x : KeptW W0, R x.w) : R W0 := h (KeptW.mk' (Below.refl _ _))
theorem region_kept {P : Program} {id : Nat} {Q : Exit → Act → World → Prop} {a : Act} {W0 : World} {x : KeptW W0} {l : List Oper} (hm : P.follows .mixedOrders = true) (hB : Region.lexB .any l.toArray = true)
 (h : wpQuiet P l.toArray (fun w' => ∃ x : KeptW W0, w' = x.w) (fun a' => ∀ w', (∃ x : KeptW W0, w' = x.w) → Q .normal a' w') l a) : (Code.region id l.toArray true).wp P Q a x.w :=
 wp_region_quiet (C := fun w' => ∃ x : KeptW W0, w' = x.w) hm hB ⟨KeptW.mk' x.below.drew, rfl⟩ (by simpa using h)
end Go.Proofs.YtfjgelegojbmgaaGreat
