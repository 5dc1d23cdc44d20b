/- The program's waking and parking of one task, behind a pointer to the pool. The list of tasks shorter than a million. -/
import Derived.Test.YtfjgelegojbmgaaGreatQB14
import Derived.Test.YtfjgelegojbmgaaGreatQB13
import Derived.Test.YtfjgelegojbmgaaGreatQB08
import Derived.Test.YtfjgelegojbmgaaGreatQFnWoken01

namespace Go.Proofs.YtfjgelegojbmgaaGreat
open Go.RowKit
set_option linter.unusedVariables false
set_option maxRecDepth 100000
def isInB (ts : List T7) (id s : Int) : Bool := btw id 0 ((ts.length : Int) - 1) && ((taskAt ts id).s == s)
def canB (ts : List T7) (id v tn : Int) : Bool := isInB ts id 3 && (btw v 0 9999 && decide (tn < 1000000))
theorem isInB_nat {ts : List T7} {id s : Int} (h : isInB ts id s = true) : ∃ (k : Nat) (x : T7), id = k ∧ k < ts.length ∧ ts[k]? = some x ∧ x.s = s := by
 simp only [isInB, btw, Bool.and_eq_true, decide_eq_true_eq, beq_iff_eq] at h
 obtain ⟨⟨h1, h2⟩, h3⟩ := h
 refine ⟨id.toNat, taskAt ts id, by omega, by omega, ?_, h3⟩
 unfold taskAt
 rw [List.getD_eq_getElem?_getD, List.getElem?_eq_getElem (by omega)]
 rfl
theorem isInB_of {ts : List T7} {k : Nat} {x : T7} (h : ts[k]? = some x) (s : Int) : isInB ts k s = (x.s == s) := by
 have hk : k < ts.length := by
  rcases Nat.lt_or_ge k ts.length with h1 | h1
  ·exact h1
  ·rw [List.getElem?_eq_none h1] at h; cases h
 unfold isInB
 rw [taskAt_of h]
 have : btw (k : Int) 0 ((ts.length : Int) - 1) = true := by simp [btw]; omega
 rw [this, Bool.true_and]
set_option maxHeartbeats 400000 in
theorem has_any (ts : List T7) (A0 A1 A2 : Option Addr) (c0 n1 c1 n2 c2 : Nat) (tn : Int) (st : Bool) (g : Nat) (id : Int) (w : World) (hlen : ts.length ≤ 1048576) (hg : Blk w g 30 #[.slice A0 ts.length c0, .slice A1 n1 c1, .slice A2 n2 c2, .int .i64 tn, .bool st]) :
 Calls Tryz.prog 129 #[.pointer (some ⟨g, 0, none⟩), .int .i64 id] w fun r w' => r = .returned (.bool (btw id 0 ((ts.length : Int) - 1))) ∧ w = w' := by
 have H := hide hg
 clear hg
 go_enter Tryz.func129, Tryz.ntmps129
 go_wp2_with fail
 go_call (size_any ts _ A1 A2 c0 n1 c1 n2 c2 tn st g _ H.out) as r W1 ⟨rfl, rfl⟩
 go_wp2_with fail
 go_call (between_any _ _ _ _) as r W2 ⟨rfl, rfl⟩
 go_wp2_with fail
 go_ret
 exact ⟨rfl, rfl⟩
set_option maxHeartbeats 2000000 in
theorem isIn_any (ts : List T7) (A0 A1 A2 : Option Addr) (c0 n1 c1 n2 c2 : Nat) (tn : Int) (st : Bool) (g : Nat) (id s : Int) (w : World) (hlen : ts.length ≤ 1048576) (hg : Blk w g 30 #[.slice A0 ts.length c0, .slice A1 n1 c1, .slice A2 n2 c2, .int .i64 tn, .bool st]) (h : Row w A0 (tcells ts)) :
 Calls Tryz.prog 106 #[.pointer (some ⟨g, 0, none⟩), .int .i64 id, .int .i64 s] w fun r w' => r = .returned (.bool (isInB ts id s)) ∧ Below w.heap.size w w' := by
 have H := hide (⟨h, hg⟩ : _ ∧ _)
 have q0 : w.cell? ⟨g, 0, none⟩ = some (.slice A0 ts.length c0) := hg.cell 0
 by_cases hb : btw id 0 ((ts.length : Int) - 1) = true
 ·obtain ⟨k, rfl⟩ : ∃ k : Nat, id = k := ⟨id.toNat, by simp [btw] at hb; omega⟩
  have hk : k < ts.length := by simp [btw] at hb; omega
  obtain ⟨b, off, s', l, o, wt, on, v, t, rfl, _, he, hbl, y0, y1, y2, y3, y4, y5, y6⟩ := h.ts_at hk
  rw [isInB_of he]
  have hk1 : (k : Int) < (ts.length : Int) := by omega
  have hk0 : (0 : Int) ≤ (k : Int) := by omega
  clear he h hg
  go_enter Tryz.func106, Tryz.ntmps106
  go_wp2_with fail
  go_call (has_any ts _ A1 A2 c0 n1 c1 n2 c2 tn st g _ _ hlen H.out.2) as r W1 ⟨rfl, rfl⟩
  rw [hb]
  go_wp2_with fail
  go_ret
  exact ⟨rfl, Below.refl _ _⟩
 ·have hb' : btw id 0 ((ts.length : Int) - 1) = false := by simpa using hb
  have e : isInB ts id s = false := by unfold isInB; rw [hb']; rfl
  rw [e]
  clear h hg hb
  go_enter Tryz.func106, Tryz.ntmps106
  go_wp2_with fail
  go_call (has_any ts _ A1 A2 c0 n1 c1 n2 c2 tn st g _ _ hlen H.out.2) as r W1 ⟨rfl, rfl⟩
  rw [hb']
  go_wp2_with fail
  go_ret
  exact ⟨rfl, Below.refl _ _⟩
set_option maxHeartbeats 2000000 in
theorem canWake_any (ts : List T7) (A0 A1 A2 : Option Addr) (c0 n1 c1 n2 c2 : Nat) (tn : Int) (st : Bool) (g : Nat) (id v : Int) (w : World) (hlen : ts.length ≤ 1048576) (hg : Blk w g 30 #[.slice A0 ts.length c0, .slice A1 n1 c1, .slice A2 n2 c2, .int .i64 tn, .bool st]) (h : Row w A0 (tcells ts)) :
 Calls Tryz.prog 96 #[.pointer (some ⟨g, 0, none⟩), .int .i64 id, .int .i64 v] w fun r w' => r = .returned (.bool (canB ts id v tn)) ∧ Below w.heap.size w w' := by
 have H := hide (⟨h, hg⟩ : _ ∧ _)
 clear h hg
 unfold canB
 have hI := hide (isIn_any ts A0 A1 A2 c0 n1 c1 n2 c2 tn st g id 3 w hlen H.out.2 H.out.1)
 generalize isInB ts id 3 = b1 at *
 cases b1
 ·rw [Bool.false_and]
  go_enter Tryz.func96, Tryz.ntmps96
  go_wp2_with fail
  apply Calls.mono
  focus with_reducible exact hI.out
  rintro r W1 ⟨rfl, g1⟩
  go_wp2_with fail
  go_ret
  exact ⟨rfl, g1⟩
 ·rw [Bool.true_and]
  have hB := hide (between_any v 0 9999)
  generalize btw v 0 9999 = b2 at *
  cases b2
  ·rw [Bool.false_and]
   go_enter Tryz.func96, Tryz.ntmps96
   go_wp2_with fail
   apply Calls.mono
   focus with_reducible exact hI.out
   rintro r W1 ⟨rfl, g1⟩
   go_wp2_with fail
   apply Calls.mono
   focus with_reducible exact hB.out _
   rintro r W2 ⟨rfl, rfl⟩
   go_wp2_with fail
   go_ret
   exact ⟨rfl, g1⟩
  ·rw [Bool.true_and]
   go_enter Tryz.func96, Tryz.ntmps96
   go_wp2_with fail
   apply Calls.mono
   focus with_reducible exact hI.out
   rintro r W1 ⟨rfl, g1⟩
   have q3 : W1.cell? ⟨g, 3, none⟩ = some (.int .i64 tn) := (H.out.2.below g1 H.out.2.lt).cell 3
   go_wp2_with fail
   apply Calls.mono
   focus with_reducible exact hB.out _
   rintro r W2 ⟨rfl, rfl⟩
   go_wp2_with fail
   go_ret
   exact ⟨rfl, g1⟩
set_option maxHeartbeats 2000000 in
theorem takeTurn_any (ts : List T7) (A0 A1 A2 : Option Addr) (c0 n1 c1 n2 c2 : Nat) (tn : Int) (st : Bool) (g : Nat) (w : World) (t0 : -1000000000 ≤ tn) (t1 : tn ≤ 1000000000) (hg : Blk w g 30 #[.slice A0 ts.length c0, .slice A1 n1 c1, .slice A2 n2 c2, .int .i64 tn, .bool st]) :
 Calls Tryz.prog 97 #[.pointer (some ⟨g, 0, none⟩)] w fun r w' => r = .returned (.int .i64 tn) ∧ w' = w.setCell ⟨g, 3, none⟩ (.int .i64 (tn + 1)) := by
 have q3 : w.cell? ⟨g, 3, none⟩ = some (.int .i64 tn) := hg.cell 3
 have f3 : w.frozen? ⟨g, 3, none⟩ = false := hg.frozen 3
 clear hg
 go_enter Tryz.func97, Tryz.ntmps97
 go_wp2_with fail
 go_ret
 exact ⟨rfl, rfl⟩
set_option maxHeartbeats 2000000 in
theorem wake_no (ts : List T7) (A0 A1 A2 : Option Addr) (c0 n1 c1 n2 c2 : Nat) (tn : Int) (st : Bool) (g : Nat) (id v : Int) (w : World) (hlen : ts.length ≤ 1048576) (hg : Blk w g 30 #[.slice A0 ts.length c0, .slice A1 n1 c1, .slice A2 n2 c2, .int .i64 tn, .bool st]) (h : Row w A0 (tcells ts)) (hc : canB ts id v tn = false) :
 Calls Tryz.prog 46 #[.pointer (some ⟨g, 0, none⟩), .int .i64 id, .int .i64 v] w fun r w' => r = .returned (.bool false) ∧ Below w.heap.size w w' := by
 have hC := hide (canWake_any ts A0 A1 A2 c0 n1 c1 n2 c2 tn st g id v w hlen hg h)
 rw [hc] at hC
 clear h hg hc
 go_enter Tryz.func46, Tryz.ntmps46
 go_wp2_with fail
 apply Calls.mono
 focus with_reducible exact hC.out
 rintro r W1 ⟨rfl, g1⟩
 go_wp2_with fail
 go_ret
 exact ⟨rfl, g1⟩
set_option maxHeartbeats 2000000 in
theorem wake_yes (ts : List T7) (A0 A1 A2 : Option Addr) (c0 n1 c1 n2 c2 : Nat) (tn : Int) (st : Bool) (g k : Nat) (v : Int) (s l o wt on v0 t : Int) (w : World) (hlen : ts.length ≤ 1048576) (t0 : -1000000 ≤ tn) (ht : ts[k]? = some ⟨s, l, o, wt, on, v0, t⟩) (h : Sep (fps [.blk g 30 #[.slice A0 ts.length c0, .slice A1 n1 c1, .slice A2 n2 c2, .int .i64 tn, .bool st], rT ts.length A0 c0 ts]) w w [.blk g 30 #[.slice A0 ts.length c0, .slice A1 n1 c1, .slice A2 n2 c2, .int .i64 tn, .bool st], rT ts.length A0 c0 ts]) (hc : canB ts k v tn = true) :
 Calls Tryz.prog 46 #[.pointer (some ⟨g, 0, none⟩), .int .i64 k, .int .i64 v] w fun r w' => r = .returned (.bool true) ∧ Sep (fps [.blk g 30 #[.slice A0 ts.length c0, .slice A1 n1 c1, .slice A2 n2 c2, .int .i64 tn, .bool st], rT ts.length A0 c0 ts]) w w' [.blk g 30 #[.slice A0 ts.length c0, .slice A1 n1 c1, .slice A2 n2 c2, .int .i64 (tn + 1), .bool st], rT ts.length A0 c0 (ts.set k (wakeT ⟨s, l, o, wt, on, v0, t⟩ tn v))] := by
 have hC := hide (canWake_any ts A0 A1 A2 c0 n1 c1 n2 c2 tn st g k v w hlen (h.blk 0 rfl) (h.rowS 1 rfl))
 rw [hc] at hC
 have t1 : tn ≤ 1000000 := by simp [canB] at hc; omega
 clear hc
 have hkl : k < ts.length := by
  rcases Nat.lt_or_ge k ts.length with h1 | h1
  ·exact h1
  ·rw [List.getElem?_eq_none h1] at ht; cases ht
 have hki : (k : Int) < (ts.length : Int) := by omega
 have hk0 : (0 : Int) ≤ (k : Int) := by omega
 have hr : (rT ts.length A0 c0 ts).here w := h.rowAt 1 rfl
 obtain ⟨gr, rfl, hgl, hfz⟩ := rT_form hr (show 0 < ts.length by omega)
 clear hr
 have HT := hide ht
 clear ht
 have H := hide h
 clear h
 go_enter Tryz.func46, Tryz.ntmps46
 go_wp2_with fail
 apply Calls.mono
 focus with_reducible exact hC.out
 rintro r W1 ⟨rfl, g1⟩
 have M := Sep.call H.out g1
 have q0 : W1.cell? ⟨g, 0, none⟩ = some (.slice (some ⟨gr, 0, none⟩) ts.length c0) := M.cell 0 0 rfl
 have hfz1 : ∀ j, W1.frozen? ⟨gr, j, none⟩ = false := fun j => Own.fz (M.rowAt 1 rfl) j
 have fz0 : W1.frozen? ⟨gr, k * 7, none⟩ = false := hfz1 _
 have fz3 : W1.frozen? ⟨gr, k * 7 + 3, none⟩ = false := hfz1 _
 have fz4 : W1.frozen? ⟨gr, k * 7 + 4, none⟩ = false := hfz1 _
 have fz5 : W1.frozen? ⟨gr, k * 7 + 5, none⟩ = false := hfz1 _
 obtain ⟨s', l', o', wt', on', v', t', ht', y0, y1, y2, y3, y4, y5, y6⟩ := Own.t7 (M.rowAt 1 rfl) hkl
 clear hfz hfz1 ht' y1 y2 y6
 go_wp2_with fail
 have M2 := (M.putT2 1 rfl k 0 3 (by omega) (by omega) ⟨s, l, o, wt, on, v0, t⟩ 1 0 HT.out).putT2 1 rfl k 4 5 (by omega) (by omega) ⟨1, l, o, 0, on, v0, t⟩ 0 v (List.getElem?_set_self hkl)
 simp only [List.set_set] at M2
 replace M2 : Sep (fps [.blk g 30 #[.slice (some ⟨gr, 0, none⟩) ts.length c0, .slice A1 n1 c1, .slice A2 n2 c2, .int .i64 tn, .bool st], rT ts.length (some ⟨gr, 0, none⟩) c0 ts]) w ((((W1.setCell ⟨gr, k * 7, none⟩ (.int .i64 1)).setCell ⟨gr, k * 7 + 3, none⟩ (.int .i64 0)).setCell ⟨gr, k * 7 + 4, none⟩ (.int .i64 0)).setCell ⟨gr, k * 7 + 5, none⟩ (.int .i64 v)) [.blk g 30 #[.slice (some ⟨gr, 0, none⟩) ts.length c0, .slice A1 n1 c1, .slice A2 n2 c2, .int .i64 tn, .bool st], rT ts.length (some ⟨gr, 0, none⟩) c0 (ts.set k ⟨1, l, o, 0, 0, v, t⟩)] := M2
 clear M q0 fz0 fz3 fz4 fz5 y0 y3 y4 y5
 generalize (((W1.setCell ⟨gr, k * 7, none⟩ (.int .i64 1)).setCell ⟨gr, k * 7 + 3, none⟩ (.int .i64 0)).setCell ⟨gr, k * 7 + 4, none⟩ (.int .i64 0)).setCell ⟨gr, k * 7 + 5, none⟩ (.int .i64 v) = W2 at M2 ⊢
 go_call (takeTurn_any ts (some ⟨gr, 0, none⟩) A1 A2 c0 n1 c1 n2 c2 tn st g _ (by omega) (by omega) (M2.blk 0 rfl)) as r W3 ⟨rfl, rfl⟩
 replace M2 := M2.set 0 rfl 3 (.int .i64 (tn + 1))
 generalize W2.setCell ⟨g, 3, none⟩ (.int .i64 (tn + 1)) = W3 at M2 ⊢
 have fz6 : W3.frozen? ⟨gr, k * 7 + 6, none⟩ = false := Own.fz (M2.rowAt 1 rfl) _
 obtain ⟨s', l', o', wt', on', v', t', ht', y0, y1, y2, y3, y4, y5, y6⟩ := Own.t7 (M2.rowAt 1 rfl) (show k < (ts.set k ⟨1, l, o, 0, 0, v, t⟩).length by simpa using hkl)
 clear ht' y0 y1 y2 y3 y4 y5
 go_wp2_with fail
 go_ret
 have M3 := M2.putT 1 rfl k 6 (by omega) ⟨1, l, o, 0, 0, v, t⟩ tn (List.getElem?_set_self hkl)
 simp only [List.set_set] at M3
 exact ⟨rfl, M3⟩
end Go.Proofs.YtfjgelegojbmgaaGreat
