/- The program's waking and parking of one task, behind a pointer to the pool. The list of tasks shorter than a million. -/
import Derived.Test.YtgbckcidmojnoaaSepS
import Derived.Test.YtgbckcidmojnoaaSWakeAll
import Derived.Test.YtgbckcidmojnoaaPoolOk
import Derived.Test.YtgbckcidmojnoaaSepX
namespace Go.Proofs.Ytgbckcidmojnoaa
open Go.RowKit
set_option linter.unusedVariables false

def isInB (ts : List T7) (id s : Int) : Bool := btw id 0 ((ts.length : Int) - 1) && ((taskAt ts id).s == s)
def canB (ts : List T7) (id v tn : Int) : Bool := isInB ts id 3 && (btw v 0 9999 && decide (tn < 1000000))
theorem isInB_nat {ts : List T7} {id s : Int} (h : isInB ts id s = true) : ∃ (k : Nat) (x : T7), id = k ∧ k < ts.length ∧ ts[k]? = some x ∧ x.s = s := by
  simp only [isInB, btw, Bool.and_eq_true, decide_eq_true_eq, beq_iff_eq] at h
  obtain ⟨⟨h1, h2⟩, h3⟩ := h
  refine ⟨id.toNat, taskAt ts id, by omega, by omega, ?_, h3⟩
  unfold taskAt
  rw [List.getD_eq_getElem?_getD, List.getElem?_eq_getElem (by omega)]
  rfl
theorem isInB_of {ts : List T7} {k : Nat} {x : T7} (h : ts[k]? = some x) (s : Int) : isInB ts k s = (x.s == s) := by
  have hk : k < ts.length := by
    rcases Nat.lt_or_ge k ts.length with h1 | h1
    · exact h1
    · rw [List.getElem?_eq_none h1] at h; cases h
  unfold isInB
  rw [taskAt_of h]
  have : btw (k : Int) 0 ((ts.length : Int) - 1) = true := by simp [btw]; omega
  rw [this, Bool.true_and]

set_option maxRecDepth 100000 in
set_option maxHeartbeats 2000000 in
theorem isIn_any (ts : List T7) (A0 A1 A2 : Option Addr) (c0 n1 c1 n2 c2 : Nat) (tn : Int) (st : Bool) (g : Nat) (id s : Int) (w : World) (hlen : ts.length ≤ 1048576) (hg : Blk w g 34 #[.slice A0 ts.length c0, .slice A1 n1 c1, .slice A2 n2 c2, .int .i64 tn, .bool st]) (h : Row w A0 (tcells ts)) :
    Calls Try.prog 118 #[.pointer (some ⟨g, 0, none⟩), .int .i64 id, .int .i64 s] w fun r w' => r = .returned (.bool (isInB ts id s)) ∧ Below w.heap.size w w' := by
  have H := hide (⟨h, hg⟩ : _ ∧ _)
  have q0 : w.cell? ⟨g, 0, none⟩ = some (.slice A0 ts.length c0) := hg.cell 0
  by_cases hb : btw id 0 ((ts.length : Int) - 1) = true
  · obtain ⟨k, rfl⟩ : ∃ k : Nat, id = k := ⟨id.toNat, by simp [btw] at hb; omega⟩
    have hk : k < ts.length := by simp [btw] at hb; omega
    obtain ⟨b, off, s', l, o, wt, on, v, t, rfl, _, he, hbl, y0, y1, y2, y3, y4, y5, y6⟩ := h.ts_at hk
    rw [isInB_of he]
    have hk1 : (k : Int) < (ts.length : Int) := by omega
    have hk0 : (0 : Int) ≤ (k : Int) := by omega
    clear he h hg
    go_enter Try.func118, Try.ntmps118
    go_wp2_with fail
    go_call (size_any ts _ A1 A2 c0 n1 c1 n2 c2 tn st g _ H.out.2) as r W1 ⟨rfl, rfl⟩
    go_wp2_with fail
    go_call (between_any _ _ _ _) as r W2 ⟨rfl, rfl⟩
    rw [hb]
    go_wp2_with fail
    go_ret
    exact ⟨rfl, Below.refl _ _⟩
  · have hb' : btw id 0 ((ts.length : Int) - 1) = false := by simpa using hb
    have e : isInB ts id s = false := by unfold isInB; rw [hb']; rfl
    rw [e]
    clear h hg hb
    go_enter Try.func118, Try.ntmps118
    go_wp2_with fail
    go_call (size_any ts _ A1 A2 c0 n1 c1 n2 c2 tn st g _ H.out.2) as r W1 ⟨rfl, rfl⟩
    go_wp2_with fail
    go_call (between_any _ _ _ _) as r W2 ⟨rfl, rfl⟩
    rw [hb']
    go_wp2_with fail
    go_ret
    exact ⟨rfl, Below.refl _ _⟩

set_option maxRecDepth 100000 in
set_option maxHeartbeats 2000000 in
theorem canWake_any (ts : List T7) (A0 A1 A2 : Option Addr) (c0 n1 c1 n2 c2 : Nat) (tn : Int) (st : Bool) (g : Nat) (id v : Int) (w : World) (hlen : ts.length ≤ 1048576) (hg : Blk w g 34 #[.slice A0 ts.length c0, .slice A1 n1 c1, .slice A2 n2 c2, .int .i64 tn, .bool st]) (h : Row w A0 (tcells ts)) :
    Calls Try.prog 115 #[.pointer (some ⟨g, 0, none⟩), .int .i64 id, .int .i64 v] w fun r w' => r = .returned (.bool (canB ts id v tn)) ∧ Below w.heap.size w w' := by
  have H := hide (⟨h, hg⟩ : _ ∧ _)
  clear h hg
  unfold canB
  have hI := hide (isIn_any ts A0 A1 A2 c0 n1 c1 n2 c2 tn st g id 3 w hlen H.out.2 H.out.1)
  generalize isInB ts id 3 = b1 at *
  cases b1
  · rw [Bool.false_and]
    go_enter Try.func115, Try.ntmps115
    go_wp2_with fail
    apply Calls.mono
    focus with_reducible exact hI.out
    rintro r W1 ⟨rfl, g1⟩
    go_wp2_with fail
    go_ret
    exact ⟨rfl, g1⟩
  · rw [Bool.true_and]
    have hB := hide (between_any v 0 9999)
    generalize btw v 0 9999 = b2 at *
    cases b2
    · rw [Bool.false_and]
      go_enter Try.func115, Try.ntmps115
      go_wp2_with fail
      apply Calls.mono
      focus with_reducible exact hI.out
      rintro r W1 ⟨rfl, g1⟩
      go_wp2_with fail
      apply Calls.mono
      focus with_reducible exact hB.out _
      rintro r W2 ⟨rfl, rfl⟩
      go_wp2_with fail
      go_ret
      exact ⟨rfl, g1⟩
    · rw [Bool.true_and]
      go_enter Try.func115, Try.ntmps115
      go_wp2_with fail
      apply Calls.mono
      focus with_reducible exact hI.out
      rintro r W1 ⟨rfl, g1⟩
      have q3 : W1.cell? ⟨g, 3, none⟩ = some (.int .i64 tn) := (H.out.2.below g1 H.out.2.lt).cell 3
      go_wp2_with fail
      apply Calls.mono
      focus with_reducible exact hB.out _
      rintro r W2 ⟨rfl, rfl⟩
      go_wp2_with fail
      go_ret
      exact ⟨rfl, g1⟩

set_option maxRecDepth 100000 in
set_option maxHeartbeats 2000000 in
theorem takeTurn_any (ts : List T7) (A0 A1 A2 : Option Addr) (c0 n1 c1 n2 c2 : Nat) (tn : Int) (st : Bool) (g : Nat) (w : World) (t0 : -1000000000 ≤ tn) (t1 : tn ≤ 1000000000) (hg : Blk w g 34 #[.slice A0 ts.length c0, .slice A1 n1 c1, .slice A2 n2 c2, .int .i64 tn, .bool st]) :
    Calls Try.prog 116 #[.pointer (some ⟨g, 0, none⟩)] w fun r w' => r = .returned (.int .i64 tn) ∧ w' = w.setCell ⟨g, 3, none⟩ (.int .i64 (tn + 1)) := by
  have q3 : w.cell? ⟨g, 3, none⟩ = some (.int .i64 tn) := hg.cell 3
  have f3 : w.frozen? ⟨g, 3, none⟩ = false := hg.frozen 3
  clear hg
  go_enter Try.func116, Try.ntmps116
  go_wp2_with fail
  go_ret
  exact ⟨rfl, rfl⟩

set_option maxRecDepth 100000 in
set_option maxHeartbeats 2000000 in
theorem wake_no (ts : List T7) (A0 A1 A2 : Option Addr) (c0 n1 c1 n2 c2 : Nat) (tn : Int) (st : Bool) (g : Nat) (id v : Int) (w : World) (hlen : ts.length ≤ 1048576) (hg : Blk w g 34 #[.slice A0 ts.length c0, .slice A1 n1 c1, .slice A2 n2 c2, .int .i64 tn, .bool st]) (h : Row w A0 (tcells ts)) (hc : canB ts id v tn = false) :
    Calls Try.prog 84 #[.pointer (some ⟨g, 0, none⟩), .int .i64 id, .int .i64 v] w fun r w' => r = .returned (.bool false) ∧ Below w.heap.size w w' := by
  have hC := hide (canWake_any ts A0 A1 A2 c0 n1 c1 n2 c2 tn st g id v w hlen hg h)
  rw [hc] at hC
  clear h hg hc
  go_enter Try.func84, Try.ntmps84
  go_wp2_with fail
  apply Calls.mono
  focus with_reducible exact hC.out
  rintro r W1 ⟨rfl, g1⟩
  go_wp2_with fail
  go_ret
  exact ⟨rfl, g1⟩

set_option maxRecDepth 100000 in
set_option maxHeartbeats 2000000 in
theorem wake_yes (ts : List T7) (A0 A1 A2 : Option Addr) (c0 n1 c1 n2 c2 : Nat) (tn : Int) (st : Bool) (g k : Nat) (v : Int) (s l o wt on v0 t : Int) (w : World) (hlen : ts.length ≤ 1048576) (t0 : -1000000 ≤ tn) (ht : ts[k]? = some ⟨s, l, o, wt, on, v0, t⟩) (h : Sep (fps [.blk g 34 #[.slice A0 ts.length c0, .slice A1 n1 c1, .slice A2 n2 c2, .int .i64 tn, .bool st], rT ts.length A0 c0 ts]) w w [.blk g 34 #[.slice A0 ts.length c0, .slice A1 n1 c1, .slice A2 n2 c2, .int .i64 tn, .bool st], rT ts.length A0 c0 ts]) (hc : canB ts k v tn = true) :
    Calls Try.prog 84 #[.pointer (some ⟨g, 0, none⟩), .int .i64 k, .int .i64 v] w fun r w' => r = .returned (.bool true) ∧ Sep (fps [.blk g 34 #[.slice A0 ts.length c0, .slice A1 n1 c1, .slice A2 n2 c2, .int .i64 tn, .bool st], rT ts.length A0 c0 ts]) w w' [.blk g 34 #[.slice A0 ts.length c0, .slice A1 n1 c1, .slice A2 n2 c2, .int .i64 (tn + 1), .bool st], rT ts.length A0 c0 (ts.set k (wakeT ⟨s, l, o, wt, on, v0, t⟩ tn v))] := by
  have hC := hide (canWake_any ts A0 A1 A2 c0 n1 c1 n2 c2 tn st g k v w hlen (h.blk 0 rfl) (h.rowS 1 rfl))
  rw [hc] at hC
  have t1 : tn ≤ 1000000 := by simp [canB] at hc; omega
  clear hc
  have hkl : k < ts.length := by
    rcases Nat.lt_or_ge k ts.length with h1 | h1
    · exact h1
    · rw [List.getElem?_eq_none h1] at ht; cases ht
  have hki : (k : Int) < (ts.length : Int) := by omega
  have hk0 : (0 : Int) ≤ (k : Int) := by omega
  have hr : (rT ts.length A0 c0 ts).here w := h.rowAt 1 rfl
  obtain ⟨gr, rfl, hgl, hfz⟩ := rT_form hr (show 0 < ts.length by omega)
  clear hr
  have HT := hide ht
  clear ht
  have H := hide h
  clear h
  go_enter Try.func84, Try.ntmps84
  go_wp2_with fail
  apply Calls.mono
  focus with_reducible exact hC.out
  rintro r W1 ⟨rfl, g1⟩
  have M := Sep.call H.out g1
  have q0 : W1.cell? ⟨g, 0, none⟩ = some (.slice (some ⟨gr, 0, none⟩) ts.length c0) := M.cell 0 0 rfl
  have hfz1 : ∀ j, W1.frozen? ⟨gr, j, none⟩ = false := fun j => Own.fz (M.rowAt 1 rfl) j
  have fz0 : W1.frozen? ⟨gr, k * 7, none⟩ = false := hfz1 _
  have fz3 : W1.frozen? ⟨gr, k * 7 + 3, none⟩ = false := hfz1 _
  have fz4 : W1.frozen? ⟨gr, k * 7 + 4, none⟩ = false := hfz1 _
  have fz5 : W1.frozen? ⟨gr, k * 7 + 5, none⟩ = false := hfz1 _
  obtain ⟨s', l', o', wt', on', v', t', ht', y0, y1, y2, y3, y4, y5, y6⟩ := Own.t7 (M.rowAt 1 rfl) hkl
  clear hfz hfz1 ht' y1 y2 y6
  go_wp2_with fail
  have M2 := (M.putT2 1 rfl k 0 3 (by omega) (by omega) ⟨s, l, o, wt, on, v0, t⟩ 1 0 HT.out).putT2 1 rfl k 4 5 (by omega) (by omega) ⟨1, l, o, 0, on, v0, t⟩ 0 v (List.getElem?_set_self hkl)
  simp only [List.set_set] at M2
  replace M2 : Sep (fps [.blk g 34 #[.slice (some ⟨gr, 0, none⟩) ts.length c0, .slice A1 n1 c1, .slice A2 n2 c2, .int .i64 tn, .bool st], rT ts.length (some ⟨gr, 0, none⟩) c0 ts]) w ((((W1.setCell ⟨gr, k * 7, none⟩ (.int .i64 1)).setCell ⟨gr, k * 7 + 3, none⟩ (.int .i64 0)).setCell ⟨gr, k * 7 + 4, none⟩ (.int .i64 0)).setCell ⟨gr, k * 7 + 5, none⟩ (.int .i64 v)) [.blk g 34 #[.slice (some ⟨gr, 0, none⟩) ts.length c0, .slice A1 n1 c1, .slice A2 n2 c2, .int .i64 tn, .bool st], rT ts.length (some ⟨gr, 0, none⟩) c0 (ts.set k ⟨1, l, o, 0, 0, v, t⟩)] := M2
  clear M q0 fz0 fz3 fz4 fz5 y0 y3 y4 y5
  generalize (((W1.setCell ⟨gr, k * 7, none⟩ (.int .i64 1)).setCell ⟨gr, k * 7 + 3, none⟩ (.int .i64 0)).setCell ⟨gr, k * 7 + 4, none⟩ (.int .i64 0)).setCell ⟨gr, k * 7 + 5, none⟩ (.int .i64 v) = W2 at M2 ⊢
  go_call (takeTurn_any ts (some ⟨gr, 0, none⟩) A1 A2 c0 n1 c1 n2 c2 tn st g _ (by omega) (by omega) (M2.blk 0 rfl)) as r W3 ⟨rfl, rfl⟩
  replace M2 := M2.set 0 rfl 3 (.int .i64 (tn + 1))
  generalize W2.setCell ⟨g, 3, none⟩ (.int .i64 (tn + 1)) = W3 at M2 ⊢
  have fz6 : W3.frozen? ⟨gr, k * 7 + 6, none⟩ = false := Own.fz (M2.rowAt 1 rfl) _
  obtain ⟨s', l', o', wt', on', v', t', ht', y0, y1, y2, y3, y4, y5, y6⟩ := Own.t7 (M2.rowAt 1 rfl) (show k < (ts.set k ⟨1, l, o, 0, 0, v, t⟩).length by simpa using hkl)
  clear ht' y0 y1 y2 y3 y4 y5
  go_wp2_with fail
  go_ret
  have M3 := M2.putT 1 rfl k 6 (by omega) ⟨1, l, o, 0, 0, v, t⟩ tn (List.getElem?_set_self hkl)
  simp only [List.set_set] at M3
  exact ⟨rfl, M3⟩

set_option maxRecDepth 100000 in
set_option maxHeartbeats 2000000 in
theorem park_no (a b c d e : Int) (ts : List T7) (A0 A1 A2 : Option Addr) (c0 n1 c1 n2 c2 : Nat) (tn : Int) (st : Bool) (g : Nat) (id pw po : Int) (w : World) (hlen : ts.length ≤ 1048576) (hg : Blk w g 34 #[.slice A0 ts.length c0, .slice A1 n1 c1, .slice A2 n2 c2, .int .i64 tn, .bool st]) (h : Row w A0 (tcells ts)) (hc : isInB ts id 2 = false) :
    Calls Try.prog 90 #[.pointer (some ⟨g, 0, none⟩), .agg #[.int .i64 a, .int .i64 b, .int .i64 c, .int .i64 d, .int .i64 e], .int .i64 id, .int .i64 pw, .int .i64 po] w fun r w' => r = .returned (.bool false) ∧ Below w.heap.size w w' := by
  have H := hide (⟨h, hg⟩ : _ ∧ _)
  clear h hg
  go_enter Try.func90, Try.ntmps90
  go_wp2_with fail
  have M := Sep.enter1 (o1 := #[.int .i64 a, .int .i64 b, .int .i64 c, .int .i64 d, .int .i64 e]) (t1 := 28) w
  generalize w.alloc (.cells #[.int .i64 a, .int .i64 b, .int .i64 c, .int .i64 d, .int .i64 e] 28) = W0 at M ⊢
  go_call (isIn_any ts A0 A1 A2 c0 n1 c1 n2 c2 tn st g id 2 _ hlen (H.out.2.below M.below H.out.2.lt) (H.out.1.below M.below)) as r W1 ⟨rfl, g1⟩
  rw [hc]
  replace M := M.call g1
  go_wp2_with fail
  go_ret
  exact ⟨rfl, M.below⟩

set_option maxRecDepth 100000 in
set_option maxHeartbeats 2000000 in
theorem park_yes (a b c d e : Int) (ts : List T7) (ks : List Int) (fs : List F2) (A0 A1 A2 : Option Addr) (c0 c1 c2 : Nat) (tn : Int) (st : Bool) (g k : Nat) (pw po : Int) (s l o wt on v0 t : Int) (w : World) (hlen : ts.length ≤ 1048576) (hk1 : ks.length ≤ 1048576) (hf1 : fs.length ≤ 1048576) (t0 : -1000000 ≤ tn) (t1 : tn ≤ 1000000) (ht : ts[k]? = some ⟨s, l, o, wt, on, v0, t⟩) (h : Sep (fps [.blk g 34 #[.slice A0 ts.length c0, .slice A1 ks.length c1, .slice A2 fs.length c2, .int .i64 tn, .bool st], rT ts.length A0 c0 ts, rK ks.length A1 c1 ks, rF fs.length A2 c2 fs]) w w [.blk g 34 #[.slice A0 ts.length c0, .slice A1 ks.length c1, .slice A2 fs.length c2, .int .i64 tn, .bool st], rT ts.length A0 c0 ts, rK ks.length A1 c1 ks, rF fs.length A2 c2 fs]) (hc : isInB ts k 2 = true) :
    Calls Try.prog 90 #[.pointer (some ⟨g, 0, none⟩), .agg #[.int .i64 a, .int .i64 b, .int .i64 c, .int .i64 d, .int .i64 e], .int .i64 k, .int .i64 pw, .int .i64 po] w fun r w' => r = .returned (.bool (poolB a b c d e (ts.set k (parkT ⟨s, l, o, wt, on, v0, t⟩ tn pw po)) ks fs (tn + 1))) ∧ Sep (fps [.blk g 34 #[.slice A0 ts.length c0, .slice A1 ks.length c1, .slice A2 fs.length c2, .int .i64 tn, .bool st], rT ts.length A0 c0 ts, rK ks.length A1 c1 ks, rF fs.length A2 c2 fs]) w w' [.blk g 34 #[.slice A0 ts.length c0, .slice A1 ks.length c1, .slice A2 fs.length c2, .int .i64 (tn + 1), .bool st], rT ts.length A0 c0 (ts.set k (parkT ⟨s, l, o, wt, on, v0, t⟩ tn pw po)), rK ks.length A1 c1 ks, rF fs.length A2 c2 fs] := by
  have hkl : k < ts.length := by
    rcases Nat.lt_or_ge k ts.length with h1 | h1
    · exact h1
    · rw [List.getElem?_eq_none h1] at ht; cases ht
  obtain ⟨us, hus⟩ : ∃ us, us = ts.set k (parkT ⟨s, l, o, wt, on, v0, t⟩ tn pw po) := ⟨_, rfl⟩
  obtain ⟨bb, hbb⟩ : ∃ bb, bb = poolB a b c d e us ks fs (tn + 1) := ⟨_, rfl⟩
  rw [← hus, ← hbb]
  have HB := hide (⟨hus, show us.length = ts.length from by rw [hus]; simp, hbb⟩ : _ ∧ _ ∧ _)
  clear hus hbb
  have hki : (k : Int) < (ts.length : Int) := by omega
  have hk0 : (0 : Int) ≤ (k : Int) := by omega
  have hr : (rT ts.length A0 c0 ts).here w := h.rowAt 1 rfl
  obtain ⟨gr, rfl, hgl, hfz⟩ := rT_form hr (show 0 < ts.length by omega)
  clear hr hfz
  have HT := hide ht
  clear ht
  have H := hide h
  clear h
  go_enter Try.func90, Try.ntmps90
  go_wp2_with fail
  have M := Sep.allocN H.out 28 #[.int .i64 a, .int .i64 b, .int .i64 c, .int .i64 d, .int .i64 e]
  generalize w.alloc (.cells #[.int .i64 a, .int .i64 b, .int .i64 c, .int .i64 d, .int .i64 e] 28) = W0 at M ⊢
  go_call (isIn_any ts (some ⟨gr, 0, none⟩) A1 A2 c0 ks.length c1 fs.length c2 tn st g k 2 _ hlen (M.blk 1 rfl) (M.rowS 2 rfl)) as r W1 ⟨rfl, g1⟩
  rw [hc]
  replace M := M.call g1
  clear g1
  have q0 : W1.cell? ⟨g, 0, none⟩ = some (.slice (some ⟨gr, 0, none⟩) ts.length c0) := M.cell 1 0 rfl
  have hfz1 : ∀ j, W1.frozen? ⟨gr, j, none⟩ = false := fun j => Own.fz (M.rowAt 2 rfl) j
  have fz0 : W1.frozen? ⟨gr, k * 7, none⟩ = false := hfz1 _
  have fz2 : W1.frozen? ⟨gr, k * 7 + 2, none⟩ = false := hfz1 _
  have fz3 : W1.frozen? ⟨gr, k * 7 + 3, none⟩ = false := hfz1 _
  have fz4 : W1.frozen? ⟨gr, k * 7 + 4, none⟩ = false := hfz1 _
  obtain ⟨s', l', o', wt', on', v', t', ht', y0, y1, y2, y3, y4, y5, y6⟩ := Own.t7 (M.rowAt 2 rfl) hkl
  clear hfz1 ht' y1 y5 y6
  go_wp2_with fail
  have M2 := (M.putT2 2 rfl k 0 2 (by omega) (by omega) ⟨s, l, o, wt, on, v0, t⟩ 3 (-1) HT.out).putT2 2 rfl k 3 4 (by omega) (by omega) ⟨3, l, -1, wt, on, v0, t⟩ pw po (List.getElem?_set_self hkl)
  simp only [List.set_set] at M2
  replace M2 : Sep (fps [.blk g 34 #[.slice (some ⟨gr, 0, none⟩) ts.length c0, .slice A1 ks.length c1, .slice A2 fs.length c2, .int .i64 tn, .bool st], rT ts.length (some ⟨gr, 0, none⟩) c0 ts, rK ks.length A1 c1 ks, rF fs.length A2 c2 fs]) w ((((W1.setCell ⟨gr, k * 7, none⟩ (.int .i64 3)).setCell ⟨gr, k * 7 + 2, none⟩ (.int .i64 (-1))).setCell ⟨gr, k * 7 + 3, none⟩ (.int .i64 pw)).setCell ⟨gr, k * 7 + 4, none⟩ (.int .i64 po)) [.blk w.heap.size 28 #[.int .i64 a, .int .i64 b, .int .i64 c, .int .i64 d, .int .i64 e], .blk g 34 #[.slice (some ⟨gr, 0, none⟩) ts.length c0, .slice A1 ks.length c1, .slice A2 fs.length c2, .int .i64 tn, .bool st], rT ts.length (some ⟨gr, 0, none⟩) c0 (ts.set k ⟨3, l, -1, pw, po, v0, t⟩), rK ks.length A1 c1 ks, rF fs.length A2 c2 fs] := M2
  clear M q0 fz0 fz2 fz3 fz4 y0 y2 y3 y4
  generalize (((W1.setCell ⟨gr, k * 7, none⟩ (.int .i64 3)).setCell ⟨gr, k * 7 + 2, none⟩ (.int .i64 (-1))).setCell ⟨gr, k * 7 + 3, none⟩ (.int .i64 pw)).setCell ⟨gr, k * 7 + 4, none⟩ (.int .i64 po) = W2 at M2 ⊢
  go_call (takeTurn_any ts (some ⟨gr, 0, none⟩) A1 A2 c0 ks.length c1 fs.length c2 tn st g _ (by omega) (by omega) (M2.blk 1 rfl)) as r W3 ⟨rfl, rfl⟩
  replace M2 := M2.set 1 rfl 3 (.int .i64 (tn + 1))
  generalize W2.setCell ⟨g, 3, none⟩ (.int .i64 (tn + 1)) = W3 at M2 ⊢
  have fz6 : W3.frozen? ⟨gr, k * 7 + 6, none⟩ = false := Own.fz (M2.rowAt 2 rfl) _
  obtain ⟨s', l', o', wt', on', v', t', ht', y0, y1, y2, y3, y4, y5, y6⟩ := Own.t7 (M2.rowAt 2 rfl) (show k < (ts.set k ⟨3, l, -1, pw, po, v0, t⟩).length by simpa using hkl)
  clear ht' y0 y1 y2 y3 y4 y5
  have M3 := M2.putT 2 rfl k 6 (by omega) ⟨3, l, -1, pw, po, v0, t⟩ tn (List.getElem?_set_self hkl)
  simp only [List.set_set] at M3
  have hP0 : w.heap.size < W3.heap.size := M2.lt 0 rfl
  have hne : ¬ w.heap.size = gr := by omega
  have qP0 : W3.cell? ⟨w.heap.size, 0, none⟩ = some (.int .i64 a) := M2.cell 0 0 rfl
  have qP1 : W3.cell? ⟨w.heap.size, 1, none⟩ = some (.int .i64 b) := M2.cell 0 1 rfl
  have qP2 : W3.cell? ⟨w.heap.size, 2, none⟩ = some (.int .i64 c) := M2.cell 0 2 rfl
  have qP3 : W3.cell? ⟨w.heap.size, 3, none⟩ = some (.int .i64 d) := M2.cell 0 3 rfl
  have qP4 : W3.cell? ⟨w.heap.size, 4, none⟩ = some (.int .i64 e) := M2.cell 0 4 rfl
  go_wp2_with fail
  replace M3 : Sep (fps [.blk g 34 #[.slice (some ⟨gr, 0, none⟩) ts.length c0, .slice A1 ks.length c1, .slice A2 fs.length c2, .int .i64 tn, .bool st], rT ts.length (some ⟨gr, 0, none⟩) c0 ts, rK ks.length A1 c1 ks, rF fs.length A2 c2 fs]) w (W3.setCell ⟨gr, k * 7 + 6, none⟩ (.int .i64 tn)) [.blk w.heap.size 28 #[.int .i64 a, .int .i64 b, .int .i64 c, .int .i64 d, .int .i64 e], .blk g 34 #[.slice (some ⟨gr, 0, none⟩) ts.length c0, .slice A1 ks.length c1, .slice A2 fs.length c2, .int .i64 (tn + 1), .bool st], rT ts.length (some ⟨gr, 0, none⟩) c0 (ts.set k (parkT ⟨s, l, o, wt, on, v0, t⟩ tn pw po)), rK ks.length A1 c1 ks, rF fs.length A2 c2 fs] := M3
  generalize W3.setCell ⟨gr, k * 7 + 6, none⟩ (.int .i64 tn) = W4 at M3 ⊢
  rw [← HB.out.1, ← HB.out.2.1] at M3
  have hR := pright_any a b c d e us ks fs (some ⟨gr, 0, none⟩) A1 A2 c0 c1 c2 (tn + 1) st g W4 hk1 hf1 (M3.blk 1 rfl) ⟨M3.rowS 2 rfl, M3.rowS 3 rfl, M3.rowS 4 rfl⟩
  rw [← HB.out.2.2] at hR
  clear HT M2 fz6 y6
  apply Calls.mono
  focus with_reducible exact hR
  clear hR
  rintro r W5 ⟨rfl, g5⟩
  replace M3 := M3.call g5
  rw [HB.out.2.1] at M3
  clear g5
  go_wp2_with fail
  go_ret
  exact ⟨rfl, M3.tail⟩
end Go.Proofs.Ytgbckcidmojnoaa
