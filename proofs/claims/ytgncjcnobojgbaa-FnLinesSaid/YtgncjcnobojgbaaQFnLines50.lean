/- The program's line: Swap. The list of places no longer than a million. -/
import Derived.Test.YtgncjcnobojgbaaQFnLines48
import Derived.Test.YtgncjcnobojgbaaQFnLines49
import Derived.Test.YtgncjcnobojgbaaQFnLines39

namespace Go.Proofs.Ytgncjcnobojgbaa
open Go.RowKit
set_option linter.unusedVariables false

def rP (n : Nat) (A : Option Addr) (c : Nat) (ps : List P3) : Res := .row 135 3 (.slice A n c) n (pcells ps)
theorem rP_form {W : World} {n c : Nat} {A : Option Addr} {ps : List P3} (h : (rP n A c ps).here W) (hn : 0 < n) : ∃ g, A = some ⟨g, 0, none⟩ ∧ g < W.heap.size ∧ ∀ j, W.frozen? ⟨g, j, none⟩ = false := by
  obtain ⟨g, cap, hv, _, hgl⟩ := World.ownsRow.form h hn
  injection hv with hA _ hc
  subst hA
  exact ⟨g, rfl, hgl, fun j => Own.fz h j⟩
theorem Own.put3 {w : World} {base : Nat} {e : TypeId} {g n c : Nat} {ps : List P3} (h : w.ownsRow base e 3 (.slice (some ⟨g, 0, none⟩) n c) n (pcells ps)) (k : Nat) (l t i : Int) :
    (((w.setCell ⟨g, k * 3, none⟩ (.int .i64 l)).setCell ⟨g, k * 3 + 1, none⟩ (.int .i64 t)).setCell ⟨g, k * 3 + 2, none⟩ (.int .i64 i)).ownsRow base e 3 (.slice (some ⟨g, 0, none⟩) n c) n (pcells (ps.set k ⟨l, t, i⟩)) := by
  rw [← pcells_put]
  exact (((h.stored (k * 3) _).1.stored (k * 3 + 1) _).1.stored (k * 3 + 2) _).1

/-- Two places are stored, one after the other. -/
theorem put33 {w : World} {g n c : Nat} {ps : List P3} (h : (rP n (some ⟨g, 0, none⟩) c ps).here w) (i j : Nat) (a1 a2 a3 b1 b2 b3 : Int) :
    Sep (fps [rP n (some ⟨g, 0, none⟩) c ps]) w ((((((w.setCell ⟨g, i * 3, none⟩ (.int .i64 a1)).setCell ⟨g, i * 3 + 1, none⟩ (.int .i64 a2)).setCell ⟨g, i * 3 + 2, none⟩ (.int .i64 a3)).setCell ⟨g, j * 3, none⟩ (.int .i64 b1)).setCell ⟨g, j * 3 + 1, none⟩ (.int .i64 b2)).setCell ⟨g, j * 3 + 2, none⟩ (.int .i64 b3)) [rP n (some ⟨g, 0, none⟩) c ((ps.set i ⟨a1, a2, a3⟩).set j ⟨b1, b2, b3⟩)] := by
  have h1 : w.ownsRow 0 135 3 (.slice (some ⟨g, 0, none⟩) n c) n (pcells ps) := h
  have h2 := Own.put3 (Own.put3 h1 i a1 a2 a3) j b1 b2 b3
  refine sepOne (fun _ h => .inl h) ?_ h2
  refine only_setCell ?_ (.inl rfl) _
  refine only_setCell ?_ (.inl rfl) _
  refine only_setCell ?_ (.inl rfl) _
  refine only_setCell ?_ (.inl rfl) _
  refine only_setCell ?_ (.inl rfl) _
  refine only_setCell ?_ (.inl rfl) _
  exact World.grownBy.refl _ _

set_option maxRecDepth 100000 in
set_option maxHeartbeats 4000000 in
theorem swap_ne (ps : List P3) (A : Option Addr) (c i j : Nat) (hi : i < ps.length) (hj : j < ps.length) (hij : i ≠ j) (hl : ps.length ≤ 1048576) (w : World) (h : (rP ps.length A c ps).here w) :
    Calls Try.prog 192 #[.slice A ps.length c, .int .i64 i, .int .i64 j] w fun r w' => (∃ v, r = .returned v) ∧ Sep (fps [rP ps.length A c ps]) w w' [rP ps.length A c (swapL ps i j)] := by
  obtain ⟨g, rfl, hgl, hfz⟩ := rP_form h (by omega)
  obtain ⟨b, off, e, hb, z0, z1, z2⟩ := (Row.of_own h).ps_at hi
  injection e with e
  injection e with e1 e2
  subst e1 e2
  obtain ⟨b', off', e, hb', y0, y1, y2⟩ := (Row.of_own h).ps_at hj
  injection e with e
  injection e with e1 e2
  subst e1 e2
  simp only [Nat.zero_add] at z0 z1 z2 y0 y1 y2
  have hs : swapL ps i j = (ps.set i ⟨ps[j].l, ps[j].t, ps[j].i⟩).set j ⟨ps[i].l, ps[i].t, ps[i].i⟩ := by rw [swapL, getD3 hi, getD3 hj]
  have H := hide (⟨h, hs⟩ : _ ∧ _)
  clear h hs hb hb'
  have hi1 : (i : Int) < (ps.length : Int) := by omega
  have hj1 : (j : Int) < (ps.length : Int) := by omega
  have hi0 : (0 : Int) ≤ (i : Int) := by omega
  have hj0 : (0 : Int) ≤ (j : Int) := by omega
  have f0 : w.frozen? ⟨g, i * 3, none⟩ = false := hfz _
  have f1 : w.frozen? ⟨g, i * 3 + 1, none⟩ = false := hfz _
  have f2 : w.frozen? ⟨g, i * 3 + 2, none⟩ = false := hfz _
  have f3 : w.frozen? ⟨g, j * 3, none⟩ = false := hfz _
  have f4 : w.frozen? ⟨g, j * 3 + 1, none⟩ = false := hfz _
  have f5 : w.frozen? ⟨g, j * 3 + 2, none⟩ = false := hfz _
  have n0 : ¬ i * 3 = j * 3 := by omega
  have n1 : ¬ i * 3 + 1 = j * 3 := by omega
  have n2 : ¬ i * 3 + 2 = j * 3 := by omega
  have n3 : ¬ i * 3 = j * 3 + 1 := by omega
  have n4 : ¬ i * 3 + 1 = j * 3 + 1 := by omega
  have n5 : ¬ i * 3 + 2 = j * 3 + 1 := by omega
  have n6 : ¬ i * 3 = j * 3 + 2 := by omega
  have n7 : ¬ i * 3 + 1 = j * 3 + 2 := by omega
  have n8 : ¬ i * 3 + 2 = j * 3 + 2 := by omega
  have m0 : ¬ j * 3 = i * 3 := by omega
  have m1 : ¬ j * 3 + 1 = i * 3 := by omega
  have m2 : ¬ j * 3 + 2 = i * 3 := by omega
  have m3 : ¬ j * 3 = i * 3 + 1 := by omega
  have m4 : ¬ j * 3 + 1 = i * 3 + 1 := by omega
  have m5 : ¬ j * 3 + 2 = i * 3 + 1 := by omega
  have m6 : ¬ j * 3 = i * 3 + 2 := by omega
  have m7 : ¬ j * 3 + 1 = i * 3 + 2 := by omega
  have m8 : ¬ j * 3 + 2 = i * 3 + 2 := by omega
  clear hfz
  generalize ps[i].l = l1 at *
  generalize ps[i].t = t1 at *
  generalize ps[i].i = i1 at *
  generalize ps[j].l = l2 at *
  generalize ps[j].t = t2 at *
  generalize ps[j].i = i2 at *
  go_enter Try.func192, Try.ntmps192
  go_wp2_with fail
  refine wp_region_T (S := (fun w' => w'.cell? ⟨g, i * 3, none⟩ = some (.int .i64 l1) ∧ w'.cell? ⟨g, i * 3 + 1, none⟩ = some (.int .i64 t1) ∧ w'.cell? ⟨g, i * 3 + 2, none⟩ = some (.int .i64 i1) ∧ w'.cell? ⟨g, j * 3, none⟩ = some (.int .i64 l2) ∧ w'.cell? ⟨g, j * 3 + 1, none⟩ = some (.int .i64 t2) ∧ w'.cell? ⟨g, j * 3 + 2, none⟩ = some (.int .i64 i2))) (ks := [13, 15]) (by kernel_rfl) ⟨z0, z1, z2, y0, y1, y2⟩ (fun hHeld => ?_)
  refine wpAnyT_takeY (i := 0) (v := ?v0) rfl (by kernel_rfl) (by kernel_rfl) (by kernel_rfl) (by kernel_rfl) (fun _ _ _ h => h) (by rfl) ?hy0 (fun _ => hHeld) ?rest0
  case hy0 => (intro w; go_simp; all_goals with_reducible rfl)
  try simp only [Act.put, List.setIfInBounds_toArray, List.set_cons_zero, List.set_cons_succ]
  refine wpAnyT_takeY (i := 1) (v := ?v1) rfl (by kernel_rfl) (by kernel_rfl) (by kernel_rfl) (by kernel_rfl) (fun _ _ _ h => h) (by rfl) ?hy1 (fun _ => hHeld) ?rest1
  case hy1 => (intro w; go_simp; all_goals with_reducible rfl)
  try simp only [Act.put, List.setIfInBounds_toArray, List.set_cons_zero, List.set_cons_succ]
  refine wpAnyT_takeY (i := 2) (v := ?v2) rfl (by kernel_rfl) (by kernel_rfl) (by kernel_rfl) (by kernel_rfl) (fun _ _ _ h => h) (by rfl) ?hy2 (fun _ => hHeld) ?rest2
  case hy2 => (intro w; go_simp; all_goals with_reducible rfl)
  try simp only [Act.put, List.setIfInBounds_toArray, List.set_cons_zero, List.set_cons_succ]
  refine wpAnyT_takeY (i := 3) (v := ?v3) rfl (by kernel_rfl) (by kernel_rfl) (by kernel_rfl) (by kernel_rfl) (fun _ _ _ h => h) (by rfl) ?hy3 (fun _ => hHeld) ?rest3
  case hy3 => (intro w; go_simp; all_goals with_reducible rfl)
  try simp only [Act.put, List.setIfInBounds_toArray, List.set_cons_zero, List.set_cons_succ]
  refine wpAnyT_takeY (i := 4) (v := ?v4) rfl (by kernel_rfl) (by kernel_rfl) (by kernel_rfl) (by kernel_rfl) (fun _ _ _ h => h) (by rfl) ?hy4 (fun _ => hHeld) ?rest4
  case hy4 => (intro w; go_simp; all_goals with_reducible rfl)
  try simp only [Act.put, List.setIfInBounds_toArray, List.set_cons_zero, List.set_cons_succ]
  refine wpAnyT_takeY (i := 5) (v := ?v5) rfl (by kernel_rfl) (by kernel_rfl) (by kernel_rfl) (by kernel_rfl) (fun _ _ _ h => h) (by rfl) ?hy5 (fun _ => hHeld) ?rest5
  case hy5 => (intro w; go_simp; all_goals with_reducible rfl)
  try simp only [Act.put, List.setIfInBounds_toArray, List.set_cons_zero, List.set_cons_succ]
  refine wpAnyT_takeY (i := 6) (v := ?v6) rfl (by kernel_rfl) (by kernel_rfl) (by kernel_rfl) (by kernel_rfl) (fun _ _ _ h => h) (by rfl) ?hy6 (fun _ => hHeld) ?rest6
  case hy6 => (intro w; go_simp; all_goals with_reducible rfl)
  try simp only [Act.put, List.setIfInBounds_toArray, List.set_cons_zero, List.set_cons_succ]
  refine wpAnyT_takeL (i := 7) (v := ?v7) rfl (by kernel_rfl) (by kernel_rfl) (by kernel_rfl) (by kernel_rfl) (by kernel_rfl) (fun _ _ _ h => h) (by rfl) ?hy7 hHeld ?rest7
  case hy7 => (intro w hSw; (try dsimp only at hSw); go_split_ands; go_simp; all_goals with_reducible rfl)
  try simp only [Act.put, List.setIfInBounds_toArray, List.set_cons_zero, List.set_cons_succ]
  refine wpAnyT_takeY (i := 8) (v := ?v8) rfl (by kernel_rfl) (by kernel_rfl) (by kernel_rfl) (by kernel_rfl) (fun _ _ _ h => h) (by rfl) ?hy8 (fun _ => hHeld) ?rest8
  case hy8 => (intro w; go_simp; all_goals with_reducible rfl)
  try simp only [Act.put, List.setIfInBounds_toArray, List.set_cons_zero, List.set_cons_succ]
  refine wpAnyT_takeY (i := 9) (v := ?v9) rfl (by kernel_rfl) (by kernel_rfl) (by kernel_rfl) (by kernel_rfl) (fun _ _ _ h => h) (by rfl) ?hy9 (fun _ => hHeld) ?rest9
  case hy9 => (intro w; go_simp; all_goals with_reducible rfl)
  try simp only [Act.put, List.setIfInBounds_toArray, List.set_cons_zero, List.set_cons_succ]
  refine wpAnyT_takeY (i := 10) (v := ?v10) rfl (by kernel_rfl) (by kernel_rfl) (by kernel_rfl) (by kernel_rfl) (fun _ _ _ h => h) (by rfl) ?hy10 (fun _ => hHeld) ?rest10
  case hy10 => (intro w; go_simp; all_goals with_reducible rfl)
  try simp only [Act.put, List.setIfInBounds_toArray, List.set_cons_zero, List.set_cons_succ]
  refine wpAnyT_takeL (i := 11) (v := ?v11) rfl (by kernel_rfl) (by kernel_rfl) (by kernel_rfl) (by kernel_rfl) (by kernel_rfl) (fun _ _ _ h => h) (by rfl) ?hy11 hHeld ?rest11
  case hy11 => (intro w hSw; (try dsimp only at hSw); go_split_ands; go_simp; all_goals with_reducible rfl)
  try simp only [Act.put, List.setIfInBounds_toArray, List.set_cons_zero, List.set_cons_succ]
  refine wpAnyT_takeY (i := 12) (v := ?v12) rfl (by kernel_rfl) (by kernel_rfl) (by kernel_rfl) (by kernel_rfl) (fun _ _ _ h => h) (by rfl) ?hy12 (fun _ => hHeld) ?rest12
  case hy12 => (intro w; go_simp; all_goals with_reducible rfl)
  try simp only [Act.put, List.setIfInBounds_toArray, List.set_cons_zero, List.set_cons_succ]
  refine wpAnyT_oneL (i := 13) rfl (by kernel_rfl) (by kernel_rfl) (fun K hK => ?_)
  go_simp
  refine hK.out _ _ ?_
  clear hK K
  try simp only [Act.put, List.setIfInBounds_toArray, List.set_cons_zero, List.set_cons_succ]
  refine wpAnyT_takeZ (i := 14) (v := ?v14) rfl (by kernel_rfl) (by kernel_rfl) (by kernel_rfl) (by kernel_rfl) (fun _ _ _ h => h) (by rfl) ?hy14 (by kernel_rfl) ?rest14
  case hy14 => (intro w; go_simp; all_goals with_reducible rfl)
  try simp only [Act.put, List.setIfInBounds_toArray, List.set_cons_zero, List.set_cons_succ]
  refine wpAnyT_oneL (i := 15) rfl (by kernel_rfl) (by kernel_rfl) (fun K hK => ?_)
  go_simp
  refine hK.out _ _ ?_
  clear hK K
  try simp only [Act.put, List.setIfInBounds_toArray, List.set_cons_zero, List.set_cons_succ]
  refine wpAnyT_done (by kernel_rfl) ?_ _
  go_end0
  refine ⟨⟨_, rfl⟩, ?_⟩
  rw [H.out.2]
  refine Sep.drew ?_
  exact put33 H.out.1 i j _ _ _ _ _ _

set_option maxRecDepth 100000 in
set_option maxHeartbeats 4000000 in
theorem swap_eq (ps : List P3) (A : Option Addr) (c i : Nat) (hi : i < ps.length) (hl : ps.length ≤ 1048576) (w : World) (h : (rP ps.length A c ps).here w) :
    Calls Try.prog 192 #[.slice A ps.length c, .int .i64 i, .int .i64 i] w fun r w' => (∃ v, r = .returned v) ∧ Sep (fps [rP ps.length A c ps]) w w' [rP ps.length A c (swapL ps i i)] := by
  obtain ⟨g, rfl, hgl, hfz⟩ := rP_form h (by omega)
  obtain ⟨b, off, e, hb, z0, z1, z2⟩ := (Row.of_own h).ps_at hi
  injection e with e
  injection e with e1 e2
  subst e1 e2
  simp only [Nat.zero_add] at z0 z1 z2
  have hs : swapL ps i i = (ps.set i ⟨ps[i].l, ps[i].t, ps[i].i⟩).set i ⟨ps[i].l, ps[i].t, ps[i].i⟩ := by rw [swapL, getD3 hi]
  have H := hide (⟨h, hs⟩ : _ ∧ _)
  clear h hs hb
  have hi1 : (i : Int) < (ps.length : Int) := by omega
  have hi0 : (0 : Int) ≤ (i : Int) := by omega
  have f0 : w.frozen? ⟨g, i * 3, none⟩ = false := hfz _
  have f1 : w.frozen? ⟨g, i * 3 + 1, none⟩ = false := hfz _
  have f2 : w.frozen? ⟨g, i * 3 + 2, none⟩ = false := hfz _
  clear hfz
  generalize ps[i].l = l1 at *
  generalize ps[i].t = t1 at *
  generalize ps[i].i = i1 at *
  go_enter Try.func192, Try.ntmps192
  go_wp2_with fail
  refine wp_region_T (S := (fun w' => w'.cell? ⟨g, i * 3, none⟩ = some (.int .i64 l1) ∧ w'.cell? ⟨g, i * 3 + 1, none⟩ = some (.int .i64 t1) ∧ w'.cell? ⟨g, i * 3 + 2, none⟩ = some (.int .i64 i1))) (ks := [13, 15]) (by kernel_rfl) ⟨z0, z1, z2⟩ (fun hHeld => ?_)
  refine wpAnyT_takeY (i := 0) (v := ?v0) rfl (by kernel_rfl) (by kernel_rfl) (by kernel_rfl) (by kernel_rfl) (fun _ _ _ h => h) (by rfl) ?hy0 (fun _ => hHeld) ?rest0
  case hy0 => (intro w; go_simp; all_goals with_reducible rfl)
  try simp only [Act.put, List.setIfInBounds_toArray, List.set_cons_zero, List.set_cons_succ]
  refine wpAnyT_takeY (i := 1) (v := ?v1) rfl (by kernel_rfl) (by kernel_rfl) (by kernel_rfl) (by kernel_rfl) (fun _ _ _ h => h) (by rfl) ?hy1 (fun _ => hHeld) ?rest1
  case hy1 => (intro w; go_simp; all_goals with_reducible rfl)
  try simp only [Act.put, List.setIfInBounds_toArray, List.set_cons_zero, List.set_cons_succ]
  refine wpAnyT_takeY (i := 2) (v := ?v2) rfl (by kernel_rfl) (by kernel_rfl) (by kernel_rfl) (by kernel_rfl) (fun _ _ _ h => h) (by rfl) ?hy2 (fun _ => hHeld) ?rest2
  case hy2 => (intro w; go_simp; all_goals with_reducible rfl)
  try simp only [Act.put, List.setIfInBounds_toArray, List.set_cons_zero, List.set_cons_succ]
  refine wpAnyT_takeY (i := 3) (v := ?v3) rfl (by kernel_rfl) (by kernel_rfl) (by kernel_rfl) (by kernel_rfl) (fun _ _ _ h => h) (by rfl) ?hy3 (fun _ => hHeld) ?rest3
  case hy3 => (intro w; go_simp; all_goals with_reducible rfl)
  try simp only [Act.put, List.setIfInBounds_toArray, List.set_cons_zero, List.set_cons_succ]
  refine wpAnyT_takeY (i := 4) (v := ?v4) rfl (by kernel_rfl) (by kernel_rfl) (by kernel_rfl) (by kernel_rfl) (fun _ _ _ h => h) (by rfl) ?hy4 (fun _ => hHeld) ?rest4
  case hy4 => (intro w; go_simp; all_goals with_reducible rfl)
  try simp only [Act.put, List.setIfInBounds_toArray, List.set_cons_zero, List.set_cons_succ]
  refine wpAnyT_takeY (i := 5) (v := ?v5) rfl (by kernel_rfl) (by kernel_rfl) (by kernel_rfl) (by kernel_rfl) (fun _ _ _ h => h) (by rfl) ?hy5 (fun _ => hHeld) ?rest5
  case hy5 => (intro w; go_simp; all_goals with_reducible rfl)
  try simp only [Act.put, List.setIfInBounds_toArray, List.set_cons_zero, List.set_cons_succ]
  refine wpAnyT_takeY (i := 6) (v := ?v6) rfl (by kernel_rfl) (by kernel_rfl) (by kernel_rfl) (by kernel_rfl) (fun _ _ _ h => h) (by rfl) ?hy6 (fun _ => hHeld) ?rest6
  case hy6 => (intro w; go_simp; all_goals with_reducible rfl)
  try simp only [Act.put, List.setIfInBounds_toArray, List.set_cons_zero, List.set_cons_succ]
  refine wpAnyT_takeL (i := 7) (v := ?v7) rfl (by kernel_rfl) (by kernel_rfl) (by kernel_rfl) (by kernel_rfl) (by kernel_rfl) (fun _ _ _ h => h) (by rfl) ?hy7 hHeld ?rest7
  case hy7 => (intro w hSw; (try dsimp only at hSw); go_split_ands; go_simp; all_goals with_reducible rfl)
  try simp only [Act.put, List.setIfInBounds_toArray, List.set_cons_zero, List.set_cons_succ]
  refine wpAnyT_takeY (i := 8) (v := ?v8) rfl (by kernel_rfl) (by kernel_rfl) (by kernel_rfl) (by kernel_rfl) (fun _ _ _ h => h) (by rfl) ?hy8 (fun _ => hHeld) ?rest8
  case hy8 => (intro w; go_simp; all_goals with_reducible rfl)
  try simp only [Act.put, List.setIfInBounds_toArray, List.set_cons_zero, List.set_cons_succ]
  refine wpAnyT_takeY (i := 9) (v := ?v9) rfl (by kernel_rfl) (by kernel_rfl) (by kernel_rfl) (by kernel_rfl) (fun _ _ _ h => h) (by rfl) ?hy9 (fun _ => hHeld) ?rest9
  case hy9 => (intro w; go_simp; all_goals with_reducible rfl)
  try simp only [Act.put, List.setIfInBounds_toArray, List.set_cons_zero, List.set_cons_succ]
  refine wpAnyT_takeY (i := 10) (v := ?v10) rfl (by kernel_rfl) (by kernel_rfl) (by kernel_rfl) (by kernel_rfl) (fun _ _ _ h => h) (by rfl) ?hy10 (fun _ => hHeld) ?rest10
  case hy10 => (intro w; go_simp; all_goals with_reducible rfl)
  try simp only [Act.put, List.setIfInBounds_toArray, List.set_cons_zero, List.set_cons_succ]
  refine wpAnyT_takeL (i := 11) (v := ?v11) rfl (by kernel_rfl) (by kernel_rfl) (by kernel_rfl) (by kernel_rfl) (by kernel_rfl) (fun _ _ _ h => h) (by rfl) ?hy11 hHeld ?rest11
  case hy11 => (intro w hSw; (try dsimp only at hSw); go_split_ands; go_simp; all_goals with_reducible rfl)
  try simp only [Act.put, List.setIfInBounds_toArray, List.set_cons_zero, List.set_cons_succ]
  refine wpAnyT_takeY (i := 12) (v := ?v12) rfl (by kernel_rfl) (by kernel_rfl) (by kernel_rfl) (by kernel_rfl) (fun _ _ _ h => h) (by rfl) ?hy12 (fun _ => hHeld) ?rest12
  case hy12 => (intro w; go_simp; all_goals with_reducible rfl)
  try simp only [Act.put, List.setIfInBounds_toArray, List.set_cons_zero, List.set_cons_succ]
  refine wpAnyT_oneL (i := 13) rfl (by kernel_rfl) (by kernel_rfl) (fun K hK => ?_)
  go_simp
  refine hK.out _ _ ?_
  clear hK K
  try simp only [Act.put, List.setIfInBounds_toArray, List.set_cons_zero, List.set_cons_succ]
  refine wpAnyT_takeZ (i := 14) (v := ?v14) rfl (by kernel_rfl) (by kernel_rfl) (by kernel_rfl) (by kernel_rfl) (fun _ _ _ h => h) (by rfl) ?hy14 (by kernel_rfl) ?rest14
  case hy14 => (intro w; go_simp; all_goals with_reducible rfl)
  try simp only [Act.put, List.setIfInBounds_toArray, List.set_cons_zero, List.set_cons_succ]
  refine wpAnyT_oneL (i := 15) rfl (by kernel_rfl) (by kernel_rfl) (fun K hK => ?_)
  go_simp
  refine hK.out _ _ ?_
  clear hK K
  try simp only [Act.put, List.setIfInBounds_toArray, List.set_cons_zero, List.set_cons_succ]
  refine wpAnyT_done (by kernel_rfl) ?_ _
  go_end0
  refine ⟨⟨_, rfl⟩, ?_⟩
  rw [H.out.2]
  refine Sep.drew ?_
  exact put33 H.out.1 i i _ _ _ _ _ _

theorem swap_any (ps : List P3) (A : Option Addr) (c i j : Nat) (hi : i < ps.length) (hj : j < ps.length) (hl : ps.length ≤ 1048576) (w : World) (h : (rP ps.length A c ps).here w) :
    Calls Try.prog 192 #[.slice A ps.length c, .int .i64 i, .int .i64 j] w fun r w' => (∃ v, r = .returned v) ∧ Sep (fps [rP ps.length A c ps]) w w' [rP ps.length A c (swapL ps i j)] := by
  by_cases e : i = j
  · subst e; exact swap_eq ps A c i hi hl w h
  · exact swap_ne ps A c i j hi hj e hl w h
end Go.Proofs.Ytgncjcnobojgbaa
