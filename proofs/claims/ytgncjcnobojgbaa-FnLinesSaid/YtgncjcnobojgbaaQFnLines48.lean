/- The program's line: Len, Less. The list of places no longer than a million. -/
import Derived.Test.YtgncjcnobojgbaaQFnLines47
import Derived.Test.YtgncjcnobojgbaaQFnLines07
import Derived.Test.YtgncjcnobojgbaaQFnLines04

namespace Go.Proofs.Ytgncjcnobojgbaa
open Go.RowKit
set_option linter.unusedVariables false

set_option maxRecDepth 100000 in
set_option maxHeartbeats 1600000 in
theorem drawWait_any (B : Nat) (w : World) (A : Option Addr) (len cap : Nat) (hB : B ≤ w.heap.size) (hl : len ≤ 4096) (hby : Bytes w B A len) :
    Calls Try.prog 26 #[.slice A len cap] w fun r w' => ∃ (ts : List T7) (ks : List Int) (fs : List F2) (tn : Int) (st : Bool) (B0 B1 B2 : Option Addr) (e0 e1 e2 : Nat) (wt on : Int), r = .returned (.tuple #[.agg #[.slice B0 ts.length e0, .slice B1 ks.length e1, .slice B2 fs.length e2, .int .i64 tn, .bool st], .int .i64 wt, .int .i64 on]) ∧ ts.length ≤ 34 ∧ ks.length ≤ 31 ∧ fs.length ≤ 31 ∧ Sep [] w w' [rT ts.length B0 e0 ts, rK ks.length B1 e1 ks, rF fs.length B2 e2 fs] := by
  go_enter Try.func26, Try.ntmps26
  go_wp2_with fail
  have N := (Sep.start w).galloc 34 #[.slice none 0 0, .slice none 0 0, .slice none 0 0, .int .i64 0, .bool false]
  obtain ⟨W1, eW, M⟩ := N
  rw [eW]
  clear eW
  obtain ⟨tR, qR0, fR0, qR1, fR1, qR2, fR2, qR3, fR3, qR4, fR4⟩ := M.f5 0 rfl
  go_wp2_with fail
  clear tR qR0 fR0 qR1 fR1 qR2 fR2 qR3 fR3 qR4 fR4
  have hs1 := M.size
  have hby1 : Bytes W1 B A len := hby.keep fun b hb => M.below.block b (by omega)
  go_call (l1New_any B _ A len cap (by omega) hl hby1) as r W2 ⟨rfl, g1, d⟩
  obtain ⟨cs0, hc, N⟩ := cur_start d
  have N2 := sepCur g1 (Nat.le_refl _) N
  replace M := Sep.new M N2
  clear N N2 g1 hby1 hs1
  simp only [List.cons_append, List.nil_append] at M
  obtain ⟨g, hg⟩ : ∃ g, g = W1.heap.size := ⟨_, rfl⟩
  rw [← hg] at M d ⊢
  clear hg
  obtain ⟨tR, qR0, fR0, qR1, fR1, qR2, fR2, qR3, fR3, qR4, fR4⟩ := M.f5 1 rfl
  go_wp2_with fail
  have hs2 := M.size
  have hby2 : Bytes W2 B A len := hby.keep fun b hb => M.below.block b (by omega)
  go_call (drawReady_any B _ A len cap (by omega) hl hby2) as r W3 ⟨ts, ks, fs, tn, st, B0, B1, B2, e0, e1, e2, rfl, h0, h1, h2, g2⟩
  clear tR qR0 fR0 qR1 fR1 qR2 fR2 qR3 fR3 qR4 fR4
  replace M := Sep.new M g2
  clear g2 hby2 hs2 d
  simp only [List.cons_append, List.nil_append] at M
  obtain ⟨tR, qR0, fR0, qR1, fR1, qR2, fR2, qR3, fR3, qR4, fR4⟩ := M.f5 4 rfl
  go_wp2_with fail
  clear tR qR0 fR0 qR1 fR1 qR2 fR2 qR3 fR3 qR4 fR4
  have N := M.galloc 34 #[.slice B0 ts.length e0, .slice B1 ks.length e1, .slice B2 fs.length e2, .int .i64 tn, .bool st]
  clear M
  obtain ⟨W4, eW, M⟩ := N
  rw [eW]
  clear eW
  obtain ⟨tY, qY0, fY0, qY1, fY1, qY2, fY2, qY3, fY3, qY4, fY4⟩ := M.f5 0 rfl
  go_wp2_with fail
  clear tY qY0 fY0 qY1 fY1 qY2 fY2 qY3 fY3 qY4 fY4
  refine wp_region_T (S := (fun w' => w'.cell? ⟨W3.heap.size, 0, none⟩ = some (.slice B0 ts.length e0) ∧ w'.cell? ⟨W3.heap.size, 1, none⟩ = some (.slice B1 ks.length e1) ∧ w'.cell? ⟨W3.heap.size, 2, none⟩ = some (.slice B2 fs.length e2) ∧ w'.cell? ⟨W3.heap.size, 3, none⟩ = some (.int .i64 tn) ∧ w'.cell? ⟨W3.heap.size, 4, none⟩ = some (.bool st))) (ks := [5]) (by kernel_rfl) ⟨M.cell 0 0 rfl, M.cell 0 1 rfl, M.cell 0 2 rfl, M.cell 0 3 rfl, M.cell 0 4 rfl⟩ (fun hHeld => ?_)
  replace M := M.drew
  generalize W4.drew = W5 at M hHeld ⊢
  refine wpAnyT_takeL (i := 0) (v := ?v0u1) rfl (by kernel_rfl) (by kernel_rfl) (by kernel_rfl) (by kernel_rfl) (by kernel_rfl) (fun _ _ _ h => h) (by rfl) ?hy0u1 hHeld ?rest0u1
  case hy0u1 => (intro w hSw; (try dsimp only at hSw); go_split_ands; go_simp; all_goals with_reducible rfl)
  try simp only [Act.put, List.setIfInBounds_toArray, List.set_cons_zero, List.set_cons_succ]
  refine wpAnyT_takeY (i := 1) (v := ?v1u2) rfl (by kernel_rfl) (by kernel_rfl) (by kernel_rfl) (by kernel_rfl) (fun _ _ _ h => h) (by rfl) ?hy1u2 (fun _ => hHeld) ?rest1u2
  case hy1u2 => (intro w; go_simp; all_goals with_reducible rfl)
  try simp only [Act.put, List.setIfInBounds_toArray, List.set_cons_zero, List.set_cons_succ]
  refine wpAnyT_takeY (i := 3) (v := ?v3u3) rfl (by kernel_rfl) (by kernel_rfl) (by kernel_rfl) (by kernel_rfl) (fun _ _ _ h => h) (by rfl) ?hy3u3 (fun _ => hHeld) ?rest3u3
  case hy3u3 => (intro w; go_simp; all_goals with_reducible rfl)
  try simp only [Act.put, List.setIfInBounds_toArray, List.set_cons_zero, List.set_cons_succ]
  refine wpAnyT_callL (i := 2) rfl (by kernel_rfl) (fun K hK => ?_)
  go_simp
  refine Calls.mono (by with_reducible exact (l1From_any B _ g A len cap 0 3 (by omega) (by omega) (by omega) (M.curIn 4 rfl hc hB hl hby))) ?_
  rintro r W6 ⟨wt, rfl, wt1, wt2, gg, d⟩
  have MM := M.curGo 4 rfl gg d
  clear M hc gg d
  obtain ⟨cs1, hc, M⟩ := MM
  simp only [List.set_cons_zero, List.set_cons_succ] at M
  clear hHeld
  go_wp2_with fail
  refine hK.out _ _ ?_ (fun hHeld => ?_)
  · exact ⟨M.cell 0 0 rfl, M.cell 0 1 rfl, M.cell 0 2 rfl, M.cell 0 3 rfl, M.cell 0 4 rfl⟩
  clear hK K
  try simp only [Act.put, List.setIfInBounds_toArray, List.set_cons_zero, List.set_cons_succ]
  refine wpAnyT_callL (i := 4) rfl (by kernel_rfl) (fun K hK => ?_)
  go_simp
  refine Calls.mono (by with_reducible exact (l1Below_pos B _ g A len cap 3 (by omega) (by omega) (M.curIn 4 rfl hc hB hl hby))) ?_
  rintro r W7 ⟨on, rfl, on1, on2, gg, d⟩
  have MM := M.curGo 4 rfl gg d
  clear M hc gg d
  obtain ⟨cs2, hc, M⟩ := MM
  simp only [List.set_cons_zero, List.set_cons_succ] at M
  clear hHeld
  go_wp2_with fail
  refine hK.out _ _ ?_ (fun hHeld => ?_)
  · exact ⟨M.cell 0 0 rfl, M.cell 0 1 rfl, M.cell 0 2 rfl, M.cell 0 3 rfl, M.cell 0 4 rfl⟩
  clear hK K
  try simp only [Act.put, List.setIfInBounds_toArray, List.set_cons_zero, List.set_cons_succ]
  obtain ⟨tR, qR0, fR0, qR1, fR1, qR2, fR2, qR3, fR3, qR4, fR4⟩ := M.f5 5 rfl
  refine wpAnyT_oneL (i := 5) rfl (by kernel_rfl) (by kernel_rfl) (fun K hK => ?_)
  go_simp
  refine hK.out _ _ ?_
  clear hK K
  try simp only [Act.put, List.setIfInBounds_toArray, List.set_cons_zero, List.set_cons_succ]
  clear tR qR0 fR0 qR1 fR1 qR2 fR2 qR3 fR3 qR4 fR4
  have N := M.gset5 5 rfl (.slice B0 ts.length e0) (.slice B1 ks.length e1) (.slice B2 fs.length e2) (.int .i64 tn) (.bool st)
  clear M
  obtain ⟨W8, eW, M⟩ := N
  rw [eW]
  clear eW
  simp only [List.set_cons_zero, List.set_cons_succ] at M
  refine wpAnyT_takeZ (i := 6) (v := ?v6u4) rfl (by kernel_rfl) (by kernel_rfl) (by kernel_rfl) (by kernel_rfl) (fun _ _ _ h => h) (by rfl) ?hy6u4 (by kernel_rfl) ?rest6u4
  case hy6u4 => (intro w; go_simp; all_goals with_reducible rfl)
  try simp only [Act.put, List.setIfInBounds_toArray, List.set_cons_zero, List.set_cons_succ]
  refine wpAnyT_takeZ (i := 7) (v := ?v7u5) rfl (by kernel_rfl) (by kernel_rfl) (by kernel_rfl) (by kernel_rfl) (fun _ _ _ h => h) (by rfl) ?hy7u5 (by kernel_rfl) ?rest7u5
  case hy7u5 => (intro w; go_simp; all_goals with_reducible rfl)
  try simp only [Act.put, List.setIfInBounds_toArray, List.set_cons_zero, List.set_cons_succ]
  refine wpAnyT_done (by kernel_rfl) ?_ _
  go_wp2_with fail
  obtain ⟨tR, qR0, qR1, qR2, qR3, qR4⟩ := M.q5 5 rfl
  exact bodyPost_ret (v := .tuple #[.agg #[.slice B0 ts.length e0, .slice B1 ks.length e1, .slice B2 fs.length e2, .int .i64 tn, .bool st], .int .i64 wt, .int .i64 on]) (by simp [results, Try.results26, go_sem, qR0, qR1, qR2, qR3, qR4]) rfl ⟨ts, ks, fs, tn, st, B0, B1, B2, e0, e1, e2, wt, on, rfl, h0, h1, h2, (M.drop 1).take 3⟩
end Go.Proofs.Ytgncjcnobojgbaa

namespace Go.Proofs.Ytgncjcnobojgbaa
open Go.RowKit
set_option linter.unusedVariables false

/-- A place in a line: level, turn, number. -/
structure P3 where (l t i : Int)
instance : Inhabited P3 := ⟨⟨0, 0, 0⟩⟩
def P3.cs (x : P3) : List Value := [.int .i64 x.l, .int .i64 x.t, .int .i64 x.i]
def P3.val (x : P3) : Value := .agg #[.int .i64 x.l, .int .i64 x.t, .int .i64 x.i]
def pcells (ps : List P3) : List Value := ps.flatMap P3.cs
def aheadP (x y : P3) : Bool := if x.l = y.l then (if x.t = y.t then decide (x.i < y.i) else decide (x.t < y.t)) else decide (y.l < x.l)
theorem pcells_length (ps : List P3) : (pcells ps).length = ps.length * 3 := by
  induction ps with
  | nil => rfl
  | cons x r ih => simp only [pcells, List.flatMap_cons, List.length_append, List.length_cons] at ih ⊢; rw [ih]; simp [P3.cs]; omega
theorem pcells_get (ps : List P3) (k : Nat) (hk : k < ps.length) (j : Nat) (hj : j < 3) : (pcells ps)[k * 3 + j]? = ps[k].cs[j]? := by
  induction ps generalizing k with
  | nil => simp at hk
  | cons x r ih =>
    have e : pcells (x :: r) = x.cs ++ pcells r := rfl
    rw [e]
    cases k with
    | zero => rw [List.getElem?_append_left (by simp [P3.cs]; omega)]; simp
    | succ k =>
      have hl : x.cs.length = 3 := rfl
      rw [List.getElem?_append_right (by rw [hl]; omega), hl, show (k + 1) * 3 + j - 3 = k * 3 + j from by omega, ih k (by simpa using hk)]
      simp
theorem pcells_at (ps : List P3) (j : Nat) : (pcells ps)[j]? = (ps[j / 3]?).bind (fun t => t.cs[j % 3]?) := by
  by_cases h : j / 3 < ps.length
  · have := pcells_get ps (j / 3) h (j % 3) (by omega)
    rw [show j / 3 * 3 + j % 3 = j from by omega] at this
    rw [this]; simp [h]
  · rw [List.getElem?_eq_none (by rw [pcells_length]; omega), List.getElem?_eq_none (by omega)]; rfl
theorem pcells_put (ps : List P3) (k : Nat) (x : P3) : (((pcells ps).set (k * 3) (.int .i64 x.l)).set (k * 3 + 1) (.int .i64 x.t)).set (k * 3 + 2) (.int .i64 x.i) = pcells (ps.set k x) := by
  apply List.ext_getElem?
  intro j
  rw [pcells_at (ps.set k x)]
  simp only [List.getElem?_set, List.length_set, pcells_length]
  by_cases hk : k = j / 3
  · subst hk
    by_cases hl : j / 3 < ps.length
    · have h3 : j % 3 = 0 ∨ j % 3 = 1 ∨ j % 3 = 2 := by omega
      have hj : j < ps.length * 3 := by omega
      rcases h3 with h | h | h
      all_goals rw [h]
      all_goals simp only [hl, if_true, Option.bind_some, P3.cs]
      · rw [if_neg (by omega), if_neg (by omega), if_pos (by omega), if_pos (by omega)]; rfl
      · rw [if_neg (by omega), if_pos (by omega), if_pos (by omega)]; rfl
      · rw [if_pos (by omega), if_pos (by omega)]; rfl
    · simp only [hl, if_false, if_true, Option.bind_none]
      repeat (split; · first | omega | (split <;> first | omega | rfl))
      rw [List.getElem?_eq_none (by rw [pcells_length]; omega)]
  · rw [if_neg hk, if_neg (by omega), if_neg (by omega), if_neg (by omega), pcells_at]
theorem pcells_take (xs : List P3) (k : Nat) : (pcells xs).take (k * 3) = pcells (xs.take k) := by
  apply List.ext_getElem?
  intro j
  rw [List.getElem?_take, pcells_at, pcells_at, List.getElem?_take]
  by_cases h : j < k * 3
  · rw [if_pos h, if_pos (show j / 3 < k by omega)]
  · rw [if_neg h, if_neg (show ¬ j / 3 < k by omega)]; rfl
theorem infoPlace : (Try.prog.info? 135).map (fun i => (i.zero, i.size, i.bytes)) = some (some (.agg #[.int .i64 0, .int .i64 0, .int .i64 0]), 3, 24) := by kernel_rfl
set_option maxHeartbeats 4000000 in
theorem ahead_any (l t i l2 t2 i2 : Int) (w : World) :
    Calls Try.prog 193 #[.agg #[.int .i64 l, .int .i64 t, .int .i64 i], .agg #[.int .i64 l2, .int .i64 t2, .int .i64 i2]] w fun r w' => r = .returned (.bool (aheadP ⟨l, t, i⟩ ⟨l2, t2, i2⟩)) ∧ Below w.heap.size w w' := by
  by_cases k1 : l = l2
  · by_cases k2 : t = t2
    · have e : aheadP ⟨l, t, i⟩ ⟨l2, t2, i2⟩ = decide (i < i2) := by simp [aheadP, k1, k2]
      rw [e]
      subst k1 k2
      go_enter Try.func193, Try.ntmps193
      go_wp2
      go_ret
      exact ⟨rfl, by go_grown⟩
    · have e : aheadP ⟨l, t, i⟩ ⟨l2, t2, i2⟩ = decide (t < t2) := by simp [aheadP, k1, k2]
      rw [e]
      subst k1
      go_enter Try.func193, Try.ntmps193
      go_wp2
      go_ret
      exact ⟨rfl, by go_grown⟩
  · have e : aheadP ⟨l, t, i⟩ ⟨l2, t2, i2⟩ = decide (l2 < l) := by simp [aheadP, k1]
    rw [e]
    go_enter Try.func193, Try.ntmps193
    go_wp2
    go_ret
    exact ⟨rfl, by go_grown⟩
end Go.Proofs.Ytgncjcnobojgbaa

namespace Go.Proofs.Ytgncjcnobojgbaa
open Go.RowKit
set_option linter.unusedVariables false

/-- Place k behind a slice that is not empty: where it lies, and its three cells. -/
theorem Row.ps_at {w : World} {A : Option Addr} {ps : List P3} (h : Row w A (pcells ps)) {k : Nat} (hk : k < ps.length) : ∃ (b off : Nat), A = some ⟨b, off, none⟩ ∧ b < w.heap.size ∧
    w.cell? ⟨b, off + k * 3, none⟩ = some (.int .i64 ps[k].l) ∧ w.cell? ⟨b, off + k * 3 + 1, none⟩ = some (.int .i64 ps[k].t) ∧ w.cell? ⟨b, off + k * 3 + 2, none⟩ = some (.int .i64 ps[k].i) := by
  obtain ⟨b, off, e, hc⟩ := h (by rw [pcells_length]; omega)
  have h0 : w.cell? ⟨b, off + k * 3, none⟩ = some (.int .i64 ps[k].l) := hc (k * 3 + 0) _ ((pcells_get ps k hk 0 (by omega)).trans rfl)
  exact ⟨b, off, e, World.block_lt_of_cell? w _ h0, h0, hc (k * 3 + 1) _ ((pcells_get ps k hk 1 (by omega)).trans rfl), hc (k * 3 + 2) _ ((pcells_get ps k hk 2 (by omega)).trans rfl)⟩

set_option maxHeartbeats 1000000 in
theorem len_any (A : Option Addr) (n c : Nat) (w : World) :
    Calls Try.prog 117 #[.slice A n c] w fun r w' => r = .returned (.int .i64 n) ∧ w = w' := by
  go_enter Try.func117, Try.ntmps117
  go_wp2
  go_ret
  exact ⟨rfl, rfl⟩

set_option maxRecDepth 100000 in
set_option maxHeartbeats 4000000 in
theorem less_any (ps : List P3) (A : Option Addr) (c i j : Nat) (hi : i < ps.length) (hj : j < ps.length) (hl : ps.length ≤ 1048576) (w : World) (h : Row w A (pcells ps)) :
    Calls Try.prog 189 #[.slice A ps.length c, .int .i64 i, .int .i64 j] w fun r w' => r = .returned (.bool (aheadP ps[i] ps[j])) ∧ Below w.heap.size w w' := by
  obtain ⟨b, off, rfl, hb, z0, z1, z2⟩ := h.ps_at hi
  obtain ⟨b', off', e, hb', y0, y1, y2⟩ := h.ps_at hj
  injection e with e
  injection e with e1 e2
  subst e1 e2
  have hA : aheadP ps[i] ps[j] = aheadP ⟨ps[i].l, ps[i].t, ps[i].i⟩ ⟨ps[j].l, ps[j].t, ps[j].i⟩ := rfl
  rw [hA]
  clear hA h hb'
  have hi1 : (i : Int) < (ps.length : Int) := by omega
  have hj1 : (j : Int) < (ps.length : Int) := by omega
  have hi0 : (0 : Int) ≤ (i : Int) := by omega
  have hj0 : (0 : Int) ≤ (j : Int) := by omega
  generalize ps[i].l = l1 at *
  generalize ps[i].t = t1 at *
  generalize ps[i].i = i1 at *
  generalize ps[j].l = l2 at *
  generalize ps[j].t = t2 at *
  generalize ps[j].i = i2 at *
  go_enter Try.func189, Try.ntmps189
  go_wp2_with fail
  have c0 := KeptW.cell (W0 := w) z0
  have c1 := KeptW.cell (W0 := w) z1
  have c2 := KeptW.cell (W0 := w) z2
  have c3 := KeptW.cell (W0 := w) y0
  have c4 := KeptW.cell (W0 := w) y1
  have c5 := KeptW.cell (W0 := w) y2
  refine region_kept (W0 := w) (x := KeptW.mk' (Below.refl w.heap.size w)) (by kernel_rfl) (by kernel_rfl) ?_
  repeat (go_big_quiet_step (first | (go_at_call 193; with_reducible exact (kept_call (ahead_any l1 t1 i1 l2 t2 i2 _)))))
  refine wpQuiet_nil ?_
  rintro _ ⟨x, rfl⟩
  go_wp2
  go_ret
  exact ⟨rfl, x.below⟩
end Go.Proofs.Ytgncjcnobojgbaa
