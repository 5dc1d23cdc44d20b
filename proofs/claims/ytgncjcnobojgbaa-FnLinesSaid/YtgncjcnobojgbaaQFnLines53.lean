/- The laws' likeInts, at lists that are the same. The list shorter than a million. -/
import Derived.Test.YtgncjcnobojgbaaQFnLines52
import Derived.Test.YtgncjcnobojgbaaQFnLines15
import Derived.Test.YtgncjcnobojgbaaQFnLines03

namespace Go.Proofs.Ytgncjcnobojgbaa
open Go.RowKit
set_option linter.unusedVariables false

set_option maxRecDepth 100000 in
set_option maxHeartbeats 1000000 in
theorem first_any (ps : List P3) (A : Option Addr) (c : Nat) (hl : ps.length ≤ 1048576) (w : World) (h : Row w A (pcells ps)) :
    Calls Try.prog 68 #[.slice A ps.length c] w fun r w' => r = .returned (.int .i64 ((ps.map P3.i).headD (-1))) ∧ w' = w := by
  cases ps with
  | nil =>
    clear h
    go_enter Try.func68, Try.ntmps68
    go_wp2_with fail
    go_ret
    exact ⟨rfl, rfl⟩
  | cons x rs =>
    obtain ⟨b, off, rfl, hb, z0, z1, z2⟩ := h.ps_at (k := 0) (by simp)
    simp only [Nat.zero_mul, Nat.add_zero, List.getElem_cons_zero] at z0 z1 z2
    obtain ⟨n, hn⟩ : ∃ n, n = (x :: rs).length := ⟨_, rfl⟩
    have hn0 : (0 : Int) < (n : Int) := by rw [hn]; simp
    have hn1 : ¬ (n : Int) = 0 := by omega
    rw [← hn]
    simp only [List.map_cons, List.headD_cons]
    clear h hn hl
    obtain ⟨l, t, i⟩ := x
    simp only at z0 z1 z2 ⊢
    go_enter Try.func68, Try.ntmps68
    go_wp2_with fail
    go_ret
    exact ⟨rfl, rfl⟩

set_option maxRecDepth 100000 in
set_option maxHeartbeats 1000000 in
theorem waitsOn_any (s l o wt on v t wt2 on2 : Int) (w : World) :
    Calls Try.prog 119 #[.agg #[.int .i64 s, .int .i64 l, .int .i64 o, .int .i64 wt, .int .i64 on, .int .i64 v, .int .i64 t], .int .i64 wt2, .int .i64 on2] w fun r w' => r = .returned (.bool (s == 3 && (wt == wt2 && on == on2))) ∧ Below w.heap.size w w' := by
  by_cases h1 : s = 3
  · subst h1
    by_cases h2 : wt = wt2
    · subst h2
      rw [show ((3 : Int) == 3 && (wt == wt && on == on2)) = (on == on2) by simp]
      go_enter Try.func119, Try.ntmps119
      go_wp2_with fail
      go_ret
      exact ⟨rfl, by go_grown⟩
    · rw [show ((3 : Int) == 3 && (wt == wt2 && on == on2)) = false by simp [h2]]
      go_enter Try.func119, Try.ntmps119
      go_wp2_with fail
      go_ret
      exact ⟨rfl, by go_grown⟩
  · rw [show (s == 3 && (wt == wt2 && on == on2)) = false by simp [h1]]
    go_enter Try.func119, Try.ntmps119
    go_wp2_with fail
    go_ret
    exact ⟨rfl, by go_grown⟩

/-- A new line: nobody stands in it. -/
theorem lineL_new (w : World) : Sep [] w ((w.alloc (.cells #[] 135)).alloc (.cells #[.slice (some ⟨w.heap.size, 0, none⟩) 0 0] 132)) (lineL (w.heap.size + 1) (some ⟨w.heap.size, 0, none⟩) 0 []) := by
  have M := Sep.enter2 (o1 := #[]) (o2 := #[.slice (some ⟨w.heap.size, 0, none⟩) 0 0]) (t1 := 135) (t2 := 132) w
  have hB := M.blk 1 rfl
  have hO : World.ownsRow ((w.alloc (.cells #[] 135)).alloc (.cells #[.slice (some ⟨w.heap.size, 0, none⟩) 0 0] 132)) 0 135 3 (.slice (some ⟨w.heap.size, 0, none⟩) 0 0) 0 (pcells []) := ⟨by simp [pcells], .inr ⟨w.heap.size, 0, #[], rfl, Nat.zero_le _, hB, Nat.le_refl _, Nat.zero_le _, by simp, by simp [pcells]⟩⟩
  have k : Sep (fps [.blk w.heap.size 135 #[]]) _ _ [rP 0 (some ⟨w.heap.size, 0, none⟩) 0 []] := sepOneB (fun _ h => h) (World.grownBy.refl _ _) hO
  exact (Sep.comp (ps := [.blk w.heap.size 135 #[]]) (rs := [.blk (w.heap.size + 1) 132 #[.slice (some ⟨w.heap.size, 0, none⟩) 0 0]]) (M.front 1 rfl) k).front 1 rfl
def readyPl (ts : List T7) (j : Int) : P3 := ⟨(taskAt ts j).l, (taskAt ts j).t, j⟩
def waitPl (ts : List T7) (j : Int) : P3 := ⟨0, (taskAt ts j).t, j⟩
theorem ready_line {ts : List T7} {ps : List P3} (hh : HeapL ps) (hp : ps.Perm ((pick (readyQ ts) ts.length).map fun k => readyPl ts (Int.ofNat k))) : (ps.map P3.i).headD (-1) = (readyM ts).headD (-1) :=
  line_first (readyQ ts) (readyP ts) (readyPl ts) (fun _ => rfl) (fun k j _ => rfl) ts.length ps hh hp
theorem ready_eq {ts : List T7} {out : List P3} (hs : out.Pairwise leP) (hp : out.Perm ((pick (readyQ ts) ts.length).map fun k => readyPl ts (Int.ofNat k))) : out.map P3.i = readyM ts :=
  line_eq (readyQ ts) (readyP ts) (readyPl ts) (fun _ => rfl) (fun k j _ => rfl) ts.length out hs hp
theorem wait_eq {ts : List T7} {wt on : Int} {out : List P3} (hs : out.Pairwise leP) (hp : out.Perm ((pick (waitQ ts wt on) ts.length).map fun k => waitPl ts (Int.ofNat k))) : out.map P3.i = waitersM ts wt on := by
  refine line_eq (waitQ ts wt on) (waitP ts) (waitPl ts) (fun _ => rfl) (fun k j hj => ?_) ts.length out hs hp
  have hk : taskAt ts (k : Int) = ts.getD k default := by simp only [taskAt, Int.toNat_natCast]
  simp only [waitP, waitPl, aheadP, if_true, hk]
  split
  · rename_i h
    rw [h]
    simp; omega
  · rfl

set_option maxRecDepth 100000 in
set_option maxHeartbeats 2000000 in
theorem readyLine_p (ts : List T7) (xb : Nat) (A0 : Option Addr) (c0 : Nat) (w : World) (hlen : ts.length ≤ 1048576) (hx : w.cell? ⟨xb, 0, none⟩ = some (.slice A0 ts.length c0)) (h : Row w A0 (tcells ts)) :
    Calls Try.prog 64 #[.pointer (some ⟨xb, 0, none⟩)] w fun r w' => ∃ (lb : Nat) (A : Option Addr) (c : Nat) (ps : List P3), r = .returned (.pointer (some ⟨lb, 0, none⟩)) ∧ ps.length ≤ ts.length ∧ HeapL ps ∧ ps.Perm ((pick (readyQ ts) ts.length).map fun k => readyPl ts (Int.ofNat k)) ∧ Sep [] w w' (lineL lb A c ps) := by
  have hxb : xb < w.heap.size := World.block_lt_of_cell? w _ hx
  have H := hide (⟨h, hx⟩ : _ ∧ _)
  clear h
  go_enter Try.func64, Try.ntmps64
  go_wp2_with fail
  have M := lineL_new w
  generalize (w.alloc (.cells #[] 135)).alloc (.cells #[.slice (some ⟨w.heap.size, 0, none⟩) 0 0] 132) = W1 at M ⊢
  have hx1 : W1.cell? ⟨xb, 0, none⟩ = some (.slice A0 ts.length c0) := (M.below.cell (p := ⟨xb, 0, none⟩) hxb).trans hx
  clear hx
  obtain ⟨lb, hlb⟩ : ∃ lb, lb = w.heap.size + 1 := ⟨_, rfl⟩
  rw [← hlb] at M ⊢
  clear hlb
  go_wp2_with fail
  clear hx1
  go_loopw [13] (fun i wr => ∃ (m : Nat) (A : Option Addr) (c : Nat) (ps : List P3), i = .int .i64 m ∧ m ≤ ts.length ∧ Hid (ps.length ≤ m ∧ HeapL ps ∧ ps.Perm ((pick (readyQ ts) m).map fun k => readyPl ts (Int.ofNat k))) ∧ Sep [] w wr (lineL lb A c ps)) (fun i _ => (ts.length - (intOf i).toNat : Nat))
  case atStart => exact ⟨0, _, _, [], rfl, Nat.zero_le _, hide ⟨Nat.le_refl _, HeapL.nil, List.Perm.nil⟩, M⟩
  case round =>
    clear M
    obtain ⟨m, A, c, ps, rfl, hm, HP, M⟩ := hrel
    by_cases hmz : m < ts.length
    · have hmi : (m : Int) < (ts.length : Int) := by omega
      have hm0 : (0 : Int) ≤ (m : Int) := by omega
      obtain ⟨b, off, s, l, o, wt, on, v, t, hA0, _, he, hb, y0, y1, y2, y3, y4, y5, y6⟩ := (H.out.1.below M.below).ts_at hmz
      subst hA0
      have htk : ts.getD m default = ⟨s, l, o, wt, on, v, t⟩ := getD_of he
      have HT := hide htk
      clear htk he
      by_cases h1 : s = 1
      · have hQ : Hid (readyQ ts m = true) := hide (by unfold readyQ; rw [HT.out]; simp [h1])
        subst h1
        go_wp2_with fail
        replace M := (Sep.allocN M 46 #[.int .i64 1, .int .i64 l, .int .i64 o, .int .i64 wt, .int .i64 on, .int .i64 v, .int .i64 t]).tail
        generalize wr.alloc (.cells #[.int .i64 1, .int .i64 l, .int .i64 o, .int .i64 wt, .int .i64 on, .int .i64 v, .int .i64 t] 46) = W9 at M ⊢
        go_call (hpush_any ps lb A c l t m (by have := HP.out.1; omega) _ HP.out.2.1 (LineIn.of (rs := []) M)) as r W2 ⟨⟨v', rfl⟩, A', c', qs, hp', hh', M2⟩
        replace M := Sep.comp (ps := lineL lb A c ps) (rs := []) (by simpa using M) M2
        clear M2
        have HQ := hide (⟨hp', hh'⟩ : _ ∧ _)
        clear hp' hh'
        go_wp2_with fail
        go_roundw
        · refine ⟨m + 1, A', c', qs, by go_num, by omega, hide ⟨?_, HQ.out.2, ?_⟩, M⟩
          · have h1 := HQ.out.1.length_eq
            have h2 := HP.out.1
            simp at h1; omega
          · refine HQ.out.1.trans ?_
            have h3 : readyQ ts m = true := by exact hQ.out
            rw [show pick (readyQ ts) (m + 1) = pick (readyQ ts) m ++ [m] by simp [pick, h3], List.map_append]
            refine List.Perm.append HP.out.2.2 ?_
            simp only [List.map_cons, List.map_nil, readyPl, taskAt, Int.ofNat_eq_natCast, Int.toNat_natCast, HT.out]
            exact List.Perm.refl _
        · simp [intOf]; omega
      · have hQ : Hid (readyQ ts m = false) := hide (by unfold readyQ; rw [HT.out]; simp [h1])
        go_wp2_with fail
        replace M := (Sep.allocN M 46 #[.int .i64 s, .int .i64 l, .int .i64 o, .int .i64 wt, .int .i64 on, .int .i64 v, .int .i64 t]).tail
        generalize wr.alloc (.cells #[.int .i64 s, .int .i64 l, .int .i64 o, .int .i64 wt, .int .i64 on, .int .i64 v, .int .i64 t] 46) = W9 at M ⊢
        go_roundw
        · refine ⟨m + 1, A, c, ps, by go_num, by omega, hide ⟨by have := HP.out.1; omega, HP.out.2.1, ?_⟩, M⟩
          have h3 : readyQ ts m = false := by exact hQ.out
          rw [show pick (readyQ ts) (m + 1) = pick (readyQ ts) m by simp [pick, h3]]
          exact HP.out.2.2
        · simp [intOf]; omega

    · have hme : m = ts.length := by omega
      have hmi : ¬ (m : Int) < (ts.length : Int) := by omega
      subst hme
      go_wp2_with fail
      go_ret
      exact ⟨lb, rfl, A, c, ps, HP.out.1, HP.out.2.1, HP.out.2.2, M⟩

set_option maxRecDepth 100000 in
set_option maxHeartbeats 2000000 in
theorem waitersOn_p (ts : List T7) (xb : Nat) (A0 : Option Addr) (c0 : Nat) (wk on2 : Int) (w : World) (hlen : ts.length ≤ 1048576) (hx : w.cell? ⟨xb, 0, none⟩ = some (.slice A0 ts.length c0)) (h : Row w A0 (tcells ts)) :
    Calls Try.prog 69 #[.pointer (some ⟨xb, 0, none⟩), .int .i64 wk, .int .i64 on2] w fun r w' => ∃ (lb : Nat) (A : Option Addr) (c : Nat) (ps : List P3), r = .returned (.pointer (some ⟨lb, 0, none⟩)) ∧ ps.length ≤ ts.length ∧ HeapL ps ∧ ps.Perm ((pick (waitQ ts wk on2) ts.length).map fun k => waitPl ts (Int.ofNat k)) ∧ Sep [] w w' (lineL lb A c ps) := by
  have hxb : xb < w.heap.size := World.block_lt_of_cell? w _ hx
  have H := hide (⟨h, hx⟩ : _ ∧ _)
  clear h
  go_enter Try.func69, Try.ntmps69
  go_wp2_with fail
  have M := lineL_new w
  generalize (w.alloc (.cells #[] 135)).alloc (.cells #[.slice (some ⟨w.heap.size, 0, none⟩) 0 0] 132) = W1 at M ⊢
  have hx1 : W1.cell? ⟨xb, 0, none⟩ = some (.slice A0 ts.length c0) := (M.below.cell (p := ⟨xb, 0, none⟩) hxb).trans hx
  clear hx
  obtain ⟨lb, hlb⟩ : ∃ lb, lb = w.heap.size + 1 := ⟨_, rfl⟩
  rw [← hlb] at M ⊢
  clear hlb
  go_wp2_with fail
  clear hx1
  go_loopw [17] (fun i wr => ∃ (m : Nat) (A : Option Addr) (c : Nat) (ps : List P3), i = .int .i64 m ∧ m ≤ ts.length ∧ Hid (ps.length ≤ m ∧ HeapL ps ∧ ps.Perm ((pick (waitQ ts wk on2) m).map fun k => waitPl ts (Int.ofNat k))) ∧ Sep [] w wr (lineL lb A c ps)) (fun i _ => (ts.length - (intOf i).toNat : Nat))
  case atStart => exact ⟨0, _, _, [], rfl, Nat.zero_le _, hide ⟨Nat.le_refl _, HeapL.nil, List.Perm.nil⟩, M⟩
  case round =>
    clear M
    obtain ⟨m, A, c, ps, rfl, hm, HP, M⟩ := hrel
    by_cases hmz : m < ts.length
    · have hmi : (m : Int) < (ts.length : Int) := by omega
      have hm0 : (0 : Int) ≤ (m : Int) := by omega
      obtain ⟨b, off, s, l, o, wt, on, v, t, hA0, _, he, hb, y0, y1, y2, y3, y4, y5, y6⟩ := (H.out.1.below M.below).ts_at hmz
      subst hA0
      have htk : ts.getD m default = ⟨s, l, o, wt, on, v, t⟩ := getD_of he
      have HT := hide htk
      clear htk he
      go_wp2_with fail
      have kT := Blk.new wr 46 #[.int .i64 s, .int .i64 l, .int .i64 o, .int .i64 wt, .int .i64 on, .int .i64 v, .int .i64 t]
      replace M := (Sep.allocN M 46 #[.int .i64 s, .int .i64 l, .int .i64 o, .int .i64 wt, .int .i64 on, .int .i64 v, .int .i64 t]).tail
      generalize wr.alloc (.cells #[.int .i64 s, .int .i64 l, .int .i64 o, .int .i64 wt, .int .i64 on, .int .i64 v, .int .i64 t] 46) = W9 at kT M ⊢
      have q6 : W9.cell? ⟨wr.heap.size, 6, none⟩ = some (.int .i64 t) := kT.cell 6
      have tT := kT.lt
      have q0 : W9.cell? ⟨wr.heap.size, 0, none⟩ = some (.int .i64 s) := kT.cell 0
      have q1 : W9.cell? ⟨wr.heap.size, 1, none⟩ = some (.int .i64 l) := kT.cell 1
      have q2 : W9.cell? ⟨wr.heap.size, 2, none⟩ = some (.int .i64 o) := kT.cell 2
      have q3 : W9.cell? ⟨wr.heap.size, 3, none⟩ = some (.int .i64 wt) := kT.cell 3
      have q4 : W9.cell? ⟨wr.heap.size, 4, none⟩ = some (.int .i64 on) := kT.cell 4
      have q5 : W9.cell? ⟨wr.heap.size, 5, none⟩ = some (.int .i64 v) := kT.cell 5
      go_wp2_with fail
      go_call (waitsOn_any s l o wt on v t wk on2 _) as r W8 ⟨rfl, g1⟩
      replace M := M.call g1
      replace kT := kT.below g1 kT.lt
      clear q0 q1 q2 q3 q4 q5 q6 tT g1
      have q6 : W8.cell? ⟨wr.heap.size, 6, none⟩ = some (.int .i64 t) := kT.cell 6
      have hQ0 : waitQ ts wk on2 m = (s == 3 && (wt == wk && on == on2)) := by unfold waitQ; rw [HT.out]
      obtain ⟨bb, hbb⟩ : ∃ bb, bb = (s == 3 && (wt == wk && on == on2)) := ⟨_, rfl⟩
      rw [← hbb] at hQ0 ⊢
      have hQ := hide hQ0
      clear hQ0 hbb kT
      cases bb
      · clear q6
        go_wp2_with fail
        go_roundw
        · refine ⟨m + 1, A, c, ps, by go_num, by omega, hide ⟨by have := HP.out.1; omega, HP.out.2.1, ?_⟩, M⟩
          have h3 : waitQ ts wk on2 m = false := by exact hQ.out
          rw [show pick (waitQ ts wk on2) (m + 1) = pick (waitQ ts wk on2) m by simp [pick, h3]]
          exact HP.out.2.2
        · simp [intOf]; omega
      · go_wp2_with fail
        go_call (hpush_any ps lb A c 0 t m (by have := HP.out.1; omega) _ HP.out.2.1 (LineIn.of (rs := []) M)) as r W2 ⟨⟨v', rfl⟩, A', c', qs, hp', hh', M2⟩
        replace M := Sep.comp (ps := lineL lb A c ps) (rs := []) (by simpa using M) M2
        clear M2
        have HQ := hide (⟨hp', hh'⟩ : _ ∧ _)
        clear hp' hh'
        go_wp2_with fail
        go_roundw
        · refine ⟨m + 1, A', c', qs, by go_num, by omega, hide ⟨?_, HQ.out.2, ?_⟩, M⟩
          · have h1 := HQ.out.1.length_eq
            have h2 := HP.out.1
            simp at h1; omega
          · refine HQ.out.1.trans ?_
            have h3 : waitQ ts wk on2 m = true := by exact hQ.out
            rw [show pick (waitQ ts wk on2) (m + 1) = pick (waitQ ts wk on2) m ++ [m] by simp [pick, h3], List.map_append]
            refine List.Perm.append HP.out.2.2 ?_
            simp only [List.map_cons, List.map_nil, waitPl, taskAt, Int.ofNat_eq_natCast, Int.toNat_natCast, HT.out]
            exact List.Perm.refl _
        · simp [intOf]; omega

    · have hme : m = ts.length := by omega
      have hmi : ¬ (m : Int) < (ts.length : Int) := by omega
      subst hme
      go_wp2_with fail
      go_ret
      exact ⟨lb, rfl, A, c, ps, HP.out.1, HP.out.2.1, HP.out.2.2, M⟩
end Go.Proofs.Ytgncjcnobojgbaa

namespace Go.Proofs.Ytgncjcnobojgbaa
open Go.RowKit
set_option linter.unusedVariables false

theorem pick_count (ts : List T7) (n : Nat) (hn : n ≤ ts.length) : (pick (readyQ ts) n).length = countM (ts.take n) 1 := by
  induction n with
  | zero => simp [pick, countM]
  | succ n ih =>
    have hlt : n < ts.length := by omega
    have h1 := ih (by omega)
    have h2 := countM_take ts 1 n
    have h3 := countM_take ts 1 (n + 1)
    rw [List.drop_eq_getElem_cons hlt] at h2
    have hq : readyQ ts n = (ts[n].s == 1) := by simp [readyQ, List.getD_eq_getElem?_getD, List.getElem?_eq_getElem hlt]
    simp only [countM] at h2
    simp only [pick, hq]
    by_cases hs : ts[n].s = 1
    · rw [if_pos hs] at h2
      simp only [hs, beq_self_eq_true, if_true, List.length_append, List.length_singleton]
      omega
    · rw [if_neg hs] at h2
      have hb : (ts[n].s == 1) = false := by simpa using hs
      simp only [hb, Bool.false_eq_true, if_false]
      omega
theorem ready_count (ts : List T7) : (readyM ts).length = countM ts 1 := by
  have h := (lineM_perm (readyQ ts) (readyP ts) ts.length).length_eq
  rw [List.length_map, pick_count ts ts.length (Nat.le_refl _), List.take_length] at h
  exact h
theorem ready_pair {ts : List T7} {i : Nat} (h : i + 1 < (readyM ts).length) : ∃ (x y : Nat) (tx ty : T7), (readyM ts)[i]? = some (x : Int) ∧ (readyM ts)[i + 1]? = some (y : Int) ∧ x < ts.length ∧ y < ts.length ∧ ts[x]? = some tx ∧ ts[y]? = some ty ∧ ty.l ≤ tx.l ∧ (tx.l = ty.l → tx.t ≤ ty.t) := by
  have hs : ((readyM ts).map (readyPl ts)).Pairwise leP := lineM_sorted (readyQ ts) (readyP ts) (readyPl ts) (fun k j _ => rfl) ts.length
  have hm : ∀ x ∈ readyM ts, ∃ j : Nat, x = j ∧ j < ts.length := lineM_mem (readyQ ts) (readyP ts) ts.length
  have hi : i < (readyM ts).length := by omega
  obtain ⟨x, ex, hx⟩ := hm _ (List.getElem_mem hi)
  obtain ⟨y, ey, hy⟩ := hm _ (List.getElem_mem h)
  have hp := (List.pairwise_iff_getElem.1 hs) i (i + 1) (by simpa using hi) (by simpa using h) (by omega)
  rw [List.getElem_map, List.getElem_map] at hp
  rw [ex, ey] at hp
  have tx : taskAt ts (x : Int) = ts[x] := by simp [taskAt, List.getD_eq_getElem?_getD, List.getElem?_eq_getElem hx]
  have ty : taskAt ts (y : Int) = ts[y] := by simp [taskAt, List.getD_eq_getElem?_getD, List.getElem?_eq_getElem hy]
  refine ⟨x, y, ts[x], ts[y], by rw [List.getElem?_eq_getElem hi]; exact congrArg some ex, by rw [List.getElem?_eq_getElem h]; exact congrArg some ey, hx, hy, List.getElem?_eq_getElem hx, List.getElem?_eq_getElem hy, ?_⟩
  simp only [leP, aheadP, readyPl, tx, ty] at hp
  split at hp
  · rename_i hl
    split at hp
    · rename_i ht
      exact ⟨by omega, fun _ => by omega⟩
    · simp at hp
      exact ⟨by omega, fun _ => by omega⟩
  · rename_i hl
    simp at hp
    exact ⟨by omega, fun e => absurd e.symm hl⟩
theorem first_none {ts : List T7} (h : readyM ts = []) : firstM ts = -1 := by simp [firstM, h]
theorem first_some {ts : List T7} (h : 0 < (readyM ts).length) : (readyM ts)[0]? = some (firstM ts) := by
  unfold firstM
  cases hr : readyM ts with
  | nil => rw [hr] at h; simp at h
  | cons x r => simp
end Go.Proofs.Ytgncjcnobojgbaa

namespace Go.Proofs.Ytgncjcnobojgbaa
open Go.RowKit
set_option linter.unusedVariables false

set_option maxRecDepth 100000 in
set_option maxHeartbeats 1000000 in
theorem likeInts_same (ks : List Int) (A B : Option Addr) (c d : Nat) (w : World) (hlen : ks.length ≤ 1048576) (h0 : Row w A (icells ks)) (h1 : Row w B (icells ks)) :
    Calls Try.prog 24 #[.slice A ks.length c, .slice B ks.length d] w fun r w' => r = .returned (.bool true) ∧ Below w.heap.size w w' := by
  have H0 := hide h0
  have H1 := hide h1
  clear h0 h1
  go_enter Try.func24, Try.ntmps24
  go_wp2
  go_loopw [5] (fun i wr => ∃ (k : Nat), k ≤ ks.length ∧ i = .int .i64 k ∧ Below w.heap.size w wr) (fun i _ => ks.length - (intOf i).toNat)
  case atStart => exact ⟨0, Nat.zero_le _, rfl, by go_grown⟩
  case round =>
    obtain ⟨k, hk, rfl, hbel⟩ := hrel
    have hz := hbel.size
    by_cases hlt : k < ks.length
    · obtain ⟨b, off, v, rfl, _, hx, hb1, z0⟩ := (H0.out.below hbel).ks_at hlt
      obtain ⟨b2, off2, v', rfl, _, hx2, hb2, y0⟩ := (H1.out.below hbel).ks_at hlt
      rw [hx] at hx2
      injection hx2 with hx2
      
      subst hx2
      clear hx
      have c0 := KeptW.cell (W0 := wr) (b := b) (o := off + k) (z0)
      have e0 := KeptW.cell (W0 := wr) (b := b2) (o := off2 + k) (y0)
      clear z0 y0
      go_wp2_with fail
      have hx0 := KeptW.mk'_w (Below.refl wr.heap.size wr)
      generalize KeptW.mk' (Below.refl wr.heap.size wr) = x at hx0
      rw [← hx0]
      clear hx0
      refine region_kept (by kernel_rfl) (by kernel_rfl) ?_
      repeat (go_big_quiet_step (fail))
      refine wpQuiet_nil ?_
      rintro _ ⟨x, rfl⟩
      have hgx := hbel.trans (x.below.mono hz)
      go_wp2
      go_roundw
      case rel => exact ⟨k + 1, by omega, by go_num, hgx⟩
      case measure => simp [intOf]; omega
    · go_wp2
      go_ret
      exact ⟨rfl, hbel⟩
end Go.Proofs.Ytgncjcnobojgbaa
