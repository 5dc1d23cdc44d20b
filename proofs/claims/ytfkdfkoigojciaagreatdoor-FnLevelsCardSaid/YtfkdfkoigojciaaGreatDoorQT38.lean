/- The program's lines: first, waitsOn; readyLine and waitersOn make a heap of the places of those that are ready, of those that wait. The list of tasks shorter than a million. -/
import Derived.Test.YtfkdfkoigojciaaGreatDoorQT37
import Derived.Test.YtfkdfkoigojciaaGreatDoorQT12

namespace Go.Proofs.YtfkdfkoigojciaaGreatDoor
open Go.RowKit
set_option linter.unusedVariables false
set_option maxHeartbeats 2000000
set_option maxRecDepth 100000
theorem waitsOn_any (s l o wt on v t wt2 on2 : Int) (w : World) :
 Calls Tryz.prog 152 #[.agg #[.int .i64 s, .int .i64 l, .int .i64 o, .int .i64 wt, .int .i64 on, .int .i64 v, .int .i64 t], .int .i64 wt2, .int .i64 on2] w fun r w' => r = .returned (.bool (s == 3 && (wt == wt2 && on == on2))) ∧ Below w.heap.size w w' := by
 by_cases h1 : s = 3
 ·subst h1
  by_cases h2 : wt = wt2
  ·subst h2
   rw [show ((3 : Int) == 3 && (wt == wt && on == on2)) = (on == on2) by simp]
   go_enter Tryz.func152, Tryz.ntmps152
   go_wp2_with fail
   go_ret
   exact ⟨rfl, by go_grown⟩
  ·rw [show ((3 : Int) == 3 && (wt == wt2 && on == on2)) = false by simp [h2]]
   go_enter Tryz.func152, Tryz.ntmps152
   go_wp2_with fail
   go_ret
   exact ⟨rfl, by go_grown⟩
 ·rw [show (s == 3 && (wt == wt2 && on == on2)) = false by simp [h1]]
  go_enter Tryz.func152, Tryz.ntmps152
  go_wp2_with fail
  go_ret
  exact ⟨rfl, by go_grown⟩
/-- A new line: nobody stands in it. -/
theorem lineL_new (w : World) : Sep [] w ((w.alloc (.cells #[] 152)).alloc (.cells #[.slice (some ⟨w.heap.size, 0, none⟩) 0 0] 149)) (lineL (w.heap.size + 1) (some ⟨w.heap.size, 0, none⟩) 0 []) := by
 have M := Sep.enter2 (o1 := #[]) (o2 := #[.slice (some ⟨w.heap.size, 0, none⟩) 0 0]) (t1 := 152) (t2 := 149) w
 have hB := M.blk 1 rfl
 have hO : World.ownsRow ((w.alloc (.cells #[] 152)).alloc (.cells #[.slice (some ⟨w.heap.size, 0, none⟩) 0 0] 149)) 0 152 3 (.slice (some ⟨w.heap.size, 0, none⟩) 0 0) 0 (pcells []) := ⟨by simp [pcells], .inr ⟨w.heap.size, 0, #[], rfl, Nat.zero_le _, hB, Nat.le_refl _, Nat.zero_le _, by simp, by simp [pcells]⟩⟩
 have k : Sep (fps [.blk w.heap.size 152 #[]]) _ _ [rP 0 (some ⟨w.heap.size, 0, none⟩) 0 []] := sepOneB (fun _ h => h) (World.grownBy.refl _ _) hO
 exact (Sep.comp (ps := [.blk w.heap.size 152 #[]]) (rs := [.blk (w.heap.size + 1) 149 #[.slice (some ⟨w.heap.size, 0, none⟩) 0 0]]) (M.front 1 rfl) k).front 1 rfl
def readyPl (ts : List T7) (j : Int) : P3 := ⟨(taskAt ts j).l, (taskAt ts j).t, j⟩
def waitPl (ts : List T7) (j : Int) : P3 := ⟨0, (taskAt ts j).t, j⟩
theorem ready_eq {ts : List T7} {out : List P3} (hs : out.Pairwise leP) (hp : out.Perm ((pick (readyQ ts) ts.length).map fun k => readyPl ts (Int.ofNat k))) : out.map P3.i = readyM ts :=
 line_eq (readyQ ts) (readyP ts) (readyPl ts) (fun _ => rfl) (fun k j _ => rfl) ts.length out hs hp
theorem wait_eq {ts : List T7} {wt on : Int} {out : List P3} (hs : out.Pairwise leP) (hp : out.Perm ((pick (waitQ ts wt on) ts.length).map fun k => waitPl ts (Int.ofNat k))) : out.map P3.i = waitersM ts wt on := by
 refine line_eq (waitQ ts wt on) (waitP ts) (waitPl ts) (fun _ => rfl) (fun k j hj => ?_) ts.length out hs hp
 have hk : taskAt ts (k : Int) = ts.getD k default := by simp only [taskAt, Int.toNat_natCast]
 simp only [waitP, waitPl, aheadP, if_true, hk]
 split
 ·rename_i h
  rw [h]
  simp; omega
 ·rfl
theorem readyLine_p (ts : List T7) (xb : Nat) (A0 : Option Addr) (c0 : Nat) (w : World) (hlen : ts.length ≤ 1048576) (hx : w.cell? ⟨xb, 0, none⟩ = some (.slice A0 ts.length c0)) (h : Row w A0 (tcells ts)) :
 Calls Tryz.prog 81 #[.pointer (some ⟨xb, 0, none⟩)] w fun r w' => ∃ (lb : Nat) (A : Option Addr) (c : Nat) (ps : List P3), r = .returned (.pointer (some ⟨lb, 0, none⟩)) ∧ ps.length ≤ ts.length ∧ HeapL ps ∧ ps.Perm ((pick (readyQ ts) ts.length).map fun k => readyPl ts (Int.ofNat k)) ∧ Sep [] w w' (lineL lb A c ps) := by
 have hxb : xb < w.heap.size := World.block_lt_of_cell? w _ hx
 have H := hide (⟨h, hx⟩ : _ ∧ _)
 clear h
 go_enter Tryz.func81, Tryz.ntmps81
 go_wp2_with fail
 have M := lineL_new w
 generalize (w.alloc (.cells #[] 152)).alloc (.cells #[.slice (some ⟨w.heap.size, 0, none⟩) 0 0] 149) = W1 at M ⊢
 have hx1 : W1.cell? ⟨xb, 0, none⟩ = some (.slice A0 ts.length c0) := (M.below.cell (p := ⟨xb, 0, none⟩) hxb).trans hx
 clear hx
 obtain ⟨lb, hlb⟩ : ∃ lb, lb = w.heap.size + 1 := ⟨_, rfl⟩
 rw [← hlb] at M ⊢
 clear hlb
 go_wp2_with fail
 clear hx1
 go_loopw [13] (fun i wr => ∃ (m : Nat) (A : Option Addr) (c : Nat) (ps : List P3), i = .int .i64 m ∧ m ≤ ts.length ∧ Hid (ps.length ≤ m ∧ HeapL ps ∧ ps.Perm ((pick (readyQ ts) m).map fun k => readyPl ts (Int.ofNat k))) ∧ Sep [] w wr (lineL lb A c ps)) (fun i _ => (ts.length - (intOf i).toNat : Nat))
 case atStart => exact ⟨0, _, _, [], rfl, Nat.zero_le _, hide ⟨Nat.le_refl _, HeapL.nil, List.Perm.nil⟩, M⟩
 case round =>
  clear M
  obtain ⟨m, A, c, ps, rfl, hm, HP, M⟩ := hrel
  by_cases hmz : m < ts.length
  ·have hmi : (m : Int) < (ts.length : Int) := by omega
   have hm0 : (0 : Int) ≤ (m : Int) := by omega
   obtain ⟨b, off, s, l, o, wt, on, v, t, hA0, _, he, hb, y0, y1, y2, y3, y4, y5, y6⟩ := (H.out.1.below M.below).ts_at hmz
   subst hA0
   have htk : ts.getD m default = ⟨s, l, o, wt, on, v, t⟩ := getD_of he
   have HT := hide htk
   clear htk he
   by_cases h1 : s = 1
   ·have hQ : Hid (readyQ ts m = true) := hide (by unfold readyQ; rw [HT.out]; simp [h1])
    subst h1
    go_wp2_with fail
    replace M := (Sep.allocN M 45 #[.int .i64 1, .int .i64 l, .int .i64 o, .int .i64 wt, .int .i64 on, .int .i64 v, .int .i64 t]).tail
    generalize wr.alloc (.cells #[.int .i64 1, .int .i64 l, .int .i64 o, .int .i64 wt, .int .i64 on, .int .i64 v, .int .i64 t] 45) = W9 at M ⊢
    go_call (hpush_any ps lb A c l t m (by have := HP.out.1; omega) _ HP.out.2.1 (LineIn.of (rs := []) M)) as r W2 ⟨⟨v', rfl⟩, A', c', qs, hp', hh', M2⟩
    replace M := Sep.comp (ps := lineL lb A c ps) (rs := []) (by simpa using M) M2
    clear M2
    have HQ := hide (⟨hp', hh'⟩ : _ ∧ _)
    clear hp' hh'
    go_wp2_with fail
    go_roundw
    ·refine ⟨m + 1, A', c', qs, by go_num, by omega, hide ⟨?_, HQ.out.2, ?_⟩, M⟩
     ·have h1 := HQ.out.1.length_eq
      have h2 := HP.out.1
      simp at h1; omega
     ·refine HQ.out.1.trans ?_
      have h3 : readyQ ts m = true := by exact hQ.out
      rw [show pick (readyQ ts) (m + 1) = pick (readyQ ts) m ++ [m] by simp [pick, h3], List.map_append]
      refine List.Perm.append HP.out.2.2 ?_
      simp only [List.map_cons, List.map_nil, readyPl, taskAt, Int.ofNat_eq_natCast, Int.toNat_natCast, HT.out]
      exact List.Perm.refl _
    ·simp [intOf]; omega
   ·have hQ : Hid (readyQ ts m = false) := hide (by unfold readyQ; rw [HT.out]; simp [h1])
    go_wp2_with fail
    replace M := (Sep.allocN M 45 #[.int .i64 s, .int .i64 l, .int .i64 o, .int .i64 wt, .int .i64 on, .int .i64 v, .int .i64 t]).tail
    generalize wr.alloc (.cells #[.int .i64 s, .int .i64 l, .int .i64 o, .int .i64 wt, .int .i64 on, .int .i64 v, .int .i64 t] 45) = W9 at M ⊢
    go_roundw
    ·refine ⟨m + 1, A, c, ps, by go_num, by omega, hide ⟨by have := HP.out.1; omega, HP.out.2.1, ?_⟩, M⟩
     have h3 : readyQ ts m = false := by exact hQ.out
     rw [show pick (readyQ ts) (m + 1) = pick (readyQ ts) m by simp [pick, h3]]
     exact HP.out.2.2
    ·simp [intOf]; omega
  ·have hme : m = ts.length := by omega
   have hmi : ¬ (m : Int) < (ts.length : Int) := by omega
   subst hme
   go_wp2_with fail
   go_ret
   exact ⟨lb, rfl, A, c, ps, HP.out.1, HP.out.2.1, HP.out.2.2, M⟩
theorem waitersOn_p (ts : List T7) (xb : Nat) (A0 : Option Addr) (c0 : Nat) (wk on2 : Int) (w : World) (hlen : ts.length ≤ 1048576) (hx : w.cell? ⟨xb, 0, none⟩ = some (.slice A0 ts.length c0)) (h : Row w A0 (tcells ts)) :
 Calls Tryz.prog 94 #[.pointer (some ⟨xb, 0, none⟩), .int .i64 wk, .int .i64 on2] w fun r w' => ∃ (lb : Nat) (A : Option Addr) (c : Nat) (ps : List P3), r = .returned (.pointer (some ⟨lb, 0, none⟩)) ∧ ps.length ≤ ts.length ∧ HeapL ps ∧ ps.Perm ((pick (waitQ ts wk on2) ts.length).map fun k => waitPl ts (Int.ofNat k)) ∧ Sep [] w w' (lineL lb A c ps) := by
 have hxb : xb < w.heap.size := World.block_lt_of_cell? w _ hx
 have H := hide (⟨h, hx⟩ : _ ∧ _)
 clear h
 go_enter Tryz.func94, Tryz.ntmps94
 go_wp2_with fail
 have M := lineL_new w
 generalize (w.alloc (.cells #[] 152)).alloc (.cells #[.slice (some ⟨w.heap.size, 0, none⟩) 0 0] 149) = W1 at M ⊢
 have hx1 : W1.cell? ⟨xb, 0, none⟩ = some (.slice A0 ts.length c0) := (M.below.cell (p := ⟨xb, 0, none⟩) hxb).trans hx
 clear hx
 obtain ⟨lb, hlb⟩ : ∃ lb, lb = w.heap.size + 1 := ⟨_, rfl⟩
 rw [← hlb] at M ⊢
 clear hlb
 go_wp2_with fail
 clear hx1
 go_loopw [17] (fun i wr => ∃ (m : Nat) (A : Option Addr) (c : Nat) (ps : List P3), i = .int .i64 m ∧ m ≤ ts.length ∧ Hid (ps.length ≤ m ∧ HeapL ps ∧ ps.Perm ((pick (waitQ ts wk on2) m).map fun k => waitPl ts (Int.ofNat k))) ∧ Sep [] w wr (lineL lb A c ps)) (fun i _ => (ts.length - (intOf i).toNat : Nat))
 case atStart => exact ⟨0, _, _, [], rfl, Nat.zero_le _, hide ⟨Nat.le_refl _, HeapL.nil, List.Perm.nil⟩, M⟩
 case round =>
  clear M
  obtain ⟨m, A, c, ps, rfl, hm, HP, M⟩ := hrel
  by_cases hmz : m < ts.length
  ·have hmi : (m : Int) < (ts.length : Int) := by omega
   have hm0 : (0 : Int) ≤ (m : Int) := by omega
   obtain ⟨b, off, s, l, o, wt, on, v, t, hA0, _, he, hb, y0, y1, y2, y3, y4, y5, y6⟩ := (H.out.1.below M.below).ts_at hmz
   subst hA0
   have htk : ts.getD m default = ⟨s, l, o, wt, on, v, t⟩ := getD_of he
   have HT := hide htk
   clear htk he
   go_wp2_with fail
   have kT := Blk.new wr 45 #[.int .i64 s, .int .i64 l, .int .i64 o, .int .i64 wt, .int .i64 on, .int .i64 v, .int .i64 t]
   replace M := (Sep.allocN M 45 #[.int .i64 s, .int .i64 l, .int .i64 o, .int .i64 wt, .int .i64 on, .int .i64 v, .int .i64 t]).tail
   generalize wr.alloc (.cells #[.int .i64 s, .int .i64 l, .int .i64 o, .int .i64 wt, .int .i64 on, .int .i64 v, .int .i64 t] 45) = W9 at kT M ⊢
   have q6 : W9.cell? ⟨wr.heap.size, 6, none⟩ = some (.int .i64 t) := kT.cell 6
   have tT := kT.lt
   have q0 : W9.cell? ⟨wr.heap.size, 0, none⟩ = some (.int .i64 s) := kT.cell 0
   have q1 : W9.cell? ⟨wr.heap.size, 1, none⟩ = some (.int .i64 l) := kT.cell 1
   have q2 : W9.cell? ⟨wr.heap.size, 2, none⟩ = some (.int .i64 o) := kT.cell 2
   have q3 : W9.cell? ⟨wr.heap.size, 3, none⟩ = some (.int .i64 wt) := kT.cell 3
   have q4 : W9.cell? ⟨wr.heap.size, 4, none⟩ = some (.int .i64 on) := kT.cell 4
   have q5 : W9.cell? ⟨wr.heap.size, 5, none⟩ = some (.int .i64 v) := kT.cell 5
   go_wp2_with fail
   go_call (waitsOn_any s l o wt on v t wk on2 _) as r W8 ⟨rfl, g1⟩
   replace M := M.call g1
   replace kT := kT.below g1 kT.lt
   clear q0 q1 q2 q3 q4 q5 q6 tT g1
   have q6 : W8.cell? ⟨wr.heap.size, 6, none⟩ = some (.int .i64 t) := kT.cell 6
   have hQ0 : waitQ ts wk on2 m = (s == 3 && (wt == wk && on == on2)) := by unfold waitQ; rw [HT.out]
   obtain ⟨bb, hbb⟩ : ∃ bb, bb = (s == 3 && (wt == wk && on == on2)) := ⟨_, rfl⟩
   rw [← hbb] at hQ0 ⊢
   have hQ := hide hQ0
   clear hQ0 hbb kT
   cases bb
   ·clear q6
    go_wp2_with fail
    go_roundw
    ·refine ⟨m + 1, A, c, ps, by go_num, by omega, hide ⟨by have := HP.out.1; omega, HP.out.2.1, ?_⟩, M⟩
     have h3 : waitQ ts wk on2 m = false := by exact hQ.out
     rw [show pick (waitQ ts wk on2) (m + 1) = pick (waitQ ts wk on2) m by simp [pick, h3]]
     exact HP.out.2.2
    ·simp [intOf]; omega
   ·go_wp2_with fail
    go_call (hpush_any ps lb A c 0 t m (by have := HP.out.1; omega) _ HP.out.2.1 (LineIn.of (rs := []) M)) as r W2 ⟨⟨v', rfl⟩, A', c', qs, hp', hh', M2⟩
    replace M := Sep.comp (ps := lineL lb A c ps) (rs := []) (by simpa using M) M2
    clear M2
    have HQ := hide (⟨hp', hh'⟩ : _ ∧ _)
    clear hp' hh'
    go_wp2_with fail
    go_roundw
    ·refine ⟨m + 1, A', c', qs, by go_num, by omega, hide ⟨?_, HQ.out.2, ?_⟩, M⟩
     ·have h1 := HQ.out.1.length_eq
      have h2 := HP.out.1
      simp at h1; omega
     ·refine HQ.out.1.trans ?_
      have h3 : waitQ ts wk on2 m = true := by exact hQ.out
      rw [show pick (waitQ ts wk on2) (m + 1) = pick (waitQ ts wk on2) m ++ [m] by simp [pick, h3], List.map_append]
      refine List.Perm.append HP.out.2.2 ?_
      simp only [List.map_cons, List.map_nil, waitPl, taskAt, Int.ofNat_eq_natCast, Int.toNat_natCast, HT.out]
      exact List.Perm.refl _
    ·simp [intOf]; omega
  ·have hme : m = ts.length := by omega
   have hmi : ¬ (m : Int) < (ts.length : Int) := by omega
   subst hme
   go_wp2_with fail
   go_ret
   exact ⟨lb, rfl, A, c, ps, HP.out.1, HP.out.2.1, HP.out.2.2, M⟩
end Go.Proofs.YtfkdfkoigojciaaGreatDoor
