/- The program's lines: first, waitsOn; readyLine and waitersOn make a heap of the places of those that are ready, of those that wait. The list of tasks shorter than a million. -/
import Derived.Test.YtfjgelegojbmgaaGreatQFnWoken06
import Derived.Test.YtfjgelegojbmgaaGreatQB14

namespace Go.Proofs.YtfjgelegojbmgaaGreat
open Go.RowKit
set_option linter.unusedVariables false
set_option maxRecDepth 100000
/-- The last place leaves the row. -/
theorem Sep.popped {S : List Nat} {w W W' : World} {lb g : Nat} {c n : Nat} {qs : List P3} {x : P3} (hn : n = qs.length) (M : Sep S w W (lineL lb (some ⟨g, 0, none⟩) c (qs ++ [x]))) (hb : Below W.heap.size W W') : Sep S w (W'.setCell ⟨lb, 0, none⟩ (.slice (some ⟨g, 0, none⟩) n c)) (lineL lb (some ⟨g, 0, none⟩) c qs) := by
 subst hn
 have M2 := M.call hb
 have h1 : W'.ownsRow 0 124 3 (.slice (some ⟨g, 0, none⟩) (qs ++ [x]).length c) (qs ++ [x]).length (pcells (qs ++ [x])) := M2.rowAt 1 rfl
 have h2 := Own.cut h1 (k := qs.length) (by simp)
 rw [pcells_take, List.take_left] at h2
 have k : Sep (fps [rP (qs ++ [x]).length (some ⟨g, 0, none⟩) c (qs ++ [x])]) W' W' [rP qs.length (some ⟨g, 0, none⟩) c qs] := sepOne (fun _ h => .inl h) (World.grownBy.refl _ _) h2
 have h3 := Sep.comp (ps := [rP (qs ++ [x]).length (some ⟨g, 0, none⟩) c (qs ++ [x])]) (rs := [.blk lb 121 #[.slice (some ⟨g, 0, none⟩) (qs ++ [x]).length c]]) (M2.front 1 rfl) k
 exact (h3.front 1 rfl).set 0 rfl 0 (.slice (some ⟨g, 0, none⟩) qs.length c)
set_option maxHeartbeats 1000000 in
theorem pop_any (qs : List P3) (x : P3) (lb : Nat) (A : Option Addr) (c : Nat) (hl : qs.length < 1048576) (w : World) (h : LineIn w lb A c (qs ++ [x])) :
 Calls Tryz.prog 168 #[.pointer (some ⟨lb, 0, none⟩)] w fun r w' => r = .returned (.iface 124 x.val) ∧ Sep (fps (lineL lb A c (qs ++ [x]))) w w' (lineL lb A c qs) := by
 obtain ⟨ps, hps⟩ : ∃ ps, ps = qs ++ [x] := ⟨_, rfl⟩
 rw [← hps] at h
 have hlen : ps.length = qs.length + 1 := by rw [hps]; simp
 have hR : (rP ps.length A c ps).here w := Sep.here h _ (by simp [lineL])
 obtain ⟨g, rfl, hgl, hfz⟩ := rP_form hR (by omega)
 obtain ⟨b, off, e, hb, z0, z1, z2⟩ := (Row.of_own hR).ps_at (k := qs.length) (by omega)
 injection e with e
 injection e with e1 e2
 subst e1 e2
 simp only [Nat.zero_add] at z0 z1 z2
 have hx : ps[qs.length] = x := by subst hps; simp
 rw [hx] at z0 z1 z2
 have qL : w.cell? ⟨lb, 0, none⟩ = some (.slice (some ⟨g, 0, none⟩) ps.length c) := Sep.cell h 0 0 rfl
 have fL : w.frozen? ⟨lb, 0, none⟩ = false := Sep.fz h 0 0 rfl
 have tL : lb < w.heap.size := Sep.lt h 0 rfl
 have ne : w.heap.size ≠ lb := by omega
 have ne2 : w.heap.size ≠ g := by omega
 have hcap : ps.length ≤ c := own_cap (show w.ownsRow 0 124 3 (.slice (some ⟨g, 0, none⟩) ps.length c) ps.length (pcells ps) from hR)
 have H := hide (⟨h, hps, hlen⟩ : _ ∧ _ ∧ _)
 rw [← hps]
 have hn : (ps.length : Int) - 1 = (qs.length : Int) := by omega
 have hn1 : (qs.length : Int) < (ps.length : Int) := by omega
 have hn0 : (0 : Int) ≤ (qs.length : Int) := by omega
 have hn2 : (qs.length : Int) ≤ (c : Int) := by omega
 have hn3 : qs.length ≤ c := by omega
 clear h hR hx hps hlen hfz hcap hb
 obtain ⟨l, t, i⟩ := x
 simp only at z0 z1 z2
 unfold P3.val
 generalize qs.length = n at *
 go_enter Tryz.func168, Tryz.ntmps168
 go_wp2_with fail
 go_ret
 rw [H.out.2.1]
 have M := H.out.1
 unfold LineIn at M
 rw [H.out.2.1] at M
 exact ⟨rfl, (Sep.allocN (Sep.popped (by have h1 := H.out.2.2; have h2 := congrArg List.length H.out.2.1; simp at h2; omega) M (Below.refl _ _)) _ _).tail⟩
theorem field_place (l t i : Int) (w : World) : Sem.run Tryz.prog (Instr.field 124 (.agg #[.int .i64 l, .int .i64 t, .int .i64 i]) 2) w = .ok (.int .i64 i) w := by kernel_rfl
/-- The first one and the last one change places: all but the last one are a heap but for the root. -/
theorem pop_split {ps : List P3} (hh : HeapL ps) (hne : 0 < ps.length) : ∃ qs, swapL ps 0 (ps.length - 1) = qs ++ [at3 ps 0] ∧ (at3 ps 0 :: qs).Perm ps ∧ HeapDn qs 0 ∧ qs.length + 1 = ps.length := by
 rcases List.eq_nil_or_concat ps with rfl | ⟨qs, y, rfl⟩
 ·simp at hne
 ·simp only [List.concat_eq_append] at hh hne ⊢
  rw [List.length_append, List.length_singleton, Nat.add_sub_cancel]
  rcases Nat.eq_zero_or_pos qs.length with h0 | h0
  ·obtain rfl := List.eq_nil_of_length_eq_zero h0
   exact ⟨[], swapL_self (by simp), List.Perm.refl _, ⟨fun k h1 h2 => by simp at h2, fun h1 => by omega⟩, rfl⟩
  ·refine ⟨qs.set 0 y, ?_, ?_, HeapL.popped hh h0, by simp⟩
   ·rw [swap_last h0, at3_app h0]
   ·rw [at3_app h0]; exact popped_perm h0
set_option maxHeartbeats 1000000 in
theorem hpop_any (ps : List P3) (lb : Nat) (A : Option Addr) (c : Nat) (hne : 0 < ps.length) (hl : ps.length ≤ 1048576) (w : World) (hh : HeapL ps) (h : LineIn w lb A c ps) :
 Calls Tryz.prog 127 #[lineV lb] w fun r w' => r = .returned (.iface 124 (at3 ps 0).val) ∧ ∃ qs, (at3 ps 0 :: qs).Perm ps ∧ HeapL qs ∧ Sep (fps (lineL lb A c ps)) w w' (lineL lb A c qs) := by
 obtain ⟨q1, hs, hp, hd, hq1⟩ := pop_split hh hne
 generalize at3 ps 0 = y at *
 unfold lineV
 have qL : w.cell? ⟨lb, 0, none⟩ = some (.slice A ps.length c) := Sep.cell h 0 0 rfl
 have H := hide (⟨h, hs, hp, hd, hq1⟩ : _ ∧ _ ∧ _ ∧ _ ∧ _)
 clear h hs hp hd hh hq1
 go_enter Tryz.func127, Tryz.ntmps127
 go_wp2_with fail
 rw [inv_len _ lb A ps.length c _ qL]
 go_wp2_with fail
 go_call (len_any A ps.length c _) as r W2 ⟨rfl, rfl⟩
 go_wp2_with fail
 rw [inv_swap _ lb A ps.length c _ qL]
 go_wp2_with fail
 rw [show (ps.length : Int) - 1 = ((ps.length - 1 : Nat) : Int) from by omega]
 have hR : (rP ps.length A c ps).here w := Sep.rowAt H.out.1 1 rfl
 have hS := swap_any ps A c 0 (ps.length - 1) (by omega) (by omega) (by omega) w hR
 clear hR
 replace hS : Calls Tryz.prog 170 #[.slice A ps.length c, .int .i64 0, .int .i64 ((ps.length - 1 : Nat) : Int)] w _ := hS
 apply Calls.mono
 focus with_reducible exact hS
 clear hS qL
 rintro r W3 ⟨⟨v', rfl⟩, g3⟩
 have M := Sep.swapped H.out.1 g3
 clear g3
 obtain ⟨n, hn⟩ : ∃ n, n = ps.length - 1 := ⟨_, rfl⟩
 rw [H.out.2.1] at M
 have hD := hdown_any q1 (y) (q1 ++ [y]) lb A c n (by have := H.out.2.2.2.2; omega) (by have := H.out.2.2.2.2; simp; omega) _ ⟨q1, rfl, List.Perm.refl _, H.out.2.2.2.1⟩ (LineIn.of (rs := []) M)
 rw [← hn]
 have HN := hide hn
 clear hn
 unfold lineV at hD
 go_wp2_with fail
 apply Calls.mono
 focus with_reducible exact hD
 clear hD
 rintro r W4 ⟨⟨v4, rfl⟩, q2, hp2, hh2, M2⟩
 replace M2 := Sep.comp (ps := lineL lb A c (q1 ++ [y])) (rs := []) M M2
 have hP := pop_any q2 (y) lb A c (by have h1 := hp2.length_eq; have := H.out.2.2.2.2; omega) _ (LineIn.of (rs := []) M2)
 go_wp2_with fail
 apply Calls.mono
 focus with_reducible exact hP
 clear hP
 rintro r W5 ⟨rfl, M3⟩
 replace M3 := Sep.comp (ps := lineL lb A c (q2 ++ [y])) (rs := []) (by simpa using M2) M3
 go_wp2_with fail
 go_ret
 exact ⟨rfl, q2, (hp2.cons _).trans H.out.2.2.1, hh2, M3⟩
set_option maxHeartbeats 1000000 in
theorem next_any (ps : List P3) (lb : Nat) (A : Option Addr) (c : Nat) (hne : 0 < ps.length) (hl : ps.length ≤ 1048576) (w : World) (hh : HeapL ps) (h : LineIn w lb A c ps) :
 Calls Tryz.prog 104 #[.pointer (some ⟨lb, 0, none⟩)] w fun r w' => r = .returned (.int .i64 (at3 ps 0).i) ∧ ∃ qs, (at3 ps 0 :: qs).Perm ps ∧ HeapL qs ∧ Sep (fps (lineL lb A c ps)) w w' (lineL lb A c qs) := by
 have hP := hide (hpop_any ps lb A c hne hl w hh h)
 clear hh h
 generalize at3 ps 0 = y at *
 obtain ⟨l1, t1, i1⟩ := y
 unfold lineV P3.val at hP
 simp only at hP ⊢
 go_enter Tryz.func104, Tryz.ntmps104
 go_wp2_with fail
 apply Calls.mono
 focus with_reducible exact hP.out
 clear hP
 rintro r W5 ⟨rfl, qs, hp, hh, M3⟩
 have HH := hide (⟨hp, hh, M3⟩ : _ ∧ _ ∧ _)
 clear hp hh M3
 go_wp2_with fail
 rw [assert_place]
 go_wp2_with fail
 rw [field_place]
 go_wp2_with fail
 go_ret
 exact ⟨rfl, qs, HH.out.1, HH.out.2.1, HH.out.2.2⟩
set_option maxRecDepth 100000
set_option maxHeartbeats 1000000 in
theorem waitsOn_any (s l o wt on v t wt2 on2 : Int) (w : World) :
 Calls Tryz.prog 101 #[.agg #[.int .i64 s, .int .i64 l, .int .i64 o, .int .i64 wt, .int .i64 on, .int .i64 v, .int .i64 t], .int .i64 wt2, .int .i64 on2] w fun r w' => r = .returned (.bool (s == 3 && (wt == wt2 && on == on2))) ∧ Below w.heap.size w w' := by
 by_cases h1 : s = 3
 ·subst h1
  by_cases h2 : wt = wt2
  ·subst h2
   rw [show ((3 : Int) == 3 && (wt == wt && on == on2)) = (on == on2) by simp]
   go_enter Tryz.func101, Tryz.ntmps101
   go_wp2_with fail
   go_ret
   exact ⟨rfl, by go_grown⟩
  ·rw [show ((3 : Int) == 3 && (wt == wt2 && on == on2)) = false by simp [h2]]
   go_enter Tryz.func101, Tryz.ntmps101
   go_wp2_with fail
   go_ret
   exact ⟨rfl, by go_grown⟩
 ·rw [show (s == 3 && (wt == wt2 && on == on2)) = false by simp [h1]]
  go_enter Tryz.func101, Tryz.ntmps101
  go_wp2_with fail
  go_ret
  exact ⟨rfl, by go_grown⟩
/-- A new line: nobody stands in it. -/
theorem lineL_new (w : World) : Sep [] w ((w.alloc (.cells #[] 124)).alloc (.cells #[.slice (some ⟨w.heap.size, 0, none⟩) 0 0] 121)) (lineL (w.heap.size + 1) (some ⟨w.heap.size, 0, none⟩) 0 []) := by
 have M := Sep.enter2 (o1 := #[]) (o2 := #[.slice (some ⟨w.heap.size, 0, none⟩) 0 0]) (t1 := 124) (t2 := 121) w
 have hB := M.blk 1 rfl
 have hO : World.ownsRow ((w.alloc (.cells #[] 124)).alloc (.cells #[.slice (some ⟨w.heap.size, 0, none⟩) 0 0] 121)) 0 124 3 (.slice (some ⟨w.heap.size, 0, none⟩) 0 0) 0 (pcells []) := ⟨by simp [pcells], .inr ⟨w.heap.size, 0, #[], rfl, Nat.zero_le _, hB, Nat.le_refl _, Nat.zero_le _, by simp, by simp [pcells]⟩⟩
 have k : Sep (fps [.blk w.heap.size 124 #[]]) _ _ [rP 0 (some ⟨w.heap.size, 0, none⟩) 0 []] := sepOneB (fun _ h => h) (World.grownBy.refl _ _) hO
 exact (Sep.comp (ps := [.blk w.heap.size 124 #[]]) (rs := [.blk (w.heap.size + 1) 121 #[.slice (some ⟨w.heap.size, 0, none⟩) 0 0]]) (M.front 1 rfl) k).front 1 rfl
def readyPl (ts : List T7) (j : Int) : P3 := ⟨(taskAt ts j).l, (taskAt ts j).t, j⟩
def waitPl (ts : List T7) (j : Int) : P3 := ⟨0, (taskAt ts j).t, j⟩
theorem ready_eq {ts : List T7} {out : List P3} (hs : out.Pairwise leP) (hp : out.Perm ((pick (readyQ ts) ts.length).map fun k => readyPl ts (Int.ofNat k))) : out.map P3.i = readyM ts :=
 line_eq (readyQ ts) (readyP ts) (readyPl ts) (fun _ => rfl) (fun k j _ => rfl) ts.length out hs hp
theorem wait_eq {ts : List T7} {wt on : Int} {out : List P3} (hs : out.Pairwise leP) (hp : out.Perm ((pick (waitQ ts wt on) ts.length).map fun k => waitPl ts (Int.ofNat k))) : out.map P3.i = waitersM ts wt on := by
 refine line_eq (waitQ ts wt on) (waitP ts) (waitPl ts) (fun _ => rfl) (fun k j hj => ?_) ts.length out hs hp
 have hk : taskAt ts (k : Int) = ts.getD k default := by simp only [taskAt, Int.toNat_natCast]
 simp only [waitP, waitPl, aheadP, if_true, hk]
 split
 ·rename_i h
  rw [h]
  simp; omega
 ·rfl
set_option maxHeartbeats 2000000 in
theorem readyLine_p (ts : List T7) (xb : Nat) (A0 : Option Addr) (c0 : Nat) (w : World) (hlen : ts.length ≤ 1048576) (hx : w.cell? ⟨xb, 0, none⟩ = some (.slice A0 ts.length c0)) (h : Row w A0 (tcells ts)) :
 Calls Tryz.prog 60 #[.pointer (some ⟨xb, 0, none⟩)] w fun r w' => ∃ (lb : Nat) (A : Option Addr) (c : Nat) (ps : List P3), r = .returned (.pointer (some ⟨lb, 0, none⟩)) ∧ ps.length ≤ ts.length ∧ HeapL ps ∧ ps.Perm ((pick (readyQ ts) ts.length).map fun k => readyPl ts (Int.ofNat k)) ∧ Sep [] w w' (lineL lb A c ps) := by
 have hxb : xb < w.heap.size := World.block_lt_of_cell? w _ hx
 have H := hide (⟨h, hx⟩ : _ ∧ _)
 clear h
 go_enter Tryz.func60, Tryz.ntmps60
 go_wp2_with fail
 have M := lineL_new w
 generalize (w.alloc (.cells #[] 124)).alloc (.cells #[.slice (some ⟨w.heap.size, 0, none⟩) 0 0] 121) = W1 at M ⊢
 have hx1 : W1.cell? ⟨xb, 0, none⟩ = some (.slice A0 ts.length c0) := (M.below.cell (p := ⟨xb, 0, none⟩) hxb).trans hx
 clear hx
 obtain ⟨lb, hlb⟩ : ∃ lb, lb = w.heap.size + 1 := ⟨_, rfl⟩
 rw [← hlb] at M ⊢
 clear hlb
 go_wp2_with fail
 clear hx1
 go_loopw [13] (fun i wr => ∃ (m : Nat) (A : Option Addr) (c : Nat) (ps : List P3), i = .int .i64 m ∧ m ≤ ts.length ∧ Hid (ps.length ≤ m ∧ HeapL ps ∧ ps.Perm ((pick (readyQ ts) m).map fun k => readyPl ts (Int.ofNat k))) ∧ Sep [] w wr (lineL lb A c ps)) (fun i _ => (ts.length - (intOf i).toNat : Nat))
 case atStart => exact ⟨0, _, _, [], rfl, Nat.zero_le _, hide ⟨Nat.le_refl _, HeapL.nil, List.Perm.nil⟩, M⟩
 case round =>
  clear M
  obtain ⟨m, A, c, ps, rfl, hm, HP, M⟩ := hrel
  by_cases hmz : m < ts.length
  ·have hmi : (m : Int) < (ts.length : Int) := by omega
   have hm0 : (0 : Int) ≤ (m : Int) := by omega
   obtain ⟨b, off, s, l, o, wt, on, v, t, hA0, _, he, hb, y0, y1, y2, y3, y4, y5, y6⟩ := (H.out.1.below M.below).ts_at hmz
   subst hA0
   have htk : ts.getD m default = ⟨s, l, o, wt, on, v, t⟩ := getD_of he
   have HT := hide htk
   clear htk he
   by_cases h1 : s = 1
   ·have hQ : Hid (readyQ ts m = true) := hide (by unfold readyQ; rw [HT.out]; simp [h1])
    subst h1
    go_wp2_with fail
    replace M := (Sep.allocN M 44 #[.int .i64 1, .int .i64 l, .int .i64 o, .int .i64 wt, .int .i64 on, .int .i64 v, .int .i64 t]).tail
    generalize wr.alloc (.cells #[.int .i64 1, .int .i64 l, .int .i64 o, .int .i64 wt, .int .i64 on, .int .i64 v, .int .i64 t] 44) = W9 at M ⊢
    go_call (hpush_any ps lb A c l t m (by have := HP.out.1; omega) _ HP.out.2.1 (LineIn.of (rs := []) M)) as r W2 ⟨⟨v', rfl⟩, A', c', qs, hp', hh', M2⟩
    replace M := Sep.comp (ps := lineL lb A c ps) (rs := []) (by simpa using M) M2
    clear M2
    have HQ := hide (⟨hp', hh'⟩ : _ ∧ _)
    clear hp' hh'
    go_wp2_with fail
    go_roundw
    ·refine ⟨m + 1, A', c', qs, by go_num, by omega, hide ⟨?_, HQ.out.2, ?_⟩, M⟩
     ·have h1 := HQ.out.1.length_eq
      have h2 := HP.out.1
      simp at h1; omega
     ·refine HQ.out.1.trans ?_
      have h3 : readyQ ts m = true := by exact hQ.out
      rw [show pick (readyQ ts) (m + 1) = pick (readyQ ts) m ++ [m] by simp [pick, h3], List.map_append]
      refine List.Perm.append HP.out.2.2 ?_
      simp only [List.map_cons, List.map_nil, readyPl, taskAt, Int.ofNat_eq_natCast, Int.toNat_natCast, HT.out]
      exact List.Perm.refl _
    ·simp [intOf]; omega
   ·have hQ : Hid (readyQ ts m = false) := hide (by unfold readyQ; rw [HT.out]; simp [h1])
    go_wp2_with fail
    replace M := (Sep.allocN M 44 #[.int .i64 s, .int .i64 l, .int .i64 o, .int .i64 wt, .int .i64 on, .int .i64 v, .int .i64 t]).tail
    generalize wr.alloc (.cells #[.int .i64 s, .int .i64 l, .int .i64 o, .int .i64 wt, .int .i64 on, .int .i64 v, .int .i64 t] 44) = W9 at M ⊢
    go_roundw
    ·refine ⟨m + 1, A, c, ps, by go_num, by omega, hide ⟨by have := HP.out.1; omega, HP.out.2.1, ?_⟩, M⟩
     have h3 : readyQ ts m = false := by exact hQ.out
     rw [show pick (readyQ ts) (m + 1) = pick (readyQ ts) m by simp [pick, h3]]
     exact HP.out.2.2
    ·simp [intOf]; omega
  ·have hme : m = ts.length := by omega
   have hmi : ¬ (m : Int) < (ts.length : Int) := by omega
   subst hme
   go_wp2_with fail
   go_ret
   exact ⟨lb, rfl, A, c, ps, HP.out.1, HP.out.2.1, HP.out.2.2, M⟩
set_option maxHeartbeats 2000000 in
theorem waitersOn_p (ts : List T7) (xb : Nat) (A0 : Option Addr) (c0 : Nat) (wk on2 : Int) (w : World) (hlen : ts.length ≤ 1048576) (hx : w.cell? ⟨xb, 0, none⟩ = some (.slice A0 ts.length c0)) (h : Row w A0 (tcells ts)) :
 Calls Tryz.prog 55 #[.pointer (some ⟨xb, 0, none⟩), .int .i64 wk, .int .i64 on2] w fun r w' => ∃ (lb : Nat) (A : Option Addr) (c : Nat) (ps : List P3), r = .returned (.pointer (some ⟨lb, 0, none⟩)) ∧ ps.length ≤ ts.length ∧ HeapL ps ∧ ps.Perm ((pick (waitQ ts wk on2) ts.length).map fun k => waitPl ts (Int.ofNat k)) ∧ Sep [] w w' (lineL lb A c ps) := by
 have hxb : xb < w.heap.size := World.block_lt_of_cell? w _ hx
 have H := hide (⟨h, hx⟩ : _ ∧ _)
 clear h
 go_enter Tryz.func55, Tryz.ntmps55
 go_wp2_with fail
 have M := lineL_new w
 generalize (w.alloc (.cells #[] 124)).alloc (.cells #[.slice (some ⟨w.heap.size, 0, none⟩) 0 0] 121) = W1 at M ⊢
 have hx1 : W1.cell? ⟨xb, 0, none⟩ = some (.slice A0 ts.length c0) := (M.below.cell (p := ⟨xb, 0, none⟩) hxb).trans hx
 clear hx
 obtain ⟨lb, hlb⟩ : ∃ lb, lb = w.heap.size + 1 := ⟨_, rfl⟩
 rw [← hlb] at M ⊢
 clear hlb
 go_wp2_with fail
 clear hx1
 go_loopw [17] (fun i wr => ∃ (m : Nat) (A : Option Addr) (c : Nat) (ps : List P3), i = .int .i64 m ∧ m ≤ ts.length ∧ Hid (ps.length ≤ m ∧ HeapL ps ∧ ps.Perm ((pick (waitQ ts wk on2) m).map fun k => waitPl ts (Int.ofNat k))) ∧ Sep [] w wr (lineL lb A c ps)) (fun i _ => (ts.length - (intOf i).toNat : Nat))
 case atStart => exact ⟨0, _, _, [], rfl, Nat.zero_le _, hide ⟨Nat.le_refl _, HeapL.nil, List.Perm.nil⟩, M⟩
 case round =>
  clear M
  obtain ⟨m, A, c, ps, rfl, hm, HP, M⟩ := hrel
  by_cases hmz : m < ts.length
  ·have hmi : (m : Int) < (ts.length : Int) := by omega
   have hm0 : (0 : Int) ≤ (m : Int) := by omega
   obtain ⟨b, off, s, l, o, wt, on, v, t, hA0, _, he, hb, y0, y1, y2, y3, y4, y5, y6⟩ := (H.out.1.below M.below).ts_at hmz
   subst hA0
   have htk : ts.getD m default = ⟨s, l, o, wt, on, v, t⟩ := getD_of he
   have HT := hide htk
   clear htk he
   go_wp2_with fail
   have kT := Blk.new wr 44 #[.int .i64 s, .int .i64 l, .int .i64 o, .int .i64 wt, .int .i64 on, .int .i64 v, .int .i64 t]
   replace M := (Sep.allocN M 44 #[.int .i64 s, .int .i64 l, .int .i64 o, .int .i64 wt, .int .i64 on, .int .i64 v, .int .i64 t]).tail
   generalize wr.alloc (.cells #[.int .i64 s, .int .i64 l, .int .i64 o, .int .i64 wt, .int .i64 on, .int .i64 v, .int .i64 t] 44) = W9 at kT M ⊢
   have q6 : W9.cell? ⟨wr.heap.size, 6, none⟩ = some (.int .i64 t) := kT.cell 6
   have tT := kT.lt
   have q0 : W9.cell? ⟨wr.heap.size, 0, none⟩ = some (.int .i64 s) := kT.cell 0
   have q1 : W9.cell? ⟨wr.heap.size, 1, none⟩ = some (.int .i64 l) := kT.cell 1
   have q2 : W9.cell? ⟨wr.heap.size, 2, none⟩ = some (.int .i64 o) := kT.cell 2
   have q3 : W9.cell? ⟨wr.heap.size, 3, none⟩ = some (.int .i64 wt) := kT.cell 3
   have q4 : W9.cell? ⟨wr.heap.size, 4, none⟩ = some (.int .i64 on) := kT.cell 4
   have q5 : W9.cell? ⟨wr.heap.size, 5, none⟩ = some (.int .i64 v) := kT.cell 5
   go_wp2_with fail
   go_call (waitsOn_any s l o wt on v t wk on2 _) as r W8 ⟨rfl, g1⟩
   replace M := M.call g1
   replace kT := kT.below g1 kT.lt
   clear q0 q1 q2 q3 q4 q5 q6 tT g1
   have q6 : W8.cell? ⟨wr.heap.size, 6, none⟩ = some (.int .i64 t) := kT.cell 6
   have hQ0 : waitQ ts wk on2 m = (s == 3 && (wt == wk && on == on2)) := by unfold waitQ; rw [HT.out]
   obtain ⟨bb, hbb⟩ : ∃ bb, bb = (s == 3 && (wt == wk && on == on2)) := ⟨_, rfl⟩
   rw [← hbb] at hQ0 ⊢
   have hQ := hide hQ0
   clear hQ0 hbb kT
   cases bb
   ·clear q6
    go_wp2_with fail
    go_roundw
    ·refine ⟨m + 1, A, c, ps, by go_num, by omega, hide ⟨by have := HP.out.1; omega, HP.out.2.1, ?_⟩, M⟩
     have h3 : waitQ ts wk on2 m = false := by exact hQ.out
     rw [show pick (waitQ ts wk on2) (m + 1) = pick (waitQ ts wk on2) m by simp [pick, h3]]
     exact HP.out.2.2
    ·simp [intOf]; omega
   ·go_wp2_with fail
    go_call (hpush_any ps lb A c 0 t m (by have := HP.out.1; omega) _ HP.out.2.1 (LineIn.of (rs := []) M)) as r W2 ⟨⟨v', rfl⟩, A', c', qs, hp', hh', M2⟩
    replace M := Sep.comp (ps := lineL lb A c ps) (rs := []) (by simpa using M) M2
    clear M2
    have HQ := hide (⟨hp', hh'⟩ : _ ∧ _)
    clear hp' hh'
    go_wp2_with fail
    go_roundw
    ·refine ⟨m + 1, A', c', qs, by go_num, by omega, hide ⟨?_, HQ.out.2, ?_⟩, M⟩
     ·have h1 := HQ.out.1.length_eq
      have h2 := HP.out.1
      simp at h1; omega
     ·refine HQ.out.1.trans ?_
      have h3 : waitQ ts wk on2 m = true := by exact hQ.out
      rw [show pick (waitQ ts wk on2) (m + 1) = pick (waitQ ts wk on2) m ++ [m] by simp [pick, h3], List.map_append]
      refine List.Perm.append HP.out.2.2 ?_
      simp only [List.map_cons, List.map_nil, waitPl, taskAt, Int.ofNat_eq_natCast, Int.toNat_natCast, HT.out]
      exact List.Perm.refl _
    ·simp [intOf]; omega
  ·have hme : m = ts.length := by omega
   have hmi : ¬ (m : Int) < (ts.length : Int) := by omega
   subst hme
   go_wp2_with fail
   go_ret
   exact ⟨lb, rfl, A, c, ps, HP.out.1, HP.out.2.1, HP.out.2.2, M⟩
end Go.Proofs.YtfjgelegojbmgaaGreat
