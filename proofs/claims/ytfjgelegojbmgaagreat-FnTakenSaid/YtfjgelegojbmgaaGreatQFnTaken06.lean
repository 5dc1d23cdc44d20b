/- Taken of the program and of the model answer alike. Lists no longer than a million. -/
import Derived.Test.YtfjgelegojbmgaaGreatQFnTaken01
import Derived.Test.YtfjgelegojbmgaaGreatQFnTaken02
import Derived.Test.YtfjgelegojbmgaaGreatQB13
import Derived.Test.YtfjgelegojbmgaaGreatQFnTaken05
import Derived.Test.YtfjgelegojbmgaaGreatQB11
import Derived.Shelf.Abstract
import Derived.Test.YtfjgelegojbmgaaGreatQFnTaken03
import Derived.Test.YtfjgelegojbmgaaGreatQB15

namespace Go.Proofs.YtfjgelegojbmgaaGreat
open Go.RowKit
set_option linter.unusedVariables false
theorem fit_parts {a b c d e : Int} {ts : List T7} {tn : Int} {k : Nat} {x : T7} (h : fitB a b c d e ts tn k x = true) : planB a b c d e = true ∧ btw x.s 1 5 = true ∧ btw x.l 0 (c - 1) = true ∧ ownB a x.s x.o = true ∧ waitB b d e x.s x.wt x.on = true ∧ btw x.v 0 9999 = true ∧ btw x.t 0 1000000 = true ∧ x.t < tn ∧ soloTo ts k x.s x.o = true ∧ waitsOk ts.length k x.wt x.on = true := by
 simp only [fitB, taskB, Bool.and_eq_true, decide_eq_true_eq] at h
 obtain ⟨⟨h1, h2, h3, h4, h5, h6, h7⟩, h8, h9, h10⟩ := h
 exact ⟨h1, h2, h3, h4, h5, h6, h7, h8, h9, h10⟩
theorem fit_mk {a b c d e : Int} {ts : List T7} {tn : Int} {k : Nat} {x : T7} (h1 : planB a b c d e = true) (h2 : btw x.s 1 5 = true) (h3 : btw x.l 0 (c - 1) = true) (h4 : ownB a x.s x.o = true) (h5 : waitB b d e x.s x.wt x.on = true) (h6 : btw x.v 0 9999 = true) (h7 : btw x.t 0 1000000 = true) (h8 : x.t < tn) (h9 : soloTo ts k x.s x.o = true) (h10 : waitsOk ts.length k x.wt x.on = true) : fitB a b c d e ts tn k x = true := by
 simp only [fitB, taskB, Bool.and_eq_true, decide_eq_true_eq]
 exact ⟨⟨h1, h2, h3, h4, h5, h6, h7⟩, h8, h9, h10⟩
theorem wait_run {b d e s wt on : Int} (h : waitB b d e s wt on = true) (hs : s ≠ 3) : wt = 0 ∧ on = 0 := by
 simp only [waitB, if_neg hs, Bool.and_eq_true, beq_iff_eq] at h
 exact h
theorem wait_no {b d e s : Int} (hs : s ≠ 3) : waitB b d e s 0 0 = true := by simp [waitB, hs]
theorem solo_no {ts : List T7} {k : Nat} {s o : Int} (hs : s ≠ 2) : soloTo ts k s o = true := by simp [soloTo, hs]
theorem waits_no {n k : Nat} {on : Int} : waitsOk n k 0 on = true := by simp [waitsOk]
theorem own_no {a s : Int} (hs : s ≠ 2) : ownB a s (-1) = true := by simp [ownB, hs]
theorem pool_fit {a b c d e : Int} {ts : List T7} {ks : List Int} {fs : List F2} {tn : Int} {k : Nat} {x : T7} (h : poolB a b c d e ts ks fs tn = true) (hx : ts[k]? = some x) : fitB a b c d e ts tn k x = true := (tasksB_iff ..).1 (poolB_parts h).2.2.2 k x hx
theorem give_right {a b c d e : Int} {ts : List T7} {ks : List Int} {fs : List F2} {tn : Int} {k : Nat} {s l o wt on v t : Int} (h : poolB a b c d e ts ks fs tn = true) (hx : ts[k]? = some ⟨s, l, o, wt, on, v, t⟩) (hs : s = 2) (ht : tn < 1000000) : poolB a b c d e (ts.set k ⟨1, l, -1, wt, on, v, tn⟩) ks fs (tn + 1) = true := by
 obtain ⟨h1, h2, h3, h4, h5, h6, h7, h8, h9, h10⟩ := fit_parts (pool_fit h hx)
 obtain ⟨hp, hb, _, hT⟩ := poolB_parts h
 simp only at h2 h3 h4 h5 h6 h7 h8 h9 h10
 obtain ⟨rfl, rfl⟩ := wait_run h5 (by omega)
 refine poolB_turn h (by simp) (by omega) (tasksB_set hT (by omega) (by simp) ?_)
 exact fit_mk hp (by simp [btw]) h3 (own_no (by simp)) (wait_no (by simp)) h6 (btw_t hb.1 hb.2) (by simp only; omega) (solo_no (by simp)) waits_no
theorem runM_nobody {ts : List T7} {wk i : Int} (hi : 0 ≤ i) (h : runM ts wk i = -1) : ∀ u ∈ ts, (u.s == 2 && u.o == wk) = false := by
 induction ts generalizing i with
 | nil => simp
 | cons t r ih =>
  simp only [runM] at h
  split at h
  ·omega
  ·rename_i hn
   intro u hu
   rcases List.mem_cons.1 hu with rfl | hu
   ·simpa using hn
   ·exact ih (by omega) h u hu
theorem runM_runs {ts : List T7} {wk i : Int} {k : Nat} (hi : 0 ≤ i) (h : runM ts wk i = i + k) : ∃ x, ts[k]? = some x ∧ x.s = 2 ∧ x.o = wk := by
 induction ts generalizing i k with
 | nil => simp only [runM] at h; omega
 | cons t r ih =>
  simp only [runM] at h
  split at h
  ·rename_i hm
   obtain rfl : k = 0 := by omega
   exact ⟨t, rfl, hm.1, hm.2⟩
  ·cases k with
   | zero => rcases runM_low r wk (i + 1) with h1 | h1 <;> omega
   | succ k =>
    obtain ⟨x, hx, h1⟩ := ih (i := i + 1) (k := k) (by omega) (by omega)
    exact ⟨x, by simpa using hx, h1⟩
theorem takeP_right {a b c d e : Int} {ts : List T7} {ks : List Int} {fs : List F2} {tn : Int} {k : Nat} {s l o wt on v t wk : Int} (h : poolB a b c d e ts ks fs tn = true) (hx : ts[k]? = some ⟨s, l, o, wt, on, v, t⟩) (hs : s = 1) (hw : btw wk 0 (a - 1) = true) (hr : runM ts wk 0 = -1) : poolB a b c d e (ts.set k ⟨2, l, wk, wt, on, v, t⟩) ks fs tn = true := by
 obtain ⟨h1, h2, h3, h4, h5, h6, h7, h8, h9, h10⟩ := fit_parts (pool_fit h hx)
 obtain ⟨hp, hb, _, hT⟩ := poolB_parts h
 simp only at h2 h3 h4 h5 h6 h7 h8 h9 h10
 obtain ⟨rfl, rfl⟩ := wait_run h5 (by omega)
 have hno := runM_nobody (Int.le_refl 0) hr
 refine poolB_turn h (by simp) hb ?_
 rw [tasksB_iff] at hT ⊢
 intro j u hj
 by_cases e1 : k = j
 ·subst e1
  have hl : k < ts.length := by
   rcases Nat.lt_or_ge k ts.length with h | h
   ·exact h
   ·rw [List.getElem?_eq_none h] at hx; cases hx
  rw [List.getElem?_set_self hl] at hj
  injection hj with hj
  subst hj
  refine fit_mk hp (by simp [btw]) h3 (by simpa [ownB] using hw) (wait_no (by simp)) h6 h7 h8 ?_ waits_no
  simp only [soloTo, Bool.or_eq_true, List.all_eq_true]
  refine .inr fun u hu => ?_
  rw [List.take_set_of_le (Nat.le_refl _)] at hu
  have := hno u (List.mem_of_mem_take hu)
  show (!(u.s == 2 && u.o == wk)) = true
  rw [this]
  rfl
 ·rw [List.getElem?_set_ne e1] at hj
  obtain ⟨g1, g2, g3, g4, g5, g6, g7, g8, g9, g10⟩ := fit_parts (hT j u hj)
  refine fit_mk hp g2 g3 g4 g5 g6 g7 g8 ?_ (by rw [List.length_set]; exact g10)
  simp only [soloTo, Bool.or_eq_true, List.all_eq_true] at g9 ⊢
  rcases g9 with g9 | g9
  ·exact .inl g9
  ·by_cases hu2 : u.s = 2
   ·refine .inr fun z hz => ?_
    rw [List.take_set] at hz
    rcases List.mem_or_eq_of_mem_set hz with hz | rfl
    ·exact g9 z hz
    ·have := hno u (List.mem_of_getElem? hj)
     simp only [hu2, beq_self_eq_true, Bool.true_and, beq_eq_false_iff_ne] at this
     simp only [beq_self_eq_true, Bool.true_and, Bool.not_eq_true', beq_eq_false_iff_ne]
     exact fun h => this h.symm
   ·exact .inl (by simp [hu2])
set_option maxRecDepth 100000
set_option maxHeartbeats 800000 in
theorem take_busy (ts : List T7) (ks : List Int) (fs : List F2) (A0 A1 A2 : Option Addr) (c0 c1 c2 : Nat) (tn : Int) (st : Bool) (g : Nat) (wk me : Int) (w : World) (ht : ts.length ≤ 1048576) (hk : ks.length ≤ 1048576) (hf : fs.length ≤ 1048576) (h : Sep (fps [.blk g 30 #[.slice A0 ts.length c0, .slice A1 ks.length c1, .slice A2 fs.length c2, .int .i64 tn, .bool st], rT ts.length A0 c0 ts, rK ks.length A1 c1 ks, rF fs.length A2 c2 fs]) w w [.blk g 30 #[.slice A0 ts.length c0, .slice A1 ks.length c1, .slice A2 fs.length c2, .int .i64 tn, .bool st], rT ts.length A0 c0 ts, rK ks.length A1 c1 ks, rF fs.length A2 c2 fs]) (hr : runM ts wk 0 = me) (hm : 0 ≤ me) :
 Calls Tryz.prog 70 #[.pointer (some ⟨g, 0, none⟩), .int .i64 wk] w (fun r w' => r = .panicked [{ v := .iface 128 (.int .i64 3), recovered := false }] ∧ Sep (fps [.blk g 30 #[.slice A0 ts.length c0, .slice A1 ks.length c1, .slice A2 fs.length c2, .int .i64 tn, .bool st], rT ts.length A0 c0 ts, rK ks.length A1 c1 ks, rF fs.length A2 c2 fs]) w w' []) := by
 obtain ⟨S, hS⟩ : ∃ S, S = fps [.blk g 30 #[.slice A0 ts.length c0, .slice A1 ks.length c1, .slice A2 fs.length c2, .int .i64 tn, .bool st], rT ts.length A0 c0 ts, rK ks.length A1 c1 ks, rF fs.length A2 c2 fs] := ⟨_, rfl⟩
 rw [← hS] at h ⊢
 clear hS
 have M0 := hide h
 clear h
 have hne : (me != -1) = true := by rw [bne_iff_ne]; omega
 go_enter Tryz.func70, Tryz.ntmps70
 go_wp2_with fail
 have M := M0.out.allocN 55 #[.int .i64 0, .int .i64 0]
 clear M0
 generalize w.alloc (.cells #[.int .i64 0, .int .i64 0] 55) = W1 at M ⊢
 have hR := runBy_any ts A0 A1 A2 c0 ks.length c1 fs.length c2 tn st wk g W1 ht (M.blk 1 rfl) (M.rowS 2 rfl)
 rw [hr] at hR
 refine Calls.mono (by with_reducible exact hR) ?_
 clear hR
 rintro r W2 ⟨rfl, g1⟩
 replace M := M.call g1
 clear g1
 go_wp2_with fail
 go_call (giveUp_yes 3 _) as r W ⟨rfl, rfl⟩
 go_wp2_with fail
 exact ⟨rfl, rfl, M.drop 5⟩
set_option maxHeartbeats 800000 in
theorem take_stop (ts : List T7) (ks : List Int) (fs : List F2) (A0 A1 A2 : Option Addr) (c0 c1 c2 : Nat) (tn : Int) (g : Nat) (wk : Int) (w : World) (ht : ts.length ≤ 1048576) (hk : ks.length ≤ 1048576) (hf : fs.length ≤ 1048576) (h : Sep (fps [.blk g 30 #[.slice A0 ts.length c0, .slice A1 ks.length c1, .slice A2 fs.length c2, .int .i64 tn, .bool true], rT ts.length A0 c0 ts, rK ks.length A1 c1 ks, rF fs.length A2 c2 fs]) w w [.blk g 30 #[.slice A0 ts.length c0, .slice A1 ks.length c1, .slice A2 fs.length c2, .int .i64 tn, .bool true], rT ts.length A0 c0 ts, rK ks.length A1 c1 ks, rF fs.length A2 c2 fs]) (hr : runM ts wk 0 = -1) (hfr : firstM ts = -1) :
 Calls Tryz.prog 70 #[.pointer (some ⟨g, 0, none⟩), .int .i64 wk] w (fun r w' => r = .panicked [{ v := .iface 128 (.int .i64 6), recovered := false }] ∧ Sep (fps [.blk g 30 #[.slice A0 ts.length c0, .slice A1 ks.length c1, .slice A2 fs.length c2, .int .i64 tn, .bool true], rT ts.length A0 c0 ts, rK ks.length A1 c1 ks, rF fs.length A2 c2 fs]) w w' []) := by
 obtain ⟨S, hS⟩ : ∃ S, S = fps [.blk g 30 #[.slice A0 ts.length c0, .slice A1 ks.length c1, .slice A2 fs.length c2, .int .i64 tn, .bool true], rT ts.length A0 c0 ts, rK ks.length A1 c1 ks, rF fs.length A2 c2 fs] := ⟨_, rfl⟩
 rw [← hS] at h ⊢
 clear hS
 have M0 := hide h
 clear h
 go_enter Tryz.func70, Tryz.ntmps70
 go_wp2_with fail
 have M := M0.out.allocN 55 #[.int .i64 0, .int .i64 0]
 clear M0
 generalize w.alloc (.cells #[.int .i64 0, .int .i64 0] 55) = W1 at M ⊢
 have hR := runBy_any ts A0 A1 A2 c0 ks.length c1 fs.length c2 tn true wk g W1 ht (M.blk 1 rfl) (M.rowS 2 rfl)
 rw [hr] at hR
 refine Calls.mono (by with_reducible exact hR) ?_
 clear hR
 rintro r W2 ⟨rfl, g1⟩
 replace M := M.call g1
 clear g1
 go_wp2_with fail
 go_call (giveUp_no 3 _) as r W ⟨rfl, rfl⟩
 obtain ⟨tY, Ac, Ad, Ab, Aa, Ae⟩ := M.q5 1 rfl
 go_wp2_with fail
 have hL := readyLine_p ts g A0 c0 W2 ht (M.cell 1 0 rfl) (M.rowS 2 rfl)
 refine Calls.mono (by with_reducible exact hL) ?_
 clear hL
 rintro r W3 ⟨lb, LA, lc, ps, rfl, hl, hh, hp, g1⟩
 clear tY Ac Ad Ab Aa Ae
 replace M : Sep S w W3 [.blk (lb) 121 #[.slice LA ps.length lc], rP ps.length LA lc ps, .blk (w.heap.size) 55 #[.int .i64 0, .int .i64 0], .blk (g) 30 #[.slice A0 ts.length c0, .slice A1 ks.length c1, .slice A2 fs.length c2, .int .i64 tn, .bool true], rT ts.length A0 c0 ts, rK ks.length A1 c1 ks, rF fs.length A2 c2 fs] := Sep.new M g1
 clear g1
 have hF := first_any ps LA lc (by omega) W3 (M.rowS 1 rfl)
 rw [ready_line hh hp] at hF
 change Calls _ _ _ _ (fun r w' => r = .returned (.int .i64 (firstM ts)) ∧ w' = W3) at hF
 rw [hfr] at hF
 have HF := hide hF
 clear hF hh hp hl
 obtain ⟨Af, Ag⟩ := M.q1 0 rfl
 obtain ⟨tY, Ac, Ad, Ab, Aa, Ae⟩ := M.q5 3 rfl
 go_wp2_with fail
 refine Calls.mono (by with_reducible exact HF.out) ?_
 clear HF
 rintro r WF ⟨rfl, hWF⟩
 subst hWF
 go_wp2_with fail
 go_call (giveUp_yes 6 _) as r W ⟨rfl, rfl⟩
 clear Af Ag tY Ac Ad Ab Aa Ae
 go_wp2_with fail
 exact ⟨rfl, rfl, M.drop 7⟩
set_option maxHeartbeats 800000 in
theorem take_none (ts : List T7) (ks : List Int) (fs : List F2) (A0 A1 A2 : Option Addr) (c0 c1 c2 : Nat) (tn : Int) (g : Nat) (wk : Int) (w : World) (ht : ts.length ≤ 1048576) (hk : ks.length ≤ 1048576) (hf : fs.length ≤ 1048576) (h : Sep (fps [.blk g 30 #[.slice A0 ts.length c0, .slice A1 ks.length c1, .slice A2 fs.length c2, .int .i64 tn, .bool false], rT ts.length A0 c0 ts, rK ks.length A1 c1 ks, rF fs.length A2 c2 fs]) w w [.blk g 30 #[.slice A0 ts.length c0, .slice A1 ks.length c1, .slice A2 fs.length c2, .int .i64 tn, .bool false], rT ts.length A0 c0 ts, rK ks.length A1 c1 ks, rF fs.length A2 c2 fs]) (hr : runM ts wk 0 = -1) (hfr : firstM ts = -1) :
 Calls Tryz.prog 70 #[.pointer (some ⟨g, 0, none⟩), .int .i64 wk] w (fun r w' => r = .panicked [{ v := .iface 128 (.int .i64 2), recovered := false }] ∧ Sep (fps [.blk g 30 #[.slice A0 ts.length c0, .slice A1 ks.length c1, .slice A2 fs.length c2, .int .i64 tn, .bool false], rT ts.length A0 c0 ts, rK ks.length A1 c1 ks, rF fs.length A2 c2 fs]) w w' []) := by
 obtain ⟨S, hS⟩ : ∃ S, S = fps [.blk g 30 #[.slice A0 ts.length c0, .slice A1 ks.length c1, .slice A2 fs.length c2, .int .i64 tn, .bool false], rT ts.length A0 c0 ts, rK ks.length A1 c1 ks, rF fs.length A2 c2 fs] := ⟨_, rfl⟩
 rw [← hS] at h ⊢
 clear hS
 have M0 := hide h
 clear h
 go_enter Tryz.func70, Tryz.ntmps70
 go_wp2_with fail
 have M := M0.out.allocN 55 #[.int .i64 0, .int .i64 0]
 clear M0
 generalize w.alloc (.cells #[.int .i64 0, .int .i64 0] 55) = W1 at M ⊢
 have hR := runBy_any ts A0 A1 A2 c0 ks.length c1 fs.length c2 tn false wk g W1 ht (M.blk 1 rfl) (M.rowS 2 rfl)
 rw [hr] at hR
 refine Calls.mono (by with_reducible exact hR) ?_
 clear hR
 rintro r W2 ⟨rfl, g1⟩
 replace M := M.call g1
 clear g1
 go_wp2_with fail
 go_call (giveUp_no 3 _) as r W ⟨rfl, rfl⟩
 obtain ⟨tY, Ac, Ad, Ab, Aa, Ae⟩ := M.q5 1 rfl
 go_wp2_with fail
 have hL := readyLine_p ts g A0 c0 W2 ht (M.cell 1 0 rfl) (M.rowS 2 rfl)
 refine Calls.mono (by with_reducible exact hL) ?_
 clear hL
 rintro r W3 ⟨lb, LA, lc, ps, rfl, hl, hh, hp, g1⟩
 clear tY Ac Ad Ab Aa Ae
 replace M : Sep S w W3 [.blk (lb) 121 #[.slice LA ps.length lc], rP ps.length LA lc ps, .blk (w.heap.size) 55 #[.int .i64 0, .int .i64 0], .blk (g) 30 #[.slice A0 ts.length c0, .slice A1 ks.length c1, .slice A2 fs.length c2, .int .i64 tn, .bool false], rT ts.length A0 c0 ts, rK ks.length A1 c1 ks, rF fs.length A2 c2 fs] := Sep.new M g1
 clear g1
 have hF := first_any ps LA lc (by omega) W3 (M.rowS 1 rfl)
 rw [ready_line hh hp] at hF
 change Calls _ _ _ _ (fun r w' => r = .returned (.int .i64 (firstM ts)) ∧ w' = W3) at hF
 rw [hfr] at hF
 have HF := hide hF
 clear hF hh hp hl
 obtain ⟨Af, Ag⟩ := M.q1 0 rfl
 obtain ⟨tY, Ac, Ad, Ab, Aa, Ae⟩ := M.q5 3 rfl
 go_wp2_with fail
 refine Calls.mono (by with_reducible exact HF.out) ?_
 clear HF
 rintro r WF ⟨rfl, hWF⟩
 subst hWF
 go_wp2_with fail
 go_call (giveUp_no 6 _) as r W ⟨rfl, rfl⟩
 go_wp2_with fail
 go_call (giveUp_yes 2 _) as r W ⟨rfl, rfl⟩
 clear Af Ag tY Ac Ad Ab Aa Ae
 go_wp2_with fail
 exact ⟨rfl, rfl, M.drop 7⟩
set_option maxHeartbeats 800000 in
theorem take_ok (ts : List T7) (ks : List Int) (fs : List F2) (A0 A1 A2 : Option Addr) (c0 c1 c2 : Nat) (tn : Int) (st : Bool) (g : Nat) (wk : Int) (w : World) (ht : ts.length ≤ 1048576) (hk : ks.length ≤ 1048576) (hf : fs.length ≤ 1048576) (h : Sep (fps [.blk g 30 #[.slice A0 ts.length c0, .slice A1 ks.length c1, .slice A2 fs.length c2, .int .i64 tn, .bool st], rT ts.length A0 c0 ts, rK ks.length A1 c1 ks, rF fs.length A2 c2 fs]) w w [.blk g 30 #[.slice A0 ts.length c0, .slice A1 ks.length c1, .slice A2 fs.length c2, .int .i64 tn, .bool st], rT ts.length A0 c0 ts, rK ks.length A1 c1 ks, rF fs.length A2 c2 fs]) (k : Nat) (s l o1 wt on v t : Int) (hts : ts[k]? = some ⟨s, l, o1, wt, on, v, t⟩) (hr : runM ts wk 0 = -1) (hfr : firstM ts = k) :
 Calls Tryz.prog 70 #[.pointer (some ⟨g, 0, none⟩), .int .i64 wk] w (fun r w' => ∃ (D0 D1 D2 : Option Addr) (f0 f1 f2 : Nat), r = .returned (.agg #[.int .i64 1, .int .i64 k]) ∧ Sep (fps [.blk g 30 #[.slice A0 ts.length c0, .slice A1 ks.length c1, .slice A2 fs.length c2, .int .i64 tn, .bool st], rT ts.length A0 c0 ts, rK ks.length A1 c1 ks, rF fs.length A2 c2 fs]) w w' [.blk g 30 #[.slice D0 ts.length f0, .slice D1 ks.length f1, .slice D2 fs.length f2, .int .i64 tn, .bool st], rT ts.length D0 f0 (ts.set k ⟨2, l, wk, wt, on, v, t⟩), rK ks.length D1 f1 ks, rF fs.length D2 f2 fs]) := by
 have hkl : k < ts.length := by
  rcases Nat.lt_or_ge k ts.length with h1 | h1
  ·exact h1
  ·rw [List.getElem?_eq_none h1] at hts; cases hts
 have hki : (k : Int) < (ts.length : Int) := by omega
 have hk0 : (0 : Int) ≤ (k : Int) := by omega
 have hr9 : (rT ts.length A0 c0 ts).here w := h.rowAt 1 rfl
 obtain ⟨gr, rfl, hgl, hfz9⟩ := rT_form hr9 (show 0 < ts.length by omega)
 clear hr9 hfz9 hgl
 obtain ⟨S, hS⟩ : ∃ S, S = fps [.blk g 30 #[.slice (some ⟨gr, 0, none⟩) ts.length c0, .slice A1 ks.length c1, .slice A2 fs.length c2, .int .i64 tn, .bool st], rT ts.length (some ⟨gr, 0, none⟩) c0 ts, rK ks.length A1 c1 ks, rF fs.length A2 c2 fs] := ⟨_, rfl⟩
 rw [← hS] at h ⊢
 clear hS
 have M0 := hide h
 clear h
 have hne : ((k : Int) == -1) = false := by rw [beq_eq_false_iff_ne]; omega
 have HT := hide hts
 clear hts
 go_enter Tryz.func70, Tryz.ntmps70
 go_wp2_with fail
 have M := M0.out.allocN 55 #[.int .i64 0, .int .i64 0]
 clear M0
 generalize w.alloc (.cells #[.int .i64 0, .int .i64 0] 55) = W1 at M ⊢
 have hR := runBy_any ts (some ⟨gr, 0, none⟩) A1 A2 c0 ks.length c1 fs.length c2 tn st wk g W1 ht (M.blk 1 rfl) (M.rowS 2 rfl)
 rw [hr] at hR
 refine Calls.mono (by with_reducible exact hR) ?_
 clear hR
 rintro r W2 ⟨rfl, g1⟩
 replace M := M.call g1
 clear g1
 go_wp2_with fail
 go_call (giveUp_no 3 _) as r W ⟨rfl, rfl⟩
 obtain ⟨tY, Ac, Ad, Ab, Aa, Ae⟩ := M.q5 1 rfl
 go_wp2_with fail
 have hL := readyLine_p ts g (some ⟨gr, 0, none⟩) c0 W2 ht (M.cell 1 0 rfl) (M.rowS 2 rfl)
 refine Calls.mono (by with_reducible exact hL) ?_
 clear hL
 rintro r W3 ⟨lb, LA, lc, ps, rfl, hl, hh, hp, g1⟩
 clear tY Ac Ad Ab Aa Ae
 replace M : Sep S w W3 [.blk (lb) 121 #[.slice LA ps.length lc], rP ps.length LA lc ps, .blk (w.heap.size) 55 #[.int .i64 0, .int .i64 0], .blk (g) 30 #[.slice (some ⟨gr, 0, none⟩) ts.length c0, .slice A1 ks.length c1, .slice A2 fs.length c2, .int .i64 tn, .bool st], rT ts.length (some ⟨gr, 0, none⟩) c0 ts, rK ks.length A1 c1 ks, rF fs.length A2 c2 fs] := Sep.new M g1
 clear g1
 have hF := first_any ps LA lc (by omega) W3 (M.rowS 1 rfl)
 rw [ready_line hh hp] at hF
 change Calls _ _ _ _ (fun r w' => r = .returned (.int .i64 (firstM ts)) ∧ w' = W3) at hF
 rw [hfr] at hF
 have HF := hide hF
 clear hF hh hp hl
 obtain ⟨Af, Ag⟩ := M.q1 0 rfl
 obtain ⟨tY, Ac, Ad, Ab, Aa, Ae⟩ := M.q5 3 rfl
 go_wp2_with fail
 refine Calls.mono (by with_reducible exact HF.out) ?_
 clear HF
 rintro r WF ⟨rfl, hWF⟩
 subst hWF
 go_wp2_with fail
 go_call (giveUp_no 6 _) as r W ⟨rfl, rfl⟩
 go_wp2_with fail
 go_call (giveUp_no 2 _) as r W ⟨rfl, rfl⟩
 clear Af Ag tY Ac Ad Ab Aa Ae
 obtain ⟨tY, Ac, Aj, Ad, Ap, Ab, Am, Aa, An, Ae, Ao⟩ := M.f5 3 rfl
 have fz0 : WF.frozen? ⟨gr, k * 7, none⟩ = false := Own.fz (M.rowAt 4 rfl) _
 have fz2 : WF.frozen? ⟨gr, k * 7 + 2, none⟩ = false := Own.fz (M.rowAt 4 rfl) _
 obtain ⟨s', l', o', wt', on', v', t', ht', y0, y1, y2, y3, y4, y5, y6⟩ := Own.t7 (M.rowAt 4 rfl) hkl
 go_wp2_with fail
 clear tY Ac Aj Ad Ap Ab Am Aa An Ae Ao fz0 fz2 ht' y0 y1 y2 y3 y4 y5 y6
 have N : ∃ V, ((WF.setCell ⟨gr, k * 7, none⟩ (.int .i64 2)).setCell ⟨gr, k * 7 + 2, none⟩ (.int .i64 wk)) = V ∧ Sep S w V [.blk (lb) 121 #[.slice LA ps.length lc], rP ps.length LA lc ps, .blk (w.heap.size) 55 #[.int .i64 0, .int .i64 0], .blk (g) 30 #[.slice (some ⟨gr, 0, none⟩) ts.length c0, .slice A1 ks.length c1, .slice A2 fs.length c2, .int .i64 tn, .bool st], rT ts.length (some ⟨gr, 0, none⟩) c0 (ts.set k ⟨2, l, wk, wt, on, v, t⟩), rK ks.length A1 c1 ks, rF fs.length A2 c2 fs] := ⟨_, rfl, M.putT2 4 rfl k 0 2 (by omega) (by omega) ⟨s, l, o1, wt, on, v, t⟩ 2 wk HT.out⟩
 clear M
 obtain ⟨W4, eW, M⟩ := N
 rw [eW]
 clear eW
 go_call (okWith_any k _) as r WO ⟨rfl, g1⟩
 replace M := M.call g1
 clear g1
 obtain ⟨tR, Ai, Ak, Ah, Al⟩ := M.f2 2 rfl
 go_wp2_with fail
 clear tR Ai Ak Ah Al
 have N := M.gset2 2 rfl (.int .i64 1) (.int .i64 k)
 clear M
 obtain ⟨W5, eW, M⟩ := N
 rw [eW]
 clear eW
 simp only [List.set_cons_zero, List.set_cons_succ] at M
 replace M := M.front 6 rfl
 simp only [List.eraseIdx_cons_succ, List.eraseIdx_cons_zero] at M
 replace M := M.front 6 rfl
 simp only [List.eraseIdx_cons_succ, List.eraseIdx_cons_zero] at M
 replace M := M.front 6 rfl
 simp only [List.eraseIdx_cons_succ, List.eraseIdx_cons_zero] at M
 replace M := M.front 6 rfl
 simp only [List.eraseIdx_cons_succ, List.eraseIdx_cons_zero] at M
 obtain ⟨tR, Ai, Ah⟩ := M.q2 6 rfl
 exact bodyPost_ret (by simp [results, Tryz.results70, go_sem, Ai, Ah]) rfl ⟨(some ⟨gr, 0, none⟩), A1, A2, c0, c1, c2, rfl, M.take 4⟩
set_option maxRecDepth 100000
theorem firstM_none {ts : List T7} (h : firstM ts < 0) : firstM ts = -1 := by
 unfold firstM at h ⊢
 cases hr : readyM ts with
 | nil => rfl
 | cons j r =>
  rw [hr] at h
  obtain ⟨k, hk, _⟩ := lineM_mem _ _ _ j (show j ∈ readyM ts by rw [hr]; simp)
  simp at h
  omega
theorem firstM_ready {ts : List T7} (h : ¬ firstM ts < 0) : ∃ (k : Nat) (s l o wt on v t : Int), firstM ts = k ∧ ts[k]? = some ⟨s, l, o, wt, on, v, t⟩ ∧ s = 1 := by
 unfold firstM at h ⊢
 cases hr : readyM ts with
 | nil => rw [hr] at h; simp at h
 | cons j r =>
  have hj : j ∈ readyM ts := by rw [hr]; simp
  unfold readyM at hj
  rw [(lineM_perm _ _ _).mem_iff] at hj
  obtain ⟨k, hk, rfl⟩ := List.mem_map.1 hj
  obtain ⟨h1, h2⟩ := pick_mem hk
  refine ⟨k, ts[k].s, ts[k].l, ts[k].o, ts[k].wt, ts[k].on, ts[k].v, ts[k].t, rfl, List.getElem?_eq_getElem h1, ?_⟩
  have e : ts.getD k default = ts[k] := by rw [List.getD_eq_getElem?_getD, List.getElem?_eq_getElem h1]; rfl
  simp only [readyQ, e, beq_iff_eq] at h2
  exact h2
set_option maxHeartbeats 400000 in
theorem takenC_no (ts : List T7) (ks : List Int) (fs : List F2) (C0 C1 C2 : Option Addr) (e0 e1 e2 : Nat) (tn : Int) (st : Bool) (g : Nat) (wk : Int) (bwk : Nat) (rp : Int) (V : World) (h : Sep (fps [.blk g 30 #[.slice C0 ts.length e0, .slice C1 ks.length e1, .slice C2 fs.length e2, .int .i64 tn, .bool st], rT ts.length C0 e0 ts, rK ks.length C1 e1 ks, rF fs.length C2 e2 fs]) V V [.blk g 30 #[.slice C0 ts.length e0, .slice C1 ks.length e1, .slice C2 fs.length e2, .int .i64 tn, .bool st], rT ts.length C0 e0 ts, rK ks.length C1 e1 ks, rF fs.length C2 e2 fs]) (hwk : V.cell? ⟨bwk, 0, none⟩ = some (.int .i64 wk)) (lwk : bwk < V.heap.size)
 (hb : ∀ V', Sep (fps [.blk g 30 #[.slice C0 ts.length e0, .slice C1 ks.length e1, .slice C2 fs.length e2, .int .i64 tn, .bool st], rT ts.length C0 e0 ts, rK ks.length C1 e1 ks, rF fs.length C2 e2 fs]) V' V' [.blk g 30 #[.slice C0 ts.length e0, .slice C1 ks.length e1, .slice C2 fs.length e2, .int .i64 tn, .bool st], rT ts.length C0 e0 ts, rK ks.length C1 e1 ks, rF fs.length C2 e2 fs] → Calls Tryz.prog 70 #[.pointer (some ⟨g, 0, none⟩), .int .i64 wk] V' (fun r w' => r = .panicked [{ v := .iface 128 (.int .i64 rp), recovered := false }] ∧ Sep (fps [.blk g 30 #[.slice C0 ts.length e0, .slice C1 ks.length e1, .slice C2 fs.length e2, .int .i64 tn, .bool st], rT ts.length C0 e0 ts, rK ks.length C1 e1 ks, rF fs.length C2 e2 fs]) V' w' [])) :
 Calls Tryz.prog 69 (#[.pointer (some ⟨g, 0, none⟩)] ++ #[.pointer (some ⟨bwk, 0, none⟩)]) V (fun r w' => r = .panicked [{ v := .iface 128 (.int .i64 rp), recovered := false }] ∧ Sep (fps [.blk g 30 #[.slice C0 ts.length e0, .slice C1 ks.length e1, .slice C2 fs.length e2, .int .i64 tn, .bool st], rT ts.length C0 e0 ts, rK ks.length C1 e1 ks, rF fs.length C2 e2 fs]) V w' []) := by
 have H := hide h
 clear h
 show Calls Tryz.prog 69 #[.pointer (some ⟨g, 0, none⟩), .pointer (some ⟨bwk, 0, none⟩)] V _
 go_enter Tryz.func69, Tryz.ntmps69
 go_wp2_with fail
 have M := (H.out.allocN 55 #[.int .i64 0, .int .i64 0]).rot
 generalize V.alloc (.cells #[.int .i64 0, .int .i64 0] 55) = W1 at M ⊢
 refine Calls.mono (by with_reducible exact (hb W1 (Sep.same M (Below.refl _ _)))) ?_
 rintro r W2 ⟨rfl, g1⟩
 have M2 := Sep.comp M g1
 clear M g1
 go_wp2_with fail
 exact ⟨rfl, rfl, M2.drop 1⟩
set_option maxHeartbeats 400000 in
theorem takenC_yes (ts : List T7) (ks : List Int) (fs : List F2) (C0 C1 C2 : Option Addr) (e0 e1 e2 : Nat) (tn : Int) (st : Bool) (g : Nat) (wk : Int) (bwk : Nat) (o : OutP) (V : World) (h : Sep (fps [.blk g 30 #[.slice C0 ts.length e0, .slice C1 ks.length e1, .slice C2 fs.length e2, .int .i64 tn, .bool st], rT ts.length C0 e0 ts, rK ks.length C1 e1 ks, rF fs.length C2 e2 fs]) V V [.blk g 30 #[.slice C0 ts.length e0, .slice C1 ks.length e1, .slice C2 fs.length e2, .int .i64 tn, .bool st], rT ts.length C0 e0 ts, rK ks.length C1 e1 ks, rF fs.length C2 e2 fs]) (hwk : V.cell? ⟨bwk, 0, none⟩ = some (.int .i64 wk)) (lwk : bwk < V.heap.size)
 (hb : ∀ V', Sep (fps [.blk g 30 #[.slice C0 ts.length e0, .slice C1 ks.length e1, .slice C2 fs.length e2, .int .i64 tn, .bool st], rT ts.length C0 e0 ts, rK ks.length C1 e1 ks, rF fs.length C2 e2 fs]) V' V' [.blk g 30 #[.slice C0 ts.length e0, .slice C1 ks.length e1, .slice C2 fs.length e2, .int .i64 tn, .bool st], rT ts.length C0 e0 ts, rK ks.length C1 e1 ks, rF fs.length C2 e2 fs] → Calls Tryz.prog 70 #[.pointer (some ⟨g, 0, none⟩), .int .i64 wk] V' (fun r w' => ∃ (D0 D1 D2 : Option Addr) (f0 f1 f2 : Nat), r = .returned (.agg #[.int .i64 o.rp, .int .i64 o.ou]) ∧ Sep (fps [.blk g 30 #[.slice C0 ts.length e0, .slice C1 ks.length e1, .slice C2 fs.length e2, .int .i64 tn, .bool st], rT ts.length C0 e0 ts, rK ks.length C1 e1 ks, rF fs.length C2 e2 fs]) V' w' [.blk g 30 #[.slice D0 o.ts.length f0, .slice D1 o.ks.length f1, .slice D2 o.fs.length f2, .int .i64 o.tn, .bool o.st], rT o.ts.length D0 f0 o.ts, rK o.ks.length D1 f1 o.ks, rF o.fs.length D2 f2 o.fs])) :
 Calls Tryz.prog 69 (#[.pointer (some ⟨g, 0, none⟩)] ++ #[.pointer (some ⟨bwk, 0, none⟩)]) V (fun r w' => ∃ (D0 D1 D2 : Option Addr) (f0 f1 f2 : Nat), r = .returned (.agg #[.int .i64 o.rp, .int .i64 o.ou]) ∧ Sep (fps [.blk g 30 #[.slice C0 ts.length e0, .slice C1 ks.length e1, .slice C2 fs.length e2, .int .i64 tn, .bool st], rT ts.length C0 e0 ts, rK ks.length C1 e1 ks, rF fs.length C2 e2 fs]) V w' [.blk g 30 #[.slice D0 o.ts.length f0, .slice D1 o.ks.length f1, .slice D2 o.fs.length f2, .int .i64 o.tn, .bool o.st], rT o.ts.length D0 f0 o.ts, rK o.ks.length D1 f1 o.ks, rF o.fs.length D2 f2 o.fs]) := by
 have H := hide h
 clear h
 show Calls Tryz.prog 69 #[.pointer (some ⟨g, 0, none⟩), .pointer (some ⟨bwk, 0, none⟩)] V _
 go_enter Tryz.func69, Tryz.ntmps69
 go_wp2_with fail
 have M := (H.out.allocN 55 #[.int .i64 0, .int .i64 0]).rot
 generalize V.alloc (.cells #[.int .i64 0, .int .i64 0] 55) = W1 at M ⊢
 refine Calls.mono (by with_reducible exact (hb W1 (Sep.same M (Below.refl _ _)))) ?_
 rintro r W2 ⟨D0, D1, D2, f0, f1, f2, rfl, g1⟩
 have M2 := Sep.comp M g1
 clear M g1
 simp only [List.cons_append, List.nil_append] at M2
 obtain ⟨tR, Ab, Ae, Aa, Ai⟩ := M2.f2 4 rfl
 go_wp2_with fail
 have N := M2.gset2 4 rfl (.int .i64 o.rp) (.int .i64 o.ou)
 clear M2 Ab Aa Ae Ai tR
 obtain ⟨W3, eW, M⟩ := N
 rw [eW]
 clear eW
 simp only [List.set_cons_zero, List.set_cons_succ] at M
 obtain ⟨tR, Ab, Aa⟩ := M.q2 4 rfl
 exact bodyPost_ret (by simp [results, Tryz.results69, go_sem, Ab, Aa]) rfl ⟨D0, D1, D2, f0, f1, f2, rfl, M.take 4⟩
set_option maxHeartbeats 800000 in
theorem gTaken_face (a b c d e : Int) (ts : List T7) (ks : List Int) (fs : List F2) (A0 A1 A2 : Option Addr) (c0 c1 c2 : Nat) (tn : Int) (st : Bool) (wk : Int) (w : World) (ht : ts.length ≤ 1048576) (hk : ks.length ≤ 1048576) (hf : fs.length ≤ 1048576) (h : InPool w ts ks fs A0 A1 A2) (o : OutP)
 (hL : ∀ (V : World) (bwk : Nat), Below w.heap.size w V → V.cell? ⟨bwk, 0, none⟩ = some (.int .i64 wk) → bwk < V.heap.size → Calls Tryz.prog 68 #[.agg #[.int .i64 a, .int .i64 b, .int .i64 c, .int .i64 d, .int .i64 e], .agg #[.slice A0 ts.length c0, .slice A1 ks.length c1, .slice A2 fs.length c2, .int .i64 tn, .bool st], .int .i64 wk, .func (.func 69) #[] #[.pointer (some ⟨bwk, 0, none⟩)]] V (GaveS [] V o)) :
 Calls Tryz.prog 28 #[.agg #[.int .i64 a, .int .i64 b, .int .i64 c, .int .i64 d, .int .i64 e], .agg #[.slice A0 ts.length c0, .slice A1 ks.length c1, .slice A2 fs.length c2, .int .i64 tn, .bool st], .int .i64 wk] w (GaveS [] w o) := by
 have hmf : ∀ (fn : Fn) (first cap : Array Value) (w : World), (Instr.makeFunc fn first cap).run Tryz.prog w = .ok (.func fn first cap) w := fun _ _ _ _ => rfl
 have HL := hide hL
 have H := hide h
 clear h hL
 go_enter Tryz.func28, Tryz.ntmps28
 go_wp2_with fail
 generalize hW : ((((w.alloc _).alloc _).alloc _).alloc _).alloc _ = W1
 have M := Sep.e5 hW
 clear hW
 obtain ⟨tS, Ah, Al, Ad, Aj⟩ := M.f2 0 rfl
 obtain ⟨tR, Ab, Ae, Aa, Ai, Ag, An, Ac, Ak, Af, Am⟩ := M.f5 1 rfl
 obtain ⟨tVwk, qVwk0, fVwk0⟩ := M.f1 2 rfl
 obtain ⟨tX, Ar, Bh, Ap, Bb, Be, Aq, Ba, Bg, As, Ay⟩ := M.f5 3 rfl
 obtain ⟨tP, Az, Bc, Bd, Av, Bf, Ao, Au, Ax, At, Aw⟩ := M.f5 4 rfl
 go_wp2_with fail
 have hC := HL.out _ (w.heap.size + 2) M.below (M.cell 2 0 rfl) (M.lt 2 rfl)
 refine Calls.mono (by with_reducible exact hC) ?_
 clear hC
 rintro r W2 ⟨B0, B1, B2, d0, d1, d2, rfl, g1⟩
 clear tS Ah Al Ad Aj tR Ab Ae Aa Ai Ag An Ac Ak Af Am tVwk qVwk0 fVwk0 tX Ar Bh Ap Bb Be Aq Ba Bg As Ay tP Az Bc Bd Av Bf Ao Au Ax At Aw
 replace M := Sep.new M g1
 simp only [List.cons_append, List.nil_append] at M
 clear g1
 obtain ⟨tS, Ah, Al, Ad, Aj⟩ := M.f2 3 rfl
 obtain ⟨tR, Ab, Ae, Aa, Ai, Ag, An, Ac, Ak, Af, Am⟩ := M.f5 4 rfl
 go_wp2_with fail
 clear tS Ah Al Ad Aj tR Ab Ae Aa Ai Ag An Ac Ak Af Am
 have N := M.gset5 4 rfl (.slice B0 o.ts.length d0) (.slice B1 o.ks.length d1) (.slice B2 o.fs.length d2) (.int .i64 o.tn) (.bool o.st)
 clear M
 obtain ⟨W3, eW, M⟩ := N
 rw [eW]
 clear eW
 simp only [List.set_cons_zero, List.set_cons_succ] at M
 have N := M.gset2 3 rfl (.int .i64 o.rp) (.int .i64 o.ou)
 clear M
 obtain ⟨W4, eW, M⟩ := N
 rw [eW]
 clear eW
 simp only [List.set_cons_zero, List.set_cons_succ] at M
 obtain ⟨tS, Ah, Ad⟩ := M.q2 3 rfl
 obtain ⟨tR, Ab, Aa, Ag, Ac, Af⟩ := M.q5 4 rfl
 exact bodyPost_ret (by simp [results, Tryz.results28, go_sem, Ab, Aa, Ag, Ac, Af, Ah, Ad]) rfl ⟨B0, B1, B2, d0, d1, d2, rfl, M.take 3⟩
theorem taken_told (a b c d e : Int) (ts : List T7) (ks : List Int) (fs : List F2) (tn : Int) (st : Bool) (wk : Int) (hl : ts.length + ks.length + fs.length ≤ 1048576) :
 ∃ (us : List T7) (ks2 : List Int) (fs2 : List F2) (tn2 : Int) (st2 : Bool) (rp ou : Int), us.length + ks2.length + fs2.length ≤ 1048576 ∧
 ((rp = 1 → ∃ (k : Nat) (x : T7), ou = k ∧ firstM ts = k ∧ ts[k]? = some x ∧ x.s = 1 ∧ us = ts.set k ⟨2, x.l, wk, x.wt, x.on, x.v, x.t⟩ ∧ ks2 = ks ∧ fs2 = fs ∧ tn2 = tn ∧ st2 = st ∧ runM ts wk 0 = -1 ∧ poolB a b c d e us ks2 fs2 tn2 = true) ∧ (rp ≠ 1 → poolB a b c d e ts ks fs tn = true → us = ts ∧ ks2 = ks ∧ fs2 = fs ∧ tn2 = tn ∧ st2 = st ∧ (btw wk 0 (a - 1) = true → (firstM ts = -1 ∨ 0 ≤ runM ts wk 0) ∧ (0 ≤ runM ts wk 0 → rp = 3)))) ∧
 Hid (∀ (A0 A1 A2 : Option Addr) (c0 c1 c2 : Nat) (w : World), InPool w ts ks fs A0 A1 A2 → Calls Tryz.prog 29 #[.agg #[.int .i64 a, .int .i64 b, .int .i64 c, .int .i64 d, .int .i64 e], .agg #[.slice A0 ts.length c0, .slice A1 ks.length c1, .slice A2 fs.length c2, .int .i64 tn, .bool st], .int .i64 wk] w (GaveA us ks2 fs2 tn2 st2 rp ou w)) ∧
 Hid (∀ (A0 A1 A2 : Option Addr) (c0 c1 c2 : Nat) (w : World), InPool w ts ks fs A0 A1 A2 → Calls Tryz.prog 28 #[.agg #[.int .i64 a, .int .i64 b, .int .i64 c, .int .i64 d, .int .i64 e], .agg #[.slice A0 ts.length c0, .slice A1 ks.length c1, .slice A2 fs.length c2, .int .i64 tn, .bool st], .int .i64 wk] w (GaveA us ks2 fs2 tn2 st2 rp ou w)) := by
 have ht : ts.length ≤ 1048576 := by omega
 have hk : ks.length ≤ 1048576 := by omega
 have hf : fs.length ≤ 1048576 := by omega
 cases hp : poolB a b c d e ts ks fs tn
 ·exact ⟨[], [], [], 0, false, 8, 0, by simp, ⟨(fun h => by omega), (fun _ h => by cases h)⟩, hide (fun A0 A1 A2 c0 c1 c2 w h => (taken_may a b c d e ts ks fs A0 A1 A2 c0 c1 c2 tn st wk w ht hk hf h _ rfl (by simp [mayB, hp])).mono (fun r w' hh => by rw [hp] at hh; exact hh)), hide (fun A0 A1 A2 c0 c1 c2 w h => gTaken_face a b c d e ts ks fs A0 A1 A2 c0 c1 c2 tn st wk w ht hk hf h ⟨[], [], [], 0, false, 8, 0⟩ (fun V bwk hV hwk lwk => lived_bad a b c d e ts ks fs A0 A1 A2 c0 c1 c2 tn st wk 69 #[.pointer (some ⟨bwk, 0, none⟩)] (Go.Proofs.enters_of Tryz.func69 (by kernel_rfl) rfl) V ht hk hf (h.below hV) hp))⟩
 have hpl := (poolB_parts hp).1
 have hT := (poolB_parts hp).2.1
 cases hw : btw wk 0 (a - 1)
 ·exact ⟨ts, ks, fs, tn, st, 8, 0, hl, ⟨(fun h => by omega), fun _ _ => ⟨rfl, rfl, rfl, rfl, rfl, (fun h => by cases h)⟩⟩, hide (fun A0 A1 A2 c0 c1 c2 w h => (taken_may a b c d e ts ks fs A0 A1 A2 c0 c1 c2 tn st wk w ht hk hf h _ rfl (by simp [mayB, workB, hp, hw])).mono (fun r w' hh => by rw [hp] at hh; exact hh)), hide (fun A0 A1 A2 c0 c1 c2 w h => gTaken_face a b c d e ts ks fs A0 A1 A2 c0 c1 c2 tn st wk w ht hk hf h ⟨ts, ks, fs, tn, st, 8, 0⟩ (fun V bwk hV hwk lwk => lived_worker a b c d e ts ks fs A0 A1 A2 c0 c1 c2 tn st wk 69 #[.pointer (some ⟨bwk, 0, none⟩)] (Go.Proofs.enters_of Tryz.func69 (by kernel_rfl) rfl) V ht hk hf (h.below hV) hp hw))⟩
 have hm : mayB a b c d e ts ks fs tn wk = true := by simp [mayB, workB, hp, hw, hpl]
 by_cases h0 : 0 ≤ runM ts wk 0
 ·exact ⟨ts, ks, fs, tn, st, 3, 0, hl, ⟨(fun h => by omega), fun _ _ => ⟨rfl, rfl, rfl, rfl, rfl, fun _ => ⟨.inr h0, fun _ => rfl⟩⟩⟩, hide (fun A0 A1 A2 c0 c1 c2 w h => (taken_busy a b c d e ts ks fs A0 A1 A2 c0 c1 c2 tn st wk w ht hk hf h _ rfl hm _ rfl h0).mono (fun r w' hh => by rw [hp] at hh; exact hh)), hide (fun A0 A1 A2 c0 c1 c2 w h => gTaken_face a b c d e ts ks fs A0 A1 A2 c0 c1 c2 tn st wk w ht hk hf h ⟨ts, ks, fs, tn, st, 3, 0⟩ (fun V bwk hV hwk lwk => lived_no a b c d e ts ks fs A0 A1 A2 c0 c1 c2 tn st wk 69 #[.pointer (some ⟨bwk, 0, none⟩)] (Go.Proofs.enters_of Tryz.func69 (by kernel_rfl) rfl) V ht hk hf (h.below hV) hp hw 3 (fun V2 g C0 C1 C2 e0 e1 e2 hV2 hM => takenC_no ts ks fs C0 C1 C2 e0 e1 e2 tn st g wk bwk 3 V2 hM ((hV2.cell (p := ⟨bwk, 0, none⟩) lwk).trans hwk) (Nat.lt_of_lt_of_le lwk hV2.size) (fun V3 hM3 => take_busy ts ks fs C0 C1 C2 e0 e1 e2 tn st g wk _ V3 ht hk hf hM3 rfl h0))))⟩
 have hr := runM_none (show runM ts wk 0 < 0 by omega)
 by_cases h1 : firstM ts < 0
 ·have hfr := firstM_none h1
  cases st
  ·exact ⟨ts, ks, fs, tn, false, 2, 0, hl, ⟨(fun h => by omega), fun _ _ => ⟨rfl, rfl, rfl, rfl, rfl, fun _ => ⟨.inl hfr, fun h => absurd h h0⟩⟩⟩, hide (fun A0 A1 A2 c0 c1 c2 w h => (taken_none a b c d e ts ks fs A0 A1 A2 c0 c1 c2 tn wk w ht hk hf h _ rfl hm _ rfl (by omega) h1).mono (fun r w' hh => by rw [hp] at hh; exact hh)), hide (fun A0 A1 A2 c0 c1 c2 w h => gTaken_face a b c d e ts ks fs A0 A1 A2 c0 c1 c2 tn false wk w ht hk hf h ⟨ts, ks, fs, tn, false, 2, 0⟩ (fun V bwk hV hwk lwk => lived_no a b c d e ts ks fs A0 A1 A2 c0 c1 c2 tn false wk 69 #[.pointer (some ⟨bwk, 0, none⟩)] (Go.Proofs.enters_of Tryz.func69 (by kernel_rfl) rfl) V ht hk hf (h.below hV) hp hw 2 (fun V2 g C0 C1 C2 e0 e1 e2 hV2 hM => takenC_no ts ks fs C0 C1 C2 e0 e1 e2 tn false g wk bwk 2 V2 hM ((hV2.cell (p := ⟨bwk, 0, none⟩) lwk).trans hwk) (Nat.lt_of_lt_of_le lwk hV2.size) (fun V3 hM3 => take_none ts ks fs C0 C1 C2 e0 e1 e2 tn g wk V3 ht hk hf hM3 hr hfr))))⟩
  ·exact ⟨ts, ks, fs, tn, true, 6, 0, hl, ⟨(fun h => by omega), fun _ _ => ⟨rfl, rfl, rfl, rfl, rfl, fun _ => ⟨.inl hfr, fun h => absurd h h0⟩⟩⟩, hide (fun A0 A1 A2 c0 c1 c2 w h => (taken_stop a b c d e ts ks fs A0 A1 A2 c0 c1 c2 tn wk w ht hk hf h _ rfl hm _ rfl (by omega) h1).mono (fun r w' hh => by rw [hp] at hh; exact hh)), hide (fun A0 A1 A2 c0 c1 c2 w h => gTaken_face a b c d e ts ks fs A0 A1 A2 c0 c1 c2 tn true wk w ht hk hf h ⟨ts, ks, fs, tn, true, 6, 0⟩ (fun V bwk hV hwk lwk => lived_no a b c d e ts ks fs A0 A1 A2 c0 c1 c2 tn true wk 69 #[.pointer (some ⟨bwk, 0, none⟩)] (Go.Proofs.enters_of Tryz.func69 (by kernel_rfl) rfl) V ht hk hf (h.below hV) hp hw 6 (fun V2 g C0 C1 C2 e0 e1 e2 hV2 hM => takenC_no ts ks fs C0 C1 C2 e0 e1 e2 tn true g wk bwk 6 V2 hM ((hV2.cell (p := ⟨bwk, 0, none⟩) lwk).trans hwk) (Nat.lt_of_lt_of_le lwk hV2.size) (fun V3 hM3 => take_stop ts ks fs C0 C1 C2 e0 e1 e2 tn g wk V3 ht hk hf hM3 hr hfr))))⟩
 obtain ⟨k, s, l, o1, wt, on, v, t, hfr, hts, hs1⟩ := firstM_ready h1
 have hz := takeP_right hp hts hs1 hw hr
 exact ⟨ts.set k ⟨2, l, wk, wt, on, v, t⟩, ks, fs, tn, st, 1, k, by simpa using hl, ⟨fun _ => ⟨k, ⟨s, l, o1, wt, on, v, t⟩, rfl, hfr, hts, hs1, rfl, rfl, rfl, rfl, rfl, hr, hz⟩, fun h => absurd rfl h⟩, hide (fun A0 A1 A2 c0 c1 c2 w h => (taken_main a b c d e ts ks fs A0 A1 A2 c0 c1 c2 tn st wk w ht hk hf h k s l o1 wt on v t hts hfr hm _ hr (by omega)).mono (fun r w' hh => by rw [hz] at hh; exact hh)), hide (fun A0 A1 A2 c0 c1 c2 w h => gTaken_face a b c d e ts ks fs A0 A1 A2 c0 c1 c2 tn st wk w ht hk hf h ⟨ts.set k ⟨2, l, wk, wt, on, v, t⟩, ks, fs, tn, st, 1, k⟩ (fun V bwk hV hwk lwk => lived_yes a b c d e ts ks fs A0 A1 A2 c0 c1 c2 tn st wk 69 #[.pointer (some ⟨bwk, 0, none⟩)] (Go.Proofs.enters_of Tryz.func69 (by kernel_rfl) rfl) V ht hk hf (h.below hV) hp hw _ (fun V2 g C0 C1 C2 e0 e1 e2 hV2 hM => takenC_yes ts ks fs C0 C1 C2 e0 e1 e2 tn st g wk bwk _ V2 hM ((hV2.cell (p := ⟨bwk, 0, none⟩) lwk).trans hwk) (Nat.lt_of_lt_of_le lwk hV2.size) (fun V3 hM3 => by have h9 := take_ok ts ks fs C0 C1 C2 e0 e1 e2 tn st g wk V3 ht hk hf hM3 k s l o1 wt on v t hts hr hfr; rw [show (ts.set k ⟨2, l, wk, wt, on, v, t⟩).length = ts.length from List.length_set]; exact h9))))⟩
end Go.Proofs.YtfjgelegojbmgaaGreat
