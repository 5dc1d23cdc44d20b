import Derived.Test.YtfkdfkoigojciaaGreatDoorQU25

namespace Go.Proofs.YtfkdfkoigojciaaGreatDoor
open Go.RowKit
set_option linter.unusedVariables false
set_option maxHeartbeats 800000
set_option maxRecDepth 100000
theorem wait_line {ts : List T7} {wt on : Int} {ps : List P3} (hh : HeapL ps) (hp : ps.Perm ((pick (waitQ ts wt on) ts.length).map fun k => waitPl ts (Int.ofNat k))) : (ps.map P3.i).headD (-1) = (waitersM ts wt on).headD (-1) := by
 refine line_first (waitQ ts wt on) (waitP ts) (waitPl ts) (fun _ => rfl) (fun k j hj => ?_) ts.length ps hh hp
 have hk : taskAt ts (k : Int) = ts.getD k default := by simp only [taskAt, Int.toNat_natCast]
 simp only [waitP, waitPl, aheadP, if_true, hk]
 split
 ·rename_i h
  rw [h]
  simp; omega
 ·rfl
theorem rK_get {W : World} {n c g k : Nat} {ks : List Int} {u : Int} (h : (rK n (some ⟨g, 0, none⟩) c ks).here W) (hk : ks[k]? = some u) : W.cell? ⟨g, k, none⟩ = some (.int .i64 u) := by
 have hkl : k < ks.length := by
  rcases Nat.lt_or_ge k ks.length with h1 | h1
  ·exact h1
  ·rw [List.getElem?_eq_none h1] at hk; cases hk
 obtain ⟨v, hv, hc⟩ := Own.i1 h hkl
 rw [hk] at hv
 injection hv with hv
 subst hv
 exact hc
theorem up_kind (ts : List T7) (ks : List Int) (fs : List F2) (A0 A1 A2 : Option Addr) (c0 c1 c2 : Nat) (tn : Int) (st : Bool) (g : Nat) (a b c d e id fr : Int) (w : World) (ht : ts.length ≤ 1048576) (hk : ks.length ≤ 1048576) (hf : fs.length ≤ 1048576) (h : Sep (fps [.blk g 35 #[.slice A0 ts.length c0, .slice A1 ks.length c1, .slice A2 fs.length c2, .int .i64 tn, .bool st], rT ts.length A0 c0 ts, rK ks.length A1 c1 ks, rF fs.length A2 c2 fs]) w w [.blk g 35 #[.slice A0 ts.length c0, .slice A1 ks.length c1, .slice A2 fs.length c2, .int .i64 tn, .bool st], rT ts.length A0 c0 ts, rK ks.length A1 c1 ks, rF fs.length A2 c2 fs]) (pd1 : 0 ≤ d) (pd2 : d ≤ 30) (hfr : (waitersM ts 2 id).headD (-1) = fr) (hi : btw id 0 (d - 1) = false) :
 Calls Tryz.prog 91 #[.pointer (some ⟨g, 0, none⟩), .agg #[.int .i64 a, .int .i64 b, .int .i64 c, .int .i64 d, .int .i64 e], .int .i64 id] w (fun r w' => r = .returned (.iface 133 (.int .i64 8)) ∧ Sep (fps [.blk g 35 #[.slice A0 ts.length c0, .slice A1 ks.length c1, .slice A2 fs.length c2, .int .i64 tn, .bool st], rT ts.length A0 c0 ts, rK ks.length A1 c1 ks, rF fs.length A2 c2 fs]) w w' []) := by
 obtain ⟨S, hS⟩ : ∃ S, S = fps [.blk g 35 #[.slice A0 ts.length c0, .slice A1 ks.length c1, .slice A2 fs.length c2, .int .i64 tn, .bool st], rT ts.length A0 c0 ts, rK ks.length A1 c1 ks, rF fs.length A2 c2 fs] := ⟨_, rfl⟩
 rw [← hS] at h ⊢
 clear hS
 have M0 := hide h
 clear h
 go_enter Tryz.func91, Tryz.ntmps91
 go_wp2_with fail
 have M := M0.out.allocN 28 #[.int .i64 a, .int .i64 b, .int .i64 c, .int .i64 d, .int .i64 e]
 clear M0
 generalize w.alloc (.cells #[.int .i64 a, .int .i64 b, .int .i64 c, .int .i64 d, .int .i64 e] 28) = W1 at M ⊢
 obtain ⟨tY, Ab, Ae, Ad, Ac, Aa⟩ := M.q5 1 rfl
 have hL := waitersOn_p ts g A0 c0 2 id W1 ht (M.cell 1 0 rfl) (M.rowS 2 rfl)
 refine Calls.mono (by with_reducible exact hL) ?_
 clear hL
 rintro r W2 ⟨lb, LA, lc, ps, rfl, hl, hh, hp, g1⟩
 clear tY Ab Ae Ad Ac Aa
 replace M : Sep S w W2 [.blk (lb) 149 #[.slice LA ps.length lc], rP ps.length LA lc ps, .blk (w.heap.size) 28 #[.int .i64 a, .int .i64 b, .int .i64 c, .int .i64 d, .int .i64 e], .blk (g) 35 #[.slice A0 ts.length c0, .slice A1 ks.length c1, .slice A2 fs.length c2, .int .i64 tn, .bool st], rT ts.length A0 c0 ts, rK ks.length A1 c1 ks, rF fs.length A2 c2 fs] := Sep.new M g1
 clear g1
 have hF := first_any ps LA lc (by omega) W2 (M.rowS 1 rfl)
 rw [wait_line hh hp, hfr] at hF
 have HF := hide hF
 clear hF hh hp hl
 obtain ⟨Al, Ak⟩ := M.q1 0 rfl
 go_wp2_with fail
 refine Calls.mono (by with_reducible exact HF.out) ?_
 clear HF
 rintro r WF ⟨rfl, hWF⟩
 subst hWF
 clear Al Ak
 obtain ⟨tP, Ag, Ah, Ai, Aj, Af⟩ := M.q5 2 rfl
 go_wp2_with fail
 have hC := fun V => hasKind_any a b c d e id V pd1 pd2
 rw [hi] at hC
 refine Calls.mono (by with_reducible exact hC _) ?_
 clear hC
 rintro r W3 ⟨rfl, g1⟩
 clear tP Ag Ah Ai Aj Af
 replace M := M.call g1
 clear g1
 go_wp2_with fail
 go_ret
 exact ⟨rfl, M.drop 7⟩
theorem up_wake (ts : List T7) (ks : List Int) (fs : List F2) (A0 A1 A2 : Option Addr) (c0 c1 c2 : Nat) (tn : Int) (st : Bool) (g : Nat) (a b c d e id : Int) (j : Nat) (s l o1 wt on v t : Int) (w : World) (ht : ts.length ≤ 1048576) (hk : ks.length ≤ 1048576) (hf : fs.length ≤ 1048576) (h : Sep (fps [.blk g 35 #[.slice A0 ts.length c0, .slice A1 ks.length c1, .slice A2 fs.length c2, .int .i64 tn, .bool st], rT ts.length A0 c0 ts, rK ks.length A1 c1 ks, rF fs.length A2 c2 fs]) w w [.blk g 35 #[.slice A0 ts.length c0, .slice A1 ks.length c1, .slice A2 fs.length c2, .int .i64 tn, .bool st], rT ts.length A0 c0 ts, rK ks.length A1 c1 ks, rF fs.length A2 c2 fs]) (pd1 : 0 ≤ d) (pd2 : d ≤ 30) (t0 : 0 ≤ tn) (hjl : j < ts.length) (hts : ts[j]? = some ⟨s, l, o1, wt, on, v, t⟩) (hc : canB ts j 0 tn = true) (hfr : (waitersM ts 2 id).headD (-1) = (j : Int)) (hi : btw id 0 (d - 1) = true) :
 Calls Tryz.prog 91 #[.pointer (some ⟨g, 0, none⟩), .agg #[.int .i64 a, .int .i64 b, .int .i64 c, .int .i64 d, .int .i64 e], .int .i64 id] w (fun r w' => r = .returned (.iface 165 (.agg #[.iface 133 (.int .i64 1), .int .i64 ((j : Int) + 1)])) ∧ HeldO (fps [.blk g 35 #[.slice A0 ts.length c0, .slice A1 ks.length c1, .slice A2 fs.length c2, .int .i64 tn, .bool st], rT ts.length A0 c0 ts, rK ks.length A1 c1 ks, rF fs.length A2 c2 fs]) g ⟨(ts.set j (wakeT ⟨s, l, o1, wt, on, v, t⟩ tn 0)), ks, fs, (tn + 1), st, 1, ((j : Int) + 1)⟩ w w') := by
 have hne : ((j : Int) == -1) = false := by rw [beq_eq_false_iff_ne]; omega
 have hj0 : (0 : Int) ≤ (j : Int) := by omega
 have hj1 : (j : Int) ≤ 1048576 := by omega
 have HT := hide hts
 have HC := hide hc
 clear hts hc
 obtain ⟨S, hS⟩ : ∃ S, S = fps [.blk g 35 #[.slice A0 ts.length c0, .slice A1 ks.length c1, .slice A2 fs.length c2, .int .i64 tn, .bool st], rT ts.length A0 c0 ts, rK ks.length A1 c1 ks, rF fs.length A2 c2 fs] := ⟨_, rfl⟩
 rw [← hS] at h ⊢
 clear hS
 have M0 := hide h
 clear h
 go_enter Tryz.func91, Tryz.ntmps91
 go_wp2_with fail
 have M := M0.out.allocN 28 #[.int .i64 a, .int .i64 b, .int .i64 c, .int .i64 d, .int .i64 e]
 clear M0
 generalize w.alloc (.cells #[.int .i64 a, .int .i64 b, .int .i64 c, .int .i64 d, .int .i64 e] 28) = W1 at M ⊢
 obtain ⟨tY, Ab, Ae, Ad, Ac, Aa⟩ := M.q5 1 rfl
 have hL := waitersOn_p ts g A0 c0 2 id W1 ht (M.cell 1 0 rfl) (M.rowS 2 rfl)
 refine Calls.mono (by with_reducible exact hL) ?_
 clear hL
 rintro r W2 ⟨lb, LA, lc, ps, rfl, hl, hh, hp, g1⟩
 clear tY Ab Ae Ad Ac Aa
 replace M : Sep S w W2 [.blk (lb) 149 #[.slice LA ps.length lc], rP ps.length LA lc ps, .blk (w.heap.size) 28 #[.int .i64 a, .int .i64 b, .int .i64 c, .int .i64 d, .int .i64 e], .blk (g) 35 #[.slice A0 ts.length c0, .slice A1 ks.length c1, .slice A2 fs.length c2, .int .i64 tn, .bool st], rT ts.length A0 c0 ts, rK ks.length A1 c1 ks, rF fs.length A2 c2 fs] := Sep.new M g1
 clear g1
 have hF := first_any ps LA lc (by omega) W2 (M.rowS 1 rfl)
 rw [wait_line hh hp, hfr] at hF
 have HF := hide hF
 clear hF hh hp hl
 obtain ⟨Al, Ak⟩ := M.q1 0 rfl
 go_wp2_with fail
 refine Calls.mono (by with_reducible exact HF.out) ?_
 clear HF
 rintro r WF ⟨rfl, hWF⟩
 subst hWF
 clear Al Ak
 obtain ⟨tP, Ag, Ah, Ai, Aj, Af⟩ := M.q5 2 rfl
 go_wp2_with fail
 have hC := fun V => hasKind_any a b c d e id V pd1 pd2
 rw [hi] at hC
 refine Calls.mono (by with_reducible exact hC _) ?_
 clear hC
 rintro r W3 ⟨rfl, g1⟩
 clear tP Ag Ah Ai Aj Af
 replace M := M.call g1
 clear g1
 obtain ⟨tY, Ab, Ae, Ad, Ac, Aa⟩ := M.q5 3 rfl
 go_wp2_with fail
 replace M := M.front 4 rfl
 simp only [zE, zF] at M
 replace M := M.front 4 rfl
 simp only [zE, zF] at M
 refine Calls.mono (by with_reducible exact (wake_yes ts A0 A1 A2 c0 ks.length c1 fs.length c2 tn st g j 0 s l o1 wt on v t _ ht (by omega) HT.out (Sep.same (ps := [.blk (g) 35 #[.slice A0 ts.length c0, .slice A1 ks.length c1, .slice A2 fs.length c2, .int .i64 tn, .bool st], rT ts.length A0 c0 ts]) (rs := [.blk (lb) 149 #[.slice LA ps.length lc], rP ps.length LA lc ps, .blk (w.heap.size) 28 #[.int .i64 a, .int .i64 b, .int .i64 c, .int .i64 d, .int .i64 e], rK ks.length A1 c1 ks, rF fs.length A2 c2 fs]) M (Below.refl _ _)) HC.out)) ?_
 rintro r W4 ⟨rfl, g1⟩
 clear tY Ab Ae Ad Ac Aa
 replace M : Sep S w W4 [.blk (g) 35 #[.slice A0 ts.length c0, .slice A1 ks.length c1, .slice A2 fs.length c2, .int .i64 (tn + 1), .bool st], rT ts.length A0 c0 (ts.set j (wakeT ⟨s, l, o1, wt, on, v, t⟩ tn 0)), .blk (lb) 149 #[.slice LA ps.length lc], rP ps.length LA lc ps, .blk (w.heap.size) 28 #[.int .i64 a, .int .i64 b, .int .i64 c, .int .i64 d, .int .i64 e], rK ks.length A1 c1 ks, rF fs.length A2 c2 fs] := Sep.comp (ps := [.blk (g) 35 #[.slice A0 ts.length c0, .slice A1 ks.length c1, .slice A2 fs.length c2, .int .i64 tn, .bool st], rT ts.length A0 c0 ts]) (rs := [.blk (lb) 149 #[.slice LA ps.length lc], rP ps.length LA lc ps, .blk (w.heap.size) 28 #[.int .i64 a, .int .i64 b, .int .i64 c, .int .i64 d, .int .i64 e], rK ks.length A1 c1 ks, rF fs.length A2 c2 fs]) M g1
 clear g1
 go_wp2_with fail
 go_call (saidWith_any 1 (j + 1) _) as r WS ⟨rfl, hWW⟩
 subst hWW
 go_wp2_with fail
 replace M := M.front 6 rfl
 simp only [zE, zF] at M
 replace M := M.front 6 rfl
 simp only [zE, zF] at M
 replace M := M.front 3 rfl
 simp only [zE, zF] at M
 replace M := M.front 3 rfl
 simp only [zE, zF] at M
 have hn9 : (ts.set j (wakeT ⟨s, l, o1, wt, on, v, t⟩ tn 0)).length = ts.length := List.length_set
 go_ret
 exact ⟨rfl, A0, A1, A2, c0, c1, c2, by rw [hn9]; exact M.take 4⟩
theorem up_wfull (ts : List T7) (ks : List Int) (fs : List F2) (A0 A1 A2 : Option Addr) (c0 c1 c2 : Nat) (tn : Int) (st : Bool) (g : Nat) (a b c d e id : Int) (j : Nat) (w : World) (ht : ts.length ≤ 1048576) (hk : ks.length ≤ 1048576) (hf : fs.length ≤ 1048576) (h : Sep (fps [.blk g 35 #[.slice A0 ts.length c0, .slice A1 ks.length c1, .slice A2 fs.length c2, .int .i64 tn, .bool st], rT ts.length A0 c0 ts, rK ks.length A1 c1 ks, rF fs.length A2 c2 fs]) w w [.blk g 35 #[.slice A0 ts.length c0, .slice A1 ks.length c1, .slice A2 fs.length c2, .int .i64 tn, .bool st], rT ts.length A0 c0 ts, rK ks.length A1 c1 ks, rF fs.length A2 c2 fs]) (pd1 : 0 ≤ d) (pd2 : d ≤ 30) (hjl : j < ts.length) (hc : canB ts j 0 tn = false) (hfr : (waitersM ts 2 id).headD (-1) = (j : Int)) (hi : btw id 0 (d - 1) = true) :
 Calls Tryz.prog 91 #[.pointer (some ⟨g, 0, none⟩), .agg #[.int .i64 a, .int .i64 b, .int .i64 c, .int .i64 d, .int .i64 e], .int .i64 id] w (fun r w' => r = .returned (.iface 133 (.int .i64 4)) ∧ Sep (fps [.blk g 35 #[.slice A0 ts.length c0, .slice A1 ks.length c1, .slice A2 fs.length c2, .int .i64 tn, .bool st], rT ts.length A0 c0 ts, rK ks.length A1 c1 ks, rF fs.length A2 c2 fs]) w w' []) := by
 have hne : ((j : Int) == -1) = false := by rw [beq_eq_false_iff_ne]; omega
 have hj0 : (0 : Int) ≤ (j : Int) := by omega
 have hj1 : (j : Int) ≤ 1048576 := by omega
 obtain ⟨S, hS⟩ : ∃ S, S = fps [.blk g 35 #[.slice A0 ts.length c0, .slice A1 ks.length c1, .slice A2 fs.length c2, .int .i64 tn, .bool st], rT ts.length A0 c0 ts, rK ks.length A1 c1 ks, rF fs.length A2 c2 fs] := ⟨_, rfl⟩
 rw [← hS] at h ⊢
 clear hS
 have M0 := hide h
 clear h
 go_enter Tryz.func91, Tryz.ntmps91
 go_wp2_with fail
 have M := M0.out.allocN 28 #[.int .i64 a, .int .i64 b, .int .i64 c, .int .i64 d, .int .i64 e]
 clear M0
 generalize w.alloc (.cells #[.int .i64 a, .int .i64 b, .int .i64 c, .int .i64 d, .int .i64 e] 28) = W1 at M ⊢
 obtain ⟨tY, Ab, Ae, Ad, Ac, Aa⟩ := M.q5 1 rfl
 have hL := waitersOn_p ts g A0 c0 2 id W1 ht (M.cell 1 0 rfl) (M.rowS 2 rfl)
 refine Calls.mono (by with_reducible exact hL) ?_
 clear hL
 rintro r W2 ⟨lb, LA, lc, ps, rfl, hl, hh, hp, g1⟩
 clear tY Ab Ae Ad Ac Aa
 replace M : Sep S w W2 [.blk (lb) 149 #[.slice LA ps.length lc], rP ps.length LA lc ps, .blk (w.heap.size) 28 #[.int .i64 a, .int .i64 b, .int .i64 c, .int .i64 d, .int .i64 e], .blk (g) 35 #[.slice A0 ts.length c0, .slice A1 ks.length c1, .slice A2 fs.length c2, .int .i64 tn, .bool st], rT ts.length A0 c0 ts, rK ks.length A1 c1 ks, rF fs.length A2 c2 fs] := Sep.new M g1
 clear g1
 have hF := first_any ps LA lc (by omega) W2 (M.rowS 1 rfl)
 rw [wait_line hh hp, hfr] at hF
 have HF := hide hF
 clear hF hh hp hl
 obtain ⟨Al, Ak⟩ := M.q1 0 rfl
 go_wp2_with fail
 refine Calls.mono (by with_reducible exact HF.out) ?_
 clear HF
 rintro r WF ⟨rfl, hWF⟩
 subst hWF
 clear Al Ak
 obtain ⟨tP, Ag, Ah, Ai, Aj, Af⟩ := M.q5 2 rfl
 go_wp2_with fail
 have hC := fun V => hasKind_any a b c d e id V pd1 pd2
 rw [hi] at hC
 refine Calls.mono (by with_reducible exact hC _) ?_
 clear hC
 rintro r W3 ⟨rfl, g1⟩
 clear tP Ag Ah Ai Aj Af
 replace M := M.call g1
 clear g1
 obtain ⟨tY, Ab, Ae, Ad, Ac, Aa⟩ := M.q5 3 rfl
 go_wp2_with fail
 have hC := wake_no ts A0 A1 A2 c0 ks.length c1 fs.length c2 tn st g j 0 _ ht (M.blk 3 rfl) (M.rowS 4 rfl) hc
 refine Calls.mono (by with_reducible exact hC) ?_
 clear hC
 rintro r W4 ⟨rfl, g1⟩
 clear tY Ab Ae Ad Ac Aa
 replace M := M.call g1
 clear g1
 go_wp2_with fail
 go_ret
 exact ⟨rfl, M.drop 7⟩
theorem up_free (ts : List T7) (ks : List Int) (fs : List F2) (A0 A1 A2 : Option Addr) (c0 c1 c2 : Nat) (tn : Int) (st : Bool) (g : Nat) (a b c d e : Int) (k : Nat) (kv : Int) (hks : ks[k]? = some kv) (w : World) (ht : ts.length ≤ 1048576) (hk : ks.length ≤ 1048576) (hf : fs.length ≤ 1048576) (h : Sep (fps [.blk g 35 #[.slice A0 ts.length c0, .slice A1 ks.length c1, .slice A2 fs.length c2, .int .i64 tn, .bool st], rT ts.length A0 c0 ts, rK ks.length A1 c1 ks, rF fs.length A2 c2 fs]) w w [.blk g 35 #[.slice A0 ts.length c0, .slice A1 ks.length c1, .slice A2 fs.length c2, .int .i64 tn, .bool st], rT ts.length A0 c0 ts, rK ks.length A1 c1 ks, rF fs.length A2 c2 fs]) (pd1 : 0 ≤ d) (pd2 : d ≤ 30) (hv0 : 0 ≤ kv) (hv : kv < 100) (hfr : (waitersM ts 2 k).headD (-1) = -1) (hi : btw k 0 (d - 1) = true) :
 Calls Tryz.prog 91 #[.pointer (some ⟨g, 0, none⟩), .agg #[.int .i64 a, .int .i64 b, .int .i64 c, .int .i64 d, .int .i64 e], .int .i64 k] w (fun r w' => r = .returned (.iface 165 (.agg #[.iface 133 (.int .i64 1), .int .i64 0])) ∧ HeldO (fps [.blk g 35 #[.slice A0 ts.length c0, .slice A1 ks.length c1, .slice A2 fs.length c2, .int .i64 tn, .bool st], rT ts.length A0 c0 ts, rK ks.length A1 c1 ks, rF fs.length A2 c2 fs]) g ⟨ts, (ks.set k (kv + 1)), fs, tn, st, 1, 0⟩ w w') := by
 have hkl : k < ks.length := by
  rcases Nat.lt_or_ge k ks.length with h1 | h1
  ·exact h1
  ·rw [List.getElem?_eq_none h1] at hks; cases hks
 have hki : (k : Int) < (ks.length : Int) := by omega
 have hk0 : (0 : Int) ≤ (k : Int) := by omega
 have hr9 : (rK ks.length A1 c1 ks).here w := h.rowAt 2 rfl
 obtain ⟨gk, rfl, hgl, hfz9⟩ := rK_form hr9 (show 0 < ks.length by omega)
 clear hr9 hfz9 hgl
 have HKS := hide hks
 clear hks
 obtain ⟨S, hS⟩ : ∃ S, S = fps [.blk g 35 #[.slice A0 ts.length c0, .slice (some ⟨gk, 0, none⟩) ks.length c1, .slice A2 fs.length c2, .int .i64 tn, .bool st], rT ts.length A0 c0 ts, rK ks.length (some ⟨gk, 0, none⟩) c1 ks, rF fs.length A2 c2 fs] := ⟨_, rfl⟩
 rw [← hS] at h ⊢
 clear hS
 have M0 := hide h
 clear h
 go_enter Tryz.func91, Tryz.ntmps91
 go_wp2_with fail
 have M := M0.out.allocN 28 #[.int .i64 a, .int .i64 b, .int .i64 c, .int .i64 d, .int .i64 e]
 clear M0
 generalize w.alloc (.cells #[.int .i64 a, .int .i64 b, .int .i64 c, .int .i64 d, .int .i64 e] 28) = W1 at M ⊢
 obtain ⟨tY, Ab, Ae, Ad, Ac, Aa⟩ := M.q5 1 rfl
 have hL := waitersOn_p ts g A0 c0 2 k W1 ht (M.cell 1 0 rfl) (M.rowS 2 rfl)
 refine Calls.mono (by with_reducible exact hL) ?_
 clear hL
 rintro r W2 ⟨lb, LA, lc, ps, rfl, hl, hh, hp, g1⟩
 clear tY Ab Ae Ad Ac Aa
 replace M : Sep S w W2 [.blk (lb) 149 #[.slice LA ps.length lc], rP ps.length LA lc ps, .blk (w.heap.size) 28 #[.int .i64 a, .int .i64 b, .int .i64 c, .int .i64 d, .int .i64 e], .blk (g) 35 #[.slice A0 ts.length c0, .slice (some ⟨gk, 0, none⟩) ks.length c1, .slice A2 fs.length c2, .int .i64 tn, .bool st], rT ts.length A0 c0 ts, rK ks.length (some ⟨gk, 0, none⟩) c1 ks, rF fs.length A2 c2 fs] := Sep.new M g1
 clear g1
 have hF := first_any ps LA lc (by omega) W2 (M.rowS 1 rfl)
 rw [wait_line hh hp, hfr] at hF
 have HF := hide hF
 clear hF hh hp hl
 obtain ⟨Al, Ak⟩ := M.q1 0 rfl
 go_wp2_with fail
 refine Calls.mono (by with_reducible exact HF.out) ?_
 clear HF
 rintro r WF ⟨rfl, hWF⟩
 subst hWF
 clear Al Ak
 obtain ⟨tP, Ag, Ah, Ai, Aj, Af⟩ := M.q5 2 rfl
 go_wp2_with fail
 have hC := fun V => hasKind_any a b c d e k V pd1 pd2
 rw [hi] at hC
 refine Calls.mono (by with_reducible exact hC _) ?_
 clear hC
 rintro r W3 ⟨rfl, g1⟩
 clear tP Ag Ah Ai Aj Af
 replace M := M.call g1
 clear g1
 obtain ⟨tY, Ab, Ae, Ad, Ac, Aa⟩ := M.q5 3 rfl
 have yk : W3.cell? ⟨gk, k, none⟩ = some (.int .i64 kv) := rK_get (M.rowAt 5 rfl) HKS.out
 have fzk : W3.frozen? ⟨gk, k, none⟩ = false := Own.fz (M.rowAt 5 rfl) _
 go_wp2_with fail
 clear tY Ab Ae Ad Ac Aa yk fzk
 have N : ∃ V, (W3.setCell ⟨gk, k, none⟩ (.int .i64 (kv + 1))) = V ∧ Sep S w V [.blk (lb) 149 #[.slice LA ps.length lc], rP ps.length LA lc ps, .blk (w.heap.size) 28 #[.int .i64 a, .int .i64 b, .int .i64 c, .int .i64 d, .int .i64 e], .blk (g) 35 #[.slice A0 ts.length c0, .slice (some ⟨gk, 0, none⟩) ks.length c1, .slice A2 fs.length c2, .int .i64 tn, .bool st], rT ts.length A0 c0 ts, rK ks.length (some ⟨gk, 0, none⟩) c1 (ks.set k (kv + 1)), rF fs.length A2 c2 fs] := ⟨_, rfl, M.putK 5 rfl k (kv + 1)⟩
 clear M
 obtain ⟨W4, eW, M⟩ := N
 rw [eW]
 clear eW
 go_call (saidWith_any 1 0 _) as r WS ⟨rfl, hWW⟩
 subst hWW
 go_wp2_with fail
 replace M := M.front 6 rfl
 simp only [zE, zF] at M
 replace M := M.front 6 rfl
 simp only [zE, zF] at M
 replace M := M.front 6 rfl
 simp only [zE, zF] at M
 replace M := M.front 6 rfl
 simp only [zE, zF] at M
 have hn9 : (ks.set k (kv + 1)).length = ks.length := List.length_set
 go_ret
 exact ⟨rfl, A0, (some ⟨gk, 0, none⟩), A2, c0, c1, c2, by rw [hn9]; exact M.take 4⟩
theorem up_full (ts : List T7) (ks : List Int) (fs : List F2) (A0 A1 A2 : Option Addr) (c0 c1 c2 : Nat) (tn : Int) (st : Bool) (g : Nat) (a b c d e : Int) (k : Nat) (kv : Int) (hks : ks[k]? = some kv) (w : World) (ht : ts.length ≤ 1048576) (hk : ks.length ≤ 1048576) (hf : fs.length ≤ 1048576) (h : Sep (fps [.blk g 35 #[.slice A0 ts.length c0, .slice A1 ks.length c1, .slice A2 fs.length c2, .int .i64 tn, .bool st], rT ts.length A0 c0 ts, rK ks.length A1 c1 ks, rF fs.length A2 c2 fs]) w w [.blk g 35 #[.slice A0 ts.length c0, .slice A1 ks.length c1, .slice A2 fs.length c2, .int .i64 tn, .bool st], rT ts.length A0 c0 ts, rK ks.length A1 c1 ks, rF fs.length A2 c2 fs]) (pd1 : 0 ≤ d) (pd2 : d ≤ 30) (hv : ¬ kv < 100) (hc : canB ts (-1) 0 tn = false) (hfr : (waitersM ts 2 k).headD (-1) = -1) (hi : btw k 0 (d - 1) = true) :
 Calls Tryz.prog 91 #[.pointer (some ⟨g, 0, none⟩), .agg #[.int .i64 a, .int .i64 b, .int .i64 c, .int .i64 d, .int .i64 e], .int .i64 k] w (fun r w' => r = .returned (.iface 133 (.int .i64 4)) ∧ Sep (fps [.blk g 35 #[.slice A0 ts.length c0, .slice A1 ks.length c1, .slice A2 fs.length c2, .int .i64 tn, .bool st], rT ts.length A0 c0 ts, rK ks.length A1 c1 ks, rF fs.length A2 c2 fs]) w w' []) := by
 have hkl : k < ks.length := by
  rcases Nat.lt_or_ge k ks.length with h1 | h1
  ·exact h1
  ·rw [List.getElem?_eq_none h1] at hks; cases hks
 have hki : (k : Int) < (ks.length : Int) := by omega
 have hk0 : (0 : Int) ≤ (k : Int) := by omega
 have hr9 : (rK ks.length A1 c1 ks).here w := h.rowAt 2 rfl
 obtain ⟨gk, rfl, hgl, hfz9⟩ := rK_form hr9 (show 0 < ks.length by omega)
 clear hr9 hfz9 hgl
 have HKS := hide hks
 clear hks
 obtain ⟨S, hS⟩ : ∃ S, S = fps [.blk g 35 #[.slice A0 ts.length c0, .slice (some ⟨gk, 0, none⟩) ks.length c1, .slice A2 fs.length c2, .int .i64 tn, .bool st], rT ts.length A0 c0 ts, rK ks.length (some ⟨gk, 0, none⟩) c1 ks, rF fs.length A2 c2 fs] := ⟨_, rfl⟩
 rw [← hS] at h ⊢
 clear hS
 have M0 := hide h
 clear h
 go_enter Tryz.func91, Tryz.ntmps91
 go_wp2_with fail
 have M := M0.out.allocN 28 #[.int .i64 a, .int .i64 b, .int .i64 c, .int .i64 d, .int .i64 e]
 clear M0
 generalize w.alloc (.cells #[.int .i64 a, .int .i64 b, .int .i64 c, .int .i64 d, .int .i64 e] 28) = W1 at M ⊢
 obtain ⟨tY, Ab, Ae, Ad, Ac, Aa⟩ := M.q5 1 rfl
 have hL := waitersOn_p ts g A0 c0 2 k W1 ht (M.cell 1 0 rfl) (M.rowS 2 rfl)
 refine Calls.mono (by with_reducible exact hL) ?_
 clear hL
 rintro r W2 ⟨lb, LA, lc, ps, rfl, hl, hh, hp, g1⟩
 clear tY Ab Ae Ad Ac Aa
 replace M : Sep S w W2 [.blk (lb) 149 #[.slice LA ps.length lc], rP ps.length LA lc ps, .blk (w.heap.size) 28 #[.int .i64 a, .int .i64 b, .int .i64 c, .int .i64 d, .int .i64 e], .blk (g) 35 #[.slice A0 ts.length c0, .slice (some ⟨gk, 0, none⟩) ks.length c1, .slice A2 fs.length c2, .int .i64 tn, .bool st], rT ts.length A0 c0 ts, rK ks.length (some ⟨gk, 0, none⟩) c1 ks, rF fs.length A2 c2 fs] := Sep.new M g1
 clear g1
 have hF := first_any ps LA lc (by omega) W2 (M.rowS 1 rfl)
 rw [wait_line hh hp, hfr] at hF
 have HF := hide hF
 clear hF hh hp hl
 obtain ⟨Al, Ak⟩ := M.q1 0 rfl
 go_wp2_with fail
 refine Calls.mono (by with_reducible exact HF.out) ?_
 clear HF
 rintro r WF ⟨rfl, hWF⟩
 subst hWF
 clear Al Ak
 obtain ⟨tP, Ag, Ah, Ai, Aj, Af⟩ := M.q5 2 rfl
 go_wp2_with fail
 have hC := fun V => hasKind_any a b c d e k V pd1 pd2
 rw [hi] at hC
 refine Calls.mono (by with_reducible exact hC _) ?_
 clear hC
 rintro r W3 ⟨rfl, g1⟩
 clear tP Ag Ah Ai Aj Af
 replace M := M.call g1
 clear g1
 obtain ⟨tY, Ab, Ae, Ad, Ac, Aa⟩ := M.q5 3 rfl
 have yk : W3.cell? ⟨gk, k, none⟩ = some (.int .i64 kv) := rK_get (M.rowAt 5 rfl) HKS.out
 go_wp2_with fail
 have hC := wake_no ts A0 (some ⟨gk, 0, none⟩) A2 c0 ks.length c1 fs.length c2 tn st g (-1) 0 _ ht (M.blk 3 rfl) (M.rowS 4 rfl) hc
 refine Calls.mono (by with_reducible exact hC) ?_
 clear hC
 rintro r W4 ⟨rfl, g1⟩
 clear tY Ab Ae Ad Ac Aa yk
 replace M := M.call g1
 clear g1
 go_wp2_with fail
 go_ret
 exact ⟨rfl, M.drop 7⟩
theorem down_none (ts : List T7) (ks : List Int) (fs : List F2) (A0 A1 A2 : Option Addr) (c0 c1 c2 : Nat) (tn : Int) (st : Bool) (g : Nat) (a b c d e wk id : Int) (w : World) (ht : ts.length ≤ 1048576) (hk : ks.length ≤ 1048576) (hf : fs.length ≤ 1048576) (h : Sep (fps [.blk g 35 #[.slice A0 ts.length c0, .slice A1 ks.length c1, .slice A2 fs.length c2, .int .i64 tn, .bool st], rT ts.length A0 c0 ts, rK ks.length A1 c1 ks, rF fs.length A2 c2 fs]) w w [.blk g 35 #[.slice A0 ts.length c0, .slice A1 ks.length c1, .slice A2 fs.length c2, .int .i64 tn, .bool st], rT ts.length A0 c0 ts, rK ks.length A1 c1 ks, rF fs.length A2 c2 fs]) (hr : runM ts wk 0 = -1) :
 Calls Tryz.prog 93 #[.pointer (some ⟨g, 0, none⟩), .agg #[.int .i64 a, .int .i64 b, .int .i64 c, .int .i64 d, .int .i64 e], .int .i64 wk, .int .i64 id] w (fun r w' => r = .returned (.iface 133 (.int .i64 2)) ∧ Sep (fps [.blk g 35 #[.slice A0 ts.length c0, .slice A1 ks.length c1, .slice A2 fs.length c2, .int .i64 tn, .bool st], rT ts.length A0 c0 ts, rK ks.length A1 c1 ks, rF fs.length A2 c2 fs]) w w' []) := by
 obtain ⟨S, hS⟩ : ∃ S, S = fps [.blk g 35 #[.slice A0 ts.length c0, .slice A1 ks.length c1, .slice A2 fs.length c2, .int .i64 tn, .bool st], rT ts.length A0 c0 ts, rK ks.length A1 c1 ks, rF fs.length A2 c2 fs] := ⟨_, rfl⟩
 rw [← hS] at h ⊢
 clear hS
 have M0 := hide h
 clear h
 go_enter Tryz.func93, Tryz.ntmps93
 go_wp2_with fail
 have M := M0.out.allocN 28 #[.int .i64 a, .int .i64 b, .int .i64 c, .int .i64 d, .int .i64 e]
 clear M0
 generalize w.alloc (.cells #[.int .i64 a, .int .i64 b, .int .i64 c, .int .i64 d, .int .i64 e] 28) = W1 at M ⊢
 have hC := runBy_any ts A0 A1 A2 c0 ks.length c1 fs.length c2 tn st wk g W1 ht (M.blk 1 rfl) (M.rowS 2 rfl)
 rw [hr] at hC
 refine Calls.mono (by with_reducible exact hC) ?_
 clear hC
 rintro r W2 ⟨rfl, g1⟩
 replace M := M.call g1
 clear g1
 go_wp2_with fail
 go_ret
 exact ⟨rfl, M.drop 5⟩
theorem down_kind (ts : List T7) (ks : List Int) (fs : List F2) (A0 A1 A2 : Option Addr) (c0 c1 c2 : Nat) (tn : Int) (st : Bool) (g : Nat) (a b c d e wk id : Int) (w : World) (ht : ts.length ≤ 1048576) (hk : ks.length ≤ 1048576) (hf : fs.length ≤ 1048576) (h : Sep (fps [.blk g 35 #[.slice A0 ts.length c0, .slice A1 ks.length c1, .slice A2 fs.length c2, .int .i64 tn, .bool st], rT ts.length A0 c0 ts, rK ks.length A1 c1 ks, rF fs.length A2 c2 fs]) w w [.blk g 35 #[.slice A0 ts.length c0, .slice A1 ks.length c1, .slice A2 fs.length c2, .int .i64 tn, .bool st], rT ts.length A0 c0 ts, rK ks.length A1 c1 ks, rF fs.length A2 c2 fs]) (pd1 : 0 ≤ d) (pd2 : d ≤ 30) (me : Int) (hr : runM ts wk 0 = me) (h0 : 0 ≤ me) (hi : btw id 0 (d - 1) = false) :
 Calls Tryz.prog 93 #[.pointer (some ⟨g, 0, none⟩), .agg #[.int .i64 a, .int .i64 b, .int .i64 c, .int .i64 d, .int .i64 e], .int .i64 wk, .int .i64 id] w (fun r w' => r = .returned (.iface 133 (.int .i64 8)) ∧ Sep (fps [.blk g 35 #[.slice A0 ts.length c0, .slice A1 ks.length c1, .slice A2 fs.length c2, .int .i64 tn, .bool st], rT ts.length A0 c0 ts, rK ks.length A1 c1 ks, rF fs.length A2 c2 fs]) w w' []) := by
 have hne : (me == -1) = false := by rw [beq_eq_false_iff_ne]; omega
 obtain ⟨S, hS⟩ : ∃ S, S = fps [.blk g 35 #[.slice A0 ts.length c0, .slice A1 ks.length c1, .slice A2 fs.length c2, .int .i64 tn, .bool st], rT ts.length A0 c0 ts, rK ks.length A1 c1 ks, rF fs.length A2 c2 fs] := ⟨_, rfl⟩
 rw [← hS] at h ⊢
 clear hS
 have M0 := hide h
 clear h
 go_enter Tryz.func93, Tryz.ntmps93
 go_wp2_with fail
 have M := M0.out.allocN 28 #[.int .i64 a, .int .i64 b, .int .i64 c, .int .i64 d, .int .i64 e]
 clear M0
 generalize w.alloc (.cells #[.int .i64 a, .int .i64 b, .int .i64 c, .int .i64 d, .int .i64 e] 28) = W1 at M ⊢
 have hC := runBy_any ts A0 A1 A2 c0 ks.length c1 fs.length c2 tn st wk g W1 ht (M.blk 1 rfl) (M.rowS 2 rfl)
 rw [hr] at hC
 refine Calls.mono (by with_reducible exact hC) ?_
 clear hC
 rintro r W2 ⟨rfl, g1⟩
 replace M := M.call g1
 clear g1
 obtain ⟨tP, Ag, Ah, Ai, Aj, Af⟩ := M.q5 0 rfl
 go_wp2_with fail
 have hC := fun V => hasKind_any a b c d e id V pd1 pd2
 rw [hi] at hC
 refine Calls.mono (by with_reducible exact hC _) ?_
 clear hC
 rintro r W3 ⟨rfl, g1⟩
 clear tP Ag Ah Ai Aj Af
 replace M := M.call g1
 clear g1
 go_wp2_with fail
 go_ret
 exact ⟨rfl, M.drop 5⟩
theorem down_ok (ts : List T7) (ks : List Int) (fs : List F2) (A0 A1 A2 : Option Addr) (c0 c1 c2 : Nat) (tn : Int) (st : Bool) (g : Nat) (a b c d e wk : Int) (k : Nat) (kv : Int) (hks : ks[k]? = some kv) (w : World) (ht : ts.length ≤ 1048576) (hk : ks.length ≤ 1048576) (hf : fs.length ≤ 1048576) (h : Sep (fps [.blk g 35 #[.slice A0 ts.length c0, .slice A1 ks.length c1, .slice A2 fs.length c2, .int .i64 tn, .bool st], rT ts.length A0 c0 ts, rK ks.length A1 c1 ks, rF fs.length A2 c2 fs]) w w [.blk g 35 #[.slice A0 ts.length c0, .slice A1 ks.length c1, .slice A2 fs.length c2, .int .i64 tn, .bool st], rT ts.length A0 c0 ts, rK ks.length A1 c1 ks, rF fs.length A2 c2 fs]) (pd1 : 0 ≤ d) (pd2 : d ≤ 30) (me : Int) (hr : runM ts wk 0 = me) (h0 : 0 ≤ me) (hv : 0 < kv) (hv2 : kv ≤ 100) (hi : btw k 0 (d - 1) = true) :
 Calls Tryz.prog 93 #[.pointer (some ⟨g, 0, none⟩), .agg #[.int .i64 a, .int .i64 b, .int .i64 c, .int .i64 d, .int .i64 e], .int .i64 wk, .int .i64 k] w (fun r w' => r = .returned (.iface 165 (.agg #[.iface 133 (.int .i64 1), .int .i64 (kv - 1)])) ∧ HeldO (fps [.blk g 35 #[.slice A0 ts.length c0, .slice A1 ks.length c1, .slice A2 fs.length c2, .int .i64 tn, .bool st], rT ts.length A0 c0 ts, rK ks.length A1 c1 ks, rF fs.length A2 c2 fs]) g ⟨ts, (ks.set k (kv - 1)), fs, tn, st, 1, (kv - 1)⟩ w w') := by
 have hkl : k < ks.length := by
  rcases Nat.lt_or_ge k ks.length with h1 | h1
  ·exact h1
  ·rw [List.getElem?_eq_none h1] at hks; cases hks
 have hki : (k : Int) < (ks.length : Int) := by omega
 have hk0 : (0 : Int) ≤ (k : Int) := by omega
 have hr9 : (rK ks.length A1 c1 ks).here w := h.rowAt 2 rfl
 obtain ⟨gk, rfl, hgl, hfz9⟩ := rK_form hr9 (show 0 < ks.length by omega)
 clear hr9 hfz9 hgl
 have hne : (me == -1) = false := by rw [beq_eq_false_iff_ne]; omega
 have hkz : (kv == 0) = false := by rw [beq_eq_false_iff_ne]; omega
 have hkw : kv ≤ 100 := hv2
 have HKS := hide hks
 clear hks
 obtain ⟨S, hS⟩ : ∃ S, S = fps [.blk g 35 #[.slice A0 ts.length c0, .slice (some ⟨gk, 0, none⟩) ks.length c1, .slice A2 fs.length c2, .int .i64 tn, .bool st], rT ts.length A0 c0 ts, rK ks.length (some ⟨gk, 0, none⟩) c1 ks, rF fs.length A2 c2 fs] := ⟨_, rfl⟩
 rw [← hS] at h ⊢
 clear hS
 have M0 := hide h
 clear h
 go_enter Tryz.func93, Tryz.ntmps93
 go_wp2_with fail
 have M := M0.out.allocN 28 #[.int .i64 a, .int .i64 b, .int .i64 c, .int .i64 d, .int .i64 e]
 clear M0
 generalize w.alloc (.cells #[.int .i64 a, .int .i64 b, .int .i64 c, .int .i64 d, .int .i64 e] 28) = W1 at M ⊢
 have hC := runBy_any ts A0 (some ⟨gk, 0, none⟩) A2 c0 ks.length c1 fs.length c2 tn st wk g W1 ht (M.blk 1 rfl) (M.rowS 2 rfl)
 rw [hr] at hC
 refine Calls.mono (by with_reducible exact hC) ?_
 clear hC
 rintro r W2 ⟨rfl, g1⟩
 replace M := M.call g1
 clear g1
 obtain ⟨tP, Ag, Ah, Ai, Aj, Af⟩ := M.q5 0 rfl
 go_wp2_with fail
 have hC := fun V => hasKind_any a b c d e k V pd1 pd2
 rw [hi] at hC
 refine Calls.mono (by with_reducible exact hC _) ?_
 clear hC
 rintro r W3 ⟨rfl, g1⟩
 clear tP Ag Ah Ai Aj Af
 replace M := M.call g1
 clear g1
 obtain ⟨tY, Ab, Ae, Ad, Ac, Aa⟩ := M.q5 1 rfl
 have yk : W3.cell? ⟨gk, k, none⟩ = some (.int .i64 kv) := rK_get (M.rowAt 3 rfl) HKS.out
 have fzk : W3.frozen? ⟨gk, k, none⟩ = false := Own.fz (M.rowAt 3 rfl) _
 have nP := M.ne 0 3 (by omega) rfl rfl rfl rfl
 have nY := M.ne 1 3 (by omega) rfl rfl rfl rfl
 go_wp2_with fail
 clear tY Ab Ae Ad Ac Aa yk fzk nP nY
 have N : ∃ V, (W3.setCell ⟨gk, k, none⟩ (.int .i64 (kv - 1))) = V ∧ Sep S w V [.blk (w.heap.size) 28 #[.int .i64 a, .int .i64 b, .int .i64 c, .int .i64 d, .int .i64 e], .blk (g) 35 #[.slice A0 ts.length c0, .slice (some ⟨gk, 0, none⟩) ks.length c1, .slice A2 fs.length c2, .int .i64 tn, .bool st], rT ts.length A0 c0 ts, rK ks.length (some ⟨gk, 0, none⟩) c1 (ks.set k (kv - 1)), rF fs.length A2 c2 fs] := ⟨_, rfl, M.putK 3 rfl k (kv - 1)⟩
 clear M
 obtain ⟨W4, eW, M⟩ := N
 rw [eW]
 clear eW
 go_call (saidWith_any 1 (kv - 1) _) as r WS ⟨rfl, hWW⟩
 subst hWW
 go_wp2_with fail
 replace M := M.front 4 rfl
 simp only [zE, zF] at M
 replace M := M.front 4 rfl
 simp only [zE, zF] at M
 replace M := M.front 4 rfl
 simp only [zE, zF] at M
 replace M := M.front 4 rfl
 simp only [zE, zF] at M
 have hn9 : (ks.set k (kv - 1)).length = ks.length := List.length_set
 go_ret
 exact ⟨rfl, A0, (some ⟨gk, 0, none⟩), A2, c0, c1, c2, by rw [hn9]; exact M.take 4⟩
theorem down_park (ts : List T7) (ks : List Int) (fs : List F2) (A0 A1 A2 : Option Addr) (c0 c1 c2 : Nat) (tn : Int) (st : Bool) (g : Nat) (a b c d e wk : Int) (k : Nat) (kv : Int) (hks : ks[k]? = some kv) (m : Nat) (s l o1 wt on v t : Int) (w : World) (ht : ts.length ≤ 1048576) (hk : ks.length ≤ 1048576) (hf : fs.length ≤ 1048576) (h : Sep (fps [.blk g 35 #[.slice A0 ts.length c0, .slice A1 ks.length c1, .slice A2 fs.length c2, .int .i64 tn, .bool st], rT ts.length A0 c0 ts, rK ks.length A1 c1 ks, rF fs.length A2 c2 fs]) w w [.blk g 35 #[.slice A0 ts.length c0, .slice A1 ks.length c1, .slice A2 fs.length c2, .int .i64 tn, .bool st], rT ts.length A0 c0 ts, rK ks.length A1 c1 ks, rF fs.length A2 c2 fs]) (pd1 : 0 ≤ d) (pd2 : d ≤ 30) (hv : kv = 0) (t0 : 0 ≤ tn) (t1 : tn ≤ 1000000) (hr : runM ts wk 0 = m) (hts : ts[m]? = some ⟨s, l, o1, wt, on, v, t⟩) (hc : isInB ts m 2 = true) (hi : btw k 0 (d - 1) = true) (hz : poolB a b c d e (ts.set m (parkT ⟨s, l, o1, wt, on, v, t⟩ tn 2 k)) ks fs (tn + 1) = true) :
 Calls Tryz.prog 93 #[.pointer (some ⟨g, 0, none⟩), .agg #[.int .i64 a, .int .i64 b, .int .i64 c, .int .i64 d, .int .i64 e], .int .i64 wk, .int .i64 k] w (fun r w' => r = .returned (.iface 165 (.agg #[.iface 133 (.int .i64 7), .int .i64 (m : Int)])) ∧ HeldO (fps [.blk g 35 #[.slice A0 ts.length c0, .slice A1 ks.length c1, .slice A2 fs.length c2, .int .i64 tn, .bool st], rT ts.length A0 c0 ts, rK ks.length A1 c1 ks, rF fs.length A2 c2 fs]) g ⟨(ts.set m (parkT ⟨s, l, o1, wt, on, v, t⟩ tn 2 k)), ks, fs, (tn + 1), st, 7, (m : Int)⟩ w w') := by
 have hkl : k < ks.length := by
  rcases Nat.lt_or_ge k ks.length with h1 | h1
  ·exact h1
  ·rw [List.getElem?_eq_none h1] at hks; cases hks
 have hki : (k : Int) < (ks.length : Int) := by omega
 have hk0 : (0 : Int) ≤ (k : Int) := by omega
 have hr9 : (rK ks.length A1 c1 ks).here w := h.rowAt 2 rfl
 obtain ⟨gk, rfl, hgl, hfz9⟩ := rK_form hr9 (show 0 < ks.length by omega)
 clear hr9 hfz9 hgl
 subst hv
 have hne : ((m : Int) == -1) = false := by rw [beq_eq_false_iff_ne]; omega
 have HW := hide (fun (V : World) (hV : Sep (fps [.blk g 35 #[.slice A0 ts.length c0, .slice (some ⟨gk, 0, none⟩) ks.length c1, .slice A2 fs.length c2, .int .i64 tn, .bool st], rT ts.length A0 c0 ts, rK ks.length (some ⟨gk, 0, none⟩) c1 ks, rF fs.length A2 c2 fs]) V V [.blk g 35 #[.slice A0 ts.length c0, .slice (some ⟨gk, 0, none⟩) ks.length c1, .slice A2 fs.length c2, .int .i64 tn, .bool st], rT ts.length A0 c0 ts, rK ks.length (some ⟨gk, 0, none⟩) c1 ks, rF fs.length A2 c2 fs]) => waitFor_yes ts ks fs A0 (some ⟨gk, 0, none⟩) A2 c0 c1 c2 tn st g a b c d e m 2 k s l o1 wt on v t V ht hk hf hV t0 t1 hts hc hz)
 clear hts hz hc
 have HKS := hide hks
 clear hks
 obtain ⟨S, hS⟩ : ∃ S, S = fps [.blk g 35 #[.slice A0 ts.length c0, .slice (some ⟨gk, 0, none⟩) ks.length c1, .slice A2 fs.length c2, .int .i64 tn, .bool st], rT ts.length A0 c0 ts, rK ks.length (some ⟨gk, 0, none⟩) c1 ks, rF fs.length A2 c2 fs] := ⟨_, rfl⟩
 rw [← hS] at h ⊢
 clear hS
 have M0 := hide h
 clear h
 go_enter Tryz.func93, Tryz.ntmps93
 go_wp2_with fail
 have M := M0.out.allocN 28 #[.int .i64 a, .int .i64 b, .int .i64 c, .int .i64 d, .int .i64 e]
 clear M0
 generalize w.alloc (.cells #[.int .i64 a, .int .i64 b, .int .i64 c, .int .i64 d, .int .i64 e] 28) = W1 at M ⊢
 have hC := runBy_any ts A0 (some ⟨gk, 0, none⟩) A2 c0 ks.length c1 fs.length c2 tn st wk g W1 ht (M.blk 1 rfl) (M.rowS 2 rfl)
 rw [hr] at hC
 refine Calls.mono (by with_reducible exact hC) ?_
 clear hC
 rintro r W2 ⟨rfl, g1⟩
 replace M := M.call g1
 clear g1
 obtain ⟨tP, Ag, Ah, Ai, Aj, Af⟩ := M.q5 0 rfl
 go_wp2_with fail
 have hC := fun V => hasKind_any a b c d e k V pd1 pd2
 rw [hi] at hC
 refine Calls.mono (by with_reducible exact hC _) ?_
 clear hC
 rintro r W3 ⟨rfl, g1⟩
 clear tP Ag Ah Ai Aj Af
 replace M := M.call g1
 clear g1
 obtain ⟨tP, Ag, Ah, Ai, Aj, Af⟩ := M.q5 0 rfl
 obtain ⟨tY, Ab, Ae, Ad, Ac, Aa⟩ := M.q5 1 rfl
 have yk : W3.cell? ⟨gk, k, none⟩ = some (.int .i64 0) := rK_get (M.rowAt 3 rfl) HKS.out
 go_wp2_with fail
 replace M := M.front 4 rfl
 simp only [zE, zF] at M
 replace M := M.front 4 rfl
 simp only [zE, zF] at M
 replace M := M.front 4 rfl
 simp only [zE, zF] at M
 replace M := M.front 4 rfl
 simp only [zE, zF] at M
 refine Calls.mono (by with_reducible exact (HW.out _ (Sep.same (ps := [.blk (g) 35 #[.slice A0 ts.length c0, .slice (some ⟨gk, 0, none⟩) ks.length c1, .slice A2 fs.length c2, .int .i64 tn, .bool st], rT ts.length A0 c0 ts, rK ks.length (some ⟨gk, 0, none⟩) c1 ks, rF fs.length A2 c2 fs]) (rs := [.blk (w.heap.size) 28 #[.int .i64 a, .int .i64 b, .int .i64 c, .int .i64 d, .int .i64 e]]) M (Below.refl _ _)))) ?_
 rintro r W4 ⟨rfl, D0, D1, D2, f0, f1, f2, g1⟩
 clear tP Ag Ah Ai Aj Af tY Ab Ae Ad Ac Aa yk
 replace M : Sep S w W4 [.blk (g) 35 #[.slice D0 (ts.set m (parkT ⟨s, l, o1, wt, on, v, t⟩ tn 2 k)).length f0, .slice D1 ks.length f1, .slice D2 fs.length f2, .int .i64 ((tn + 1)), .bool st], rT (ts.set m (parkT ⟨s, l, o1, wt, on, v, t⟩ tn 2 k)).length D0 f0 (ts.set m (parkT ⟨s, l, o1, wt, on, v, t⟩ tn 2 k)), rK ks.length D1 f1 ks, rF fs.length D2 f2 fs, .blk (w.heap.size) 28 #[.int .i64 a, .int .i64 b, .int .i64 c, .int .i64 d, .int .i64 e]] := Sep.comp (ps := [.blk (g) 35 #[.slice A0 ts.length c0, .slice (some ⟨gk, 0, none⟩) ks.length c1, .slice A2 fs.length c2, .int .i64 tn, .bool st], rT ts.length A0 c0 ts, rK ks.length (some ⟨gk, 0, none⟩) c1 ks, rF fs.length A2 c2 fs]) (rs := [.blk (w.heap.size) 28 #[.int .i64 a, .int .i64 b, .int .i64 c, .int .i64 d, .int .i64 e]]) M g1
 clear g1
 go_wp2_with fail
 go_ret
 exact ⟨rfl, D0, D1, D2, f0, f1, f2, M.take 4⟩
theorem down_full (ts : List T7) (ks : List Int) (fs : List F2) (A0 A1 A2 : Option Addr) (c0 c1 c2 : Nat) (tn : Int) (st : Bool) (g : Nat) (a b c d e wk : Int) (k : Nat) (kv : Int) (hks : ks[k]? = some kv) (m : Nat) (s l o1 wt on v t : Int) (w : World) (ht : ts.length ≤ 1048576) (hk : ks.length ≤ 1048576) (hf : fs.length ≤ 1048576) (h : Sep (fps [.blk g 35 #[.slice A0 ts.length c0, .slice A1 ks.length c1, .slice A2 fs.length c2, .int .i64 tn, .bool st], rT ts.length A0 c0 ts, rK ks.length A1 c1 ks, rF fs.length A2 c2 fs]) w w [.blk g 35 #[.slice A0 ts.length c0, .slice A1 ks.length c1, .slice A2 fs.length c2, .int .i64 tn, .bool st], rT ts.length A0 c0 ts, rK ks.length A1 c1 ks, rF fs.length A2 c2 fs]) (pd1 : 0 ≤ d) (pd2 : d ≤ 30) (hv : kv = 0) (t0 : 0 ≤ tn) (t1 : tn ≤ 1000000) (hr : runM ts wk 0 = m) (hts : ts[m]? = some ⟨s, l, o1, wt, on, v, t⟩) (hc : isInB ts m 2 = true) (hi : btw k 0 (d - 1) = true) (hz : poolB a b c d e (ts.set m (parkT ⟨s, l, o1, wt, on, v, t⟩ tn 2 k)) ks fs (tn + 1) = false) :
 Calls Tryz.prog 93 #[.pointer (some ⟨g, 0, none⟩), .agg #[.int .i64 a, .int .i64 b, .int .i64 c, .int .i64 d, .int .i64 e], .int .i64 wk, .int .i64 k] w (fun r w' => r = .returned (.iface 133 (.int .i64 4)) ∧ Sep (fps [.blk g 35 #[.slice A0 ts.length c0, .slice A1 ks.length c1, .slice A2 fs.length c2, .int .i64 tn, .bool st], rT ts.length A0 c0 ts, rK ks.length A1 c1 ks, rF fs.length A2 c2 fs]) w w' []) := by
 have hkl : k < ks.length := by
  rcases Nat.lt_or_ge k ks.length with h1 | h1
  ·exact h1
  ·rw [List.getElem?_eq_none h1] at hks; cases hks
 have hki : (k : Int) < (ks.length : Int) := by omega
 have hk0 : (0 : Int) ≤ (k : Int) := by omega
 have hr9 : (rK ks.length A1 c1 ks).here w := h.rowAt 2 rfl
 obtain ⟨gk, rfl, hgl, hfz9⟩ := rK_form hr9 (show 0 < ks.length by omega)
 clear hr9 hfz9 hgl
 subst hv
 have hne : ((m : Int) == -1) = false := by rw [beq_eq_false_iff_ne]; omega
 have HW := hide (fun (V : World) (hV : Sep (fps [.blk g 35 #[.slice A0 ts.length c0, .slice (some ⟨gk, 0, none⟩) ks.length c1, .slice A2 fs.length c2, .int .i64 tn, .bool st], rT ts.length A0 c0 ts, rK ks.length (some ⟨gk, 0, none⟩) c1 ks, rF fs.length A2 c2 fs]) V V [.blk g 35 #[.slice A0 ts.length c0, .slice (some ⟨gk, 0, none⟩) ks.length c1, .slice A2 fs.length c2, .int .i64 tn, .bool st], rT ts.length A0 c0 ts, rK ks.length (some ⟨gk, 0, none⟩) c1 ks, rF fs.length A2 c2 fs]) => waitFor_full ts ks fs A0 (some ⟨gk, 0, none⟩) A2 c0 c1 c2 tn st g a b c d e m 2 k s l o1 wt on v t V ht hk hf hV t0 t1 hts hc hz)
 clear hts hz hc
 have HKS := hide hks
 clear hks
 obtain ⟨S, hS⟩ : ∃ S, S = fps [.blk g 35 #[.slice A0 ts.length c0, .slice (some ⟨gk, 0, none⟩) ks.length c1, .slice A2 fs.length c2, .int .i64 tn, .bool st], rT ts.length A0 c0 ts, rK ks.length (some ⟨gk, 0, none⟩) c1 ks, rF fs.length A2 c2 fs] := ⟨_, rfl⟩
 rw [← hS] at h ⊢
 clear hS
 have M0 := hide h
 clear h
 go_enter Tryz.func93, Tryz.ntmps93
 go_wp2_with fail
 have M := M0.out.allocN 28 #[.int .i64 a, .int .i64 b, .int .i64 c, .int .i64 d, .int .i64 e]
 clear M0
 generalize w.alloc (.cells #[.int .i64 a, .int .i64 b, .int .i64 c, .int .i64 d, .int .i64 e] 28) = W1 at M ⊢
 have hC := runBy_any ts A0 (some ⟨gk, 0, none⟩) A2 c0 ks.length c1 fs.length c2 tn st wk g W1 ht (M.blk 1 rfl) (M.rowS 2 rfl)
 rw [hr] at hC
 refine Calls.mono (by with_reducible exact hC) ?_
 clear hC
 rintro r W2 ⟨rfl, g1⟩
 replace M := M.call g1
 clear g1
 obtain ⟨tP, Ag, Ah, Ai, Aj, Af⟩ := M.q5 0 rfl
 go_wp2_with fail
 have hC := fun V => hasKind_any a b c d e k V pd1 pd2
 rw [hi] at hC
 refine Calls.mono (by with_reducible exact hC _) ?_
 clear hC
 rintro r W3 ⟨rfl, g1⟩
 clear tP Ag Ah Ai Aj Af
 replace M := M.call g1
 clear g1
 obtain ⟨tP, Ag, Ah, Ai, Aj, Af⟩ := M.q5 0 rfl
 obtain ⟨tY, Ab, Ae, Ad, Ac, Aa⟩ := M.q5 1 rfl
 have yk : W3.cell? ⟨gk, k, none⟩ = some (.int .i64 0) := rK_get (M.rowAt 3 rfl) HKS.out
 go_wp2_with fail
 replace M := M.front 4 rfl
 simp only [zE, zF] at M
 replace M := M.front 4 rfl
 simp only [zE, zF] at M
 replace M := M.front 4 rfl
 simp only [zE, zF] at M
 replace M := M.front 4 rfl
 simp only [zE, zF] at M
 refine Calls.mono (by with_reducible exact (HW.out _ (Sep.same (ps := [.blk (g) 35 #[.slice A0 ts.length c0, .slice (some ⟨gk, 0, none⟩) ks.length c1, .slice A2 fs.length c2, .int .i64 tn, .bool st], rT ts.length A0 c0 ts, rK ks.length (some ⟨gk, 0, none⟩) c1 ks, rF fs.length A2 c2 fs]) (rs := [.blk (w.heap.size) 28 #[.int .i64 a, .int .i64 b, .int .i64 c, .int .i64 d, .int .i64 e]]) M (Below.refl _ _)))) ?_
 rintro r W4 ⟨rfl, g1⟩
 clear tP Ag Ah Ai Aj Af tY Ab Ae Ad Ac Aa yk
 replace M : Sep S w W4 [.blk (w.heap.size) 28 #[.int .i64 a, .int .i64 b, .int .i64 c, .int .i64 d, .int .i64 e]] := Sep.comp (ps := [.blk (g) 35 #[.slice A0 ts.length c0, .slice (some ⟨gk, 0, none⟩) ks.length c1, .slice A2 fs.length c2, .int .i64 tn, .bool st], rT ts.length A0 c0 ts, rK ks.length (some ⟨gk, 0, none⟩) c1 ks, rF fs.length A2 c2 fs]) (rs := [.blk (w.heap.size) 28 #[.int .i64 a, .int .i64 b, .int .i64 c, .int .i64 d, .int .i64 e]]) M g1
 clear g1
 go_wp2_with fail
 go_ret
 exact ⟨rfl, M.drop 1⟩
end Go.Proofs.YtfkdfkoigojciaaGreatDoor
