/- The model's Joined: the ways that refuse. Lists no longer than a million. -/
import Derived.Test.YtfkdfkoigojciaaGreatDoorQB15
import Derived.Test.YtfkdfkoigojciaaGreatDoorQB09
import Derived.Test.YtfkdfkoigojciaaGreatDoorQB07

namespace Go.Proofs.YtfkdfkoigojciaaGreatDoor
open Go.RowKit
set_option linter.unusedVariables false
set_option maxRecDepth 100000
set_option maxHeartbeats 800000 in
theorem join_none (ts : List T7) (ks : List Int) (fs : List F2) (A0 A1 A2 : Option Addr) (c0 c1 c2 : Nat) (tn : Int) (st : Bool) (g : Nat) (a b c d e wk id : Int) (w : World) (ht : ts.length ≤ 1048576) (hk : ks.length ≤ 1048576) (hf : fs.length ≤ 1048576) (h : Sep (fps [.blk g 35 #[.slice A0 ts.length c0, .slice A1 ks.length c1, .slice A2 fs.length c2, .int .i64 tn, .bool st], rT ts.length A0 c0 ts, rK ks.length A1 c1 ks, rF fs.length A2 c2 fs]) w w [.blk g 35 #[.slice A0 ts.length c0, .slice A1 ks.length c1, .slice A2 fs.length c2, .int .i64 tn, .bool st], rT ts.length A0 c0 ts, rK ks.length A1 c1 ks, rF fs.length A2 c2 fs]) (hr : runM ts wk 0 = -1) :
 Calls Tryz.prog 61 #[.pointer (some ⟨g, 0, none⟩), .agg #[.int .i64 a, .int .i64 b, .int .i64 c, .int .i64 d, .int .i64 e], .int .i64 wk, .int .i64 id] w (fun r w' => r = .returned (.iface 133 (.int .i64 2)) ∧ Sep (fps [.blk g 35 #[.slice A0 ts.length c0, .slice A1 ks.length c1, .slice A2 fs.length c2, .int .i64 tn, .bool st], rT ts.length A0 c0 ts, rK ks.length A1 c1 ks, rF fs.length A2 c2 fs]) w w' []) := by
 obtain ⟨S, hS⟩ : ∃ S, S = fps [.blk g 35 #[.slice A0 ts.length c0, .slice A1 ks.length c1, .slice A2 fs.length c2, .int .i64 tn, .bool st], rT ts.length A0 c0 ts, rK ks.length A1 c1 ks, rF fs.length A2 c2 fs] := ⟨_, rfl⟩
 rw [← hS] at h ⊢
 clear hS
 have M0 := hide h
 clear h
 go_enter Tryz.func61, Tryz.ntmps61
 go_wp2_with fail
 have M := M0.out.allocN 28 #[.int .i64 a, .int .i64 b, .int .i64 c, .int .i64 d, .int .i64 e]
 clear M0
 generalize w.alloc (.cells #[.int .i64 a, .int .i64 b, .int .i64 c, .int .i64 d, .int .i64 e] 28) = W1 at M ⊢
 have hC := runBy_any ts A0 A1 A2 c0 ks.length c1 fs.length c2 tn st wk g W1 ht (M.blk 1 rfl) (M.rowS 2 rfl)
 rw [hr] at hC
 refine Calls.mono (by with_reducible exact hC) ?_
 clear hC
 rintro r W2 ⟨rfl, g1⟩
 replace M := M.call g1
 clear g1
 go_wp2_with fail
 go_ret
 exact ⟨rfl, M.drop 5⟩
set_option maxHeartbeats 800000 in
theorem join_has (ts : List T7) (ks : List Int) (fs : List F2) (A0 A1 A2 : Option Addr) (c0 c1 c2 : Nat) (tn : Int) (st : Bool) (g : Nat) (a b c d e wk id : Int) (w : World) (ht : ts.length ≤ 1048576) (hk : ks.length ≤ 1048576) (hf : fs.length ≤ 1048576) (h : Sep (fps [.blk g 35 #[.slice A0 ts.length c0, .slice A1 ks.length c1, .slice A2 fs.length c2, .int .i64 tn, .bool st], rT ts.length A0 c0 ts, rK ks.length A1 c1 ks, rF fs.length A2 c2 fs]) w w [.blk g 35 #[.slice A0 ts.length c0, .slice A1 ks.length c1, .slice A2 fs.length c2, .int .i64 tn, .bool st], rT ts.length A0 c0 ts, rK ks.length A1 c1 ks, rF fs.length A2 c2 fs]) (me : Int) (hr : runM ts wk 0 = me) (h0 : 0 ≤ me) (hh : btw id 0 ((ts.length : Int) - 1) = false) :
 Calls Tryz.prog 61 #[.pointer (some ⟨g, 0, none⟩), .agg #[.int .i64 a, .int .i64 b, .int .i64 c, .int .i64 d, .int .i64 e], .int .i64 wk, .int .i64 id] w (fun r w' => r = .returned (.iface 133 (.int .i64 8)) ∧ Sep (fps [.blk g 35 #[.slice A0 ts.length c0, .slice A1 ks.length c1, .slice A2 fs.length c2, .int .i64 tn, .bool st], rT ts.length A0 c0 ts, rK ks.length A1 c1 ks, rF fs.length A2 c2 fs]) w w' []) := by
 have hne : (me == -1) = false := by rw [beq_eq_false_iff_ne]; omega
 obtain ⟨S, hS⟩ : ∃ S, S = fps [.blk g 35 #[.slice A0 ts.length c0, .slice A1 ks.length c1, .slice A2 fs.length c2, .int .i64 tn, .bool st], rT ts.length A0 c0 ts, rK ks.length A1 c1 ks, rF fs.length A2 c2 fs] := ⟨_, rfl⟩
 rw [← hS] at h ⊢
 clear hS
 have M0 := hide h
 clear h
 go_enter Tryz.func61, Tryz.ntmps61
 go_wp2_with fail
 have M := M0.out.allocN 28 #[.int .i64 a, .int .i64 b, .int .i64 c, .int .i64 d, .int .i64 e]
 clear M0
 generalize w.alloc (.cells #[.int .i64 a, .int .i64 b, .int .i64 c, .int .i64 d, .int .i64 e] 28) = W1 at M ⊢
 have hC := runBy_any ts A0 A1 A2 c0 ks.length c1 fs.length c2 tn st wk g W1 ht (M.blk 1 rfl) (M.rowS 2 rfl)
 rw [hr] at hC
 refine Calls.mono (by with_reducible exact hC) ?_
 clear hC
 rintro r W2 ⟨rfl, g1⟩
 replace M := M.call g1
 clear g1
 go_wp2_with fail
 have hC := has_any ts A0 A1 A2 c0 ks.length c1 fs.length c2 tn st g id W2 ht (M.blk 1 rfl)
 rw [hh] at hC
 refine Calls.mono (by with_reducible exact hC) ?_
 clear hC
 rintro r W3 ⟨rfl, hWW⟩
 subst hWW
 go_wp2_with fail
 go_ret
 exact ⟨rfl, M.drop 5⟩
set_option maxHeartbeats 800000 in
theorem join_self (ts : List T7) (ks : List Int) (fs : List F2) (A0 A1 A2 : Option Addr) (c0 c1 c2 : Nat) (tn : Int) (st : Bool) (g : Nat) (a b c d e wk me : Int) (w : World) (ht : ts.length ≤ 1048576) (hk : ks.length ≤ 1048576) (hf : fs.length ≤ 1048576) (h : Sep (fps [.blk g 35 #[.slice A0 ts.length c0, .slice A1 ks.length c1, .slice A2 fs.length c2, .int .i64 tn, .bool st], rT ts.length A0 c0 ts, rK ks.length A1 c1 ks, rF fs.length A2 c2 fs]) w w [.blk g 35 #[.slice A0 ts.length c0, .slice A1 ks.length c1, .slice A2 fs.length c2, .int .i64 tn, .bool st], rT ts.length A0 c0 ts, rK ks.length A1 c1 ks, rF fs.length A2 c2 fs]) (hr : runM ts wk 0 = me) (h0 : 0 ≤ me) (hh : btw me 0 ((ts.length : Int) - 1) = true) :
 Calls Tryz.prog 61 #[.pointer (some ⟨g, 0, none⟩), .agg #[.int .i64 a, .int .i64 b, .int .i64 c, .int .i64 d, .int .i64 e], .int .i64 wk, .int .i64 me] w (fun r w' => r = .returned (.iface 133 (.int .i64 8)) ∧ Sep (fps [.blk g 35 #[.slice A0 ts.length c0, .slice A1 ks.length c1, .slice A2 fs.length c2, .int .i64 tn, .bool st], rT ts.length A0 c0 ts, rK ks.length A1 c1 ks, rF fs.length A2 c2 fs]) w w' []) := by
 have hne : (me == -1) = false := by rw [beq_eq_false_iff_ne]; omega
 obtain ⟨S, hS⟩ : ∃ S, S = fps [.blk g 35 #[.slice A0 ts.length c0, .slice A1 ks.length c1, .slice A2 fs.length c2, .int .i64 tn, .bool st], rT ts.length A0 c0 ts, rK ks.length A1 c1 ks, rF fs.length A2 c2 fs] := ⟨_, rfl⟩
 rw [← hS] at h ⊢
 clear hS
 have M0 := hide h
 clear h
 go_enter Tryz.func61, Tryz.ntmps61
 go_wp2_with fail
 have M := M0.out.allocN 28 #[.int .i64 a, .int .i64 b, .int .i64 c, .int .i64 d, .int .i64 e]
 clear M0
 generalize w.alloc (.cells #[.int .i64 a, .int .i64 b, .int .i64 c, .int .i64 d, .int .i64 e] 28) = W1 at M ⊢
 have hC := runBy_any ts A0 A1 A2 c0 ks.length c1 fs.length c2 tn st wk g W1 ht (M.blk 1 rfl) (M.rowS 2 rfl)
 rw [hr] at hC
 refine Calls.mono (by with_reducible exact hC) ?_
 clear hC
 rintro r W2 ⟨rfl, g1⟩
 replace M := M.call g1
 clear g1
 go_wp2_with fail
 have hC := has_any ts A0 A1 A2 c0 ks.length c1 fs.length c2 tn st g me W2 ht (M.blk 1 rfl)
 rw [hh] at hC
 refine Calls.mono (by with_reducible exact hC) ?_
 clear hC
 rintro r W3 ⟨rfl, hWW⟩
 subst hWW
 go_wp2_with fail
 go_ret
 exact ⟨rfl, M.drop 5⟩
set_option maxHeartbeats 800000 in
theorem join_gone (ts : List T7) (ks : List Int) (fs : List F2) (A0 A1 A2 : Option Addr) (c0 c1 c2 : Nat) (tn : Int) (st : Bool) (g : Nat) (a b c d e wk id : Int) (w : World) (ht : ts.length ≤ 1048576) (hk : ks.length ≤ 1048576) (hf : fs.length ≤ 1048576) (h : Sep (fps [.blk g 35 #[.slice A0 ts.length c0, .slice A1 ks.length c1, .slice A2 fs.length c2, .int .i64 tn, .bool st], rT ts.length A0 c0 ts, rK ks.length A1 c1 ks, rF fs.length A2 c2 fs]) w w [.blk g 35 #[.slice A0 ts.length c0, .slice A1 ks.length c1, .slice A2 fs.length c2, .int .i64 tn, .bool st], rT ts.length A0 c0 ts, rK ks.length A1 c1 ks, rF fs.length A2 c2 fs]) (me : Int) (hr : runM ts wk 0 = me) (h0 : 0 ≤ me) (hh : btw id 0 ((ts.length : Int) - 1) = true) (hid : id ≠ me) (h5 : isInB ts id 5 = true) :
 Calls Tryz.prog 61 #[.pointer (some ⟨g, 0, none⟩), .agg #[.int .i64 a, .int .i64 b, .int .i64 c, .int .i64 d, .int .i64 e], .int .i64 wk, .int .i64 id] w (fun r w' => r = .returned (.iface 133 (.int .i64 5)) ∧ Sep (fps [.blk g 35 #[.slice A0 ts.length c0, .slice A1 ks.length c1, .slice A2 fs.length c2, .int .i64 tn, .bool st], rT ts.length A0 c0 ts, rK ks.length A1 c1 ks, rF fs.length A2 c2 fs]) w w' []) := by
 have hne : (me == -1) = false := by rw [beq_eq_false_iff_ne]; omega
 have hni : (id == me) = false := by rw [beq_eq_false_iff_ne]; exact hid
 obtain ⟨S, hS⟩ : ∃ S, S = fps [.blk g 35 #[.slice A0 ts.length c0, .slice A1 ks.length c1, .slice A2 fs.length c2, .int .i64 tn, .bool st], rT ts.length A0 c0 ts, rK ks.length A1 c1 ks, rF fs.length A2 c2 fs] := ⟨_, rfl⟩
 rw [← hS] at h ⊢
 clear hS
 have M0 := hide h
 clear h
 go_enter Tryz.func61, Tryz.ntmps61
 go_wp2_with fail
 have M := M0.out.allocN 28 #[.int .i64 a, .int .i64 b, .int .i64 c, .int .i64 d, .int .i64 e]
 clear M0
 generalize w.alloc (.cells #[.int .i64 a, .int .i64 b, .int .i64 c, .int .i64 d, .int .i64 e] 28) = W1 at M ⊢
 have hC := runBy_any ts A0 A1 A2 c0 ks.length c1 fs.length c2 tn st wk g W1 ht (M.blk 1 rfl) (M.rowS 2 rfl)
 rw [hr] at hC
 refine Calls.mono (by with_reducible exact hC) ?_
 clear hC
 rintro r W2 ⟨rfl, g1⟩
 replace M := M.call g1
 clear g1
 go_wp2_with fail
 have hC := has_any ts A0 A1 A2 c0 ks.length c1 fs.length c2 tn st g id W2 ht (M.blk 1 rfl)
 rw [hh] at hC
 refine Calls.mono (by with_reducible exact hC) ?_
 clear hC
 rintro r W3 ⟨rfl, hWW⟩
 subst hWW
 go_wp2_with fail
 have hC := isIn_any ts A0 A1 A2 c0 ks.length c1 fs.length c2 tn st g id 5 W2 ht (M.blk 1 rfl) (M.rowS 2 rfl)
 rw [h5] at hC
 refine Calls.mono (by with_reducible exact hC) ?_
 clear hC
 rintro r W4 ⟨rfl, g1⟩
 replace M := M.call g1
 clear g1
 go_wp2_with fail
 go_ret
 exact ⟨rfl, M.drop 5⟩
set_option maxHeartbeats 800000 in
theorem join_done (ts : List T7) (ks : List Int) (fs : List F2) (A0 A1 A2 : Option Addr) (c0 c1 c2 : Nat) (tn : Int) (st : Bool) (g : Nat) (a b c d e wk : Int) (k : Nat) (s l o1 wt on v t : Int) (hts : ts[k]? = some ⟨s, l, o1, wt, on, v, t⟩) (w : World) (ht : ts.length ≤ 1048576) (hk : ks.length ≤ 1048576) (hf : fs.length ≤ 1048576) (h : Sep (fps [.blk g 35 #[.slice A0 ts.length c0, .slice A1 ks.length c1, .slice A2 fs.length c2, .int .i64 tn, .bool st], rT ts.length A0 c0 ts, rK ks.length A1 c1 ks, rF fs.length A2 c2 fs]) w w [.blk g 35 #[.slice A0 ts.length c0, .slice A1 ks.length c1, .slice A2 fs.length c2, .int .i64 tn, .bool st], rT ts.length A0 c0 ts, rK ks.length A1 c1 ks, rF fs.length A2 c2 fs]) (me : Int) (hr : runM ts wk 0 = me) (h0 : 0 ≤ me) (hh : btw k 0 ((ts.length : Int) - 1) = true) (hid : (k : Int) ≠ me) (h5 : isInB ts k 5 = false) (h4 : isInB ts k 4 = true) :
 Calls Tryz.prog 61 #[.pointer (some ⟨g, 0, none⟩), .agg #[.int .i64 a, .int .i64 b, .int .i64 c, .int .i64 d, .int .i64 e], .int .i64 wk, .int .i64 k] w (fun r w' => r = .returned (.iface 165 (.agg #[.iface 133 (.int .i64 1), .int .i64 v])) ∧ HeldO (fps [.blk g 35 #[.slice A0 ts.length c0, .slice A1 ks.length c1, .slice A2 fs.length c2, .int .i64 tn, .bool st], rT ts.length A0 c0 ts, rK ks.length A1 c1 ks, rF fs.length A2 c2 fs]) g ⟨ts, ks, fs, tn, st, 1, v⟩ w w') := by
 have hkl : k < ts.length := by
  rcases Nat.lt_or_ge k ts.length with h1 | h1
  ·exact h1
  ·rw [List.getElem?_eq_none h1] at hts; cases hts
 have hki : (k : Int) < (ts.length : Int) := by omega
 have hk0 : (0 : Int) ≤ (k : Int) := by omega
 have hr9 : (rT ts.length A0 c0 ts).here w := h.rowAt 1 rfl
 obtain ⟨gr, rfl, hgl, hfz9⟩ := rT_form hr9 (show 0 < ts.length by omega)
 clear hr9 hfz9 hgl
 have hne : (me == -1) = false := by rw [beq_eq_false_iff_ne]; omega
 have hni : ((k : Int) == me) = false := by rw [beq_eq_false_iff_ne]; exact hid
 have HT := hide hts
 clear hts
 obtain ⟨S, hS⟩ : ∃ S, S = fps [.blk g 35 #[.slice (some ⟨gr, 0, none⟩) ts.length c0, .slice A1 ks.length c1, .slice A2 fs.length c2, .int .i64 tn, .bool st], rT ts.length (some ⟨gr, 0, none⟩) c0 ts, rK ks.length A1 c1 ks, rF fs.length A2 c2 fs] := ⟨_, rfl⟩
 rw [← hS] at h ⊢
 clear hS
 have M0 := hide h
 clear h
 go_enter Tryz.func61, Tryz.ntmps61
 go_wp2_with fail
 have M := M0.out.allocN 28 #[.int .i64 a, .int .i64 b, .int .i64 c, .int .i64 d, .int .i64 e]
 clear M0
 generalize w.alloc (.cells #[.int .i64 a, .int .i64 b, .int .i64 c, .int .i64 d, .int .i64 e] 28) = W1 at M ⊢
 have hC := runBy_any ts (some ⟨gr, 0, none⟩) A1 A2 c0 ks.length c1 fs.length c2 tn st wk g W1 ht (M.blk 1 rfl) (M.rowS 2 rfl)
 rw [hr] at hC
 refine Calls.mono (by with_reducible exact hC) ?_
 clear hC
 rintro r W2 ⟨rfl, g1⟩
 replace M := M.call g1
 clear g1
 go_wp2_with fail
 have hC := has_any ts (some ⟨gr, 0, none⟩) A1 A2 c0 ks.length c1 fs.length c2 tn st g k W2 ht (M.blk 1 rfl)
 rw [hh] at hC
 refine Calls.mono (by with_reducible exact hC) ?_
 clear hC
 rintro r W3 ⟨rfl, hWW⟩
 subst hWW
 go_wp2_with fail
 have hC := isIn_any ts (some ⟨gr, 0, none⟩) A1 A2 c0 ks.length c1 fs.length c2 tn st g k 5 W2 ht (M.blk 1 rfl) (M.rowS 2 rfl)
 rw [h5] at hC
 refine Calls.mono (by with_reducible exact hC) ?_
 clear hC
 rintro r W4 ⟨rfl, g1⟩
 replace M := M.call g1
 clear g1
 go_wp2_with fail
 have hC := isIn_any ts (some ⟨gr, 0, none⟩) A1 A2 c0 ks.length c1 fs.length c2 tn st g k 4 W4 ht (M.blk 1 rfl) (M.rowS 2 rfl)
 rw [h4] at hC
 refine Calls.mono (by with_reducible exact hC) ?_
 clear hC
 rintro r W5 ⟨rfl, g1⟩
 replace M := M.call g1
 clear g1
 obtain ⟨tY, Ah, Ag, Ai, Af, Aj⟩ := M.q5 1 rfl
 obtain ⟨s', l', o', wt', on', v', t', ht', y0, y1, y2, y3, y4, y5, y6⟩ := Own.t7 (M.rowAt 2 rfl) hkl
 rw [HT.out] at ht'
 injection ht' with ht'
 injection ht' with e0 e1 e2 e3 e4 e5 e6
 subst e0 e1 e2 e3 e4 e5 e6
 go_wp2_with fail
 go_call (saidWith_any 1 v _) as r WS ⟨rfl, hWW⟩
 subst hWW
 clear tY Ah Ag Ai Af Aj y0 y1 y2 y3 y4 y5 y6
 go_wp2_with fail
 replace M := M.front 4 rfl
 simp only [List.eraseIdx_cons_succ, List.eraseIdx_cons_zero] at M
 replace M := M.front 4 rfl
 simp only [List.eraseIdx_cons_succ, List.eraseIdx_cons_zero] at M
 replace M := M.front 4 rfl
 simp only [List.eraseIdx_cons_succ, List.eraseIdx_cons_zero] at M
 replace M := M.front 4 rfl
 simp only [List.eraseIdx_cons_succ, List.eraseIdx_cons_zero] at M
 go_ret
 exact ⟨rfl, (some ⟨gr, 0, none⟩), A1, A2, c0, c1, c2, M.take 4⟩
set_option maxHeartbeats 800000 in
theorem join_park (ts : List T7) (ks : List Int) (fs : List F2) (A0 A1 A2 : Option Addr) (c0 c1 c2 : Nat) (tn : Int) (st : Bool) (g : Nat) (a b c d e wk id : Int) (m : Nat) (s l o1 wt on v t : Int) (w : World) (ht : ts.length ≤ 1048576) (hk : ks.length ≤ 1048576) (hf : fs.length ≤ 1048576) (h : Sep (fps [.blk g 35 #[.slice A0 ts.length c0, .slice A1 ks.length c1, .slice A2 fs.length c2, .int .i64 tn, .bool st], rT ts.length A0 c0 ts, rK ks.length A1 c1 ks, rF fs.length A2 c2 fs]) w w [.blk g 35 #[.slice A0 ts.length c0, .slice A1 ks.length c1, .slice A2 fs.length c2, .int .i64 tn, .bool st], rT ts.length A0 c0 ts, rK ks.length A1 c1 ks, rF fs.length A2 c2 fs]) (t0 : 0 ≤ tn) (t1 : tn ≤ 1000000) (hr : runM ts wk 0 = m) (hts : ts[m]? = some ⟨s, l, o1, wt, on, v, t⟩) (hc : isInB ts m 2 = true) (hh : btw id 0 ((ts.length : Int) - 1) = true) (hid : id ≠ m) (h5 : isInB ts id 5 = false) (h4 : isInB ts id 4 = false) (hz : poolB a b c d e (ts.set m (parkT ⟨s, l, o1, wt, on, v, t⟩ tn 1 id)) ks fs (tn + 1) = true) :
 Calls Tryz.prog 61 #[.pointer (some ⟨g, 0, none⟩), .agg #[.int .i64 a, .int .i64 b, .int .i64 c, .int .i64 d, .int .i64 e], .int .i64 wk, .int .i64 id] w (fun r w' => r = .returned (.iface 165 (.agg #[.iface 133 (.int .i64 7), .int .i64 (m : Int)])) ∧ HeldO (fps [.blk g 35 #[.slice A0 ts.length c0, .slice A1 ks.length c1, .slice A2 fs.length c2, .int .i64 tn, .bool st], rT ts.length A0 c0 ts, rK ks.length A1 c1 ks, rF fs.length A2 c2 fs]) g ⟨(ts.set m (parkT ⟨s, l, o1, wt, on, v, t⟩ tn 1 id)), ks, fs, (tn + 1), st, 7, (m : Int)⟩ w w') := by
 have hne : ((m : Int) == -1) = false := by rw [beq_eq_false_iff_ne]; omega
 have hni : (id == (m : Int)) = false := by rw [beq_eq_false_iff_ne]; exact hid
 have HW := hide (fun (V : World) (hV : Sep (fps [.blk g 35 #[.slice A0 ts.length c0, .slice A1 ks.length c1, .slice A2 fs.length c2, .int .i64 tn, .bool st], rT ts.length A0 c0 ts, rK ks.length A1 c1 ks, rF fs.length A2 c2 fs]) V V [.blk g 35 #[.slice A0 ts.length c0, .slice A1 ks.length c1, .slice A2 fs.length c2, .int .i64 tn, .bool st], rT ts.length A0 c0 ts, rK ks.length A1 c1 ks, rF fs.length A2 c2 fs]) => waitFor_yes ts ks fs A0 A1 A2 c0 c1 c2 tn st g a b c d e m 1 id s l o1 wt on v t V ht hk hf hV t0 t1 hts hc hz)
 clear hts hz hc
 obtain ⟨S, hS⟩ : ∃ S, S = fps [.blk g 35 #[.slice A0 ts.length c0, .slice A1 ks.length c1, .slice A2 fs.length c2, .int .i64 tn, .bool st], rT ts.length A0 c0 ts, rK ks.length A1 c1 ks, rF fs.length A2 c2 fs] := ⟨_, rfl⟩
 rw [← hS] at h ⊢
 clear hS
 have M0 := hide h
 clear h
 go_enter Tryz.func61, Tryz.ntmps61
 go_wp2_with fail
 have M := M0.out.allocN 28 #[.int .i64 a, .int .i64 b, .int .i64 c, .int .i64 d, .int .i64 e]
 clear M0
 generalize w.alloc (.cells #[.int .i64 a, .int .i64 b, .int .i64 c, .int .i64 d, .int .i64 e] 28) = W1 at M ⊢
 have hC := runBy_any ts A0 A1 A2 c0 ks.length c1 fs.length c2 tn st wk g W1 ht (M.blk 1 rfl) (M.rowS 2 rfl)
 rw [hr] at hC
 refine Calls.mono (by with_reducible exact hC) ?_
 clear hC
 rintro r W2 ⟨rfl, g1⟩
 replace M := M.call g1
 clear g1
 go_wp2_with fail
 have hC := has_any ts A0 A1 A2 c0 ks.length c1 fs.length c2 tn st g id W2 ht (M.blk 1 rfl)
 rw [hh] at hC
 refine Calls.mono (by with_reducible exact hC) ?_
 clear hC
 rintro r W3 ⟨rfl, hWW⟩
 subst hWW
 go_wp2_with fail
 have hC := isIn_any ts A0 A1 A2 c0 ks.length c1 fs.length c2 tn st g id 5 W2 ht (M.blk 1 rfl) (M.rowS 2 rfl)
 rw [h5] at hC
 refine Calls.mono (by with_reducible exact hC) ?_
 clear hC
 rintro r W4 ⟨rfl, g1⟩
 replace M := M.call g1
 clear g1
 go_wp2_with fail
 have hC := isIn_any ts A0 A1 A2 c0 ks.length c1 fs.length c2 tn st g id 4 W4 ht (M.blk 1 rfl) (M.rowS 2 rfl)
 rw [h4] at hC
 refine Calls.mono (by with_reducible exact hC) ?_
 clear hC
 rintro r W5 ⟨rfl, g1⟩
 replace M := M.call g1
 clear g1
 obtain ⟨tP, Aa, Ab, Ac, Ad, Ae⟩ := M.q5 0 rfl
 go_wp2_with fail
 replace M := M.front 4 rfl
 simp only [List.eraseIdx_cons_succ, List.eraseIdx_cons_zero] at M
 replace M := M.front 4 rfl
 simp only [List.eraseIdx_cons_succ, List.eraseIdx_cons_zero] at M
 replace M := M.front 4 rfl
 simp only [List.eraseIdx_cons_succ, List.eraseIdx_cons_zero] at M
 replace M := M.front 4 rfl
 simp only [List.eraseIdx_cons_succ, List.eraseIdx_cons_zero] at M
 refine Calls.mono (by with_reducible exact (HW.out _ (Sep.same (ps := [.blk (g) 35 #[.slice A0 ts.length c0, .slice A1 ks.length c1, .slice A2 fs.length c2, .int .i64 tn, .bool st], rT ts.length A0 c0 ts, rK ks.length A1 c1 ks, rF fs.length A2 c2 fs]) (rs := [.blk (w.heap.size) 28 #[.int .i64 a, .int .i64 b, .int .i64 c, .int .i64 d, .int .i64 e]]) M (Below.refl _ _)))) ?_
 rintro r W6 ⟨rfl, D0, D1, D2, f0, f1, f2, g1⟩
 clear tP Aa Ab Ac Ad Ae
 replace M : Sep S w W6 [.blk (g) 35 #[.slice D0 (ts.set m (parkT ⟨s, l, o1, wt, on, v, t⟩ tn 1 id)).length f0, .slice D1 ks.length f1, .slice D2 fs.length f2, .int .i64 ((tn + 1)), .bool st], rT (ts.set m (parkT ⟨s, l, o1, wt, on, v, t⟩ tn 1 id)).length D0 f0 (ts.set m (parkT ⟨s, l, o1, wt, on, v, t⟩ tn 1 id)), rK ks.length D1 f1 ks, rF fs.length D2 f2 fs, .blk (w.heap.size) 28 #[.int .i64 a, .int .i64 b, .int .i64 c, .int .i64 d, .int .i64 e]] := Sep.comp (ps := [.blk (g) 35 #[.slice A0 ts.length c0, .slice A1 ks.length c1, .slice A2 fs.length c2, .int .i64 tn, .bool st], rT ts.length A0 c0 ts, rK ks.length A1 c1 ks, rF fs.length A2 c2 fs]) (rs := [.blk (w.heap.size) 28 #[.int .i64 a, .int .i64 b, .int .i64 c, .int .i64 d, .int .i64 e]]) M g1
 clear g1
 go_wp2_with fail
 go_ret
 exact ⟨rfl, D0, D1, D2, f0, f1, f2, M.take 4⟩
set_option maxHeartbeats 800000 in
theorem join_full (ts : List T7) (ks : List Int) (fs : List F2) (A0 A1 A2 : Option Addr) (c0 c1 c2 : Nat) (tn : Int) (st : Bool) (g : Nat) (a b c d e wk id : Int) (m : Nat) (s l o1 wt on v t : Int) (w : World) (ht : ts.length ≤ 1048576) (hk : ks.length ≤ 1048576) (hf : fs.length ≤ 1048576) (h : Sep (fps [.blk g 35 #[.slice A0 ts.length c0, .slice A1 ks.length c1, .slice A2 fs.length c2, .int .i64 tn, .bool st], rT ts.length A0 c0 ts, rK ks.length A1 c1 ks, rF fs.length A2 c2 fs]) w w [.blk g 35 #[.slice A0 ts.length c0, .slice A1 ks.length c1, .slice A2 fs.length c2, .int .i64 tn, .bool st], rT ts.length A0 c0 ts, rK ks.length A1 c1 ks, rF fs.length A2 c2 fs]) (t0 : 0 ≤ tn) (t1 : tn ≤ 1000000) (hr : runM ts wk 0 = m) (hts : ts[m]? = some ⟨s, l, o1, wt, on, v, t⟩) (hc : isInB ts m 2 = true) (hh : btw id 0 ((ts.length : Int) - 1) = true) (hid : id ≠ m) (h5 : isInB ts id 5 = false) (h4 : isInB ts id 4 = false) (hz : poolB a b c d e (ts.set m (parkT ⟨s, l, o1, wt, on, v, t⟩ tn 1 id)) ks fs (tn + 1) = false) :
 Calls Tryz.prog 61 #[.pointer (some ⟨g, 0, none⟩), .agg #[.int .i64 a, .int .i64 b, .int .i64 c, .int .i64 d, .int .i64 e], .int .i64 wk, .int .i64 id] w (fun r w' => r = .returned (.iface 133 (.int .i64 4)) ∧ Sep (fps [.blk g 35 #[.slice A0 ts.length c0, .slice A1 ks.length c1, .slice A2 fs.length c2, .int .i64 tn, .bool st], rT ts.length A0 c0 ts, rK ks.length A1 c1 ks, rF fs.length A2 c2 fs]) w w' []) := by
 have hne : ((m : Int) == -1) = false := by rw [beq_eq_false_iff_ne]; omega
 have hni : (id == (m : Int)) = false := by rw [beq_eq_false_iff_ne]; exact hid
 have HW := hide (fun (V : World) (hV : Sep (fps [.blk g 35 #[.slice A0 ts.length c0, .slice A1 ks.length c1, .slice A2 fs.length c2, .int .i64 tn, .bool st], rT ts.length A0 c0 ts, rK ks.length A1 c1 ks, rF fs.length A2 c2 fs]) V V [.blk g 35 #[.slice A0 ts.length c0, .slice A1 ks.length c1, .slice A2 fs.length c2, .int .i64 tn, .bool st], rT ts.length A0 c0 ts, rK ks.length A1 c1 ks, rF fs.length A2 c2 fs]) => waitFor_full ts ks fs A0 A1 A2 c0 c1 c2 tn st g a b c d e m 1 id s l o1 wt on v t V ht hk hf hV t0 t1 hts hc hz)
 clear hts hz hc
 obtain ⟨S, hS⟩ : ∃ S, S = fps [.blk g 35 #[.slice A0 ts.length c0, .slice A1 ks.length c1, .slice A2 fs.length c2, .int .i64 tn, .bool st], rT ts.length A0 c0 ts, rK ks.length A1 c1 ks, rF fs.length A2 c2 fs] := ⟨_, rfl⟩
 rw [← hS] at h ⊢
 clear hS
 have M0 := hide h
 clear h
 go_enter Tryz.func61, Tryz.ntmps61
 go_wp2_with fail
 have M := M0.out.allocN 28 #[.int .i64 a, .int .i64 b, .int .i64 c, .int .i64 d, .int .i64 e]
 clear M0
 generalize w.alloc (.cells #[.int .i64 a, .int .i64 b, .int .i64 c, .int .i64 d, .int .i64 e] 28) = W1 at M ⊢
 have hC := runBy_any ts A0 A1 A2 c0 ks.length c1 fs.length c2 tn st wk g W1 ht (M.blk 1 rfl) (M.rowS 2 rfl)
 rw [hr] at hC
 refine Calls.mono (by with_reducible exact hC) ?_
 clear hC
 rintro r W2 ⟨rfl, g1⟩
 replace M := M.call g1
 clear g1
 go_wp2_with fail
 have hC := has_any ts A0 A1 A2 c0 ks.length c1 fs.length c2 tn st g id W2 ht (M.blk 1 rfl)
 rw [hh] at hC
 refine Calls.mono (by with_reducible exact hC) ?_
 clear hC
 rintro r W3 ⟨rfl, hWW⟩
 subst hWW
 go_wp2_with fail
 have hC := isIn_any ts A0 A1 A2 c0 ks.length c1 fs.length c2 tn st g id 5 W2 ht (M.blk 1 rfl) (M.rowS 2 rfl)
 rw [h5] at hC
 refine Calls.mono (by with_reducible exact hC) ?_
 clear hC
 rintro r W4 ⟨rfl, g1⟩
 replace M := M.call g1
 clear g1
 go_wp2_with fail
 have hC := isIn_any ts A0 A1 A2 c0 ks.length c1 fs.length c2 tn st g id 4 W4 ht (M.blk 1 rfl) (M.rowS 2 rfl)
 rw [h4] at hC
 refine Calls.mono (by with_reducible exact hC) ?_
 clear hC
 rintro r W5 ⟨rfl, g1⟩
 replace M := M.call g1
 clear g1
 obtain ⟨tP, Aa, Ab, Ac, Ad, Ae⟩ := M.q5 0 rfl
 go_wp2_with fail
 replace M := M.front 4 rfl
 simp only [List.eraseIdx_cons_succ, List.eraseIdx_cons_zero] at M
 replace M := M.front 4 rfl
 simp only [List.eraseIdx_cons_succ, List.eraseIdx_cons_zero] at M
 replace M := M.front 4 rfl
 simp only [List.eraseIdx_cons_succ, List.eraseIdx_cons_zero] at M
 replace M := M.front 4 rfl
 simp only [List.eraseIdx_cons_succ, List.eraseIdx_cons_zero] at M
 refine Calls.mono (by with_reducible exact (HW.out _ (Sep.same (ps := [.blk (g) 35 #[.slice A0 ts.length c0, .slice A1 ks.length c1, .slice A2 fs.length c2, .int .i64 tn, .bool st], rT ts.length A0 c0 ts, rK ks.length A1 c1 ks, rF fs.length A2 c2 fs]) (rs := [.blk (w.heap.size) 28 #[.int .i64 a, .int .i64 b, .int .i64 c, .int .i64 d, .int .i64 e]]) M (Below.refl _ _)))) ?_
 rintro r W6 ⟨rfl, g1⟩
 clear tP Aa Ab Ac Ad Ae
 replace M : Sep S w W6 [.blk (w.heap.size) 28 #[.int .i64 a, .int .i64 b, .int .i64 c, .int .i64 d, .int .i64 e]] := Sep.comp (ps := [.blk (g) 35 #[.slice A0 ts.length c0, .slice A1 ks.length c1, .slice A2 fs.length c2, .int .i64 tn, .bool st], rT ts.length A0 c0 ts, rK ks.length A1 c1 ks, rF fs.length A2 c2 fs]) (rs := [.blk (w.heap.size) 28 #[.int .i64 a, .int .i64 b, .int .i64 c, .int .i64 d, .int .i64 e]]) M g1
 clear g1
 go_wp2_with fail
 go_ret
 exact ⟨rfl, M.drop 1⟩
set_option maxRecDepth 100000
set_option maxHeartbeats 4000000 in
theorem joined_may (a b c d e : Int) (ts : List T7) (ks : List Int) (fs : List F2) (A0 A1 A2 : Option Addr) (c0 c1 c2 : Nat) (tn : Int) (st : Bool) (wk : Int) (id : Int) (w : World) (ht : ts.length ≤ 1048576) (hk : ks.length ≤ 1048576) (hf : fs.length ≤ 1048576) (h : InPool w ts ks fs A0 A1 A2) (me : Int) (hme : runM ts wk 0 = me) (hm : mayB a b c d e ts ks fs tn wk = false) :
 Calls Tryz.prog 27 #[.agg #[.int .i64 a, .int .i64 b, .int .i64 c, .int .i64 d, .int .i64 e], .agg #[.slice A0 ts.length c0, .slice A1 ks.length c1, .slice A2 fs.length c2, .int .i64 tn, .bool st], .int .i64 wk, .int .i64 id] w (GaveS [] w (noO (poolB a b c d e ts ks fs tn) ts ks fs tn st 8)) := by
 have H := hide h
 clear h
 have hNo := hide (fun (V : World) (hV : InPool V ts ks fs A0 A1 A2) => l6No_s a b c d e ts ks fs A0 A1 A2 c0 c1 c2 tn st 8 V ht hk hf hV)
 generalize noO (poolB a b c d e ts ks fs tn) ts ks fs tn st 8 = o at hNo ⊢
 have HY := hide (⟨hme, hm, trivial⟩ : _ ∧ _ ∧ True)
 clear hme hm
 go_enter Tryz.func27, Tryz.ntmps27
 go_wp2_with fail
 generalize hW : (((w.alloc _).alloc _).alloc _).alloc _ = W1
 have M := Sep.e4 hW
 clear hW
 obtain ⟨tX, Ag, Af, Ab, Aa, Aj⟩ := M.q5 2 rfl
 obtain ⟨tP, Ae, Ac, Ad, Ah, Ai⟩ := M.q5 3 rfl
 go_call (sRunBy_v ts A0 A1 A2 c0 ks.length c1 fs.length c2 tn st wk me HY.out.1 _ ht (H.out.below M.below).1) as r W2 ⟨rfl, g1⟩
 clear tX Ag Af Ab Aa Aj tP Ae Ac Ad Ah Ai
 replace M := M.call g1
 clear g1
 obtain ⟨tX, Ag, Af, Ab, Aa, Aj⟩ := M.q5 2 rfl
 obtain ⟨tP, Ae, Ac, Ad, Ah, Ai⟩ := M.q5 3 rfl
 go_wp2_with fail
 go_call (l6May_v a b c d e ts ks fs A0 A1 A2 c0 c1 c2 tn st wk false HY.out.2.1 _ ht hk hf (H.out.below M.below)) as r W3 ⟨rfl, g1⟩
 clear tX Ag Af Ab Aa Aj tP Ae Ac Ad Ah Ai
 replace M := M.call g1
 clear g1
 obtain ⟨tX, Ag, Af, Ab, Aa, Aj⟩ := M.q5 2 rfl
 obtain ⟨tP, Ae, Ac, Ad, Ah, Ai⟩ := M.q5 3 rfl
 go_wp2_with fail
 go_call (hNo.out _ (H.out.below M.below)) as r W4 ⟨B0, B1, B2, d0, d1, d2, rfl, g1⟩
 clear tX Ag Af Ab Aa Aj tP Ae Ac Ad Ah Ai
 replace M := Sep.new M g1
 simp only [List.cons_append, List.nil_append] at M
 clear g1
 obtain ⟨tS, Ak, As, Ao, Av⟩ := M.f2 3 rfl
 obtain ⟨tR, An, Ax, Ap, Ar, Al, Au, Aq, At, Am, Aw⟩ := M.f5 4 rfl
 go_wp2_with fail
 clear tS Ak As Ao Av tR An Ax Ap Ar Al Au Aq At Am Aw
 have N := M.gset5 4 rfl (.slice B0 o.ts.length d0) (.slice B1 o.ks.length d1) (.slice B2 o.fs.length d2) (.int .i64 o.tn) (.bool o.st)
 clear M
 obtain ⟨W5, eW, M⟩ := N
 rw [eW]
 clear eW
 simp only [List.set_cons_zero, List.set_cons_succ] at M
 have N := M.gset2 3 rfl (.int .i64 o.rp) (.int .i64 o.ou)
 clear M
 obtain ⟨W6, eW, M⟩ := N
 rw [eW]
 clear eW
 simp only [List.set_cons_zero, List.set_cons_succ] at M
 obtain ⟨tS, Ak, Ao⟩ := M.q2 3 rfl
 obtain ⟨tR, An, Ap, Al, Aq, Am⟩ := M.q5 4 rfl
 exact bodyPost_ret (by simp [results, Tryz.results27, go_sem, An, Ap, Al, Aq, Am, Ak, Ao]) rfl ⟨B0, B1, B2, d0, d1, d2, rfl, M.take 3⟩
set_option maxHeartbeats 4000000 in
theorem joined_none (a b c d e : Int) (ts : List T7) (ks : List Int) (fs : List F2) (A0 A1 A2 : Option Addr) (c0 c1 c2 : Nat) (tn : Int) (st : Bool) (wk : Int) (id : Int) (w : World) (ht : ts.length ≤ 1048576) (hk : ks.length ≤ 1048576) (hf : fs.length ≤ 1048576) (h : InPool w ts ks fs A0 A1 A2) (me : Int) (hme : runM ts wk 0 = me) (h0 : me < 0) (hm : mayB a b c d e ts ks fs tn wk = true) :
 Calls Tryz.prog 27 #[.agg #[.int .i64 a, .int .i64 b, .int .i64 c, .int .i64 d, .int .i64 e], .agg #[.slice A0 ts.length c0, .slice A1 ks.length c1, .slice A2 fs.length c2, .int .i64 tn, .bool st], .int .i64 wk, .int .i64 id] w (GaveS [] w (noO (poolB a b c d e ts ks fs tn) ts ks fs tn st 2)) := by
 have H := hide h
 clear h
 have hNo := hide (fun (V : World) (hV : InPool V ts ks fs A0 A1 A2) => l6No_s a b c d e ts ks fs A0 A1 A2 c0 c1 c2 tn st 2 V ht hk hf hV)
 generalize noO (poolB a b c d e ts ks fs tn) ts ks fs tn st 2 = o at hNo ⊢
 have HY := hide (⟨hme, hm, trivial⟩ : _ ∧ _ ∧ True)
 clear hme hm
 go_enter Tryz.func27, Tryz.ntmps27
 go_wp2_with fail
 generalize hW : (((w.alloc _).alloc _).alloc _).alloc _ = W1
 have M := Sep.e4 hW
 clear hW
 obtain ⟨tX, Ag, Af, Ab, Aa, Aj⟩ := M.q5 2 rfl
 obtain ⟨tP, Ae, Ac, Ad, Ah, Ai⟩ := M.q5 3 rfl
 go_call (sRunBy_v ts A0 A1 A2 c0 ks.length c1 fs.length c2 tn st wk me HY.out.1 _ ht (H.out.below M.below).1) as r W2 ⟨rfl, g1⟩
 clear tX Ag Af Ab Aa Aj tP Ae Ac Ad Ah Ai
 replace M := M.call g1
 clear g1
 obtain ⟨tX, Ag, Af, Ab, Aa, Aj⟩ := M.q5 2 rfl
 obtain ⟨tP, Ae, Ac, Ad, Ah, Ai⟩ := M.q5 3 rfl
 go_wp2_with fail
 go_call (l6May_v a b c d e ts ks fs A0 A1 A2 c0 c1 c2 tn st wk true HY.out.2.1 _ ht hk hf (H.out.below M.below)) as r W3 ⟨rfl, g1⟩
 clear tX Ag Af Ab Aa Aj tP Ae Ac Ad Ah Ai
 replace M := M.call g1
 clear g1
 obtain ⟨tX, Ag, Af, Ab, Aa, Aj⟩ := M.q5 2 rfl
 obtain ⟨tP, Ae, Ac, Ad, Ah, Ai⟩ := M.q5 3 rfl
 go_wp2_with fail
 go_call (hNo.out _ (H.out.below M.below)) as r W4 ⟨B0, B1, B2, d0, d1, d2, rfl, g1⟩
 clear tX Ag Af Ab Aa Aj tP Ae Ac Ad Ah Ai
 replace M := Sep.new M g1
 simp only [List.cons_append, List.nil_append] at M
 clear g1
 obtain ⟨tS, Ak, As, Ao, Av⟩ := M.f2 3 rfl
 obtain ⟨tR, An, Ax, Ap, Ar, Al, Au, Aq, At, Am, Aw⟩ := M.f5 4 rfl
 go_wp2_with fail
 clear tS Ak As Ao Av tR An Ax Ap Ar Al Au Aq At Am Aw
 have N := M.gset5 4 rfl (.slice B0 o.ts.length d0) (.slice B1 o.ks.length d1) (.slice B2 o.fs.length d2) (.int .i64 o.tn) (.bool o.st)
 clear M
 obtain ⟨W5, eW, M⟩ := N
 rw [eW]
 clear eW
 simp only [List.set_cons_zero, List.set_cons_succ] at M
 have N := M.gset2 3 rfl (.int .i64 o.rp) (.int .i64 o.ou)
 clear M
 obtain ⟨W6, eW, M⟩ := N
 rw [eW]
 clear eW
 simp only [List.set_cons_zero, List.set_cons_succ] at M
 obtain ⟨tS, Ak, Ao⟩ := M.q2 3 rfl
 obtain ⟨tR, An, Ap, Al, Aq, Am⟩ := M.q5 4 rfl
 exact bodyPost_ret (by simp [results, Tryz.results27, go_sem, An, Ap, Al, Aq, Am, Ak, Ao]) rfl ⟨B0, B1, B2, d0, d1, d2, rfl, M.take 3⟩
set_option maxHeartbeats 4000000 in
theorem joined_has (a b c d e : Int) (ts : List T7) (ks : List Int) (fs : List F2) (A0 A1 A2 : Option Addr) (c0 c1 c2 : Nat) (tn : Int) (st : Bool) (wk : Int) (id : Int) (w : World) (ht : ts.length ≤ 1048576) (hk : ks.length ≤ 1048576) (hf : fs.length ≤ 1048576) (h : InPool w ts ks fs A0 A1 A2) (me : Int) (hme : runM ts wk 0 = me) (h0 : 0 ≤ me) (hm : mayB a b c d e ts ks fs tn wk = true) (hh : btw id 0 (ts.length - 1) = false) :
 Calls Tryz.prog 27 #[.agg #[.int .i64 a, .int .i64 b, .int .i64 c, .int .i64 d, .int .i64 e], .agg #[.slice A0 ts.length c0, .slice A1 ks.length c1, .slice A2 fs.length c2, .int .i64 tn, .bool st], .int .i64 wk, .int .i64 id] w (GaveS [] w (noO (poolB a b c d e ts ks fs tn) ts ks fs tn st 8)) := by
 have H := hide h
 clear h
 have hNo := hide (fun (V : World) (hV : InPool V ts ks fs A0 A1 A2) => l6No_s a b c d e ts ks fs A0 A1 A2 c0 c1 c2 tn st 8 V ht hk hf hV)
 generalize noO (poolB a b c d e ts ks fs tn) ts ks fs tn st 8 = o at hNo ⊢
 have HY := hide (⟨hme, hm, hh, trivial⟩ : _ ∧ _ ∧ _ ∧ True)
 clear hme hm hh
 go_enter Tryz.func27, Tryz.ntmps27
 go_wp2_with fail
 generalize hW : (((w.alloc _).alloc _).alloc _).alloc _ = W1
 have M := Sep.e4 hW
 clear hW
 obtain ⟨tX, Ag, Af, Ab, Aa, Aj⟩ := M.q5 2 rfl
 obtain ⟨tP, Ae, Ac, Ad, Ah, Ai⟩ := M.q5 3 rfl
 go_call (sRunBy_v ts A0 A1 A2 c0 ks.length c1 fs.length c2 tn st wk me HY.out.1 _ ht (H.out.below M.below).1) as r W2 ⟨rfl, g1⟩
 clear tX Ag Af Ab Aa Aj tP Ae Ac Ad Ah Ai
 replace M := M.call g1
 clear g1
 obtain ⟨tX, Ag, Af, Ab, Aa, Aj⟩ := M.q5 2 rfl
 obtain ⟨tP, Ae, Ac, Ad, Ah, Ai⟩ := M.q5 3 rfl
 go_wp2_with fail
 go_call (l6May_v a b c d e ts ks fs A0 A1 A2 c0 c1 c2 tn st wk true HY.out.2.1 _ ht hk hf (H.out.below M.below)) as r W3 ⟨rfl, g1⟩
 clear tX Ag Af Ab Aa Aj tP Ae Ac Ad Ah Ai
 replace M := M.call g1
 clear g1
 obtain ⟨tX, Ag, Af, Ab, Aa, Aj⟩ := M.q5 2 rfl
 obtain ⟨tP, Ae, Ac, Ad, Ah, Ai⟩ := M.q5 3 rfl
 go_wp2_with fail
 go_call (l5Has_v ts A0 A1 A2 c0 ks.length c1 fs.length c2 tn st id false HY.out.2.2.1 _ ht) as r W4 ⟨rfl, g1⟩
 clear tX Ag Af Ab Aa Aj tP Ae Ac Ad Ah Ai
 replace M := M.call g1
 clear g1
 obtain ⟨tX, Ag, Af, Ab, Aa, Aj⟩ := M.q5 2 rfl
 obtain ⟨tP, Ae, Ac, Ad, Ah, Ai⟩ := M.q5 3 rfl
 go_wp2_with fail
 go_call (hNo.out _ (H.out.below M.below)) as r W5 ⟨B0, B1, B2, d0, d1, d2, rfl, g1⟩
 clear tX Ag Af Ab Aa Aj tP Ae Ac Ad Ah Ai
 replace M := Sep.new M g1
 simp only [List.cons_append, List.nil_append] at M
 clear g1
 obtain ⟨tS, Ak, As, Ao, Av⟩ := M.f2 3 rfl
 obtain ⟨tR, An, Ax, Ap, Ar, Al, Au, Aq, At, Am, Aw⟩ := M.f5 4 rfl
 go_wp2_with fail
 clear tS Ak As Ao Av tR An Ax Ap Ar Al Au Aq At Am Aw
 have N := M.gset5 4 rfl (.slice B0 o.ts.length d0) (.slice B1 o.ks.length d1) (.slice B2 o.fs.length d2) (.int .i64 o.tn) (.bool o.st)
 clear M
 obtain ⟨W6, eW, M⟩ := N
 rw [eW]
 clear eW
 simp only [List.set_cons_zero, List.set_cons_succ] at M
 have N := M.gset2 3 rfl (.int .i64 o.rp) (.int .i64 o.ou)
 clear M
 obtain ⟨W7, eW, M⟩ := N
 rw [eW]
 clear eW
 simp only [List.set_cons_zero, List.set_cons_succ] at M
 obtain ⟨tS, Ak, Ao⟩ := M.q2 3 rfl
 obtain ⟨tR, An, Ap, Al, Aq, Am⟩ := M.q5 4 rfl
 exact bodyPost_ret (by simp [results, Tryz.results27, go_sem, An, Ap, Al, Aq, Am, Ak, Ao]) rfl ⟨B0, B1, B2, d0, d1, d2, rfl, M.take 3⟩
set_option maxHeartbeats 4000000 in
theorem joined_self (a b c d e : Int) (ts : List T7) (ks : List Int) (fs : List F2) (A0 A1 A2 : Option Addr) (c0 c1 c2 : Nat) (tn : Int) (st : Bool) (wk : Int) (id : Int) (w : World) (ht : ts.length ≤ 1048576) (hk : ks.length ≤ 1048576) (hf : fs.length ≤ 1048576) (h : InPool w ts ks fs A0 A1 A2) (me : Int) (hme : runM ts wk 0 = me) (h0 : 0 ≤ me) (hm : mayB a b c d e ts ks fs tn wk = true) (hh : btw id 0 (ts.length - 1) = true) (hid : id = me) :
 Calls Tryz.prog 27 #[.agg #[.int .i64 a, .int .i64 b, .int .i64 c, .int .i64 d, .int .i64 e], .agg #[.slice A0 ts.length c0, .slice A1 ks.length c1, .slice A2 fs.length c2, .int .i64 tn, .bool st], .int .i64 wk, .int .i64 id] w (GaveS [] w (noO (poolB a b c d e ts ks fs tn) ts ks fs tn st 8)) := by
 subst hid
 have H := hide h
 clear h
 have hNo := hide (fun (V : World) (hV : InPool V ts ks fs A0 A1 A2) => l6No_s a b c d e ts ks fs A0 A1 A2 c0 c1 c2 tn st 8 V ht hk hf hV)
 generalize noO (poolB a b c d e ts ks fs tn) ts ks fs tn st 8 = o at hNo ⊢
 have HY := hide (⟨hme, hm, hh, trivial⟩ : _ ∧ _ ∧ _ ∧ True)
 clear hme hm hh
 go_enter Tryz.func27, Tryz.ntmps27
 go_wp2_with fail
 generalize hW : (((w.alloc _).alloc _).alloc _).alloc _ = W1
 have M := Sep.e4 hW
 clear hW
 obtain ⟨tX, Ag, Af, Ab, Aa, Aj⟩ := M.q5 2 rfl
 obtain ⟨tP, Ae, Ac, Ad, Ah, Ai⟩ := M.q5 3 rfl
 go_call (sRunBy_v ts A0 A1 A2 c0 ks.length c1 fs.length c2 tn st wk id HY.out.1 _ ht (H.out.below M.below).1) as r W2 ⟨rfl, g1⟩
 clear tX Ag Af Ab Aa Aj tP Ae Ac Ad Ah Ai
 replace M := M.call g1
 clear g1
 obtain ⟨tX, Ag, Af, Ab, Aa, Aj⟩ := M.q5 2 rfl
 obtain ⟨tP, Ae, Ac, Ad, Ah, Ai⟩ := M.q5 3 rfl
 go_wp2_with fail
 go_call (l6May_v a b c d e ts ks fs A0 A1 A2 c0 c1 c2 tn st wk true HY.out.2.1 _ ht hk hf (H.out.below M.below)) as r W3 ⟨rfl, g1⟩
 clear tX Ag Af Ab Aa Aj tP Ae Ac Ad Ah Ai
 replace M := M.call g1
 clear g1
 obtain ⟨tX, Ag, Af, Ab, Aa, Aj⟩ := M.q5 2 rfl
 obtain ⟨tP, Ae, Ac, Ad, Ah, Ai⟩ := M.q5 3 rfl
 go_wp2_with fail
 go_call (l5Has_v ts A0 A1 A2 c0 ks.length c1 fs.length c2 tn st id true HY.out.2.2.1 _ ht) as r W4 ⟨rfl, g1⟩
 clear tX Ag Af Ab Aa Aj tP Ae Ac Ad Ah Ai
 replace M := M.call g1
 clear g1
 obtain ⟨tX, Ag, Af, Ab, Aa, Aj⟩ := M.q5 2 rfl
 obtain ⟨tP, Ae, Ac, Ad, Ah, Ai⟩ := M.q5 3 rfl
 go_wp2_with fail
 go_call (hNo.out _ (H.out.below M.below)) as r W5 ⟨B0, B1, B2, d0, d1, d2, rfl, g1⟩
 clear tX Ag Af Ab Aa Aj tP Ae Ac Ad Ah Ai
 replace M := Sep.new M g1
 simp only [List.cons_append, List.nil_append] at M
 clear g1
 obtain ⟨tS, Ak, As, Ao, Av⟩ := M.f2 3 rfl
 obtain ⟨tR, An, Ax, Ap, Ar, Al, Au, Aq, At, Am, Aw⟩ := M.f5 4 rfl
 go_wp2_with fail
 clear tS Ak As Ao Av tR An Ax Ap Ar Al Au Aq At Am Aw
 have N := M.gset5 4 rfl (.slice B0 o.ts.length d0) (.slice B1 o.ks.length d1) (.slice B2 o.fs.length d2) (.int .i64 o.tn) (.bool o.st)
 clear M
 obtain ⟨W6, eW, M⟩ := N
 rw [eW]
 clear eW
 simp only [List.set_cons_zero, List.set_cons_succ] at M
 have N := M.gset2 3 rfl (.int .i64 o.rp) (.int .i64 o.ou)
 clear M
 obtain ⟨W7, eW, M⟩ := N
 rw [eW]
 clear eW
 simp only [List.set_cons_zero, List.set_cons_succ] at M
 obtain ⟨tS, Ak, Ao⟩ := M.q2 3 rfl
 obtain ⟨tR, An, Ap, Al, Aq, Am⟩ := M.q5 4 rfl
 exact bodyPost_ret (by simp [results, Tryz.results27, go_sem, An, Ap, Al, Aq, Am, Ak, Ao]) rfl ⟨B0, B1, B2, d0, d1, d2, rfl, M.take 3⟩
set_option maxHeartbeats 4000000 in
theorem joined_gone (a b c d e : Int) (ts : List T7) (ks : List Int) (fs : List F2) (A0 A1 A2 : Option Addr) (c0 c1 c2 : Nat) (tn : Int) (st : Bool) (wk : Int) (id : Int) (w : World) (ht : ts.length ≤ 1048576) (hk : ks.length ≤ 1048576) (hf : fs.length ≤ 1048576) (h : InPool w ts ks fs A0 A1 A2) (k : Nat) (s l o1 wt on v t : Int) (hid : id = k) (hts : ts[k]? = some ⟨s, l, o1, wt, on, v, t⟩) (hs : s = 5) (me : Int) (hme : runM ts wk 0 = me) (h0 : 0 ≤ me) (hne : ¬ (k : Int) = me) (hm : mayB a b c d e ts ks fs tn wk = true) (hh : btw id 0 (ts.length - 1) = true) :
 Calls Tryz.prog 27 #[.agg #[.int .i64 a, .int .i64 b, .int .i64 c, .int .i64 d, .int .i64 e], .agg #[.slice A0 ts.length c0, .slice A1 ks.length c1, .slice A2 fs.length c2, .int .i64 tn, .bool st], .int .i64 wk, .int .i64 id] w (GaveS [] w (noO (poolB a b c d e ts ks fs tn) ts ks fs tn st 5)) := by
 have hkl : k < ts.length := by
  rcases Nat.lt_or_ge k ts.length with h1 | h1
  ·exact h1
  ·rw [List.getElem?_eq_none h1] at hts; cases hts
 subst hid
 obtain ⟨b', off, x0, x1, x2, x3, x4, x5, x6, rfl, _, he, hb', z0, z1, z2, z3, z4, z5, z6⟩ := h.1.ts_at hkl
 rw [hts] at he
 injection he with he
 injection he with u0 u1 u2 u3 u4 u5 u6
 subst u0 u1 u2 u3 u4 u5 u6
 have H := hide h
 clear h
 have hNo := hide (fun (V : World) (hV : InPool V ts ks fs (some ⟨b', off, none⟩) A1 A2) => l6No_s a b c d e ts ks fs (some ⟨b', off, none⟩) A1 A2 c0 c1 c2 tn st 5 V ht hk hf hV)
 generalize noO (poolB a b c d e ts ks fs tn) ts ks fs tn st 5 = o at hNo ⊢
 have HY := hide (⟨hme, hm, hh, hts, trivial⟩ : _ ∧ _ ∧ _ ∧ _ ∧ True)
 clear hme hm hh hts
 go_enter Tryz.func27, Tryz.ntmps27
 go_wp2_with fail
 generalize hW : (((w.alloc _).alloc _).alloc _).alloc _ = W1
 have M := Sep.e4 hW
 clear hW
 obtain ⟨tX, Ag, Af, Ab, Aa, Aj⟩ := M.q5 2 rfl
 obtain ⟨tP, Ae, Ac, Ad, Ah, Ai⟩ := M.q5 3 rfl
 go_call (sRunBy_v ts (some ⟨b', off, none⟩) A1 A2 c0 ks.length c1 fs.length c2 tn st wk me HY.out.1 _ ht (H.out.below M.below).1) as r W2 ⟨rfl, g1⟩
 clear tX Ag Af Ab Aa Aj tP Ae Ac Ad Ah Ai
 replace M := M.call g1
 clear g1
 obtain ⟨tX, Ag, Af, Ab, Aa, Aj⟩ := M.q5 2 rfl
 obtain ⟨tP, Ae, Ac, Ad, Ah, Ai⟩ := M.q5 3 rfl
 go_wp2_with fail
 go_call (l6May_v a b c d e ts ks fs (some ⟨b', off, none⟩) A1 A2 c0 c1 c2 tn st wk true HY.out.2.1 _ ht hk hf (H.out.below M.below)) as r W3 ⟨rfl, g1⟩
 clear tX Ag Af Ab Aa Aj tP Ae Ac Ad Ah Ai
 replace M := M.call g1
 clear g1
 obtain ⟨tX, Ag, Af, Ab, Aa, Aj⟩ := M.q5 2 rfl
 obtain ⟨tP, Ae, Ac, Ad, Ah, Ai⟩ := M.q5 3 rfl
 go_wp2_with fail
 go_call (l5Has_v ts (some ⟨b', off, none⟩) A1 A2 c0 ks.length c1 fs.length c2 tn st k true HY.out.2.2.1 _ ht) as r W4 ⟨rfl, g1⟩
 clear tX Ag Af Ab Aa Aj tP Ae Ac Ad Ah Ai
 replace M := M.call g1
 clear g1
 obtain ⟨tX, Ag, Af, Ab, Aa, Aj⟩ := M.q5 2 rfl
 obtain ⟨tP, Ae, Ac, Ad, Ah, Ai⟩ := M.q5 3 rfl
 have ye0 : W4.cell? ⟨b', off + k * 7, none⟩ = some (.int .i64 s) := (M.below.cell (p := ⟨b', off + k * 7, none⟩) hb').trans z0
 go_wp2_with fail
 go_call (hNo.out _ (H.out.below M.below)) as r W5 ⟨B0, B1, B2, d0, d1, d2, rfl, g1⟩
 clear tX Ag Af Ab Aa Aj tP Ae Ac Ad Ah Ai
 replace M := Sep.new M g1
 simp only [List.cons_append, List.nil_append] at M
 clear g1
 obtain ⟨tS, Ak, As, Ao, Av⟩ := M.f2 3 rfl
 obtain ⟨tR, An, Ax, Ap, Ar, Al, Au, Aq, At, Am, Aw⟩ := M.f5 4 rfl
 go_wp2_with fail
 clear tS Ak As Ao Av tR An Ax Ap Ar Al Au Aq At Am Aw
 have N := M.gset5 4 rfl (.slice B0 o.ts.length d0) (.slice B1 o.ks.length d1) (.slice B2 o.fs.length d2) (.int .i64 o.tn) (.bool o.st)
 clear M
 obtain ⟨W6, eW, M⟩ := N
 rw [eW]
 clear eW
 simp only [List.set_cons_zero, List.set_cons_succ] at M
 have N := M.gset2 3 rfl (.int .i64 o.rp) (.int .i64 o.ou)
 clear M
 obtain ⟨W7, eW, M⟩ := N
 rw [eW]
 clear eW
 simp only [List.set_cons_zero, List.set_cons_succ] at M
 obtain ⟨tS, Ak, Ao⟩ := M.q2 3 rfl
 obtain ⟨tR, An, Ap, Al, Aq, Am⟩ := M.q5 4 rfl
 exact bodyPost_ret (by simp [results, Tryz.results27, go_sem, An, Ap, Al, Aq, Am, Ak, Ao]) rfl ⟨B0, B1, B2, d0, d1, d2, rfl, M.take 3⟩
end Go.Proofs.YtfkdfkoigojciaaGreatDoor
