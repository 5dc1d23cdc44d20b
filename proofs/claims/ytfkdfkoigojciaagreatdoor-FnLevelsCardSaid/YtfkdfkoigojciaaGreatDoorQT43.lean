/- The laws' likeInts, at lists that are the same. The list shorter than a million. -/
import Derived.Test.YtfkdfkoigojciaaGreatDoorQT40
import Derived.Shelf.Abstract
import Derived.Test.YtfkdfkoigojciaaGreatDoorQT35
import Derived.Test.YtfkdfkoigojciaaGreatDoorQT18
import Derived.Test.YtfkdfkoigojciaaGreatDoorQT39
import Derived.Test.YtfkdfkoigojciaaGreatDoorQT20
import Derived.Test.YtfkdfkoigojciaaGreatDoorQT38
import Derived.Test.YtfkdfkoigojciaaGreatDoorQT03

namespace Go.Proofs.YtfkdfkoigojciaaGreatDoor
open Go.RowKit
set_option linter.unusedVariables false
set_option maxHeartbeats 800000
set_option maxRecDepth 100000
theorem cancel_has (ts : List T7) (ks : List Int) (fs : List F2) (A0 A1 A2 : Option Addr) (c0 c1 c2 : Nat) (tn : Int) (st : Bool) (g : Nat) (id : Int) (w : World) (ht : ts.length ≤ 1048576) (hk : ks.length ≤ 1048576) (hf : fs.length ≤ 1048576) (h : Sep (fps [.blk g 35 #[.slice A0 ts.length c0, .slice A1 ks.length c1, .slice A2 fs.length c2, .int .i64 tn, .bool st], rT ts.length A0 c0 ts, rK ks.length A1 c1 ks, rF fs.length A2 c2 fs]) w w [.blk g 35 #[.slice A0 ts.length c0, .slice A1 ks.length c1, .slice A2 fs.length c2, .int .i64 tn, .bool st], rT ts.length A0 c0 ts, rK ks.length A1 c1 ks, rF fs.length A2 c2 fs]) (hh : btw id 0 ((ts.length : Int) - 1) = false) :
 Calls Tryz.prog 66 #[.pointer (some ⟨g, 0, none⟩), .int .i64 id] w (fun r w' => r = .returned (.iface 133 (.int .i64 8)) ∧ Sep (fps [.blk g 35 #[.slice A0 ts.length c0, .slice A1 ks.length c1, .slice A2 fs.length c2, .int .i64 tn, .bool st], rT ts.length A0 c0 ts, rK ks.length A1 c1 ks, rF fs.length A2 c2 fs]) w w' []) := by
 obtain ⟨S, hS⟩ : ∃ S, S = fps [.blk g 35 #[.slice A0 ts.length c0, .slice A1 ks.length c1, .slice A2 fs.length c2, .int .i64 tn, .bool st], rT ts.length A0 c0 ts, rK ks.length A1 c1 ks, rF fs.length A2 c2 fs] := ⟨_, rfl⟩
 rw [← hS] at h ⊢
 clear hS
 have M0 := hide h
 clear h
 go_enter Tryz.func66, Tryz.ntmps66
 go_wp2_with fail
 have M := M0.out
 clear M0
 have hC := has_any ts A0 A1 A2 c0 ks.length c1 fs.length c2 tn st g id w ht (M.blk 0 rfl)
 rw [hh] at hC
 refine Calls.mono (by with_reducible exact hC) ?_
 clear hC
 rintro r W1 ⟨rfl, hWW⟩
 subst hWW
 go_wp2_with fail
 go_ret
 exact ⟨rfl, M.drop 4⟩
theorem cancel_busy (ts : List T7) (ks : List Int) (fs : List F2) (A0 A1 A2 : Option Addr) (c0 c1 c2 : Nat) (tn : Int) (st : Bool) (g : Nat) (id : Int) (w : World) (ht : ts.length ≤ 1048576) (hk : ks.length ≤ 1048576) (hf : fs.length ≤ 1048576) (h : Sep (fps [.blk g 35 #[.slice A0 ts.length c0, .slice A1 ks.length c1, .slice A2 fs.length c2, .int .i64 tn, .bool st], rT ts.length A0 c0 ts, rK ks.length A1 c1 ks, rF fs.length A2 c2 fs]) w w [.blk g 35 #[.slice A0 ts.length c0, .slice A1 ks.length c1, .slice A2 fs.length c2, .int .i64 tn, .bool st], rT ts.length A0 c0 ts, rK ks.length A1 c1 ks, rF fs.length A2 c2 fs]) (hh : btw id 0 ((ts.length : Int) - 1) = true) (h2 : isInB ts id 2 = true) :
 Calls Tryz.prog 66 #[.pointer (some ⟨g, 0, none⟩), .int .i64 id] w (fun r w' => r = .returned (.iface 133 (.int .i64 3)) ∧ Sep (fps [.blk g 35 #[.slice A0 ts.length c0, .slice A1 ks.length c1, .slice A2 fs.length c2, .int .i64 tn, .bool st], rT ts.length A0 c0 ts, rK ks.length A1 c1 ks, rF fs.length A2 c2 fs]) w w' []) := by
 obtain ⟨S, hS⟩ : ∃ S, S = fps [.blk g 35 #[.slice A0 ts.length c0, .slice A1 ks.length c1, .slice A2 fs.length c2, .int .i64 tn, .bool st], rT ts.length A0 c0 ts, rK ks.length A1 c1 ks, rF fs.length A2 c2 fs] := ⟨_, rfl⟩
 rw [← hS] at h ⊢
 clear hS
 have M0 := hide h
 clear h
 go_enter Tryz.func66, Tryz.ntmps66
 go_wp2_with fail
 have M := M0.out
 clear M0
 have hC := has_any ts A0 A1 A2 c0 ks.length c1 fs.length c2 tn st g id w ht (M.blk 0 rfl)
 rw [hh] at hC
 refine Calls.mono (by with_reducible exact hC) ?_
 clear hC
 rintro r W1 ⟨rfl, hWW⟩
 subst hWW
 go_wp2_with fail
 have hC := isIn_any ts A0 A1 A2 c0 ks.length c1 fs.length c2 tn st g id 2 w ht (M.blk 0 rfl) (M.rowS 1 rfl)
 rw [h2] at hC
 refine Calls.mono (by with_reducible exact hC) ?_
 clear hC
 rintro r W2 ⟨rfl, g1⟩
 replace M := M.call g1
 clear g1
 go_wp2_with fail
 go_ret
 exact ⟨rfl, M.drop 4⟩
theorem cancel_gone (ts : List T7) (ks : List Int) (fs : List F2) (A0 A1 A2 : Option Addr) (c0 c1 c2 : Nat) (tn : Int) (st : Bool) (g : Nat) (k : Nat) (s l o1 wt on v t : Int) (hts : ts[k]? = some ⟨s, l, o1, wt, on, v, t⟩) (w : World) (ht : ts.length ≤ 1048576) (hk : ks.length ≤ 1048576) (hf : fs.length ≤ 1048576) (h : Sep (fps [.blk g 35 #[.slice A0 ts.length c0, .slice A1 ks.length c1, .slice A2 fs.length c2, .int .i64 tn, .bool st], rT ts.length A0 c0 ts, rK ks.length A1 c1 ks, rF fs.length A2 c2 fs]) w w [.blk g 35 #[.slice A0 ts.length c0, .slice A1 ks.length c1, .slice A2 fs.length c2, .int .i64 tn, .bool st], rT ts.length A0 c0 ts, rK ks.length A1 c1 ks, rF fs.length A2 c2 fs]) (hh : btw k 0 ((ts.length : Int) - 1) = true) (h2 : isInB ts k 2 = false) (ho : openB s = false) :
 Calls Tryz.prog 66 #[.pointer (some ⟨g, 0, none⟩), .int .i64 k] w (fun r w' => r = .returned (.iface 133 (.int .i64 5)) ∧ Sep (fps [.blk g 35 #[.slice A0 ts.length c0, .slice A1 ks.length c1, .slice A2 fs.length c2, .int .i64 tn, .bool st], rT ts.length A0 c0 ts, rK ks.length A1 c1 ks, rF fs.length A2 c2 fs]) w w' []) := by
 have hkl : k < ts.length := by
  rcases Nat.lt_or_ge k ts.length with h1 | h1
  ·exact h1
  ·rw [List.getElem?_eq_none h1] at hts; cases hts
 have hki : (k : Int) < (ts.length : Int) := by omega
 have hk0 : (0 : Int) ≤ (k : Int) := by omega
 have hr9 : (rT ts.length A0 c0 ts).here w := h.rowAt 1 rfl
 obtain ⟨gr, rfl, hgl, hfz9⟩ := rT_form hr9 (show 0 < ts.length by omega)
 clear hr9 hfz9 hgl
 have HT := hide hts
 clear hts
 obtain ⟨S, hS⟩ : ∃ S, S = fps [.blk g 35 #[.slice (some ⟨gr, 0, none⟩) ts.length c0, .slice A1 ks.length c1, .slice A2 fs.length c2, .int .i64 tn, .bool st], rT ts.length (some ⟨gr, 0, none⟩) c0 ts, rK ks.length A1 c1 ks, rF fs.length A2 c2 fs] := ⟨_, rfl⟩
 rw [← hS] at h ⊢
 clear hS
 have M0 := hide h
 clear h
 go_enter Tryz.func66, Tryz.ntmps66
 go_wp2_with fail
 have M := M0.out
 clear M0
 have hC := has_any ts (some ⟨gr, 0, none⟩) A1 A2 c0 ks.length c1 fs.length c2 tn st g k w ht (M.blk 0 rfl)
 rw [hh] at hC
 refine Calls.mono (by with_reducible exact hC) ?_
 clear hC
 rintro r W1 ⟨rfl, hWW⟩
 subst hWW
 go_wp2_with fail
 have hC := isIn_any ts (some ⟨gr, 0, none⟩) A1 A2 c0 ks.length c1 fs.length c2 tn st g k 2 w ht (M.blk 0 rfl) (M.rowS 1 rfl)
 rw [h2] at hC
 refine Calls.mono (by with_reducible exact hC) ?_
 clear hC
 rintro r W2 ⟨rfl, g1⟩
 replace M := M.call g1
 clear g1
 obtain ⟨tY, Ac, Ad, Aa, Ab, Ae⟩ := M.q5 0 rfl
 obtain ⟨s', l', o', wt', on', v', t', ht', y0, y1, y2, y3, y4, y5, y6⟩ := Own.t7 (M.rowAt 1 rfl) hkl
 rw [HT.out] at ht'
 injection ht' with ht'
 injection ht' with e0 e1 e2 e3 e4 e5 e6
 subst e0 e1 e2 e3 e4 e5 e6
 go_wp2_with fail
 have hC := fun V => isOpen_p s l o1 wt on v t V
 rw [ho] at hC
 refine Calls.mono (by with_reducible exact hC _) ?_
 clear hC
 rintro r W3 ⟨rfl, g1⟩
 clear tY Ac Ad Aa Ab Ae y0 y1 y2 y3 y4 y5 y6
 replace M := M.call g1
 clear g1
 obtain ⟨tY, Ac, Ad, Aa, Ab, Ae⟩ := M.q5 0 rfl
 go_wp2_with fail
 clear tY Ac Ad Aa Ab Ae
 go_ret
 exact ⟨rfl, M.drop 4⟩
theorem cancel_ok (ts : List T7) (ks : List Int) (fs : List F2) (A0 A1 A2 : Option Addr) (c0 c1 c2 : Nat) (tn : Int) (st : Bool) (g : Nat) (k : Nat) (s l o1 wt on v t : Int) (hts : ts[k]? = some ⟨s, l, o1, wt, on, v, t⟩) (w : World) (ht : ts.length ≤ 1048576) (hk : ks.length ≤ 1048576) (hf : fs.length ≤ 1048576) (h : Sep (fps [.blk g 35 #[.slice A0 ts.length c0, .slice A1 ks.length c1, .slice A2 fs.length c2, .int .i64 tn, .bool st], rT ts.length A0 c0 ts, rK ks.length A1 c1 ks, rF fs.length A2 c2 fs]) w w [.blk g 35 #[.slice A0 ts.length c0, .slice A1 ks.length c1, .slice A2 fs.length c2, .int .i64 tn, .bool st], rT ts.length A0 c0 ts, rK ks.length A1 c1 ks, rF fs.length A2 c2 fs]) (hh : btw k 0 ((ts.length : Int) - 1) = true) (h2 : isInB ts k 2 = false) (ho : openB s = true) (t0 : 0 ≤ tn) (t1 : tn ≤ 1000000) (ho2 : okAll (waitersM (ts.set k ⟨5, l, o1, 0, 0, v, t⟩) 1 k) 0 tn = true) :
 Calls Tryz.prog 66 #[.pointer (some ⟨g, 0, none⟩), .int .i64 k] w (fun r w' => r = .returned (.iface 165 (.agg #[.iface 133 (.int .i64 1), .int .i64 ((waitersM (ts.set k ⟨5, l, o1, 0, 0, v, t⟩) 1 k).length : Int)])) ∧ HeldO (fps [.blk g 35 #[.slice A0 ts.length c0, .slice A1 ks.length c1, .slice A2 fs.length c2, .int .i64 tn, .bool st], rT ts.length A0 c0 ts, rK ks.length A1 c1 ks, rF fs.length A2 c2 fs]) g ⟨(wakeAllT (waitersM (ts.set k ⟨5, l, o1, 0, 0, v, t⟩) 1 k) (ts.set k ⟨5, l, o1, 0, 0, v, t⟩) tn 0), ks, fs, (tn + ((waitersM (ts.set k ⟨5, l, o1, 0, 0, v, t⟩) 1 k).length : Int)), st, 1, ((waitersM (ts.set k ⟨5, l, o1, 0, 0, v, t⟩) 1 k).length : Int)⟩ w w') := by
 have hkl : k < ts.length := by
  rcases Nat.lt_or_ge k ts.length with h1 | h1
  ·exact h1
  ·rw [List.getElem?_eq_none h1] at hts; cases hts
 have hki : (k : Int) < (ts.length : Int) := by omega
 have hk0 : (0 : Int) ≤ (k : Int) := by omega
 have hr9 : (rT ts.length A0 c0 ts).here w := h.rowAt 1 rfl
 obtain ⟨gr, rfl, hgl, hfz9⟩ := rT_form hr9 (show 0 < ts.length by omega)
 clear hr9 hfz9 hgl
 have HT := hide hts
 clear hts
 obtain ⟨S, hS⟩ : ∃ S, S = fps [.blk g 35 #[.slice (some ⟨gr, 0, none⟩) ts.length c0, .slice A1 ks.length c1, .slice A2 fs.length c2, .int .i64 tn, .bool st], rT ts.length (some ⟨gr, 0, none⟩) c0 ts, rK ks.length A1 c1 ks, rF fs.length A2 c2 fs] := ⟨_, rfl⟩
 rw [← hS] at h ⊢
 clear hS
 have M0 := hide h
 clear h
 go_enter Tryz.func66, Tryz.ntmps66
 go_wp2_with fail
 have M := M0.out
 clear M0
 have hC := has_any ts (some ⟨gr, 0, none⟩) A1 A2 c0 ks.length c1 fs.length c2 tn st g k w ht (M.blk 0 rfl)
 rw [hh] at hC
 refine Calls.mono (by with_reducible exact hC) ?_
 clear hC
 rintro r W1 ⟨rfl, hWW⟩
 subst hWW
 go_wp2_with fail
 have hC := isIn_any ts (some ⟨gr, 0, none⟩) A1 A2 c0 ks.length c1 fs.length c2 tn st g k 2 w ht (M.blk 0 rfl) (M.rowS 1 rfl)
 rw [h2] at hC
 refine Calls.mono (by with_reducible exact hC) ?_
 clear hC
 rintro r W2 ⟨rfl, g1⟩
 replace M := M.call g1
 clear g1
 obtain ⟨tY, Ac, Ad, Aa, Ab, Ae⟩ := M.q5 0 rfl
 obtain ⟨s', l', o', wt', on', v', t', ht', y0, y1, y2, y3, y4, y5, y6⟩ := Own.t7 (M.rowAt 1 rfl) hkl
 rw [HT.out] at ht'
 injection ht' with ht'
 injection ht' with e0 e1 e2 e3 e4 e5 e6
 subst e0 e1 e2 e3 e4 e5 e6
 go_wp2_with fail
 have hC := fun V => isOpen_p s l o1 wt on v t V
 rw [ho] at hC
 refine Calls.mono (by with_reducible exact hC _) ?_
 clear hC
 rintro r W3 ⟨rfl, g1⟩
 clear tY Ac Ad Aa Ab Ae y0 y1 y2 y3 y4 y5 y6
 replace M := M.call g1
 clear g1
 obtain ⟨tY, Ac, Ad, Aa, Ab, Ae⟩ := M.q5 0 rfl
 have fz0 : W3.frozen? ⟨gr, k * 7, none⟩ = false := Own.fz (M.rowAt 1 rfl) _
 have fz3 : W3.frozen? ⟨gr, k * 7 + 3, none⟩ = false := Own.fz (M.rowAt 1 rfl) _
 have fz4 : W3.frozen? ⟨gr, k * 7 + 4, none⟩ = false := Own.fz (M.rowAt 1 rfl) _
 obtain ⟨s', l', o', wt', on', v', t', ht', y0, y1, y2, y3, y4, y5, y6⟩ := Own.t7 (M.rowAt 1 rfl) hkl
 clear ht' y1 y2 y5 y6
 go_wp2_with fail
 clear tY Ac Ad Aa Ab Ae fz0 fz3 fz4 y0 y3 y4
 have N : ∃ V, (((W3.setCell ⟨gr, k * 7, none⟩ (.int .i64 5)).setCell ⟨gr, k * 7 + 3, none⟩ (.int .i64 0)).setCell ⟨gr, k * 7 + 4, none⟩ (.int .i64 0)) = V ∧ Sep S w V [.blk (g) 35 #[.slice (some ⟨gr, 0, none⟩) ts.length c0, .slice A1 ks.length c1, .slice A2 fs.length c2, .int .i64 tn, .bool st], rT ts.length (some ⟨gr, 0, none⟩) c0 (ts.set k ⟨5, l, o1, 0, 0, v, t⟩), rK ks.length A1 c1 ks, rF fs.length A2 c2 fs] := ⟨_, rfl, M.putT3 1 rfl k 0 3 4 (by omega) (by omega) (by omega) ⟨s, l, o1, wt, on, v, t⟩ 5 0 0 HT.out⟩
 clear M
 obtain ⟨W4, eW, M⟩ := N
 rw [eW]
 clear eW
 obtain ⟨us1, hus1⟩ : ∃ us1, us1 = (ts.set k ⟨5, l, o1, 0, 0, v, t⟩) := ⟨_, rfl⟩
 rw [← hus1] at M ho2
 have hl1 : us1.length = ts.length := by rw [hus1]; simp
 rw [← hl1] at M
 refine Calls.mono (by with_reducible exact (wakeFrom_yes us1 ks fs (some ⟨gr, 0, none⟩) A1 A2 c0 c1 c2 tn st g 1 k 0 _ (by omega) hk hf (Sep.same (ps := [.blk (g) 35 #[.slice (some ⟨gr, 0, none⟩) us1.length c0, .slice A1 ks.length c1, .slice A2 fs.length c2, .int .i64 tn, .bool st], rT us1.length (some ⟨gr, 0, none⟩) c0 us1, rK ks.length A1 c1 ks, rF fs.length A2 c2 fs]) (rs := []) M (Below.refl _ _)) t0 t1 ho2)) ?_
 rintro r W5 ⟨rfl, D0, D1, D2, f0, f1, f2, g1⟩
 replace M : Sep S w W5 [.blk (g) 35 #[.slice D0 (wakeAllT (waitersM us1 1 k) us1 tn 0).length f0, .slice D1 ks.length f1, .slice D2 fs.length f2, .int .i64 ((tn + ((waitersM us1 1 k).length : Int))), .bool st], rT (wakeAllT (waitersM us1 1 k) us1 tn 0).length D0 f0 (wakeAllT (waitersM us1 1 k) us1 tn 0), rK ks.length D1 f1 ks, rF fs.length D2 f2 fs] := Sep.comp (ps := [.blk (g) 35 #[.slice (some ⟨gr, 0, none⟩) us1.length c0, .slice A1 ks.length c1, .slice A2 fs.length c2, .int .i64 tn, .bool st], rT us1.length (some ⟨gr, 0, none⟩) c0 us1, rK ks.length A1 c1 ks, rF fs.length A2 c2 fs]) (rs := []) M g1
 clear g1
 go_wp2_with fail
 subst hus1
 go_ret
 exact ⟨rfl, D0, D1, D2, f0, f1, f2, M.take 4⟩
theorem cancel_full (ts : List T7) (ks : List Int) (fs : List F2) (A0 A1 A2 : Option Addr) (c0 c1 c2 : Nat) (tn : Int) (st : Bool) (g : Nat) (k : Nat) (s l o1 wt on v t : Int) (hts : ts[k]? = some ⟨s, l, o1, wt, on, v, t⟩) (w : World) (ht : ts.length ≤ 1048576) (hk : ks.length ≤ 1048576) (hf : fs.length ≤ 1048576) (h : Sep (fps [.blk g 35 #[.slice A0 ts.length c0, .slice A1 ks.length c1, .slice A2 fs.length c2, .int .i64 tn, .bool st], rT ts.length A0 c0 ts, rK ks.length A1 c1 ks, rF fs.length A2 c2 fs]) w w [.blk g 35 #[.slice A0 ts.length c0, .slice A1 ks.length c1, .slice A2 fs.length c2, .int .i64 tn, .bool st], rT ts.length A0 c0 ts, rK ks.length A1 c1 ks, rF fs.length A2 c2 fs]) (hh : btw k 0 ((ts.length : Int) - 1) = true) (h2 : isInB ts k 2 = false) (ho : openB s = true) (t0 : 0 ≤ tn) (t1 : tn ≤ 1000000) (ho2 : okAll (waitersM (ts.set k ⟨5, l, o1, 0, 0, v, t⟩) 1 k) 0 tn = false) :
 Calls Tryz.prog 66 #[.pointer (some ⟨g, 0, none⟩), .int .i64 k] w (fun r w' => r = .returned (.iface 133 (.int .i64 4)) ∧ Sep (fps [.blk g 35 #[.slice A0 ts.length c0, .slice A1 ks.length c1, .slice A2 fs.length c2, .int .i64 tn, .bool st], rT ts.length A0 c0 ts, rK ks.length A1 c1 ks, rF fs.length A2 c2 fs]) w w' []) := by
 have hkl : k < ts.length := by
  rcases Nat.lt_or_ge k ts.length with h1 | h1
  ·exact h1
  ·rw [List.getElem?_eq_none h1] at hts; cases hts
 have hki : (k : Int) < (ts.length : Int) := by omega
 have hk0 : (0 : Int) ≤ (k : Int) := by omega
 have hr9 : (rT ts.length A0 c0 ts).here w := h.rowAt 1 rfl
 obtain ⟨gr, rfl, hgl, hfz9⟩ := rT_form hr9 (show 0 < ts.length by omega)
 clear hr9 hfz9 hgl
 have HT := hide hts
 clear hts
 obtain ⟨S, hS⟩ : ∃ S, S = fps [.blk g 35 #[.slice (some ⟨gr, 0, none⟩) ts.length c0, .slice A1 ks.length c1, .slice A2 fs.length c2, .int .i64 tn, .bool st], rT ts.length (some ⟨gr, 0, none⟩) c0 ts, rK ks.length A1 c1 ks, rF fs.length A2 c2 fs] := ⟨_, rfl⟩
 rw [← hS] at h ⊢
 clear hS
 have M0 := hide h
 clear h
 go_enter Tryz.func66, Tryz.ntmps66
 go_wp2_with fail
 have M := M0.out
 clear M0
 have hC := has_any ts (some ⟨gr, 0, none⟩) A1 A2 c0 ks.length c1 fs.length c2 tn st g k w ht (M.blk 0 rfl)
 rw [hh] at hC
 refine Calls.mono (by with_reducible exact hC) ?_
 clear hC
 rintro r W1 ⟨rfl, hWW⟩
 subst hWW
 go_wp2_with fail
 have hC := isIn_any ts (some ⟨gr, 0, none⟩) A1 A2 c0 ks.length c1 fs.length c2 tn st g k 2 w ht (M.blk 0 rfl) (M.rowS 1 rfl)
 rw [h2] at hC
 refine Calls.mono (by with_reducible exact hC) ?_
 clear hC
 rintro r W2 ⟨rfl, g1⟩
 replace M := M.call g1
 clear g1
 obtain ⟨tY, Ac, Ad, Aa, Ab, Ae⟩ := M.q5 0 rfl
 obtain ⟨s', l', o', wt', on', v', t', ht', y0, y1, y2, y3, y4, y5, y6⟩ := Own.t7 (M.rowAt 1 rfl) hkl
 rw [HT.out] at ht'
 injection ht' with ht'
 injection ht' with e0 e1 e2 e3 e4 e5 e6
 subst e0 e1 e2 e3 e4 e5 e6
 go_wp2_with fail
 have hC := fun V => isOpen_p s l o1 wt on v t V
 rw [ho] at hC
 refine Calls.mono (by with_reducible exact hC _) ?_
 clear hC
 rintro r W3 ⟨rfl, g1⟩
 clear tY Ac Ad Aa Ab Ae y0 y1 y2 y3 y4 y5 y6
 replace M := M.call g1
 clear g1
 obtain ⟨tY, Ac, Ad, Aa, Ab, Ae⟩ := M.q5 0 rfl
 have fz0 : W3.frozen? ⟨gr, k * 7, none⟩ = false := Own.fz (M.rowAt 1 rfl) _
 have fz3 : W3.frozen? ⟨gr, k * 7 + 3, none⟩ = false := Own.fz (M.rowAt 1 rfl) _
 have fz4 : W3.frozen? ⟨gr, k * 7 + 4, none⟩ = false := Own.fz (M.rowAt 1 rfl) _
 obtain ⟨s', l', o', wt', on', v', t', ht', y0, y1, y2, y3, y4, y5, y6⟩ := Own.t7 (M.rowAt 1 rfl) hkl
 clear ht' y1 y2 y5 y6
 go_wp2_with fail
 clear tY Ac Ad Aa Ab Ae fz0 fz3 fz4 y0 y3 y4
 have N : ∃ V, (((W3.setCell ⟨gr, k * 7, none⟩ (.int .i64 5)).setCell ⟨gr, k * 7 + 3, none⟩ (.int .i64 0)).setCell ⟨gr, k * 7 + 4, none⟩ (.int .i64 0)) = V ∧ Sep S w V [.blk (g) 35 #[.slice (some ⟨gr, 0, none⟩) ts.length c0, .slice A1 ks.length c1, .slice A2 fs.length c2, .int .i64 tn, .bool st], rT ts.length (some ⟨gr, 0, none⟩) c0 (ts.set k ⟨5, l, o1, 0, 0, v, t⟩), rK ks.length A1 c1 ks, rF fs.length A2 c2 fs] := ⟨_, rfl, M.putT3 1 rfl k 0 3 4 (by omega) (by omega) (by omega) ⟨s, l, o1, wt, on, v, t⟩ 5 0 0 HT.out⟩
 clear M
 obtain ⟨W4, eW, M⟩ := N
 rw [eW]
 clear eW
 obtain ⟨us1, hus1⟩ : ∃ us1, us1 = (ts.set k ⟨5, l, o1, 0, 0, v, t⟩) := ⟨_, rfl⟩
 rw [← hus1] at M ho2
 have hl1 : us1.length = ts.length := by rw [hus1]; simp
 rw [← hl1] at M
 refine Calls.mono (by with_reducible exact (wakeFrom_full us1 ks fs (some ⟨gr, 0, none⟩) A1 A2 c0 c1 c2 tn st g 1 k 0 _ (by omega) hk hf (Sep.same (ps := [.blk (g) 35 #[.slice (some ⟨gr, 0, none⟩) us1.length c0, .slice A1 ks.length c1, .slice A2 fs.length c2, .int .i64 tn, .bool st], rT us1.length (some ⟨gr, 0, none⟩) c0 us1, rK ks.length A1 c1 ks, rF fs.length A2 c2 fs]) (rs := []) M (Below.refl _ _)) t0 t1 ho2)) ?_
 rintro r W5 ⟨rfl, g1⟩
 replace M : Sep S w W5 [] := Sep.comp (ps := [.blk (g) 35 #[.slice (some ⟨gr, 0, none⟩) us1.length c0, .slice A1 ks.length c1, .slice A2 fs.length c2, .int .i64 tn, .bool st], rT us1.length (some ⟨gr, 0, none⟩) c0 us1, rK ks.length A1 c1 ks, rF fs.length A2 c2 fs]) (rs := []) M g1
 clear g1
 go_wp2_with fail
 go_ret
 exact ⟨rfl, M.drop 0⟩
set_option maxHeartbeats 800000
set_option maxRecDepth 100000
theorem nat_task2 {k : Nat} {x : T7} {ts : List T7} (h : ts[k]? = some x) : btw (k : Int) 0 ((ts.length : Int) - 1) = true := by
 have hk : k < ts.length := by
  rcases Nat.lt_or_ge k ts.length with h1 | h1
  ·exact h1
  ·rw [List.getElem?_eq_none h1] at h; cases h
 simp [btw]
 omega
theorem okAll_room {L : List Int} {tn : Int} (h : tn + (L.length : Int) ≤ 1000000) : okAll L 0 tn = true := by
 simp [okAll, btw, h]
theorem cancelledbyC (id : Int) (bid : Nat) (g : Nat) (V : World) (hid : V.cell? ⟨bid, 0, none⟩ = some (.int .i64 id)) (lid : bid < V.heap.size) (er : Value) (R : World → Prop)
 (hb : Calls Tryz.prog 66 #[.pointer (some ⟨g, 0, none⟩), .int .i64 id] V (fun r w' => r = .returned er ∧ R w')) :
 Calls Tryz.prog 65 (#[.pointer (some ⟨g, 0, none⟩)] ++ #[.pointer (some ⟨bid, 0, none⟩)]) V (fun r w' => r = .returned er ∧ R w') := by
 have HB := hide hb
 clear hb
 show Calls Tryz.prog 65 #[.pointer (some ⟨g, 0, none⟩), .pointer (some ⟨bid, 0, none⟩)] V _
 go_enter Tryz.func65, Tryz.ntmps65
 go_wp2_with fail
 refine Calls.mono (by with_reducible exact HB.out) ?_
 rintro r W ⟨rfl, hR⟩
 go_wp2_with fail
 go_ret
 exact ⟨rfl, hR⟩
theorem gCancelledBy_face (a b c d e : Int) (ts : List T7) (ks : List Int) (fs : List F2) (A0 A1 A2 : Option Addr) (c0 c1 c2 : Nat) (tn : Int) (st : Bool) (wk : Int) (id : Int) (w : World) (ht : ts.length ≤ 1048576) (hk : ks.length ≤ 1048576) (hf : fs.length ≤ 1048576) (h : InPool w ts ks fs A0 A1 A2) (o : OutP)
 (hL : ∀ (V : World) (bid : Nat), Below w.heap.size w V → V.cell? ⟨bid, 0, none⟩ = some (.int .i64 id) → bid < V.heap.size → Calls Tryz.prog 59 #[.agg #[.int .i64 a, .int .i64 b, .int .i64 c, .int .i64 d, .int .i64 e], .agg #[.slice A0 ts.length c0, .slice A1 ks.length c1, .slice A2 fs.length c2, .int .i64 tn, .bool st], .int .i64 wk, .func (.func 65) #[] #[.pointer (some ⟨bid, 0, none⟩)]] V (GaveS [] V o)) :
 Calls Tryz.prog 22 #[.agg #[.int .i64 a, .int .i64 b, .int .i64 c, .int .i64 d, .int .i64 e], .agg #[.slice A0 ts.length c0, .slice A1 ks.length c1, .slice A2 fs.length c2, .int .i64 tn, .bool st], .int .i64 wk, .int .i64 id] w (GaveS [] w o) := by
 have hmf : ∀ (fn : Fn) (first cap : Array Value) (w : World), (Instr.makeFunc fn first cap).run Tryz.prog w = .ok (.func fn first cap) w := fun _ _ _ _ => rfl
 have HL := hide hL
 have H := hide h
 clear h hL
 go_enter Tryz.func22, Tryz.ntmps22
 go_wp2_with fail
 generalize hW : ((((w.alloc _).alloc _).alloc _).alloc _).alloc _ = W1
 have M := Sep.e5 hW
 clear hW
 obtain ⟨tS, Aa, An, Ae, Am⟩ := M.f2 0 rfl
 obtain ⟨tR, Ac, Ai, Ag, Aj, Ad, Al, Af, Ak, Ab, Ah⟩ := M.f5 1 rfl
 obtain ⟨tVid, qVid0, fVid0⟩ := M.f1 2 rfl
 obtain ⟨tX, Bb, Be, Au, Ap, Aq, Bh, Ay, Az, Ar, Av⟩ := M.f5 3 rfl
 obtain ⟨tP, Ao, At, Ax, Bc, Bg, Ba, Bf, Bd, Aw, As⟩ := M.f5 4 rfl
 go_wp2_with fail
 have hC := HL.out _ (w.heap.size + 2) M.below (M.cell 2 0 rfl) (M.lt 2 rfl)
 refine Calls.mono (by with_reducible exact hC) ?_
 clear hC
 rintro r W2 ⟨B0, B1, B2, d0, d1, d2, rfl, g1⟩
 clear tS Aa An Ae Am tR Ac Ai Ag Aj Ad Al Af Ak Ab Ah tVid qVid0 fVid0 tX Bb Be Au Ap Aq Bh Ay Az Ar Av tP Ao At Ax Bc Bg Ba Bf Bd Aw As
 replace M := Sep.new M g1
 simp only [zC, zN] at M
 clear g1
 obtain ⟨tS, Aa, An, Ae, Am⟩ := M.f2 3 rfl
 obtain ⟨tR, Ac, Ai, Ag, Aj, Ad, Al, Af, Ak, Ab, Ah⟩ := M.f5 4 rfl
 go_wp2_with fail
 clear tS Aa An Ae Am tR Ac Ai Ag Aj Ad Al Af Ak Ab Ah
 have N := M.gset5 4 rfl (.slice B0 o.ts.length d0) (.slice B1 o.ks.length d1) (.slice B2 o.fs.length d2) (.int .i64 o.tn) (.bool o.st)
 clear M
 obtain ⟨W3, eW, M⟩ := N
 rw [eW]
 clear eW
 simp only [zZ, zS] at M
 have N := M.gset2 3 rfl (.int .i64 o.rp) (.int .i64 o.ou)
 clear M
 obtain ⟨W4, eW, M⟩ := N
 rw [eW]
 clear eW
 simp only [zZ, zS] at M
 obtain ⟨tS, Aa, Ae⟩ := M.q2 3 rfl
 obtain ⟨tR, Ac, Ag, Ad, Af, Ab⟩ := M.q5 4 rfl
 exact bodyPost_ret (by simp [results, Tryz.results22, go_sem, Ac, Ag, Ad, Af, Ab, Aa, Ae]) rfl ⟨B0, B1, B2, d0, d1, d2, rfl, M.take 3⟩
theorem cancelledby_told (a b c d e : Int) (ts : List T7) (ks : List Int) (fs : List F2) (tn : Int) (st : Bool) (wk : Int) (id : Int) (hl : ts.length + ks.length + fs.length ≤ 1048576) :
 ∃ (us : List T7) (ks2 : List Int) (fs2 : List F2) (tn2 : Int) (st2 : Bool) (rp ou : Int), us.length + ks2.length + fs2.length ≤ 1048576 ∧
 ((rp ≠ 1 → poolB a b c d e ts ks fs tn = true → us = ts ∧ ks2 = ks ∧ fs2 = fs ∧ tn2 = tn ∧ st2 = st) ∧ (poolB a b c d e ts ks fs tn = true → btw wk 0 (a - 1) = true → ∀ (k : Nat) (x : T7), id = k → ts[k]? = some x → (x.s = 2 → rp = 3) ∧ (x.s = 4 ∨ x.s = 5 → rp = 5) ∧ (x.s = 1 ∨ x.s = 3 → tn + ((waitersM (ts.set k ⟨5, x.l, x.o, 0, 0, x.v, x.t⟩) 1 k).length : Int) ≤ 1000000 → rp = 1 ∧ us = wakeAllT (waitersM (ts.set k ⟨5, x.l, x.o, 0, 0, x.v, x.t⟩) 1 k) (ts.set k ⟨5, x.l, x.o, 0, 0, x.v, x.t⟩) tn 0 ∧ ks2 = ks ∧ fs2 = fs ∧ tn2 = tn + ((waitersM (ts.set k ⟨5, x.l, x.o, 0, 0, x.v, x.t⟩) 1 k).length : Int) ∧ st2 = st ∧ poolB a b c d e us ks2 fs2 tn2 = true))) ∧
 Hid (∀ (A0 A1 A2 : Option Addr) (c0 c1 c2 : Nat) (w : World), InPool w ts ks fs A0 A1 A2 → Calls Tryz.prog 28 #[.agg #[.int .i64 a, .int .i64 b, .int .i64 c, .int .i64 d, .int .i64 e], .agg #[.slice A0 ts.length c0, .slice A1 ks.length c1, .slice A2 fs.length c2, .int .i64 tn, .bool st], .int .i64 wk, .int .i64 id] w (GaveA us ks2 fs2 tn2 st2 rp ou w)) ∧
 Hid (∀ (A0 A1 A2 : Option Addr) (c0 c1 c2 : Nat) (w : World), Laid w → InPool w ts ks fs A0 A1 A2 → Calls Tryz.prog 22 #[.agg #[.int .i64 a, .int .i64 b, .int .i64 c, .int .i64 d, .int .i64 e], .agg #[.slice A0 ts.length c0, .slice A1 ks.length c1, .slice A2 fs.length c2, .int .i64 tn, .bool st], .int .i64 wk, .int .i64 id] w (GaveA us ks2 fs2 tn2 st2 rp ou w)) := by
 have ht : ts.length ≤ 1048576 := by omega
 have hk : ks.length ≤ 1048576 := by omega
 have hf : fs.length ≤ 1048576 := by omega
 cases hp : poolB a b c d e ts ks fs tn
 ·exact ⟨[], [], [], 0, false, 8, 0, by simp, ⟨(fun _ h => by cases h), (fun h => by cases h)⟩, hide (fun A0 A1 A2 c0 c1 c2 w h => (cancelled_may a b c d e ts ks fs A0 A1 A2 c0 c1 c2 tn st wk id w ht hk hf h (by simp [mayB, hp])).mono (fun r w' hh => by rw [hp] at hh; exact hh)), hide (fun A0 A1 A2 c0 c1 c2 w hg h => gCancelledBy_face a b c d e ts ks fs A0 A1 A2 c0 c1 c2 tn st wk id w ht hk hf h ⟨[], [], [], 0, false, 8, 0⟩ (fun V bid hV hid lid => livedAs_bad a b c d e ts ks fs A0 A1 A2 c0 c1 c2 tn st wk 65 #[.pointer (some ⟨bid, 0, none⟩)] V ht hk hf (h.below hV) hp))⟩
 have hpl := (poolB_parts hp).1
 have hT := (poolB_parts hp).2.1
 cases hw : btw wk 0 (a - 1)
 ·exact ⟨ts, ks, fs, tn, st, 8, 0, hl, ⟨fun _ _ => ⟨rfl, rfl, rfl, rfl, rfl⟩, fun _ h => by cases h⟩, hide (fun A0 A1 A2 c0 c1 c2 w h => (cancelled_may a b c d e ts ks fs A0 A1 A2 c0 c1 c2 tn st wk id w ht hk hf h (by simp [mayB, workB, hp, hw])).mono (fun r w' hh => by rw [hp] at hh; exact hh)), hide (fun A0 A1 A2 c0 c1 c2 w hg h => gCancelledBy_face a b c d e ts ks fs A0 A1 A2 c0 c1 c2 tn st wk id w ht hk hf h ⟨ts, ks, fs, tn, st, 8, 0⟩ (fun V bid hV hid lid => livedAs_worker a b c d e ts ks fs A0 A1 A2 c0 c1 c2 tn st wk 65 #[.pointer (some ⟨bid, 0, none⟩)] V ht hk hf (h.below hV) hp hw))⟩
 have hm : mayB a b c d e ts ks fs tn wk = true := by simp [mayB, workB, hp, hw, hpl]
 cases hh : btw id 0 ((ts.length : Int) - 1)
 ·exact ⟨ts, ks, fs, tn, st, 8, 0, hl, ⟨fun _ _ => ⟨rfl, rfl, rfl, rfl, rfl⟩, fun _ _ k x h1 h2 => by rw [h1, nat_task2 h2] at hh; cases hh⟩, hide (fun A0 A1 A2 c0 c1 c2 w h => (cancelled_has a b c d e ts ks fs A0 A1 A2 c0 c1 c2 tn st wk id w ht hk hf h hm hh).mono (fun r w' hh => by rw [hp] at hh; exact hh)), hide (fun A0 A1 A2 c0 c1 c2 w hg h => gCancelledBy_face a b c d e ts ks fs A0 A1 A2 c0 c1 c2 tn st wk id w ht hk hf h ⟨ts, ks, fs, tn, st, 8, 0⟩ (fun V bid hV hid lid => livedAs_no a b c d e ts ks fs A0 A1 A2 c0 c1 c2 tn st wk 65 #[.pointer (some ⟨bid, 0, none⟩)] (Go.Proofs.enters_of Tryz.func65 (by kernel_rfl) rfl) V ht hk hf (h.below hV) (hg.below hV) hp hw 8 (by omega) (by omega) (fun V2 g C0 C1 C2 e0 e1 e2 hV2 hM => cancelledbyC id bid g V2 ((hV2.cell (p := ⟨bid, 0, none⟩) lid).trans hid) (Nat.lt_of_lt_of_le lid hV2.size) _ _ (cancel_has ts ks fs C0 C1 C2 e0 e1 e2 tn st g id V2 ht hk hf hM hh))))⟩
 obtain ⟨k, s, l, o1, wt, on, v, t, rfl, hkl, hts⟩ := task_nat hh
 have i2 := isInB_of hts 2
 simp only at i2
 have hs15 : 1 ≤ s ∧ s ≤ 5 := by
  have h1 := (fit_parts (pool_fit hp hts)).2.1
  simp [btw] at h1
  exact h1
 by_cases h2 : s = 2
 ·exact ⟨ts, ks, fs, tn, st, 3, 0, hl, ⟨fun _ _ => ⟨rfl, rfl, rfl, rfl, rfl⟩, fun _ _ k9 x h1 h3 => by obtain rfl : k9 = k := (by omega); rw [hts] at h3; injection h3 with h3; subst h3; dsimp only; exact ⟨fun _ => rfl, fun h => by omega, fun h => by omega⟩⟩, hide (fun A0 A1 A2 c0 c1 c2 w h => (cancelled_busy a b c d e ts ks fs A0 A1 A2 c0 c1 c2 tn st wk k w ht hk hf h k s l o1 wt on v t rfl hts h2 hm hh).mono (fun r w' hh => by rw [hp] at hh; exact hh)), hide (fun A0 A1 A2 c0 c1 c2 w hg h => gCancelledBy_face a b c d e ts ks fs A0 A1 A2 c0 c1 c2 tn st wk k w ht hk hf h ⟨ts, ks, fs, tn, st, 3, 0⟩ (fun V bid hV hid lid => livedAs_no a b c d e ts ks fs A0 A1 A2 c0 c1 c2 tn st wk 65 #[.pointer (some ⟨bid, 0, none⟩)] (Go.Proofs.enters_of Tryz.func65 (by kernel_rfl) rfl) V ht hk hf (h.below hV) (hg.below hV) hp hw 3 (by omega) (by omega) (fun V2 g C0 C1 C2 e0 e1 e2 hV2 hM => cancelledbyC k bid g V2 ((hV2.cell (p := ⟨bid, 0, none⟩) lid).trans hid) (Nat.lt_of_lt_of_le lid hV2.size) _ _ (cancel_busy ts ks fs C0 C1 C2 e0 e1 e2 tn st g k V2 ht hk hf hM hh (i2.trans (by simp [h2]))))))⟩
 have hi2 : isInB ts k 2 = false := i2.trans (by simp [h2])
 cases ho : openB s
 ·have ho9 : 4 ≤ s := by simp [openB, btw] at ho; omega
  exact ⟨ts, ks, fs, tn, st, 5, 0, hl, ⟨fun _ _ => ⟨rfl, rfl, rfl, rfl, rfl⟩, fun _ _ k9 x h1 h3 => by obtain rfl : k9 = k := (by omega); rw [hts] at h3; injection h3 with h3; subst h3; dsimp only; exact ⟨fun h => absurd h h2, fun _ => rfl, fun h => by omega⟩⟩, hide (fun A0 A1 A2 c0 c1 c2 w h => (cancelled_gone a b c d e ts ks fs A0 A1 A2 c0 c1 c2 tn st wk k w ht hk hf h k s l o1 wt on v t rfl hts h2 hm hh ho).mono (fun r w' hh => by rw [hp] at hh; exact hh)), hide (fun A0 A1 A2 c0 c1 c2 w hg h => gCancelledBy_face a b c d e ts ks fs A0 A1 A2 c0 c1 c2 tn st wk k w ht hk hf h ⟨ts, ks, fs, tn, st, 5, 0⟩ (fun V bid hV hid lid => livedAs_no a b c d e ts ks fs A0 A1 A2 c0 c1 c2 tn st wk 65 #[.pointer (some ⟨bid, 0, none⟩)] (Go.Proofs.enters_of Tryz.func65 (by kernel_rfl) rfl) V ht hk hf (h.below hV) (hg.below hV) hp hw 5 (by omega) (by omega) (fun V2 g C0 C1 C2 e0 e1 e2 hV2 hM => cancelledbyC k bid g V2 ((hV2.cell (p := ⟨bid, 0, none⟩) lid).trans hid) (Nat.lt_of_lt_of_le lid hV2.size) _ _ (cancel_gone ts ks fs C0 C1 C2 e0 e1 e2 tn st g k s l o1 wt on v t hts V2 ht hk hf hM hh hi2 ho))))⟩
 have ho9 : s ≤ 3 := by simp [openB, btw] at ho; omega
 have hz0 := wakeAll_ok (v := 0) (wt := 1) (on := k) (by simp [btw]) (cancelP_right hp hts h2)
 cases ho2 : okAll (waitersM (ts.set k ⟨5, l, o1, 0, 0, v, t⟩) 1 k) 0 tn
 ·have hz := hz0.trans ho2
  exact ⟨ts, ks, fs, tn, st, 4, 0, hl, ⟨fun _ _ => ⟨rfl, rfl, rfl, rfl, rfl⟩, fun _ _ k9 x h1 h3 => by obtain rfl : k9 = k := (by omega); rw [hts] at h3; injection h3 with h3; subst h3; dsimp only; exact ⟨fun h => absurd h h2, fun h => by omega, fun _ h => by rw [okAll_room h] at ho2; cases ho2⟩⟩, hide (fun A0 A1 A2 c0 c1 c2 w h => (cancelled_main a b c d e ts ks fs A0 A1 A2 c0 c1 c2 tn st wk k w ht hk hf h k s l o1 wt on v t rfl hts h2 hm hh ho).mono (fun r w' hh => by rw [hz] at hh; exact hh)), hide (fun A0 A1 A2 c0 c1 c2 w hg h => gCancelledBy_face a b c d e ts ks fs A0 A1 A2 c0 c1 c2 tn st wk k w ht hk hf h ⟨ts, ks, fs, tn, st, 4, 0⟩ (fun V bid hV hid lid => livedAs_no a b c d e ts ks fs A0 A1 A2 c0 c1 c2 tn st wk 65 #[.pointer (some ⟨bid, 0, none⟩)] (Go.Proofs.enters_of Tryz.func65 (by kernel_rfl) rfl) V ht hk hf (h.below hV) (hg.below hV) hp hw 4 (by omega) (by omega) (fun V2 g C0 C1 C2 e0 e1 e2 hV2 hM => cancelledbyC k bid g V2 ((hV2.cell (p := ⟨bid, 0, none⟩) lid).trans hid) (Nat.lt_of_lt_of_le lid hV2.size) _ _ (cancel_full ts ks fs C0 C1 C2 e0 e1 e2 tn st g k s l o1 wt on v t hts V2 ht hk hf hM hh hi2 ho hT.1 hT.2 ho2))))⟩
 ·have hz := hz0.trans ho2
  exact ⟨(wakeAllT (waitersM (ts.set k ⟨5, l, o1, 0, 0, v, t⟩) 1 k) (ts.set k ⟨5, l, o1, 0, 0, v, t⟩) tn 0), ks, fs, tn + ((waitersM (ts.set k ⟨5, l, o1, 0, 0, v, t⟩) 1 k).length : Int), st, 1, ((waitersM (ts.set k ⟨5, l, o1, 0, 0, v, t⟩) 1 k).length : Int), by rw [wakeAllT_length, List.length_set]; exact hl, ⟨fun h => absurd rfl h, fun _ _ k9 x h1 h3 => by obtain rfl : k9 = k := (by omega); rw [hts] at h3; injection h3 with h3; subst h3; dsimp only; exact ⟨fun h => absurd h h2, fun h => by omega, fun _ _ => ⟨rfl, rfl, rfl, rfl, rfl, rfl, hz⟩⟩⟩, hide (fun A0 A1 A2 c0 c1 c2 w h => (cancelled_main a b c d e ts ks fs A0 A1 A2 c0 c1 c2 tn st wk k w ht hk hf h k s l o1 wt on v t rfl hts h2 hm hh ho).mono (fun r w' hh => by rw [hz] at hh; exact hh)), hide (fun A0 A1 A2 c0 c1 c2 w hg h => gCancelledBy_face a b c d e ts ks fs A0 A1 A2 c0 c1 c2 tn st wk k w ht hk hf h ⟨(wakeAllT (waitersM (ts.set k ⟨5, l, o1, 0, 0, v, t⟩) 1 k) (ts.set k ⟨5, l, o1, 0, 0, v, t⟩) tn 0), ks, fs, tn + ((waitersM (ts.set k ⟨5, l, o1, 0, 0, v, t⟩) 1 k).length : Int), st, 1, ((waitersM (ts.set k ⟨5, l, o1, 0, 0, v, t⟩) 1 k).length : Int)⟩ (fun V bid hV hid lid => livedAs_yes a b c d e ts ks fs A0 A1 A2 c0 c1 c2 tn st wk 65 #[.pointer (some ⟨bid, 0, none⟩)] (Go.Proofs.enters_of Tryz.func65 (by kernel_rfl) rfl) V ht hk hf (h.below hV) (hg.below hV) hp hw ⟨(wakeAllT (waitersM (ts.set k ⟨5, l, o1, 0, 0, v, t⟩) 1 k) (ts.set k ⟨5, l, o1, 0, 0, v, t⟩) tn 0), ks, fs, tn + ((waitersM (ts.set k ⟨5, l, o1, 0, 0, v, t⟩) 1 k).length : Int), st, 1, ((waitersM (ts.set k ⟨5, l, o1, 0, 0, v, t⟩) 1 k).length : Int)⟩ (.inl rfl) (fun V2 g C0 C1 C2 e0 e1 e2 hV2 hM => cancelledbyC k bid g V2 ((hV2.cell (p := ⟨bid, 0, none⟩) lid).trans hid) (Nat.lt_of_lt_of_le lid hV2.size) _ _ (cancel_ok ts ks fs C0 C1 C2 e0 e1 e2 tn st g k s l o1 wt on v t hts V2 ht hk hf hM hh hi2 ho hT.1 hT.2 ho2))))⟩
theorem pick_count (ts : List T7) (n : Nat) (hn : n ≤ ts.length) : (pick (readyQ ts) n).length = countM (ts.take n) 1 := by
 induction n with
 | zero => simp [pick, countM]
 | succ n ih =>
  have hlt : n < ts.length := by omega
  have h1 := ih (by omega)
  have h2 := countM_take ts 1 n
  have h3 := countM_take ts 1 (n + 1)
  rw [List.drop_eq_getElem_cons hlt] at h2
  have hq : readyQ ts n = (ts[n].s == 1) := by simp [readyQ, List.getD_eq_getElem?_getD, List.getElem?_eq_getElem hlt]
  simp only [countM] at h2
  simp only [pick, hq]
  by_cases hs : ts[n].s = 1
  ·rw [if_pos hs] at h2
   simp only [hs, beq_self_eq_true, if_true, List.length_append, List.length_singleton]
   omega
  ·rw [if_neg hs] at h2
   have hb : (ts[n].s == 1) = false := by simpa using hs
   simp only [hb, Bool.false_eq_true, if_false]
   omega
theorem ready_count (ts : List T7) : (readyM ts).length = countM ts 1 := by
 have h := (lineM_perm (readyQ ts) (readyP ts) ts.length).length_eq
 rw [List.length_map, pick_count ts ts.length (Nat.le_refl _), List.take_length] at h
 exact h
theorem mem_pick {q : Nat → Bool} {n k : Nat} (hk : k < n) (hq : q k = true) : k ∈ pick q n := by
 induction n with
 | zero => omega
 | succ n ih =>
  simp only [pick]
  by_cases h : k = n
  ·subst h; simp [hq]
  ·have h2 := ih (by omega)
   split
   ·exact List.mem_append_left _ h2
   ·exact h2
theorem mem_line {q : Nat → Bool} {P : Nat → Int → Bool} {n k : Nat} (hk : k < n) (hq : q k = true) : (k : Int) ∈ lineM q P n :=
 (lineM_perm q P n).mem_iff.2 (List.mem_map.2 ⟨k, mem_pick hk hq, rfl⟩)
theorem get_lt {α : Type} {ts : List α} {k : Nat} {x : α} (h : ts[k]? = some x) : k < ts.length := (List.getElem?_eq_some_iff.1 h).1
theorem mem_ready {ts : List T7} {k : Nat} {x : T7} (h : ts[k]? = some x) (hs : x.s = 1) : (k : Int) ∈ readyM ts := by
 refine mem_line (get_lt h) ?_
 simp [readyQ, List.getD_eq_getElem?_getD, h, hs]
theorem countM_same {k : Nat} {x y : T7} {s : Int} : ∀ (ts : List T7), ts[k]? = some x → x.s = y.s → countM (ts.set k y) s = countM ts s := by
 induction k with
 | zero =>
  intro ts h e
  cases ts with
  | nil => simp at h
  | cons t r =>
   simp at h
   subst h
   simp only [List.set_cons_zero, countM, e]
 | succ k ih =>
  intro ts h e
  cases ts with
  | nil => simp at h
  | cons t r =>
   have := ih r (by simpa using h) e
   simp only [List.set_cons_succ, countM, this]
set_option maxRecDepth 100000 in
set_option maxHeartbeats 1000000 in
theorem likeInts_same (ks : List Int) (A B : Option Addr) (c d : Nat) (w : World) (hlen : ks.length ≤ 1048576) (h0 : Row w A (icells ks)) (h1 : Row w B (icells ks)) :
 Calls Tryz.prog 76 #[.slice A ks.length c, .slice B ks.length d] w fun r w' => r = .returned (.bool true) ∧ Below w.heap.size w w' := by
 have H0 := hide h0
 have H1 := hide h1
 clear h0 h1
 go_enter Tryz.func76, Tryz.ntmps76
 go_wp2
 go_loopw [5] (fun i wr => ∃ (k : Nat), k ≤ ks.length ∧ i = .int .i64 k ∧ Below w.heap.size w wr) (fun i _ => ks.length - (intOf i).toNat)
 case atStart => exact ⟨0, Nat.zero_le _, rfl, by go_grown⟩
 case round =>
  obtain ⟨k, hk, rfl, hbel⟩ := hrel
  have hz := hbel.size
  by_cases hlt : k < ks.length
  ·obtain ⟨b, off, v, rfl, _, hx, hb1, z0⟩ := (H0.out.below hbel).ks_at hlt
   obtain ⟨b2, off2, v', rfl, _, hx2, hb2, y0⟩ := (H1.out.below hbel).ks_at hlt
   rw [hx] at hx2
   injection hx2 with hx2
   subst hx2
   clear hx
   have c0 := KeptW.cell (W0 := wr) (b := b) (o := off + k) (z0)
   have e0 := KeptW.cell (W0 := wr) (b := b2) (o := off2 + k) (y0)
   clear z0 y0
   go_wp2_with fail
   have hx0 := KeptW.mk'_w (Below.refl wr.heap.size wr)
   generalize KeptW.mk' (Below.refl wr.heap.size wr) = x at hx0
   rw [← hx0]
   clear hx0
   refine region_kept (by kernel_rfl) (by kernel_rfl) ?_
   repeat (go_big_quiet_step (fail))
   refine wpQuiet_nil ?_
   rintro _ ⟨x, rfl⟩
   have hgx := hbel.trans (x.below.mono hz)
   go_wp2
   go_roundw
   case rel => exact ⟨k + 1, by omega, by go_num, hgx⟩
   case measure => simp [intOf]; omega
  ·go_wp2
   go_ret
   exact ⟨rfl, hbel⟩
end Go.Proofs.YtfkdfkoigojciaaGreatDoor
