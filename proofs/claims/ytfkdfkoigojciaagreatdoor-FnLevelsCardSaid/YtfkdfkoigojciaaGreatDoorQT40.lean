/- The program's setLevel, way by way. Lists no longer than a million. -/
import Derived.Test.YtfkdfkoigojciaaGreatDoorQT18
import Derived.Test.YtfkdfkoigojciaaGreatDoorQT12
import Derived.Test.YtfkdfkoigojciaaGreatDoorQT39
import Derived.Test.YtfkdfkoigojciaaGreatDoorQT02
import Derived.Test.YtfkdfkoigojciaaGreatDoorQT32

namespace Go.Proofs.YtfkdfkoigojciaaGreatDoor
open Go.RowKit
set_option linter.unusedVariables false
set_option maxHeartbeats 1000000
set_option maxRecDepth 100000
theorem isOpen_p (s l o wt on v t : Int) (w : World) :
 Calls Tryz.prog 137 #[.agg #[.int .i64 s, .int .i64 l, .int .i64 o, .int .i64 wt, .int .i64 on, .int .i64 v, .int .i64 t]] w fun r w' => r = .returned (.bool (openB s)) ∧ Below w.heap.size w w' := by
 go_enter Tryz.func137, Tryz.ntmps137
 go_wp2_with fail
 go_call (state_any s l o wt on v t _) as r w1 ⟨rfl, hb1⟩
 go_wp2_with fail
 go_call (open_any s _) as r w2 ⟨rfl, hb2⟩
 go_wp2_with fail
 go_ret
 exact ⟨rfl, Below.trans (Below.trans (by go_grown) (hb1.mono (by go_size))) (hb2.mono (by have := hb1.size; simp at this; omega))⟩
theorem waitFor_yes (ts : List T7) (ks : List Int) (fs : List F2) (A0 A1 A2 : Option Addr) (c0 c1 c2 : Nat) (tn : Int) (st : Bool) (g : Nat) (a b c d e : Int) (m : Nat) (pw po s l o1 wt on v t : Int) (w : World) (ht : ts.length ≤ 1048576) (hk : ks.length ≤ 1048576) (hf : fs.length ≤ 1048576) (h : Sep (fps [.blk g 35 #[.slice A0 ts.length c0, .slice A1 ks.length c1, .slice A2 fs.length c2, .int .i64 tn, .bool st], rT ts.length A0 c0 ts, rK ks.length A1 c1 ks, rF fs.length A2 c2 fs]) w w [.blk g 35 #[.slice A0 ts.length c0, .slice A1 ks.length c1, .slice A2 fs.length c2, .int .i64 tn, .bool st], rT ts.length A0 c0 ts, rK ks.length A1 c1 ks, rF fs.length A2 c2 fs]) (t0 : 0 ≤ tn) (t1 : tn ≤ 1000000) (hts : ts[m]? = some ⟨s, l, o1, wt, on, v, t⟩) (hc : isInB ts m 2 = true) (hz : poolB a b c d e (ts.set m (parkT ⟨s, l, o1, wt, on, v, t⟩ tn pw po)) ks fs (tn + 1) = true) :
 Calls Tryz.prog 131 #[.pointer (some ⟨g, 0, none⟩), .agg #[.int .i64 a, .int .i64 b, .int .i64 c, .int .i64 d, .int .i64 e], .int .i64 m, .int .i64 pw, .int .i64 po] w (fun r w' => r = .returned (.iface 165 (.agg #[.iface 133 (.int .i64 7), .int .i64 (m : Int)])) ∧ HeldO (fps [.blk g 35 #[.slice A0 ts.length c0, .slice A1 ks.length c1, .slice A2 fs.length c2, .int .i64 tn, .bool st], rT ts.length A0 c0 ts, rK ks.length A1 c1 ks, rF fs.length A2 c2 fs]) g ⟨(ts.set m (parkT ⟨s, l, o1, wt, on, v, t⟩ tn pw po)), ks, fs, (tn + 1), st, 7, (m : Int)⟩ w w') := by
 have hz2 : (ts.set m (parkT ⟨s, l, o1, wt, on, v, t⟩ tn pw po)).length = ts.length := List.length_set
 have HZ := hide (⟨hz, hz2⟩ : _ ∧ _)
 have HC := hide hc
 clear hz hz2 hc
 have HT := hide hts
 clear hts
 obtain ⟨S, hS⟩ : ∃ S, S = fps [.blk g 35 #[.slice A0 ts.length c0, .slice A1 ks.length c1, .slice A2 fs.length c2, .int .i64 tn, .bool st], rT ts.length A0 c0 ts, rK ks.length A1 c1 ks, rF fs.length A2 c2 fs] := ⟨_, rfl⟩
 rw [← hS] at h ⊢
 clear hS
 have M0 := hide h
 clear h
 go_enter Tryz.func131, Tryz.ntmps131
 go_wp2_with fail
 have M := M0.out.allocN 28 #[.int .i64 a, .int .i64 b, .int .i64 c, .int .i64 d, .int .i64 e]
 clear M0
 generalize w.alloc (.cells #[.int .i64 a, .int .i64 b, .int .i64 c, .int .i64 d, .int .i64 e] 28) = W1 at M ⊢
 obtain ⟨tP, Ac, Aj, Ab, Ad, Ai, Ag, Ah, Ae, Aa, Af⟩ := M.f5 0 rfl
 try go_wp2_with fail
 replace M := M.front 4 rfl
 simp only [zE, zF] at M
 replace M := M.front 4 rfl
 simp only [zE, zF] at M
 replace M := M.front 4 rfl
 simp only [zE, zF] at M
 replace M := M.front 4 rfl
 simp only [zE, zF] at M
 have hC := park_yes a b c d e ts ks fs A0 A1 A2 c0 c1 c2 tn st g m pw po s l o1 wt on v t W1 ht hk hf (by omega) t1 HT.out (Sep.same (ps := [.blk (g) 35 #[.slice A0 ts.length c0, .slice A1 ks.length c1, .slice A2 fs.length c2, .int .i64 tn, .bool st], rT ts.length A0 c0 ts, rK ks.length A1 c1 ks, rF fs.length A2 c2 fs]) (rs := [.blk (w.heap.size) 28 #[.int .i64 a, .int .i64 b, .int .i64 c, .int .i64 d, .int .i64 e]]) M (Below.refl _ _)) HC.out
 rw [HZ.out.1] at hC
 refine Calls.mono (by with_reducible exact hC) ?_
 clear hC
 rintro r W2 ⟨rfl, g1⟩
 clear tP Ac Aj Ab Ad Ai Ag Ah Ae Aa Af
 replace M : Sep S w W2 [.blk (g) 35 #[.slice A0 ts.length c0, .slice A1 ks.length c1, .slice A2 fs.length c2, .int .i64 (tn + 1), .bool st], rT ts.length A0 c0 (ts.set m (parkT ⟨s, l, o1, wt, on, v, t⟩ tn pw po)), rK ks.length A1 c1 ks, rF fs.length A2 c2 fs, .blk (w.heap.size) 28 #[.int .i64 a, .int .i64 b, .int .i64 c, .int .i64 d, .int .i64 e]] := Sep.comp (ps := [.blk (g) 35 #[.slice A0 ts.length c0, .slice A1 ks.length c1, .slice A2 fs.length c2, .int .i64 tn, .bool st], rT ts.length A0 c0 ts, rK ks.length A1 c1 ks, rF fs.length A2 c2 fs]) (rs := [.blk (w.heap.size) 28 #[.int .i64 a, .int .i64 b, .int .i64 c, .int .i64 d, .int .i64 e]]) M g1
 clear g1
 go_wp2_with fail
 go_call (saidWith_any 7 m _) as r WS ⟨rfl, hWW⟩
 subst hWW
 go_wp2_with fail
 go_ret
 exact ⟨rfl, A0, A1, A2, c0, c1, c2, by rw [HZ.out.2]; exact M.take 4⟩
theorem waitFor_full (ts : List T7) (ks : List Int) (fs : List F2) (A0 A1 A2 : Option Addr) (c0 c1 c2 : Nat) (tn : Int) (st : Bool) (g : Nat) (a b c d e : Int) (m : Nat) (pw po s l o1 wt on v t : Int) (w : World) (ht : ts.length ≤ 1048576) (hk : ks.length ≤ 1048576) (hf : fs.length ≤ 1048576) (h : Sep (fps [.blk g 35 #[.slice A0 ts.length c0, .slice A1 ks.length c1, .slice A2 fs.length c2, .int .i64 tn, .bool st], rT ts.length A0 c0 ts, rK ks.length A1 c1 ks, rF fs.length A2 c2 fs]) w w [.blk g 35 #[.slice A0 ts.length c0, .slice A1 ks.length c1, .slice A2 fs.length c2, .int .i64 tn, .bool st], rT ts.length A0 c0 ts, rK ks.length A1 c1 ks, rF fs.length A2 c2 fs]) (t0 : 0 ≤ tn) (t1 : tn ≤ 1000000) (hts : ts[m]? = some ⟨s, l, o1, wt, on, v, t⟩) (hc : isInB ts m 2 = true) (hz : poolB a b c d e (ts.set m (parkT ⟨s, l, o1, wt, on, v, t⟩ tn pw po)) ks fs (tn + 1) = false) :
 Calls Tryz.prog 131 #[.pointer (some ⟨g, 0, none⟩), .agg #[.int .i64 a, .int .i64 b, .int .i64 c, .int .i64 d, .int .i64 e], .int .i64 m, .int .i64 pw, .int .i64 po] w (fun r w' => r = .returned (.iface 133 (.int .i64 4)) ∧ Sep (fps [.blk g 35 #[.slice A0 ts.length c0, .slice A1 ks.length c1, .slice A2 fs.length c2, .int .i64 tn, .bool st], rT ts.length A0 c0 ts, rK ks.length A1 c1 ks, rF fs.length A2 c2 fs]) w w' []) := by
 have hz2 : (ts.set m (parkT ⟨s, l, o1, wt, on, v, t⟩ tn pw po)).length = ts.length := List.length_set
 have HZ := hide (⟨hz, hz2⟩ : _ ∧ _)
 have HC := hide hc
 clear hz hz2 hc
 have HT := hide hts
 clear hts
 obtain ⟨S, hS⟩ : ∃ S, S = fps [.blk g 35 #[.slice A0 ts.length c0, .slice A1 ks.length c1, .slice A2 fs.length c2, .int .i64 tn, .bool st], rT ts.length A0 c0 ts, rK ks.length A1 c1 ks, rF fs.length A2 c2 fs] := ⟨_, rfl⟩
 rw [← hS] at h ⊢
 clear hS
 have M0 := hide h
 clear h
 go_enter Tryz.func131, Tryz.ntmps131
 go_wp2_with fail
 have M := M0.out.allocN 28 #[.int .i64 a, .int .i64 b, .int .i64 c, .int .i64 d, .int .i64 e]
 clear M0
 generalize w.alloc (.cells #[.int .i64 a, .int .i64 b, .int .i64 c, .int .i64 d, .int .i64 e] 28) = W1 at M ⊢
 obtain ⟨tP, Ac, Aj, Ab, Ad, Ai, Ag, Ah, Ae, Aa, Af⟩ := M.f5 0 rfl
 try go_wp2_with fail
 replace M := M.front 4 rfl
 simp only [zE, zF] at M
 replace M := M.front 4 rfl
 simp only [zE, zF] at M
 replace M := M.front 4 rfl
 simp only [zE, zF] at M
 replace M := M.front 4 rfl
 simp only [zE, zF] at M
 have hC := park_yes a b c d e ts ks fs A0 A1 A2 c0 c1 c2 tn st g m pw po s l o1 wt on v t W1 ht hk hf (by omega) t1 HT.out (Sep.same (ps := [.blk (g) 35 #[.slice A0 ts.length c0, .slice A1 ks.length c1, .slice A2 fs.length c2, .int .i64 tn, .bool st], rT ts.length A0 c0 ts, rK ks.length A1 c1 ks, rF fs.length A2 c2 fs]) (rs := [.blk (w.heap.size) 28 #[.int .i64 a, .int .i64 b, .int .i64 c, .int .i64 d, .int .i64 e]]) M (Below.refl _ _)) HC.out
 rw [HZ.out.1] at hC
 refine Calls.mono (by with_reducible exact hC) ?_
 clear hC
 rintro r W2 ⟨rfl, g1⟩
 clear tP Ac Aj Ab Ad Ai Ag Ah Ae Aa Af
 replace M : Sep S w W2 [.blk (g) 35 #[.slice A0 ts.length c0, .slice A1 ks.length c1, .slice A2 fs.length c2, .int .i64 (tn + 1), .bool st], rT ts.length A0 c0 (ts.set m (parkT ⟨s, l, o1, wt, on, v, t⟩ tn pw po)), rK ks.length A1 c1 ks, rF fs.length A2 c2 fs, .blk (w.heap.size) 28 #[.int .i64 a, .int .i64 b, .int .i64 c, .int .i64 d, .int .i64 e]] := Sep.comp (ps := [.blk (g) 35 #[.slice A0 ts.length c0, .slice A1 ks.length c1, .slice A2 fs.length c2, .int .i64 tn, .bool st], rT ts.length A0 c0 ts, rK ks.length A1 c1 ks, rF fs.length A2 c2 fs]) (rs := [.blk (w.heap.size) 28 #[.int .i64 a, .int .i64 b, .int .i64 c, .int .i64 d, .int .i64 e]]) M g1
 clear g1
 go_wp2_with fail
 go_ret
 exact ⟨rfl, M.drop 5⟩
theorem wakeFrom_yes (ts : List T7) (ks : List Int) (fs : List F2) (A0 A1 A2 : Option Addr) (c0 c1 c2 : Nat) (tn : Int) (st : Bool) (g : Nat) (wt on2 vv : Int) (w : World) (ht : ts.length ≤ 1048576) (hk : ks.length ≤ 1048576) (hf : fs.length ≤ 1048576) (h : Sep (fps [.blk g 35 #[.slice A0 ts.length c0, .slice A1 ks.length c1, .slice A2 fs.length c2, .int .i64 tn, .bool st], rT ts.length A0 c0 ts, rK ks.length A1 c1 ks, rF fs.length A2 c2 fs]) w w [.blk g 35 #[.slice A0 ts.length c0, .slice A1 ks.length c1, .slice A2 fs.length c2, .int .i64 tn, .bool st], rT ts.length A0 c0 ts, rK ks.length A1 c1 ks, rF fs.length A2 c2 fs]) (t0 : 0 ≤ tn) (t1 : tn ≤ 1000000) (ho : okAll (waitersM ts wt on2) vv tn = true) :
 Calls Tryz.prog 138 #[.pointer (some ⟨g, 0, none⟩), .int .i64 wt, .int .i64 on2, .int .i64 vv] w (fun r w' => r = .returned (.iface 165 (.agg #[.iface 133 (.int .i64 1), .int .i64 ((waitersM ts wt on2).length : Int)])) ∧ HeldO (fps [.blk g 35 #[.slice A0 ts.length c0, .slice A1 ks.length c1, .slice A2 fs.length c2, .int .i64 tn, .bool st], rT ts.length A0 c0 ts, rK ks.length A1 c1 ks, rF fs.length A2 c2 fs]) g ⟨(wakeAllT (waitersM ts wt on2) ts tn vv), ks, fs, (tn + ((waitersM ts wt on2).length : Int)), st, 1, ((waitersM ts wt on2).length : Int)⟩ w w') := by
 obtain ⟨S, hS⟩ : ∃ S, S = fps [.blk g 35 #[.slice A0 ts.length c0, .slice A1 ks.length c1, .slice A2 fs.length c2, .int .i64 tn, .bool st], rT ts.length A0 c0 ts, rK ks.length A1 c1 ks, rF fs.length A2 c2 fs] := ⟨_, rfl⟩
 rw [← hS] at h ⊢
 clear hS
 have M0 := hide h
 clear h
 go_enter Tryz.func138, Tryz.ntmps138
 go_wp2_with fail
 have M := M0.out
 clear M0
 have hA := wakeAll_any ts A0 A1 A2 c0 ks.length c1 fs.length c2 tn st g wt on2 vv w ht t0 t1 (Sep.same (ps := [.blk (g) 35 #[.slice A0 ts.length c0, .slice A1 ks.length c1, .slice A2 fs.length c2, .int .i64 tn, .bool st], rT ts.length A0 c0 ts]) (rs := [rK ks.length A1 c1 ks, rF fs.length A2 c2 fs]) M (Below.refl _ _))
 refine Calls.mono (by with_reducible exact hA) ?_
 clear hA
 rintro r W1 ⟨us, tn', cnt, rfl, hul, g1, hR⟩
 replace M : Sep S w W1 [.blk (g) 35 #[.slice A0 ts.length c0, .slice A1 ks.length c1, .slice A2 fs.length c2, .int .i64 tn', .bool st], rT ts.length A0 c0 us, rK ks.length A1 c1 ks, rF fs.length A2 c2 fs] := Sep.comp (ps := [.blk (g) 35 #[.slice A0 ts.length c0, .slice A1 ks.length c1, .slice A2 fs.length c2, .int .i64 tn, .bool st], rT ts.length A0 c0 ts]) (rs := [rK ks.length A1 c1 ks, rF fs.length A2 c2 fs]) M g1
 clear g1
 have HR := hide (⟨hR.elim (fun h => h.2.2.1) (fun h => by rw [ho] at h; cases h.1), hul⟩ : us = wakeAllT (waitersM ts wt on2) ts tn vv ∧ us.length = ts.length)
 obtain ⟨hcn, htn⟩ : cnt = ((waitersM ts wt on2).length : Int) ∧ tn' = tn + ((waitersM ts wt on2).length : Int) := hR.elim (fun h => ⟨h.2.1, h.2.2.2⟩) (fun h => by rw [ho] at h; cases h.1)
 clear hR ho
 obtain ⟨nL, hnL⟩ : ∃ nL, nL = (waitersM ts wt on2).length := ⟨_, rfl⟩
 rw [← hnL] at hcn htn
 subst hcn htn
 have HN := hide hnL
 clear hnL hul
 have hne : ((nL : Int) == -1) = false := by rw [beq_eq_false_iff_ne]; omega
 go_wp2_with fail
 go_call (saidWith_any 1 nL _) as r WS ⟨rfl, hWW⟩
 subst hWW
 go_wp2_with fail
 go_ret
 have hnn := HN.out
 subst hnn
 exact ⟨rfl, A0, A1, A2, c0, c1, c2, by rw [← HR.out.1, HR.out.2]; exact M.take 4⟩
theorem wakeFrom_full (ts : List T7) (ks : List Int) (fs : List F2) (A0 A1 A2 : Option Addr) (c0 c1 c2 : Nat) (tn : Int) (st : Bool) (g : Nat) (wt on2 vv : Int) (w : World) (ht : ts.length ≤ 1048576) (hk : ks.length ≤ 1048576) (hf : fs.length ≤ 1048576) (h : Sep (fps [.blk g 35 #[.slice A0 ts.length c0, .slice A1 ks.length c1, .slice A2 fs.length c2, .int .i64 tn, .bool st], rT ts.length A0 c0 ts, rK ks.length A1 c1 ks, rF fs.length A2 c2 fs]) w w [.blk g 35 #[.slice A0 ts.length c0, .slice A1 ks.length c1, .slice A2 fs.length c2, .int .i64 tn, .bool st], rT ts.length A0 c0 ts, rK ks.length A1 c1 ks, rF fs.length A2 c2 fs]) (t0 : 0 ≤ tn) (t1 : tn ≤ 1000000) (ho : okAll (waitersM ts wt on2) vv tn = false) :
 Calls Tryz.prog 138 #[.pointer (some ⟨g, 0, none⟩), .int .i64 wt, .int .i64 on2, .int .i64 vv] w (fun r w' => r = .returned (.iface 133 (.int .i64 4)) ∧ Sep (fps [.blk g 35 #[.slice A0 ts.length c0, .slice A1 ks.length c1, .slice A2 fs.length c2, .int .i64 tn, .bool st], rT ts.length A0 c0 ts, rK ks.length A1 c1 ks, rF fs.length A2 c2 fs]) w w' []) := by
 obtain ⟨S, hS⟩ : ∃ S, S = fps [.blk g 35 #[.slice A0 ts.length c0, .slice A1 ks.length c1, .slice A2 fs.length c2, .int .i64 tn, .bool st], rT ts.length A0 c0 ts, rK ks.length A1 c1 ks, rF fs.length A2 c2 fs] := ⟨_, rfl⟩
 rw [← hS] at h ⊢
 clear hS
 have M0 := hide h
 clear h
 go_enter Tryz.func138, Tryz.ntmps138
 go_wp2_with fail
 have M := M0.out
 clear M0
 have hA := wakeAll_any ts A0 A1 A2 c0 ks.length c1 fs.length c2 tn st g wt on2 vv w ht t0 t1 (Sep.same (ps := [.blk (g) 35 #[.slice A0 ts.length c0, .slice A1 ks.length c1, .slice A2 fs.length c2, .int .i64 tn, .bool st], rT ts.length A0 c0 ts]) (rs := [rK ks.length A1 c1 ks, rF fs.length A2 c2 fs]) M (Below.refl _ _))
 refine Calls.mono (by with_reducible exact hA) ?_
 clear hA
 rintro r W1 ⟨us, tn', cnt, rfl, hul, g1, hR⟩
 replace M : Sep S w W1 [.blk (g) 35 #[.slice A0 ts.length c0, .slice A1 ks.length c1, .slice A2 fs.length c2, .int .i64 tn', .bool st], rT ts.length A0 c0 us, rK ks.length A1 c1 ks, rF fs.length A2 c2 fs] := Sep.comp (ps := [.blk (g) 35 #[.slice A0 ts.length c0, .slice A1 ks.length c1, .slice A2 fs.length c2, .int .i64 tn, .bool st], rT ts.length A0 c0 ts]) (rs := [rK ks.length A1 c1 ks, rF fs.length A2 c2 fs]) M g1
 clear g1
 obtain rfl : cnt = -1 := hR.elim (fun h => by rw [ho] at h; cases h.1) (fun h => h.2)
 clear hR hul
 go_wp2_with fail
 go_ret
 exact ⟨rfl, M.drop 4⟩
set_option maxHeartbeats 800000
set_option maxRecDepth 100000
theorem setLevel_has (ts : List T7) (ks : List Int) (fs : List F2) (A0 A1 A2 : Option Addr) (c0 c1 c2 : Nat) (tn : Int) (st : Bool) (g : Nat) (a b c d e id lv : Int) (w : World) (ht : ts.length ≤ 1048576) (hk : ks.length ≤ 1048576) (hf : fs.length ≤ 1048576) (h : Sep (fps [.blk g 35 #[.slice A0 ts.length c0, .slice A1 ks.length c1, .slice A2 fs.length c2, .int .i64 tn, .bool st], rT ts.length A0 c0 ts, rK ks.length A1 c1 ks, rF fs.length A2 c2 fs]) w w [.blk g 35 #[.slice A0 ts.length c0, .slice A1 ks.length c1, .slice A2 fs.length c2, .int .i64 tn, .bool st], rT ts.length A0 c0 ts, rK ks.length A1 c1 ks, rF fs.length A2 c2 fs]) (pl1 : 1 ≤ c) (pl2 : c ≤ 30) (hh : btw id 0 ((ts.length : Int) - 1) = false) :
 Calls Tryz.prog 70 #[.pointer (some ⟨g, 0, none⟩), .agg #[.int .i64 a, .int .i64 b, .int .i64 c, .int .i64 d, .int .i64 e], .int .i64 id, .int .i64 lv] w (fun r w' => r = .returned (.iface 133 (.int .i64 8)) ∧ Sep (fps [.blk g 35 #[.slice A0 ts.length c0, .slice A1 ks.length c1, .slice A2 fs.length c2, .int .i64 tn, .bool st], rT ts.length A0 c0 ts, rK ks.length A1 c1 ks, rF fs.length A2 c2 fs]) w w' []) := by
 obtain ⟨S, hS⟩ : ∃ S, S = fps [.blk g 35 #[.slice A0 ts.length c0, .slice A1 ks.length c1, .slice A2 fs.length c2, .int .i64 tn, .bool st], rT ts.length A0 c0 ts, rK ks.length A1 c1 ks, rF fs.length A2 c2 fs] := ⟨_, rfl⟩
 rw [← hS] at h ⊢
 clear hS
 have M0 := hide h
 clear h
 go_enter Tryz.func70, Tryz.ntmps70
 go_wp2_with fail
 have M := M0.out.allocN 28 #[.int .i64 a, .int .i64 b, .int .i64 c, .int .i64 d, .int .i64 e]
 clear M0
 generalize w.alloc (.cells #[.int .i64 a, .int .i64 b, .int .i64 c, .int .i64 d, .int .i64 e] 28) = W1 at M ⊢
 have hC := has_any ts A0 A1 A2 c0 ks.length c1 fs.length c2 tn st g id W1 ht (M.blk 1 rfl)
 rw [hh] at hC
 refine Calls.mono (by with_reducible exact hC) ?_
 clear hC
 rintro r W2 ⟨rfl, hWW⟩
 subst hWW
 go_wp2_with fail
 go_ret
 exact ⟨rfl, M.drop 5⟩
theorem setLevel_lev (ts : List T7) (ks : List Int) (fs : List F2) (A0 A1 A2 : Option Addr) (c0 c1 c2 : Nat) (tn : Int) (st : Bool) (g : Nat) (a b c d e id lv : Int) (w : World) (ht : ts.length ≤ 1048576) (hk : ks.length ≤ 1048576) (hf : fs.length ≤ 1048576) (h : Sep (fps [.blk g 35 #[.slice A0 ts.length c0, .slice A1 ks.length c1, .slice A2 fs.length c2, .int .i64 tn, .bool st], rT ts.length A0 c0 ts, rK ks.length A1 c1 ks, rF fs.length A2 c2 fs]) w w [.blk g 35 #[.slice A0 ts.length c0, .slice A1 ks.length c1, .slice A2 fs.length c2, .int .i64 tn, .bool st], rT ts.length A0 c0 ts, rK ks.length A1 c1 ks, rF fs.length A2 c2 fs]) (pl1 : 1 ≤ c) (pl2 : c ≤ 30) (hh : btw id 0 ((ts.length : Int) - 1) = true) (hlv : btw lv 0 (c - 1) = false) :
 Calls Tryz.prog 70 #[.pointer (some ⟨g, 0, none⟩), .agg #[.int .i64 a, .int .i64 b, .int .i64 c, .int .i64 d, .int .i64 e], .int .i64 id, .int .i64 lv] w (fun r w' => r = .returned (.iface 133 (.int .i64 8)) ∧ Sep (fps [.blk g 35 #[.slice A0 ts.length c0, .slice A1 ks.length c1, .slice A2 fs.length c2, .int .i64 tn, .bool st], rT ts.length A0 c0 ts, rK ks.length A1 c1 ks, rF fs.length A2 c2 fs]) w w' []) := by
 obtain ⟨S, hS⟩ : ∃ S, S = fps [.blk g 35 #[.slice A0 ts.length c0, .slice A1 ks.length c1, .slice A2 fs.length c2, .int .i64 tn, .bool st], rT ts.length A0 c0 ts, rK ks.length A1 c1 ks, rF fs.length A2 c2 fs] := ⟨_, rfl⟩
 rw [← hS] at h ⊢
 clear hS
 have M0 := hide h
 clear h
 go_enter Tryz.func70, Tryz.ntmps70
 go_wp2_with fail
 have M := M0.out.allocN 28 #[.int .i64 a, .int .i64 b, .int .i64 c, .int .i64 d, .int .i64 e]
 clear M0
 generalize w.alloc (.cells #[.int .i64 a, .int .i64 b, .int .i64 c, .int .i64 d, .int .i64 e] 28) = W1 at M ⊢
 have hC := has_any ts A0 A1 A2 c0 ks.length c1 fs.length c2 tn st g id W1 ht (M.blk 1 rfl)
 rw [hh] at hC
 refine Calls.mono (by with_reducible exact hC) ?_
 clear hC
 rintro r W2 ⟨rfl, hWW⟩
 subst hWW
 obtain ⟨tP, Ah, Ag, Aj, Ai, Af⟩ := M.q5 0 rfl
 go_wp2_with fail
 have hC := fun V => hasLevel_any a b c d e lv V pl1 pl2
 rw [hlv] at hC
 refine Calls.mono (by with_reducible exact hC _) ?_
 clear hC
 rintro r W3 ⟨rfl, g1⟩
 clear tP Ah Ag Aj Ai Af
 replace M := M.call g1
 clear g1
 go_wp2_with fail
 go_ret
 exact ⟨rfl, M.drop 5⟩
theorem setLevel_gone (ts : List T7) (ks : List Int) (fs : List F2) (A0 A1 A2 : Option Addr) (c0 c1 c2 : Nat) (tn : Int) (st : Bool) (g : Nat) (a b c d e lv : Int) (k : Nat) (s l o1 wt on v t : Int) (hts : ts[k]? = some ⟨s, l, o1, wt, on, v, t⟩) (w : World) (ht : ts.length ≤ 1048576) (hk : ks.length ≤ 1048576) (hf : fs.length ≤ 1048576) (h : Sep (fps [.blk g 35 #[.slice A0 ts.length c0, .slice A1 ks.length c1, .slice A2 fs.length c2, .int .i64 tn, .bool st], rT ts.length A0 c0 ts, rK ks.length A1 c1 ks, rF fs.length A2 c2 fs]) w w [.blk g 35 #[.slice A0 ts.length c0, .slice A1 ks.length c1, .slice A2 fs.length c2, .int .i64 tn, .bool st], rT ts.length A0 c0 ts, rK ks.length A1 c1 ks, rF fs.length A2 c2 fs]) (pl1 : 1 ≤ c) (pl2 : c ≤ 30) (hh : btw k 0 ((ts.length : Int) - 1) = true) (hlv : btw lv 0 (c - 1) = true) (ho : openB s = false) :
 Calls Tryz.prog 70 #[.pointer (some ⟨g, 0, none⟩), .agg #[.int .i64 a, .int .i64 b, .int .i64 c, .int .i64 d, .int .i64 e], .int .i64 k, .int .i64 lv] w (fun r w' => r = .returned (.iface 133 (.int .i64 5)) ∧ Sep (fps [.blk g 35 #[.slice A0 ts.length c0, .slice A1 ks.length c1, .slice A2 fs.length c2, .int .i64 tn, .bool st], rT ts.length A0 c0 ts, rK ks.length A1 c1 ks, rF fs.length A2 c2 fs]) w w' []) := by
 have hkl : k < ts.length := by
  rcases Nat.lt_or_ge k ts.length with h1 | h1
  ·exact h1
  ·rw [List.getElem?_eq_none h1] at hts; cases hts
 have hki : (k : Int) < (ts.length : Int) := by omega
 have hk0 : (0 : Int) ≤ (k : Int) := by omega
 have hr9 : (rT ts.length A0 c0 ts).here w := h.rowAt 1 rfl
 obtain ⟨gr, rfl, hgl, hfz9⟩ := rT_form hr9 (show 0 < ts.length by omega)
 clear hr9 hfz9 hgl
 have HT := hide hts
 clear hts
 obtain ⟨S, hS⟩ : ∃ S, S = fps [.blk g 35 #[.slice (some ⟨gr, 0, none⟩) ts.length c0, .slice A1 ks.length c1, .slice A2 fs.length c2, .int .i64 tn, .bool st], rT ts.length (some ⟨gr, 0, none⟩) c0 ts, rK ks.length A1 c1 ks, rF fs.length A2 c2 fs] := ⟨_, rfl⟩
 rw [← hS] at h ⊢
 clear hS
 have M0 := hide h
 clear h
 go_enter Tryz.func70, Tryz.ntmps70
 go_wp2_with fail
 have M := M0.out.allocN 28 #[.int .i64 a, .int .i64 b, .int .i64 c, .int .i64 d, .int .i64 e]
 clear M0
 generalize w.alloc (.cells #[.int .i64 a, .int .i64 b, .int .i64 c, .int .i64 d, .int .i64 e] 28) = W1 at M ⊢
 have hC := has_any ts (some ⟨gr, 0, none⟩) A1 A2 c0 ks.length c1 fs.length c2 tn st g k W1 ht (M.blk 1 rfl)
 rw [hh] at hC
 refine Calls.mono (by with_reducible exact hC) ?_
 clear hC
 rintro r W2 ⟨rfl, hWW⟩
 subst hWW
 obtain ⟨tP, Ah, Ag, Aj, Ai, Af⟩ := M.q5 0 rfl
 go_wp2_with fail
 have hC := fun V => hasLevel_any a b c d e lv V pl1 pl2
 rw [hlv] at hC
 refine Calls.mono (by with_reducible exact hC _) ?_
 clear hC
 rintro r W3 ⟨rfl, g1⟩
 clear tP Ah Ag Aj Ai Af
 replace M := M.call g1
 clear g1
 obtain ⟨tY, Ab, Ac, Aa, Ad, Ae⟩ := M.q5 1 rfl
 obtain ⟨s', l', o', wt', on', v', t', ht', y0, y1, y2, y3, y4, y5, y6⟩ := Own.t7 (M.rowAt 2 rfl) hkl
 rw [HT.out] at ht'
 injection ht' with ht'
 injection ht' with e0 e1 e2 e3 e4 e5 e6
 subst e0 e1 e2 e3 e4 e5 e6
 go_wp2_with fail
 have hC := fun V => isOpen_p s l o1 wt on v t V
 rw [ho] at hC
 refine Calls.mono (by with_reducible exact hC _) ?_
 clear hC
 rintro r W4 ⟨rfl, g1⟩
 clear tY Ab Ac Aa Ad Ae y0 y1 y2 y3 y4 y5 y6
 replace M := M.call g1
 clear g1
 obtain ⟨tY, Ab, Ac, Aa, Ad, Ae⟩ := M.q5 1 rfl
 go_wp2_with fail
 clear tY Ab Ac Aa Ad Ae
 go_ret
 exact ⟨rfl, M.drop 5⟩
theorem setLevel_ok (ts : List T7) (ks : List Int) (fs : List F2) (A0 A1 A2 : Option Addr) (c0 c1 c2 : Nat) (tn : Int) (st : Bool) (g : Nat) (a b c d e lv : Int) (k : Nat) (s l o1 wt on v t : Int) (hts : ts[k]? = some ⟨s, l, o1, wt, on, v, t⟩) (w : World) (ht : ts.length ≤ 1048576) (hk : ks.length ≤ 1048576) (hf : fs.length ≤ 1048576) (h : Sep (fps [.blk g 35 #[.slice A0 ts.length c0, .slice A1 ks.length c1, .slice A2 fs.length c2, .int .i64 tn, .bool st], rT ts.length A0 c0 ts, rK ks.length A1 c1 ks, rF fs.length A2 c2 fs]) w w [.blk g 35 #[.slice A0 ts.length c0, .slice A1 ks.length c1, .slice A2 fs.length c2, .int .i64 tn, .bool st], rT ts.length A0 c0 ts, rK ks.length A1 c1 ks, rF fs.length A2 c2 fs]) (pl1 : 1 ≤ c) (pl2 : c ≤ 30) (hh : btw k 0 ((ts.length : Int) - 1) = true) (hlv : btw lv 0 (c - 1) = true) (ho : openB s = true) :
 Calls Tryz.prog 70 #[.pointer (some ⟨g, 0, none⟩), .agg #[.int .i64 a, .int .i64 b, .int .i64 c, .int .i64 d, .int .i64 e], .int .i64 k, .int .i64 lv] w (fun r w' => r = .returned (.iface 165 (.agg #[.iface 133 (.int .i64 1), .int .i64 l])) ∧ HeldO (fps [.blk g 35 #[.slice A0 ts.length c0, .slice A1 ks.length c1, .slice A2 fs.length c2, .int .i64 tn, .bool st], rT ts.length A0 c0 ts, rK ks.length A1 c1 ks, rF fs.length A2 c2 fs]) g ⟨(ts.set k ⟨s, lv, o1, wt, on, v, t⟩), ks, fs, tn, st, 1, l⟩ w w') := by
 have hkl : k < ts.length := by
  rcases Nat.lt_or_ge k ts.length with h1 | h1
  ·exact h1
  ·rw [List.getElem?_eq_none h1] at hts; cases hts
 have hki : (k : Int) < (ts.length : Int) := by omega
 have hk0 : (0 : Int) ≤ (k : Int) := by omega
 have hr9 : (rT ts.length A0 c0 ts).here w := h.rowAt 1 rfl
 obtain ⟨gr, rfl, hgl, hfz9⟩ := rT_form hr9 (show 0 < ts.length by omega)
 clear hr9 hfz9 hgl
 have HT := hide hts
 clear hts
 obtain ⟨S, hS⟩ : ∃ S, S = fps [.blk g 35 #[.slice (some ⟨gr, 0, none⟩) ts.length c0, .slice A1 ks.length c1, .slice A2 fs.length c2, .int .i64 tn, .bool st], rT ts.length (some ⟨gr, 0, none⟩) c0 ts, rK ks.length A1 c1 ks, rF fs.length A2 c2 fs] := ⟨_, rfl⟩
 rw [← hS] at h ⊢
 clear hS
 have M0 := hide h
 clear h
 go_enter Tryz.func70, Tryz.ntmps70
 go_wp2_with fail
 have M := M0.out.allocN 28 #[.int .i64 a, .int .i64 b, .int .i64 c, .int .i64 d, .int .i64 e]
 clear M0
 generalize w.alloc (.cells #[.int .i64 a, .int .i64 b, .int .i64 c, .int .i64 d, .int .i64 e] 28) = W1 at M ⊢
 have hC := has_any ts (some ⟨gr, 0, none⟩) A1 A2 c0 ks.length c1 fs.length c2 tn st g k W1 ht (M.blk 1 rfl)
 rw [hh] at hC
 refine Calls.mono (by with_reducible exact hC) ?_
 clear hC
 rintro r W2 ⟨rfl, hWW⟩
 subst hWW
 obtain ⟨tP, Ah, Ag, Aj, Ai, Af⟩ := M.q5 0 rfl
 go_wp2_with fail
 have hC := fun V => hasLevel_any a b c d e lv V pl1 pl2
 rw [hlv] at hC
 refine Calls.mono (by with_reducible exact hC _) ?_
 clear hC
 rintro r W3 ⟨rfl, g1⟩
 clear tP Ah Ag Aj Ai Af
 replace M := M.call g1
 clear g1
 obtain ⟨tY, Ab, Ac, Aa, Ad, Ae⟩ := M.q5 1 rfl
 obtain ⟨s', l', o', wt', on', v', t', ht', y0, y1, y2, y3, y4, y5, y6⟩ := Own.t7 (M.rowAt 2 rfl) hkl
 rw [HT.out] at ht'
 injection ht' with ht'
 injection ht' with e0 e1 e2 e3 e4 e5 e6
 subst e0 e1 e2 e3 e4 e5 e6
 go_wp2_with fail
 have hC := fun V => isOpen_p s l o1 wt on v t V
 rw [ho] at hC
 refine Calls.mono (by with_reducible exact hC _) ?_
 clear hC
 rintro r W4 ⟨rfl, g1⟩
 clear tY Ab Ac Aa Ad Ae y0 y1 y2 y3 y4 y5 y6
 replace M := M.call g1
 clear g1
 obtain ⟨tY, Ab, Ac, Aa, Ad, Ae⟩ := M.q5 1 rfl
 have fz1 : W4.frozen? ⟨gr, k * 7 + 1, none⟩ = false := Own.fz (M.rowAt 2 rfl) _
 obtain ⟨s', l', o', wt', on', v', t', ht', y0, y1, y2, y3, y4, y5, y6⟩ := Own.t7 (M.rowAt 2 rfl) hkl
 rw [HT.out] at ht'
 injection ht' with ht'
 injection ht' with e0 e1 e2 e3 e4 e5 e6
 subst e0 e1 e2 e3 e4 e5 e6
 clear y0 y2 y3 y4 y5 y6
 go_wp2_with fail
 clear tY Ab Ac Aa Ad Ae fz1 y1
 have N : ∃ V, (W4.setCell ⟨gr, k * 7 + 1, none⟩ (.int .i64 lv)) = V ∧ Sep S w V [.blk (w.heap.size) 28 #[.int .i64 a, .int .i64 b, .int .i64 c, .int .i64 d, .int .i64 e], .blk (g) 35 #[.slice (some ⟨gr, 0, none⟩) ts.length c0, .slice A1 ks.length c1, .slice A2 fs.length c2, .int .i64 tn, .bool st], rT ts.length (some ⟨gr, 0, none⟩) c0 (ts.set k ⟨s, lv, o1, wt, on, v, t⟩), rK ks.length A1 c1 ks, rF fs.length A2 c2 fs] := ⟨_, rfl, M.putT 2 rfl k 1 (by omega) ⟨s, l, o1, wt, on, v, t⟩ lv HT.out⟩
 clear M
 obtain ⟨W5, eW, M⟩ := N
 rw [eW]
 clear eW
 go_call (saidWith_any 1 l _) as r WS ⟨rfl, hWW⟩
 subst hWW
 go_wp2_with fail
 replace M := M.front 4 rfl
 simp only [zE, zF] at M
 replace M := M.front 4 rfl
 simp only [zE, zF] at M
 replace M := M.front 4 rfl
 simp only [zE, zF] at M
 replace M := M.front 4 rfl
 simp only [zE, zF] at M
 have hn9 : (ts.set k ⟨s, lv, o1, wt, on, v, t⟩).length = ts.length := List.length_set
 go_ret
 exact ⟨rfl, (some ⟨gr, 0, none⟩), A1, A2, c0, c1, c2, by rw [hn9]; exact M.take 4⟩
end Go.Proofs.YtfkdfkoigojciaaGreatDoor
