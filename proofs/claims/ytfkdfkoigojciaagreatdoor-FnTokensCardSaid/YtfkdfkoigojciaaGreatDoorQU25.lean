import Derived.Test.YtfkdfkoigojciaaGreatDoorQU20
import Derived.Test.YtfkdfkoigojciaaGreatDoorQU10
import Derived.Test.YtfkdfkoigojciaaGreatDoorQU18
import Derived.Test.YtfkdfkoigojciaaGreatDoorQU12
import Derived.Test.YtfkdfkoigojciaaGreatDoorQU02

namespace Go.Proofs.YtfkdfkoigojciaaGreatDoor
open Go.RowKit
set_option linter.unusedVariables false
section
variable {a b c d e : Int} {ts : List T7} {ks : List Int} {fs : List F2} {tn : Int}
theorem parkP_right {m : Nat} {x : T7} {wt on : Int} (h : poolB a b c d e ts ks fs tn = true) (hx : ts[m]? = some x) (ht : tn < 1000000) (hw : waitB b d e 3 wt on = true) (hk : waitsOk ts.length m wt on = true) : poolB a b c d e (ts.set m (parkT x tn wt on)) ks fs (tn + 1) = true := by
 obtain ⟨h1, h2, h3, h4, h5, h6, h7, h8, h9, h10⟩ := fit_parts (pool_fit h hx)
 obtain ⟨hp, hb, _, hT⟩ := poolB_parts h
 refine poolB_turn h (by simp) (by omega) (tasksB_set hT (by omega) (by simp [parkT]) ?_)
 exact fit_mk hp (by simp [parkT, btw]) h3 (own_no (by simp [parkT])) hw h6 (btw_t hb.1 hb.2) (by simp only [parkT]; omega) (solo_no (by simp [parkT])) (by rw [List.length_set]; exact hk)
theorem tokenP_right {k : Nat} {u : Int} (h : poolB a b c d e ts ks fs tn = true) (hu : btw u 0 100 = true) : poolB a b c d e ts (ks.set k u) fs tn = true := by
 simp only [poolB, Bool.and_eq_true, decide_eq_true_eq, List.length_set] at h ⊢
 refine ⟨h.1, h.2.1, h.2.2.1, ⟨?_, h.2.2.2.1.2⟩, h.2.2.2.2⟩
 rw [List.all_eq_true] at h ⊢
 intro x hx
 rcases List.mem_or_eq_of_mem_set hx with hx | rfl
 ·exact h.2.2.2.1.1 x hx
 ·exact hu
theorem token_get {k : Nat} {u : Int} (h : poolB a b c d e ts ks fs tn = true) (hx : ks[k]? = some u) : 0 ≤ u ∧ u ≤ 100 := by
 simp only [poolB, Bool.and_eq_true, decide_eq_true_eq] at h
 have := (List.all_eq_true.1 h.2.2.2.1.1) u (List.mem_of_getElem? hx)
 simp [tokB, btw] at this
 exact this
theorem pool_len {a b c d e : Int} {ts : List T7} {ks : List Int} {fs : List F2} {tn : Int} (h : poolB a b c d e ts ks fs tn = true) : (ts.length : Int) ≤ b ∧ (ks.length : Int) = d ∧ (fs.length : Int) = e := by
 simp only [poolB, Bool.and_eq_true, decide_eq_true_eq] at h
 exact ⟨h.2.2.1.1, h.2.2.2.1.2, h.2.2.2.2.2⟩
theorem kind_nat {id : Int} {ks : List Int} (h : btw id 0 ((ks.length : Int) - 1) = true) : ∃ (k : Nat) (kv : Int), id = k ∧ k < ks.length ∧ ks[k]? = some kv := by
 simp [btw] at h
 obtain ⟨k, rfl⟩ := Int.eq_ofNat_of_zero_le h.1
 have hk : k < ks.length := by omega
 exact ⟨k, ks[k], rfl, hk, List.getElem?_eq_getElem hk⟩
end
set_option maxHeartbeats 1000000
set_option maxRecDepth 100000
theorem hasKind_any (a b c d e n : Int) (w : World) (h1 : 0 ≤ d) (h2 : d ≤ 30) :
 Calls Tryz.prog 150 #[.agg #[.int .i64 a, .int .i64 b, .int .i64 c, .int .i64 d, .int .i64 e], .int .i64 n] w fun r w' => r = .returned (.bool (btw n 0 (d - 1))) ∧ Below w.heap.size w w' := by
 go_enter Tryz.func150, Tryz.ntmps150
 go_wp2_with (go_at_call 119; refine (between_any _ _ _ _).mono ?_; rintro e w' ⟨rfl, rfl⟩)
 go_ret
 exact ⟨rfl, (Below.refl _ _).alloc (Nat.le_refl _) _⟩
theorem waitFor_yes (ts : List T7) (ks : List Int) (fs : List F2) (A0 A1 A2 : Option Addr) (c0 c1 c2 : Nat) (tn : Int) (st : Bool) (g : Nat) (a b c d e : Int) (m : Nat) (pw po s l o1 wt on v t : Int) (w : World) (ht : ts.length ≤ 1048576) (hk : ks.length ≤ 1048576) (hf : fs.length ≤ 1048576) (h : Sep (fps [.blk g 35 #[.slice A0 ts.length c0, .slice A1 ks.length c1, .slice A2 fs.length c2, .int .i64 tn, .bool st], rT ts.length A0 c0 ts, rK ks.length A1 c1 ks, rF fs.length A2 c2 fs]) w w [.blk g 35 #[.slice A0 ts.length c0, .slice A1 ks.length c1, .slice A2 fs.length c2, .int .i64 tn, .bool st], rT ts.length A0 c0 ts, rK ks.length A1 c1 ks, rF fs.length A2 c2 fs]) (t0 : 0 ≤ tn) (t1 : tn ≤ 1000000) (hts : ts[m]? = some ⟨s, l, o1, wt, on, v, t⟩) (hc : isInB ts m 2 = true) (hz : poolB a b c d e (ts.set m (parkT ⟨s, l, o1, wt, on, v, t⟩ tn pw po)) ks fs (tn + 1) = true) :
 Calls Tryz.prog 131 #[.pointer (some ⟨g, 0, none⟩), .agg #[.int .i64 a, .int .i64 b, .int .i64 c, .int .i64 d, .int .i64 e], .int .i64 m, .int .i64 pw, .int .i64 po] w (fun r w' => r = .returned (.iface 165 (.agg #[.iface 133 (.int .i64 7), .int .i64 (m : Int)])) ∧ HeldO (fps [.blk g 35 #[.slice A0 ts.length c0, .slice A1 ks.length c1, .slice A2 fs.length c2, .int .i64 tn, .bool st], rT ts.length A0 c0 ts, rK ks.length A1 c1 ks, rF fs.length A2 c2 fs]) g ⟨(ts.set m (parkT ⟨s, l, o1, wt, on, v, t⟩ tn pw po)), ks, fs, (tn + 1), st, 7, (m : Int)⟩ w w') := by
 have hz2 : (ts.set m (parkT ⟨s, l, o1, wt, on, v, t⟩ tn pw po)).length = ts.length := List.length_set
 have HZ := hide (⟨hz, hz2⟩ : _ ∧ _)
 have HC := hide hc
 clear hz hz2 hc
 have HT := hide hts
 clear hts
 obtain ⟨S, hS⟩ : ∃ S, S = fps [.blk g 35 #[.slice A0 ts.length c0, .slice A1 ks.length c1, .slice A2 fs.length c2, .int .i64 tn, .bool st], rT ts.length A0 c0 ts, rK ks.length A1 c1 ks, rF fs.length A2 c2 fs] := ⟨_, rfl⟩
 rw [← hS] at h ⊢
 clear hS
 have M0 := hide h
 clear h
 go_enter Tryz.func131, Tryz.ntmps131
 go_wp2_with fail
 have M := M0.out.allocN 28 #[.int .i64 a, .int .i64 b, .int .i64 c, .int .i64 d, .int .i64 e]
 clear M0
 generalize w.alloc (.cells #[.int .i64 a, .int .i64 b, .int .i64 c, .int .i64 d, .int .i64 e] 28) = W1 at M ⊢
 obtain ⟨tP, Ad, Ah, Ae, Aa, Ag, Ac, Ai, Aj, Ab, Af⟩ := M.f5 0 rfl
 try go_wp2_with fail
 replace M := M.front 4 rfl
 simp only [zE, zF] at M
 replace M := M.front 4 rfl
 simp only [zE, zF] at M
 replace M := M.front 4 rfl
 simp only [zE, zF] at M
 replace M := M.front 4 rfl
 simp only [zE, zF] at M
 have hC := park_yes a b c d e ts ks fs A0 A1 A2 c0 c1 c2 tn st g m pw po s l o1 wt on v t W1 ht hk hf (by omega) t1 HT.out (Sep.same (ps := [.blk (g) 35 #[.slice A0 ts.length c0, .slice A1 ks.length c1, .slice A2 fs.length c2, .int .i64 tn, .bool st], rT ts.length A0 c0 ts, rK ks.length A1 c1 ks, rF fs.length A2 c2 fs]) (rs := [.blk (w.heap.size) 28 #[.int .i64 a, .int .i64 b, .int .i64 c, .int .i64 d, .int .i64 e]]) M (Below.refl _ _)) HC.out
 rw [HZ.out.1] at hC
 refine Calls.mono (by with_reducible exact hC) ?_
 clear hC
 rintro r W2 ⟨rfl, g1⟩
 clear tP Ad Ah Ae Aa Ag Ac Ai Aj Ab Af
 replace M : Sep S w W2 [.blk (g) 35 #[.slice A0 ts.length c0, .slice A1 ks.length c1, .slice A2 fs.length c2, .int .i64 (tn + 1), .bool st], rT ts.length A0 c0 (ts.set m (parkT ⟨s, l, o1, wt, on, v, t⟩ tn pw po)), rK ks.length A1 c1 ks, rF fs.length A2 c2 fs, .blk (w.heap.size) 28 #[.int .i64 a, .int .i64 b, .int .i64 c, .int .i64 d, .int .i64 e]] := Sep.comp (ps := [.blk (g) 35 #[.slice A0 ts.length c0, .slice A1 ks.length c1, .slice A2 fs.length c2, .int .i64 tn, .bool st], rT ts.length A0 c0 ts, rK ks.length A1 c1 ks, rF fs.length A2 c2 fs]) (rs := [.blk (w.heap.size) 28 #[.int .i64 a, .int .i64 b, .int .i64 c, .int .i64 d, .int .i64 e]]) M g1
 clear g1
 go_wp2_with fail
 go_call (saidWith_any 7 m _) as r WS ⟨rfl, hWW⟩
 subst hWW
 go_wp2_with fail
 go_ret
 exact ⟨rfl, A0, A1, A2, c0, c1, c2, by rw [HZ.out.2]; exact M.take 4⟩
theorem waitFor_full (ts : List T7) (ks : List Int) (fs : List F2) (A0 A1 A2 : Option Addr) (c0 c1 c2 : Nat) (tn : Int) (st : Bool) (g : Nat) (a b c d e : Int) (m : Nat) (pw po s l o1 wt on v t : Int) (w : World) (ht : ts.length ≤ 1048576) (hk : ks.length ≤ 1048576) (hf : fs.length ≤ 1048576) (h : Sep (fps [.blk g 35 #[.slice A0 ts.length c0, .slice A1 ks.length c1, .slice A2 fs.length c2, .int .i64 tn, .bool st], rT ts.length A0 c0 ts, rK ks.length A1 c1 ks, rF fs.length A2 c2 fs]) w w [.blk g 35 #[.slice A0 ts.length c0, .slice A1 ks.length c1, .slice A2 fs.length c2, .int .i64 tn, .bool st], rT ts.length A0 c0 ts, rK ks.length A1 c1 ks, rF fs.length A2 c2 fs]) (t0 : 0 ≤ tn) (t1 : tn ≤ 1000000) (hts : ts[m]? = some ⟨s, l, o1, wt, on, v, t⟩) (hc : isInB ts m 2 = true) (hz : poolB a b c d e (ts.set m (parkT ⟨s, l, o1, wt, on, v, t⟩ tn pw po)) ks fs (tn + 1) = false) :
 Calls Tryz.prog 131 #[.pointer (some ⟨g, 0, none⟩), .agg #[.int .i64 a, .int .i64 b, .int .i64 c, .int .i64 d, .int .i64 e], .int .i64 m, .int .i64 pw, .int .i64 po] w (fun r w' => r = .returned (.iface 133 (.int .i64 4)) ∧ Sep (fps [.blk g 35 #[.slice A0 ts.length c0, .slice A1 ks.length c1, .slice A2 fs.length c2, .int .i64 tn, .bool st], rT ts.length A0 c0 ts, rK ks.length A1 c1 ks, rF fs.length A2 c2 fs]) w w' []) := by
 have hz2 : (ts.set m (parkT ⟨s, l, o1, wt, on, v, t⟩ tn pw po)).length = ts.length := List.length_set
 have HZ := hide (⟨hz, hz2⟩ : _ ∧ _)
 have HC := hide hc
 clear hz hz2 hc
 have HT := hide hts
 clear hts
 obtain ⟨S, hS⟩ : ∃ S, S = fps [.blk g 35 #[.slice A0 ts.length c0, .slice A1 ks.length c1, .slice A2 fs.length c2, .int .i64 tn, .bool st], rT ts.length A0 c0 ts, rK ks.length A1 c1 ks, rF fs.length A2 c2 fs] := ⟨_, rfl⟩
 rw [← hS] at h ⊢
 clear hS
 have M0 := hide h
 clear h
 go_enter Tryz.func131, Tryz.ntmps131
 go_wp2_with fail
 have M := M0.out.allocN 28 #[.int .i64 a, .int .i64 b, .int .i64 c, .int .i64 d, .int .i64 e]
 clear M0
 generalize w.alloc (.cells #[.int .i64 a, .int .i64 b, .int .i64 c, .int .i64 d, .int .i64 e] 28) = W1 at M ⊢
 obtain ⟨tP, Ad, Ah, Ae, Aa, Ag, Ac, Ai, Aj, Ab, Af⟩ := M.f5 0 rfl
 try go_wp2_with fail
 replace M := M.front 4 rfl
 simp only [zE, zF] at M
 replace M := M.front 4 rfl
 simp only [zE, zF] at M
 replace M := M.front 4 rfl
 simp only [zE, zF] at M
 replace M := M.front 4 rfl
 simp only [zE, zF] at M
 have hC := park_yes a b c d e ts ks fs A0 A1 A2 c0 c1 c2 tn st g m pw po s l o1 wt on v t W1 ht hk hf (by omega) t1 HT.out (Sep.same (ps := [.blk (g) 35 #[.slice A0 ts.length c0, .slice A1 ks.length c1, .slice A2 fs.length c2, .int .i64 tn, .bool st], rT ts.length A0 c0 ts, rK ks.length A1 c1 ks, rF fs.length A2 c2 fs]) (rs := [.blk (w.heap.size) 28 #[.int .i64 a, .int .i64 b, .int .i64 c, .int .i64 d, .int .i64 e]]) M (Below.refl _ _)) HC.out
 rw [HZ.out.1] at hC
 refine Calls.mono (by with_reducible exact hC) ?_
 clear hC
 rintro r W2 ⟨rfl, g1⟩
 clear tP Ad Ah Ae Aa Ag Ac Ai Aj Ab Af
 replace M : Sep S w W2 [.blk (g) 35 #[.slice A0 ts.length c0, .slice A1 ks.length c1, .slice A2 fs.length c2, .int .i64 (tn + 1), .bool st], rT ts.length A0 c0 (ts.set m (parkT ⟨s, l, o1, wt, on, v, t⟩ tn pw po)), rK ks.length A1 c1 ks, rF fs.length A2 c2 fs, .blk (w.heap.size) 28 #[.int .i64 a, .int .i64 b, .int .i64 c, .int .i64 d, .int .i64 e]] := Sep.comp (ps := [.blk (g) 35 #[.slice A0 ts.length c0, .slice A1 ks.length c1, .slice A2 fs.length c2, .int .i64 tn, .bool st], rT ts.length A0 c0 ts, rK ks.length A1 c1 ks, rF fs.length A2 c2 fs]) (rs := [.blk (w.heap.size) 28 #[.int .i64 a, .int .i64 b, .int .i64 c, .int .i64 d, .int .i64 e]]) M g1
 clear g1
 go_wp2_with fail
 go_ret
 exact ⟨rfl, M.drop 5⟩
end Go.Proofs.YtfkdfkoigojciaaGreatDoor
