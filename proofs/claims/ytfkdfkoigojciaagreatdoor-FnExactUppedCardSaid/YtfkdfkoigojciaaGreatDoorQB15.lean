/- What the listed variable errors.errorType gives; a world in which it lies. No condition. -/
import Derived.Test.YtfkdfkoigojciaaGreatDoorQB14
import Derived.Test.YtfkdfkoigojciaaGreatDoorQB08
import Derived.Test.YtfkdfkoigojciaaGreatDoorQB02
import Derived.Test.YtfkdfkoigojciaaGreatDoorQB12
import Derived.Test.YtfkdfkoigojciaaGreatDoorQB09
import Derived.Test.YtfkdfkoigojciaaGreatDoorQB10
import Derived.Test.YtfkdfkoigojciaaGreatDoorQB04
import Derived.Test.YtfkdfkoigojciaaGreatDoorRows
import Derived.WalkKit
import Derived.ProofKit
import Derived.OpenShut
import Derived.Carry
import Derived.Below
import Derived.ChangeOld
import Derived.Lib.SmallJoins
import Derived.Test.YtfkdfkoigojciaaGreatDoorQB03
import Derived.Deep.Slices
import Derived.ChangeSame
import Derived.ChangeVars
import Derived.JoinedOf
import Derived.RowKit
import Derived.RowKitTokens
import Derived.LaidLaws
import Derived.LaidHandle
import Derived.Stop.Joined

namespace Go.Proofs.YtfkdfkoigojciaaGreatDoor
open Go.RowKit
set_option linter.unusedVariables false
section
variable {a b c d e : Int} {ts : List T7} {ks : List Int} {fs : List F2} {tn : Int}
theorem parkP_right {m : Nat} {x : T7} {wt on : Int} (h : poolB a b c d e ts ks fs tn = true) (hx : ts[m]? = some x) (ht : tn < 1000000) (hw : waitB b d e 3 wt on = true) (hk : waitsOk ts.length m wt on = true) : poolB a b c d e (ts.set m (parkT x tn wt on)) ks fs (tn + 1) = true := by
 obtain ⟨h1, h2, h3, h4, h5, h6, h7, h8, h9, h10⟩ := fit_parts (pool_fit h hx)
 obtain ⟨hp, hb, _, hT⟩ := poolB_parts h
 refine poolB_turn h (by simp) (by omega) (tasksB_set hT (by omega) (by simp [parkT]) ?_)
 exact fit_mk hp (by simp [parkT, btw]) h3 (own_no (by simp [parkT])) hw h6 (btw_t hb.1 hb.2) (by simp only [parkT]; omega) (solo_no (by simp [parkT])) (by rw [List.length_set]; exact hk)
theorem own_free {s o : Int} (h : ownB a s o = true) (hs : s ≠ 2) : o = -1 := by
 simp only [ownB, if_neg hs, beq_iff_eq] at h
 exact h
theorem cancelP_right {k : Nat} {s l o wt on v t : Int} (h : poolB a b c d e ts ks fs tn = true) (hx : ts[k]? = some ⟨s, l, o, wt, on, v, t⟩) (hs : s ≠ 2) : poolB a b c d e (ts.set k ⟨5, l, o, 0, 0, v, t⟩) ks fs tn = true := by
 obtain ⟨h1, h2, h3, h4, h5, h6, h7, h8, h9, h10⟩ := fit_parts (pool_fit h hx)
 obtain ⟨hp, hb, _, hT⟩ := poolB_parts h
 simp only at h2 h3 h4 h5 h6 h7 h8 h9 h10
 obtain rfl := own_free h4 hs
 refine poolB_turn h (by simp) hb (tasksB_set hT (by omega) (by simp) ?_)
 exact fit_mk hp (by simp [btw]) h3 (own_no (by simp)) (wait_no (by simp)) h6 h7 h8 (solo_no (by simp)) waits_no
theorem set_so {k : Nat} {x y : T7} (hx : ts[k]? = some x) (h1 : y.s = x.s) (h2 : y.o = x.o) : (ts.set k y).map (fun u => (u.s, u.o)) = ts.map (fun u => (u.s, u.o)) := by
 apply List.ext_getElem?
 intro i
 rw [List.getElem?_map, List.getElem?_map, List.getElem?_set]
 split
 ·rename_i e
  subst e
  split
  ·rw [hx]
   simp [h1, h2]
  ·rename_i hn
   rw [List.getElem?_eq_none (by omega)]
 ·rfl
theorem soloTo_so {us : List T7} (h : us.map (fun u => (u.s, u.o)) = ts.map (fun u => (u.s, u.o))) (j : Nat) (s o : Int) : soloTo us j s o = soloTo ts j s o := by
 have e : ∀ vs : List T7, (vs.take j).all (fun u => !(u.s == 2 && u.o == o)) = ((vs.map (fun u => (u.s, u.o))).take j).all (fun p => !(p.1 == 2 && p.2 == o)) := by
  intro vs
  rw [← List.map_take, List.all_map]
  rfl
 unfold soloTo
 rw [e us, e ts, h]
theorem levelP_right {k : Nat} {s l o wt on v t lv : Int} (h : poolB a b c d e ts ks fs tn = true) (hx : ts[k]? = some ⟨s, l, o, wt, on, v, t⟩) (hl : btw lv 0 (c - 1) = true) : poolB a b c d e (ts.set k ⟨s, lv, o, wt, on, v, t⟩) ks fs tn = true := by
 obtain ⟨hp, hb, _, hT⟩ := poolB_parts h
 refine poolB_turn h (by simp) hb ?_
 have hso := soloTo_so (set_so (y := ⟨s, lv, o, wt, on, v, t⟩) hx rfl rfl)
 rw [tasksB_iff] at hT ⊢
 intro j u hj
 rw [List.getElem?_set] at hj
 split at hj
 ·rename_i e1
  subst e1
  split at hj
  ·injection hj with hj
   subst hj
   obtain ⟨g1, g2, g3, g4, g5, g6, g7, g8, g9, g10⟩ := fit_parts (hT k _ hx)
   exact fit_mk hp g2 hl g4 g5 g6 g7 g8 (by rw [hso]; exact g9) (by rw [List.length_set]; exact g10)
  ·cases hj
 ·obtain ⟨g1, g2, g3, g4, g5, g6, g7, g8, g9, g10⟩ := fit_parts (hT j u hj)
  exact fit_mk hp g2 g3 g4 g5 g6 g7 g8 (by rw [hso]; exact g9) (by rw [List.length_set]; exact g10)
theorem tokenP_right {k : Nat} {u : Int} (h : poolB a b c d e ts ks fs tn = true) (hu : btw u 0 100 = true) : poolB a b c d e ts (ks.set k u) fs tn = true := by
 simp only [poolB, Bool.and_eq_true, decide_eq_true_eq, List.length_set] at h ⊢
 refine ⟨h.1, h.2.1, h.2.2.1, ⟨?_, h.2.2.2.1.2⟩, h.2.2.2.2⟩
 rw [List.all_eq_true] at h ⊢
 intro x hx
 rcases List.mem_or_eq_of_mem_set hx with hx | rfl
 ·exact h.2.2.2.1.1 x hx
 ·exact hu
theorem token_get {k : Nat} {u : Int} (h : poolB a b c d e ts ks fs tn = true) (hx : ks[k]? = some u) : 0 ≤ u ∧ u ≤ 100 := by
 simp only [poolB, Bool.and_eq_true, decide_eq_true_eq] at h
 have := (List.all_eq_true.1 h.2.2.2.1.1) u (List.mem_of_getElem? hx)
 simp [tokB, btw] at this
 exact this
theorem pool_len {a b c d e : Int} {ts : List T7} {ks : List Int} {fs : List F2} {tn : Int} (h : poolB a b c d e ts ks fs tn = true) : (ts.length : Int) ≤ b ∧ (ks.length : Int) = d ∧ (fs.length : Int) = e := by
 simp only [poolB, Bool.and_eq_true, decide_eq_true_eq] at h
 exact ⟨h.2.2.1.1, h.2.2.2.1.2, h.2.2.2.2.2⟩
theorem task_nat {id : Int} {ts : List T7} (h : btw id 0 ((ts.length : Int) - 1) = true) : ∃ (k : Nat) (s l o wt on v t : Int), id = k ∧ k < ts.length ∧ ts[k]? = some ⟨s, l, o, wt, on, v, t⟩ := by
 simp [btw] at h
 obtain ⟨k, rfl⟩ := Int.eq_ofNat_of_zero_le h.1
 have hk : k < ts.length := by omega
 exact ⟨k, ts[k].s, ts[k].l, ts[k].o, ts[k].wt, ts[k].on, ts[k].v, ts[k].t, rfl, hk, by rw [List.getElem?_eq_getElem hk]⟩
theorem kind_nat {id : Int} {ks : List Int} (h : btw id 0 ((ks.length : Int) - 1) = true) : ∃ (k : Nat) (kv : Int), id = k ∧ k < ks.length ∧ ks[k]? = some kv := by
 simp [btw] at h
 obtain ⟨k, rfl⟩ := Int.eq_ofNat_of_zero_le h.1
 have hk : k < ks.length := by omega
 exact ⟨k, ks[k], rfl, hk, List.getElem?_eq_getElem hk⟩
end
set_option maxHeartbeats 1000000 in
theorem open_any (s : Int) (w : World) :
 Calls Tryz.prog 172 #[.int .i64 s] w fun r w' => r = .returned (.bool (openB s)) ∧ Below w.heap.size w w' := by
 by_cases h1 : s = 1
 ·subst h1
  go_enter Tryz.func172, Tryz.ntmps172
  go_wp2
  go_ret
  exact ⟨rfl, Below.refl _ _⟩
 by_cases h2 : s = 2
 ·subst h2
  go_enter Tryz.func172, Tryz.ntmps172
  go_wp2
  go_ret
  exact ⟨rfl, Below.refl _ _⟩
 by_cases h3 : s = 3
 ·subst h3
  go_enter Tryz.func172, Tryz.ntmps172
  go_wp2
  go_ret
  exact ⟨rfl, Below.refl _ _⟩
 go_enter Tryz.func172, Tryz.ntmps172
 go_wp2
 go_ret
 exact ⟨ret_bool (by rw [show openB s = false by (unfold openB btw; simp; omega)]; simp [h1, h2, h3]), Below.refl _ _⟩
set_option maxRecDepth 100000
set_option maxHeartbeats 1000000 in
theorem hasKind_any (a b c d e n : Int) (w : World) (h1 : 0 ≤ d) (h2 : d ≤ 30) :
 Calls Tryz.prog 150 #[.agg #[.int .i64 a, .int .i64 b, .int .i64 c, .int .i64 d, .int .i64 e], .int .i64 n] w fun r w' => r = .returned (.bool (btw n 0 (d - 1))) ∧ Below w.heap.size w w' := by
 go_enter Tryz.func150, Tryz.ntmps150
 go_wp2_with (go_at_call 119; refine (between_any _ _ _ _).mono ?_; rintro e w' ⟨rfl, rfl⟩)
 go_ret
 exact ⟨rfl, (Below.refl _ _).alloc (Nat.le_refl _) _⟩
set_option maxHeartbeats 1000000 in
theorem isOpen_p (s l o wt on v t : Int) (w : World) :
 Calls Tryz.prog 137 #[.agg #[.int .i64 s, .int .i64 l, .int .i64 o, .int .i64 wt, .int .i64 on, .int .i64 v, .int .i64 t]] w fun r w' => r = .returned (.bool (openB s)) ∧ Below w.heap.size w w' := by
 go_enter Tryz.func137, Tryz.ntmps137
 go_wp2_with fail
 go_call (state_any s l o wt on v t _) as r w1 ⟨rfl, hb1⟩
 go_wp2_with fail
 go_call (open_any s _) as r w2 ⟨rfl, hb2⟩
 go_wp2_with fail
 go_ret
 exact ⟨rfl, Below.trans (Below.trans (by go_grown) (hb1.mono (by go_size))) (hb2.mono (by have := hb1.size; simp at this; omega))⟩
set_option maxHeartbeats 800000 in
theorem waitFor_yes (ts : List T7) (ks : List Int) (fs : List F2) (A0 A1 A2 : Option Addr) (c0 c1 c2 : Nat) (tn : Int) (st : Bool) (g : Nat) (a b c d e : Int) (m : Nat) (pw po s l o1 wt on v t : Int) (w : World) (ht : ts.length ≤ 1048576) (hk : ks.length ≤ 1048576) (hf : fs.length ≤ 1048576) (h : Sep (fps [.blk g 35 #[.slice A0 ts.length c0, .slice A1 ks.length c1, .slice A2 fs.length c2, .int .i64 tn, .bool st], rT ts.length A0 c0 ts, rK ks.length A1 c1 ks, rF fs.length A2 c2 fs]) w w [.blk g 35 #[.slice A0 ts.length c0, .slice A1 ks.length c1, .slice A2 fs.length c2, .int .i64 tn, .bool st], rT ts.length A0 c0 ts, rK ks.length A1 c1 ks, rF fs.length A2 c2 fs]) (t0 : 0 ≤ tn) (t1 : tn ≤ 1000000) (hts : ts[m]? = some ⟨s, l, o1, wt, on, v, t⟩) (hc : isInB ts m 2 = true) (hz : poolB a b c d e (ts.set m (parkT ⟨s, l, o1, wt, on, v, t⟩ tn pw po)) ks fs (tn + 1) = true) :
 Calls Tryz.prog 131 #[.pointer (some ⟨g, 0, none⟩), .agg #[.int .i64 a, .int .i64 b, .int .i64 c, .int .i64 d, .int .i64 e], .int .i64 m, .int .i64 pw, .int .i64 po] w (fun r w' => r = .returned (.iface 165 (.agg #[.iface 133 (.int .i64 7), .int .i64 (m : Int)])) ∧ HeldO (fps [.blk g 35 #[.slice A0 ts.length c0, .slice A1 ks.length c1, .slice A2 fs.length c2, .int .i64 tn, .bool st], rT ts.length A0 c0 ts, rK ks.length A1 c1 ks, rF fs.length A2 c2 fs]) g ⟨(ts.set m (parkT ⟨s, l, o1, wt, on, v, t⟩ tn pw po)), ks, fs, (tn + 1), st, 7, (m : Int)⟩ w w') := by
 have hz2 : (ts.set m (parkT ⟨s, l, o1, wt, on, v, t⟩ tn pw po)).length = ts.length := List.length_set
 have HZ := hide (⟨hz, hz2⟩ : _ ∧ _)
 have HC := hide hc
 clear hz hz2 hc
 have HT := hide hts
 clear hts
 obtain ⟨S, hS⟩ : ∃ S, S = fps [.blk g 35 #[.slice A0 ts.length c0, .slice A1 ks.length c1, .slice A2 fs.length c2, .int .i64 tn, .bool st], rT ts.length A0 c0 ts, rK ks.length A1 c1 ks, rF fs.length A2 c2 fs] := ⟨_, rfl⟩
 rw [← hS] at h ⊢
 clear hS
 have M0 := hide h
 clear h
 go_enter Tryz.func131, Tryz.ntmps131
 go_wp2_with fail
 have M := M0.out.allocN 28 #[.int .i64 a, .int .i64 b, .int .i64 c, .int .i64 d, .int .i64 e]
 clear M0
 generalize w.alloc (.cells #[.int .i64 a, .int .i64 b, .int .i64 c, .int .i64 d, .int .i64 e] 28) = W1 at M ⊢
 obtain ⟨tP, Ai, Ae, Ac, Ab, Ag, Aa, Ad, Ah, Aj, Af⟩ := M.f5 0 rfl
 try go_wp2_with fail
 replace M := M.front 4 rfl
 simp only [List.eraseIdx_cons_succ, List.eraseIdx_cons_zero] at M
 replace M := M.front 4 rfl
 simp only [List.eraseIdx_cons_succ, List.eraseIdx_cons_zero] at M
 replace M := M.front 4 rfl
 simp only [List.eraseIdx_cons_succ, List.eraseIdx_cons_zero] at M
 replace M := M.front 4 rfl
 simp only [List.eraseIdx_cons_succ, List.eraseIdx_cons_zero] at M
 have hC := park_yes a b c d e ts ks fs A0 A1 A2 c0 c1 c2 tn st g m pw po s l o1 wt on v t W1 ht hk hf (by omega) t1 HT.out (Sep.same (ps := [.blk (g) 35 #[.slice A0 ts.length c0, .slice A1 ks.length c1, .slice A2 fs.length c2, .int .i64 tn, .bool st], rT ts.length A0 c0 ts, rK ks.length A1 c1 ks, rF fs.length A2 c2 fs]) (rs := [.blk (w.heap.size) 28 #[.int .i64 a, .int .i64 b, .int .i64 c, .int .i64 d, .int .i64 e]]) M (Below.refl _ _)) HC.out
 rw [HZ.out.1] at hC
 refine Calls.mono (by with_reducible exact hC) ?_
 clear hC
 rintro r W2 ⟨rfl, g1⟩
 clear tP Ai Ae Ac Ab Ag Aa Ad Ah Aj Af
 replace M : Sep S w W2 [.blk (g) 35 #[.slice A0 ts.length c0, .slice A1 ks.length c1, .slice A2 fs.length c2, .int .i64 (tn + 1), .bool st], rT ts.length A0 c0 (ts.set m (parkT ⟨s, l, o1, wt, on, v, t⟩ tn pw po)), rK ks.length A1 c1 ks, rF fs.length A2 c2 fs, .blk (w.heap.size) 28 #[.int .i64 a, .int .i64 b, .int .i64 c, .int .i64 d, .int .i64 e]] := Sep.comp (ps := [.blk (g) 35 #[.slice A0 ts.length c0, .slice A1 ks.length c1, .slice A2 fs.length c2, .int .i64 tn, .bool st], rT ts.length A0 c0 ts, rK ks.length A1 c1 ks, rF fs.length A2 c2 fs]) (rs := [.blk (w.heap.size) 28 #[.int .i64 a, .int .i64 b, .int .i64 c, .int .i64 d, .int .i64 e]]) M g1
 clear g1
 go_wp2_with fail
 go_call (saidWith_any 7 m _) as r WS ⟨rfl, hWW⟩
 subst hWW
 go_wp2_with fail
 go_ret
 exact ⟨rfl, A0, A1, A2, c0, c1, c2, by rw [HZ.out.2]; exact M.take 4⟩
set_option maxHeartbeats 800000 in
theorem waitFor_full (ts : List T7) (ks : List Int) (fs : List F2) (A0 A1 A2 : Option Addr) (c0 c1 c2 : Nat) (tn : Int) (st : Bool) (g : Nat) (a b c d e : Int) (m : Nat) (pw po s l o1 wt on v t : Int) (w : World) (ht : ts.length ≤ 1048576) (hk : ks.length ≤ 1048576) (hf : fs.length ≤ 1048576) (h : Sep (fps [.blk g 35 #[.slice A0 ts.length c0, .slice A1 ks.length c1, .slice A2 fs.length c2, .int .i64 tn, .bool st], rT ts.length A0 c0 ts, rK ks.length A1 c1 ks, rF fs.length A2 c2 fs]) w w [.blk g 35 #[.slice A0 ts.length c0, .slice A1 ks.length c1, .slice A2 fs.length c2, .int .i64 tn, .bool st], rT ts.length A0 c0 ts, rK ks.length A1 c1 ks, rF fs.length A2 c2 fs]) (t0 : 0 ≤ tn) (t1 : tn ≤ 1000000) (hts : ts[m]? = some ⟨s, l, o1, wt, on, v, t⟩) (hc : isInB ts m 2 = true) (hz : poolB a b c d e (ts.set m (parkT ⟨s, l, o1, wt, on, v, t⟩ tn pw po)) ks fs (tn + 1) = false) :
 Calls Tryz.prog 131 #[.pointer (some ⟨g, 0, none⟩), .agg #[.int .i64 a, .int .i64 b, .int .i64 c, .int .i64 d, .int .i64 e], .int .i64 m, .int .i64 pw, .int .i64 po] w (fun r w' => r = .returned (.iface 133 (.int .i64 4)) ∧ Sep (fps [.blk g 35 #[.slice A0 ts.length c0, .slice A1 ks.length c1, .slice A2 fs.length c2, .int .i64 tn, .bool st], rT ts.length A0 c0 ts, rK ks.length A1 c1 ks, rF fs.length A2 c2 fs]) w w' []) := by
 have hz2 : (ts.set m (parkT ⟨s, l, o1, wt, on, v, t⟩ tn pw po)).length = ts.length := List.length_set
 have HZ := hide (⟨hz, hz2⟩ : _ ∧ _)
 have HC := hide hc
 clear hz hz2 hc
 have HT := hide hts
 clear hts
 obtain ⟨S, hS⟩ : ∃ S, S = fps [.blk g 35 #[.slice A0 ts.length c0, .slice A1 ks.length c1, .slice A2 fs.length c2, .int .i64 tn, .bool st], rT ts.length A0 c0 ts, rK ks.length A1 c1 ks, rF fs.length A2 c2 fs] := ⟨_, rfl⟩
 rw [← hS] at h ⊢
 clear hS
 have M0 := hide h
 clear h
 go_enter Tryz.func131, Tryz.ntmps131
 go_wp2_with fail
 have M := M0.out.allocN 28 #[.int .i64 a, .int .i64 b, .int .i64 c, .int .i64 d, .int .i64 e]
 clear M0
 generalize w.alloc (.cells #[.int .i64 a, .int .i64 b, .int .i64 c, .int .i64 d, .int .i64 e] 28) = W1 at M ⊢
 obtain ⟨tP, Ai, Ae, Ac, Ab, Ag, Aa, Ad, Ah, Aj, Af⟩ := M.f5 0 rfl
 try go_wp2_with fail
 replace M := M.front 4 rfl
 simp only [List.eraseIdx_cons_succ, List.eraseIdx_cons_zero] at M
 replace M := M.front 4 rfl
 simp only [List.eraseIdx_cons_succ, List.eraseIdx_cons_zero] at M
 replace M := M.front 4 rfl
 simp only [List.eraseIdx_cons_succ, List.eraseIdx_cons_zero] at M
 replace M := M.front 4 rfl
 simp only [List.eraseIdx_cons_succ, List.eraseIdx_cons_zero] at M
 have hC := park_yes a b c d e ts ks fs A0 A1 A2 c0 c1 c2 tn st g m pw po s l o1 wt on v t W1 ht hk hf (by omega) t1 HT.out (Sep.same (ps := [.blk (g) 35 #[.slice A0 ts.length c0, .slice A1 ks.length c1, .slice A2 fs.length c2, .int .i64 tn, .bool st], rT ts.length A0 c0 ts, rK ks.length A1 c1 ks, rF fs.length A2 c2 fs]) (rs := [.blk (w.heap.size) 28 #[.int .i64 a, .int .i64 b, .int .i64 c, .int .i64 d, .int .i64 e]]) M (Below.refl _ _)) HC.out
 rw [HZ.out.1] at hC
 refine Calls.mono (by with_reducible exact hC) ?_
 clear hC
 rintro r W2 ⟨rfl, g1⟩
 clear tP Ai Ae Ac Ab Ag Aa Ad Ah Aj Af
 replace M : Sep S w W2 [.blk (g) 35 #[.slice A0 ts.length c0, .slice A1 ks.length c1, .slice A2 fs.length c2, .int .i64 (tn + 1), .bool st], rT ts.length A0 c0 (ts.set m (parkT ⟨s, l, o1, wt, on, v, t⟩ tn pw po)), rK ks.length A1 c1 ks, rF fs.length A2 c2 fs, .blk (w.heap.size) 28 #[.int .i64 a, .int .i64 b, .int .i64 c, .int .i64 d, .int .i64 e]] := Sep.comp (ps := [.blk (g) 35 #[.slice A0 ts.length c0, .slice A1 ks.length c1, .slice A2 fs.length c2, .int .i64 tn, .bool st], rT ts.length A0 c0 ts, rK ks.length A1 c1 ks, rF fs.length A2 c2 fs]) (rs := [.blk (w.heap.size) 28 #[.int .i64 a, .int .i64 b, .int .i64 c, .int .i64 d, .int .i64 e]]) M g1
 clear g1
 go_wp2_with fail
 go_ret
 exact ⟨rfl, M.drop 5⟩
set_option maxHeartbeats 800000 in
theorem wakeFrom_yes (ts : List T7) (ks : List Int) (fs : List F2) (A0 A1 A2 : Option Addr) (c0 c1 c2 : Nat) (tn : Int) (st : Bool) (g : Nat) (wt on2 vv : Int) (w : World) (ht : ts.length ≤ 1048576) (hk : ks.length ≤ 1048576) (hf : fs.length ≤ 1048576) (h : Sep (fps [.blk g 35 #[.slice A0 ts.length c0, .slice A1 ks.length c1, .slice A2 fs.length c2, .int .i64 tn, .bool st], rT ts.length A0 c0 ts, rK ks.length A1 c1 ks, rF fs.length A2 c2 fs]) w w [.blk g 35 #[.slice A0 ts.length c0, .slice A1 ks.length c1, .slice A2 fs.length c2, .int .i64 tn, .bool st], rT ts.length A0 c0 ts, rK ks.length A1 c1 ks, rF fs.length A2 c2 fs]) (t0 : 0 ≤ tn) (t1 : tn ≤ 1000000) (ho : okAll (waitersM ts wt on2) vv tn = true) :
 Calls Tryz.prog 138 #[.pointer (some ⟨g, 0, none⟩), .int .i64 wt, .int .i64 on2, .int .i64 vv] w (fun r w' => r = .returned (.iface 165 (.agg #[.iface 133 (.int .i64 1), .int .i64 ((waitersM ts wt on2).length : Int)])) ∧ HeldO (fps [.blk g 35 #[.slice A0 ts.length c0, .slice A1 ks.length c1, .slice A2 fs.length c2, .int .i64 tn, .bool st], rT ts.length A0 c0 ts, rK ks.length A1 c1 ks, rF fs.length A2 c2 fs]) g ⟨(wakeAllT (waitersM ts wt on2) ts tn vv), ks, fs, (tn + ((waitersM ts wt on2).length : Int)), st, 1, ((waitersM ts wt on2).length : Int)⟩ w w') := by
 obtain ⟨S, hS⟩ : ∃ S, S = fps [.blk g 35 #[.slice A0 ts.length c0, .slice A1 ks.length c1, .slice A2 fs.length c2, .int .i64 tn, .bool st], rT ts.length A0 c0 ts, rK ks.length A1 c1 ks, rF fs.length A2 c2 fs] := ⟨_, rfl⟩
 rw [← hS] at h ⊢
 clear hS
 have M0 := hide h
 clear h
 go_enter Tryz.func138, Tryz.ntmps138
 go_wp2_with fail
 have M := M0.out
 clear M0
 have hA := wakeAll_any ts A0 A1 A2 c0 ks.length c1 fs.length c2 tn st g wt on2 vv w ht t0 t1 (Sep.same (ps := [.blk (g) 35 #[.slice A0 ts.length c0, .slice A1 ks.length c1, .slice A2 fs.length c2, .int .i64 tn, .bool st], rT ts.length A0 c0 ts]) (rs := [rK ks.length A1 c1 ks, rF fs.length A2 c2 fs]) M (Below.refl _ _))
 refine Calls.mono (by with_reducible exact hA) ?_
 clear hA
 rintro r W1 ⟨us, tn', cnt, rfl, hul, g1, hR⟩
 replace M : Sep S w W1 [.blk (g) 35 #[.slice A0 ts.length c0, .slice A1 ks.length c1, .slice A2 fs.length c2, .int .i64 tn', .bool st], rT ts.length A0 c0 us, rK ks.length A1 c1 ks, rF fs.length A2 c2 fs] := Sep.comp (ps := [.blk (g) 35 #[.slice A0 ts.length c0, .slice A1 ks.length c1, .slice A2 fs.length c2, .int .i64 tn, .bool st], rT ts.length A0 c0 ts]) (rs := [rK ks.length A1 c1 ks, rF fs.length A2 c2 fs]) M g1
 clear g1
 have HR := hide (⟨hR.elim (fun h => h.2.2.1) (fun h => by rw [ho] at h; cases h.1), hul⟩ : us = wakeAllT (waitersM ts wt on2) ts tn vv ∧ us.length = ts.length)
 obtain ⟨hcn, htn⟩ : cnt = ((waitersM ts wt on2).length : Int) ∧ tn' = tn + ((waitersM ts wt on2).length : Int) := hR.elim (fun h => ⟨h.2.1, h.2.2.2⟩) (fun h => by rw [ho] at h; cases h.1)
 clear hR ho
 obtain ⟨nL, hnL⟩ : ∃ nL, nL = (waitersM ts wt on2).length := ⟨_, rfl⟩
 rw [← hnL] at hcn htn
 subst hcn htn
 have HN := hide hnL
 clear hnL hul
 have hne : ((nL : Int) == -1) = false := by rw [beq_eq_false_iff_ne]; omega
 go_wp2_with fail
 go_call (saidWith_any 1 nL _) as r WS ⟨rfl, hWW⟩
 subst hWW
 go_wp2_with fail
 go_ret
 have hnn := HN.out
 subst hnn
 exact ⟨rfl, A0, A1, A2, c0, c1, c2, by rw [← HR.out.1, HR.out.2]; exact M.take 4⟩
set_option maxHeartbeats 800000 in
theorem wakeFrom_full (ts : List T7) (ks : List Int) (fs : List F2) (A0 A1 A2 : Option Addr) (c0 c1 c2 : Nat) (tn : Int) (st : Bool) (g : Nat) (wt on2 vv : Int) (w : World) (ht : ts.length ≤ 1048576) (hk : ks.length ≤ 1048576) (hf : fs.length ≤ 1048576) (h : Sep (fps [.blk g 35 #[.slice A0 ts.length c0, .slice A1 ks.length c1, .slice A2 fs.length c2, .int .i64 tn, .bool st], rT ts.length A0 c0 ts, rK ks.length A1 c1 ks, rF fs.length A2 c2 fs]) w w [.blk g 35 #[.slice A0 ts.length c0, .slice A1 ks.length c1, .slice A2 fs.length c2, .int .i64 tn, .bool st], rT ts.length A0 c0 ts, rK ks.length A1 c1 ks, rF fs.length A2 c2 fs]) (t0 : 0 ≤ tn) (t1 : tn ≤ 1000000) (ho : okAll (waitersM ts wt on2) vv tn = false) :
 Calls Tryz.prog 138 #[.pointer (some ⟨g, 0, none⟩), .int .i64 wt, .int .i64 on2, .int .i64 vv] w (fun r w' => r = .returned (.iface 133 (.int .i64 4)) ∧ Sep (fps [.blk g 35 #[.slice A0 ts.length c0, .slice A1 ks.length c1, .slice A2 fs.length c2, .int .i64 tn, .bool st], rT ts.length A0 c0 ts, rK ks.length A1 c1 ks, rF fs.length A2 c2 fs]) w w' []) := by
 obtain ⟨S, hS⟩ : ∃ S, S = fps [.blk g 35 #[.slice A0 ts.length c0, .slice A1 ks.length c1, .slice A2 fs.length c2, .int .i64 tn, .bool st], rT ts.length A0 c0 ts, rK ks.length A1 c1 ks, rF fs.length A2 c2 fs] := ⟨_, rfl⟩
 rw [← hS] at h ⊢
 clear hS
 have M0 := hide h
 clear h
 go_enter Tryz.func138, Tryz.ntmps138
 go_wp2_with fail
 have M := M0.out
 clear M0
 have hA := wakeAll_any ts A0 A1 A2 c0 ks.length c1 fs.length c2 tn st g wt on2 vv w ht t0 t1 (Sep.same (ps := [.blk (g) 35 #[.slice A0 ts.length c0, .slice A1 ks.length c1, .slice A2 fs.length c2, .int .i64 tn, .bool st], rT ts.length A0 c0 ts]) (rs := [rK ks.length A1 c1 ks, rF fs.length A2 c2 fs]) M (Below.refl _ _))
 refine Calls.mono (by with_reducible exact hA) ?_
 clear hA
 rintro r W1 ⟨us, tn', cnt, rfl, hul, g1, hR⟩
 replace M : Sep S w W1 [.blk (g) 35 #[.slice A0 ts.length c0, .slice A1 ks.length c1, .slice A2 fs.length c2, .int .i64 tn', .bool st], rT ts.length A0 c0 us, rK ks.length A1 c1 ks, rF fs.length A2 c2 fs] := Sep.comp (ps := [.blk (g) 35 #[.slice A0 ts.length c0, .slice A1 ks.length c1, .slice A2 fs.length c2, .int .i64 tn, .bool st], rT ts.length A0 c0 ts]) (rs := [rK ks.length A1 c1 ks, rF fs.length A2 c2 fs]) M g1
 clear g1
 obtain rfl : cnt = -1 := hR.elim (fun h => by rw [ho] at h; cases h.1) (fun h => h.2)
 clear hR hul
 go_wp2_with fail
 go_ret
 exact ⟨rfl, M.drop 4⟩
theorem keptB {W w' : World} (h : Below W.heap.size W w' ∧ ∀ b o, b < W.heap.size → w'.cell? ⟨b, o, none⟩ = W.cell? ⟨b, o, none⟩) : Below W.heap.size W w' := h.1
theorem inS {W0 w : World} {q : Prop} {ts : List T7} {ks : List Int} {fs : List F2} {A0 A1 A2 : Option Addr} (h : InPool W0 ts ks fs A0 A1 A2) (k : Below W0.heap.size W0 w ∧ q) : InPool w ts ks fs A0 A1 A2 := h.below k.1
theorem keep0' (W0 : World) : Below W0.heap.size W0 W0.drew ∧ ∀ b o, b < W0.heap.size → W0.drew.cell? ⟨b, o, none⟩ = W0.cell? ⟨b, o, none⟩ :=
 ⟨(Below.refl _ _).drew, fun _ _ _ => rfl⟩
theorem keepS' {W0 w w' : World} (h : Below W0.heap.size W0 w ∧ ∀ b o, b < W0.heap.size → w.cell? ⟨b, o, none⟩ = W0.cell? ⟨b, o, none⟩) (k : Below w.heap.size w w') :
 Below W0.heap.size W0 w' ∧ ∀ b o, b < W0.heap.size → w'.cell? ⟨b, o, none⟩ = W0.cell? ⟨b, o, none⟩ :=
 have hb := h.1.trans (k.mono h.1.size)
 ⟨hb, (bcell hb).1⟩
/-- Two operations that make a block each: their numbers, their slots, the blocks. -/
structure Two where
 i1 : Nat
 i2 : Nat
 d1 : Nat
 d2 : Nat
 T1 : TypeId
 T2 : TypeId
 z1 : Array Value
 z2 : Array Value
/-- A block that may have been made already. -/
inductive Al (T : TypeId) (z : Array Value) : Bool → Value → List Res → Prop where
 | no : Al T z false undef []
 | yes (g : Nat) : Al T z true (.pointer (some ⟨g, 0, none⟩)) [.blk g T z]
def put2 (q : Two) (a : Act) (x1 x2 : Value) : Act := { a with tmps := (a.tmps.setIfInBounds q.d1 x1).setIfInBounds q.d2 x2 }
def list2 (q : Two) (L : Array Bool) (b1 b2 : Bool) : Array Bool := (L.setIfInBounds q.i1 b1).setIfInBounds q.i2 b2
theorem set_swap {α : Type} (L : Array α) {i j : Nat} (h : i ≠ j) (x y : α) : (L.setIfInBounds i x).setIfInBounds j y = (L.setIfInBounds j y).setIfInBounds i x := by
 apply Array.ext'
 simp only [Array.toList_setIfInBounds]
 exact List.set_comm _ _ h
theorem set_over {α : Type} (L : Array α) (i : Nat) (x y : α) : (L.setIfInBounds i x).setIfInBounds i y = L.setIfInBounds i y := by
 apply Array.ext'
 simp only [Array.toList_setIfInBounds]
 exact List.set_set _
section
variable {P : Program} {Q : Exit → Act → World → Prop} {md : Region.Mode} {S : World → Prop} {ks : List Nat} {l : List Oper} {q : Two} {S0 : List Nat} {w0 : World}
theorem list2_1 (L : Array Bool) (b2 : Bool) (h : q.i1 ≠ q.i2) : (list2 q L false b2).setIfInBounds q.i1 true = list2 q L true b2 := by
 unfold list2
 rw [set_swap _ (Ne.symm h), set_over]
theorem list2_2 (L : Array Bool) (b1 : Bool) : (list2 q L b1 false).setIfInBounds q.i2 true = list2 q L b1 true := by
 unfold list2
 rw [set_over]
theorem list2_c (L : Array Bool) (b1 b2 : Bool) {c : Nat} (h1 : q.i1 ≠ c) (h2 : q.i2 ≠ c) : (list2 q L b1 b2).setIfInBounds c true = list2 q (L.setIfInBounds c true) b1 b2 := by
 unfold list2
 rw [set_swap _ h2, set_swap _ h1]
theorem put2_1 (a : Act) (x x1 x2 : Value) (h : q.d1 ≠ q.d2) : (put2 q a x x2).put (some q.d1) x1 = put2 q a x1 x2 := by
 unfold put2 Act.put
 simp only
 rw [set_swap _ (Ne.symm h), set_over]
theorem put2_2 (a : Act) (x x1 x2 : Value) : (put2 q a x1 x).put (some q.d2) x2 = put2 q a x1 x2 := by
 unfold put2 Act.put
 simp only
 rw [set_over]
theorem put2_c (a : Act) (x1 x2 v : Value) {d : Nat} (h1 : q.d1 ≠ d) (h2 : q.d2 ≠ d) : (put2 q a x1 x2).put (some d) v = put2 q (a.put (some d) v) x1 x2 := by
 unfold put2 Act.put
 simp only
 rw [set_swap _ h2, set_swap _ h1]
/-- The region goes on rightly from here, whichever of the two blocks has been made. -/
def wpA (P : Program) (md : Region.Mode) (l : List Oper) (Q : Exit → Act → World → Prop) (S : World → Prop) (ks : List Nat) (q : Two) (S0 : List Nat) (w0 : World) (n : Nat) (L : Array Bool) (a : Act) (rs : List Res) : Prop :=
 ∀ (b1 b2 : Bool) (x1 x2 : Value) (e1 e2 : List Res) (W : World), Al q.T1 q.z1 b1 x1 e1 → Al q.T2 q.z2 b2 x2 e2 → Sep S0 w0 W (e1 ++ (e2 ++ rs)) →
  wpAnyT P md l.toArray Q S ks (n + ((!b1).toNat + (!b2).toNat)) (list2 q L b1 b2) (put2 q a x1 x2) W
theorem wpA_start {n : Nat} {L : Array Bool} {a : Act} {rs : List Res} {W : World} (hL : list2 q L false false = L) (ha : put2 q a undef undef = a) (M : Sep S0 w0 W rs) (h : wpA P md l Q S ks q S0 w0 n L a rs) : wpAnyT P md l.toArray Q S ks (n + 2) L a W := by
 have h1 := h false false undef undef [] [] W .no .no M
 rw [hL, ha] at h1
 exact h1
/-- What the two operations are. -/
structure Makes (P : Program) (l : List Oper) (q : Two) : Prop where
 ne : q.i1 ≠ q.i2
 dn : q.d1 ≠ q.d2
 one : ∃ o, l[q.i1]? = some o ∧ o.guard = none ∧ o.dst = some q.d1 ∧ ∀ (a : Act) (W : World), (execOp a.eval o).run P W = .ok (.value (.pointer (some ⟨W.heap.size, 0, none⟩))) (W.alloc (.cells q.z1 q.T1))
 two : ∃ o, l[q.i2]? = some o ∧ o.guard = none ∧ o.dst = some q.d2 ∧ ∀ (a : Act) (W : World), (execOp a.eval o).run P W = .ok (.value (.pointer (some ⟨W.heap.size, 0, none⟩))) (W.alloc (.cells q.z2 q.T2))
theorem wpA_startH {n : Nat} {L : Array Bool} {a : Act} {rs : List Res} {W : World} (hL : list2 q L false false = L) (ha : put2 q a undef undef = a) (M : Sep S0 w0 W rs) (H : Makes P l q) (h : Makes P l q → wpA P md l Q S ks q S0 w0 n L a rs) : wpAnyT P md l.toArray Q S ks (n + 2) L a W := wpA_start hL ha M (h H)
theorem wpOp_go {i : Nat} {o : Oper} {K : Act → World → Prop} {a : Act} {W : World} (ho : l[i]? = some o) (hg : o.guard = none) (h : o.wp P a W K Q) : wpOp P l.toArray Q i K a W := by
 have ho' : l.toArray[i]? = some o := by simpa using ho
 unfold wpOp
 rw [ho']
 simp only [Region.wanted, hg, if_true]
 exact .inl h
theorem wpOp_value {i : Nat} {o : Oper} {K : Act → World → Prop} {a : Act} {W W' : World} {v : Value} (ho : l[i]? = some o) (hg : o.guard = none) (hr : (execOp a.eval o).run P W = .ok (.value v) W') (h : K (a.put o.dst v) W') : wpOp P l.toArray Q i K a W := by
 refine wpOp_go ho hg ?_
 unfold Oper.wp
 rw [hr]
 exact h
theorem wpOp_calls {i : Nat} {o : Oper} {K : Act → World → Prop} {a : Act} {W : World} {f : FuncId} {args : Array Value} (ho : l[i]? = some o) (hg : o.guard = none) (hr : (execOp a.eval o).run P W = .ok (.enter f args) W) (h : Calls P f args W fun r W' => ∃ v, r = .returned v ∧ K (a.put o.dst v) W') : wpOp P l.toArray Q i K a W := by
 refine wpOp_go ho hg ?_
 unfold Oper.wp
 rw [hr]
 refine h.mono ?_
 rintro r W' ⟨v, rfl, hK⟩
 exact hK
/-- One of the two blocks is made: what is left is asked with it there. -/
theorem made1 (H : Makes P l q) {m : Nat} {L : Array Bool} {a : Act} {x2 : Value} {rs : List Res} {W : World} (hS : ∀ V e, Sep S0 w0 V (e ++ rs) → S V) (M : Sep S0 w0 W rs) (h : ∀ g V, Sep S0 w0 V (.blk g q.T1 q.z1 :: rs) → wpAnyT P md l.toArray Q S ks m L (put2 q a (.pointer (some ⟨g, 0, none⟩)) x2) V) :
 wpOp P l.toArray Q q.i1 (fun a' w' => (calmB ks L = true → S w') ∧ wpAnyT P md l.toArray Q S ks m L a' w') (put2 q a undef x2) W := by
 obtain ⟨o, ho, hg, hd, hx⟩ := H.one
 refine wpOp_value ho hg (hx _ _) ?_
 have M1 := M.allocN q.T1 q.z1
 refine ⟨fun _ => hS _ [_] M1, ?_⟩
 rw [hd, put2_1 _ _ _ _ H.dn]
 exact h _ _ M1
theorem made2 (H : Makes P l q) {m : Nat} {L : Array Bool} {a : Act} {x1 : Value} {rs : List Res} {W : World} (hS : ∀ V e, Sep S0 w0 V (e ++ rs) → S V) (M : Sep S0 w0 W rs) (h : ∀ g V, Sep S0 w0 V (.blk g q.T2 q.z2 :: rs) → wpAnyT P md l.toArray Q S ks m L (put2 q a x1 (.pointer (some ⟨g, 0, none⟩))) V) :
 wpOp P l.toArray Q q.i2 (fun a' w' => (calmB ks L = true → S w') ∧ wpAnyT P md l.toArray Q S ks m L a' w') (put2 q a x1 undef) W := by
 obtain ⟨o, ho, hg, hd, hx⟩ := H.two
 refine wpOp_value ho hg (hx _ _) ?_
 have M1 := M.allocN q.T2 q.z2
 refine ⟨fun _ => hS _ [_] M1, ?_⟩
 rw [hd, put2_2]
 exact h _ _ M1
/-- The chain's next operation, beside the two. -/
theorem wpA_step (H : Makes P l q) {c n : Nat} {L : Array Bool} {a : Act} {rs : List Res} (h1 : q.i1 ≠ c) (h2 : q.i2 ≠ c)
 (hr : ∀ b1 b2, Region.ready md l.toArray (list2 q L b1 b2) = c :: ((if b1 then [] else [q.i1]) ++ (if b2 then [] else [q.i2])))
 (hS : ∀ V e, Sep S0 w0 V (e ++ rs) → S V)
 (hc : ∀ (b1 b2 : Bool) (x1 x2 : Value) (e1 e2 : List Res) (W : World), Al q.T1 q.z1 b1 x1 e1 → Al q.T2 q.z2 b2 x2 e2 → Sep S0 w0 W (e1 ++ (e2 ++ rs)) →
  wpOp P l.toArray Q c (fun a' w' => (calmB ks (list2 q (L.setIfInBounds c true) b1 b2) = true → S w') ∧ wpAnyT P md l.toArray Q S ks (n + ((!b1).toNat + (!b2).toNat)) (list2 q (L.setIfInBounds c true) b1 b2) a' w') (put2 q a x1 x2) W) :
 wpA P md l Q S ks q S0 w0 (n + 1) L a rs := by
 have hc' : ∀ (b1 b2 : Bool) (x1 x2 : Value) (e1 e2 : List Res) (W : World), Al q.T1 q.z1 b1 x1 e1 → Al q.T2 q.z2 b2 x2 e2 → Sep S0 w0 W (e1 ++ (e2 ++ rs)) →
  wpOp P l.toArray Q c (fun a' w' => (calmB ks ((list2 q L b1 b2).setIfInBounds c true) = true → S w') ∧ wpAnyT P md l.toArray Q S ks (n + ((!b1).toNat + (!b2).toNat)) ((list2 q L b1 b2).setIfInBounds c true) a' w') (put2 q a x1 x2) W := by
  intro b1 b2 x1 x2 e1 e2 W hA hB M
  rw [list2_c _ _ _ h1 h2]
  exact hc b1 b2 x1 x2 e1 e2 W hA hB M
 have tt : ∀ (g1 g2 : Nat) (W : World), Sep S0 w0 W (.blk g1 q.T1 q.z1 :: .blk g2 q.T2 q.z2 :: rs) → wpAnyT P md l.toArray Q S ks (n + 1) (list2 q L true true) (put2 q a (.pointer (some ⟨g1, 0, none⟩)) (.pointer (some ⟨g2, 0, none⟩))) W := by
  intro g1 g2 W M
  refine ⟨fun h0 => (by rw [hr] at h0; cases h0), fun i hi => ?_⟩
  rw [hr] at hi
  simp only [if_true, List.append_nil, List.mem_singleton] at hi
  subst hi
  exact hc' true true _ _ _ _ W (.yes g1) (.yes g2) M
 have tf : ∀ (g1 : Nat) (W : World), Sep S0 w0 W (.blk g1 q.T1 q.z1 :: rs) → wpAnyT P md l.toArray Q S ks (n + 2) (list2 q L true false) (put2 q a (.pointer (some ⟨g1, 0, none⟩)) undef) W := by
  intro g1 W M
  refine ⟨fun h0 => (by rw [hr] at h0; cases h0), fun i hi => ?_⟩
  rw [hr] at hi
  simp only [if_true, Bool.false_eq_true, if_false, List.nil_append, List.mem_cons, List.not_mem_nil, or_false] at hi
  rcases hi with rfl | rfl
  ·exact hc' true false _ _ _ _ W (.yes g1) .no M
  ·rw [list2_2]
   exact made2 H (rs := .blk g1 q.T1 q.z1 :: rs) (fun V e hM => hS V (e ++ [.blk g1 q.T1 q.z1]) (by simpa using hM)) M (fun g V hM => tt g1 g V (hM.perm (List.Perm.swap ..)))
 have ft : ∀ (g2 : Nat) (W : World), Sep S0 w0 W (.blk g2 q.T2 q.z2 :: rs) → wpAnyT P md l.toArray Q S ks (n + 2) (list2 q L false true) (put2 q a undef (.pointer (some ⟨g2, 0, none⟩))) W := by
  intro g2 W M
  refine ⟨fun h0 => (by rw [hr] at h0; cases h0), fun i hi => ?_⟩
  rw [hr] at hi
  simp only [if_true, Bool.false_eq_true, if_false, List.append_nil, List.mem_cons, List.not_mem_nil, or_false] at hi
  rcases hi with rfl | rfl
  ·exact hc' false true _ _ _ _ W .no (.yes g2) M
  ·rw [list2_1 _ _ H.ne]
   exact made1 H (rs := .blk g2 q.T2 q.z2 :: rs) (fun V e hM => hS V (e ++ [.blk g2 q.T2 q.z2]) (by simpa using hM)) M (fun g V hM => tt g g2 V hM)
 have ff : ∀ (W : World), Sep S0 w0 W rs → wpAnyT P md l.toArray Q S ks (n + 3) (list2 q L false false) (put2 q a undef undef) W := by
  intro W M
  refine ⟨fun h0 => (by rw [hr] at h0; cases h0), fun i hi => ?_⟩
  rw [hr] at hi
  simp only [Bool.false_eq_true, if_false, List.cons_append, List.nil_append, List.mem_cons, List.not_mem_nil, or_false] at hi
  rcases hi with rfl | rfl | rfl
  ·exact hc' false false _ _ _ _ W .no .no M
  ·rw [list2_1 _ _ H.ne]
   exact made1 H hS M (fun g V hM => tf g V hM)
  ·rw [list2_2]
   exact made2 H hS M (fun g V hM => ft g V hM)
 intro b1 b2 x1 x2 e1 e2 W hA hB M
 cases hA <;> cases hB
 ·exact ff W M
 ·exact ft _ W M
 ·exact tf _ W M
 ·exact tt _ _ W M
/-- The chain is at its end: what is left of the two is made. -/
theorem wpA_end (H : Makes P l q) {n : Nat} {L : Array Bool} {a : Act} {rs : List Res}
 (hr : ∀ b1 b2, (b1 && b2) = false → Region.ready md l.toArray (list2 q L b1 b2) = (if b1 then [] else [q.i1]) ++ (if b2 then [] else [q.i2]))
 (hS : ∀ V e, Sep S0 w0 V (e ++ rs) → S V)
 (tt : ∀ (g1 g2 : Nat) (W : World), Sep S0 w0 W (.blk g1 q.T1 q.z1 :: .blk g2 q.T2 q.z2 :: rs) → wpAnyT P md l.toArray Q S ks n (list2 q L true true) (put2 q a (.pointer (some ⟨g1, 0, none⟩)) (.pointer (some ⟨g2, 0, none⟩))) W) :
 wpA P md l Q S ks q S0 w0 n L a rs := by
 have tf : ∀ (g1 : Nat) (W : World), Sep S0 w0 W (.blk g1 q.T1 q.z1 :: rs) → wpAnyT P md l.toArray Q S ks (n + 1) (list2 q L true false) (put2 q a (.pointer (some ⟨g1, 0, none⟩)) undef) W := by
  intro g1 W M
  refine ⟨fun h0 => (by rw [hr _ _ rfl] at h0; simp at h0), fun i hi => ?_⟩
  rw [hr _ _ rfl] at hi
  simp only [if_true, Bool.false_eq_true, if_false, List.nil_append, List.mem_cons, List.not_mem_nil, or_false] at hi
  subst hi
  rw [list2_2]
  exact made2 H (rs := .blk g1 q.T1 q.z1 :: rs) (fun V e hM => hS V (e ++ [.blk g1 q.T1 q.z1]) (by simpa using hM)) M (fun g V hM => tt g1 g V (hM.perm (List.Perm.swap ..)))
 have ft : ∀ (g2 : Nat) (W : World), Sep S0 w0 W (.blk g2 q.T2 q.z2 :: rs) → wpAnyT P md l.toArray Q S ks (n + 1) (list2 q L false true) (put2 q a undef (.pointer (some ⟨g2, 0, none⟩))) W := by
  intro g2 W M
  refine ⟨fun h0 => (by rw [hr _ _ rfl] at h0; simp at h0), fun i hi => ?_⟩
  rw [hr _ _ rfl] at hi
  simp only [if_true, Bool.false_eq_true, if_false, List.append_nil, List.mem_cons, List.not_mem_nil, or_false] at hi
  subst hi
  rw [list2_1 _ _ H.ne]
  exact made1 H (rs := .blk g2 q.T2 q.z2 :: rs) (fun V e hM => hS V (e ++ [.blk g2 q.T2 q.z2]) (by simpa using hM)) M (fun g V hM => tt g g2 V hM)
 have ff : ∀ (W : World), Sep S0 w0 W rs → wpAnyT P md l.toArray Q S ks (n + 2) (list2 q L false false) (put2 q a undef undef) W := by
  intro W M
  refine ⟨fun h0 => (by rw [hr _ _ rfl] at h0; simp at h0), fun i hi => ?_⟩
  rw [hr _ _ rfl] at hi
  simp only [Bool.false_eq_true, if_false, List.cons_append, List.nil_append, List.mem_cons, List.not_mem_nil, or_false] at hi
  rcases hi with rfl | rfl
  ·rw [list2_1 _ _ H.ne]
   exact made1 H hS M (fun g V hM => tf g V hM)
  ·rw [list2_2]
   exact made2 H hS M (fun g V hM => ft g V hM)
 intro b1 b2 x1 x2 e1 e2 W hA hB M
 cases hA <;> cases hB
 ·exact ff W M
 ·exact ft _ W M
 ·exact tf _ W M
 ·exact tt _ _ W M
/-- A call. -/
theorem wpA_call (H : Makes P l q) {c n d : Nat} {oc : Oper} {L : Array Bool} {a : Act} {rs : List Res} {f : FuncId} {args : Array Value} (Nx : Value → List Res → Prop) (hoc : l[c]? = some oc) (hg : oc.guard = none) (hd : oc.dst = some d) (h1 : q.i1 ≠ c) (h2 : q.i2 ≠ c) (h3 : q.d1 ≠ d) (h4 : q.d2 ≠ d)
 (hr : ∀ b1 b2, Region.ready md l.toArray (list2 q L b1 b2) = c :: ((if b1 then [] else [q.i1]) ++ (if b2 then [] else [q.i2])))
 (hS : ∀ V e, Sep S0 w0 V (e ++ rs) → S V)
 (hx : ∀ x1 x2 W, (execOp (put2 q a x1 x2).eval oc).run P W = .ok (.enter f args) W)
 (hcall : ∀ W, Sep S0 w0 W rs → Calls P f args W fun r W' => ∃ v new, r = .returned v ∧ Sep [] W W' new ∧ Nx v new)
 (hnext : ∀ v new, Nx v new → wpA P md l Q S ks q S0 w0 n (L.setIfInBounds c true) (a.put (some d) v) (new ++ rs)) :
 wpA P md l Q S ks q S0 w0 (n + 1) L a rs := by
 refine wpA_step H h1 h2 hr hS ?_
 intro b1 b2 x1 x2 e1 e2 W hA hB M
 refine wpOp_calls hoc hg (hx _ _ _) ?_
 refine (hcall W (M.sub (by rw [← List.append_assoc]; exact List.sublist_append_right _ _))).mono ?_
 rintro r W' ⟨v, new, rfl, k, hN⟩
 have M1 : Sep S0 w0 W' (e1 ++ (e2 ++ (new ++ rs))) := (Sep.new M k).perm (by
  have p1 : (new ++ (e1 ++ (e2 ++ rs))).Perm (e1 ++ (new ++ (e2 ++ rs))) := List.perm_append_comm_assoc ..
  have p2 : (new ++ (e2 ++ rs)).Perm (e2 ++ (new ++ rs)) := List.perm_append_comm_assoc ..
  exact p1.trans (List.Perm.append_left e1 p2))
 refine ⟨v, rfl, fun _ => hS W' (e1 ++ (e2 ++ new)) (by simpa using M1), ?_⟩
 rw [hd, put2_c _ _ _ _ h3 h4]
 exact hnext v new hN b1 b2 x1 x2 e1 e2 W' hA hB M1
/-- An operation that yields a value in whatever world is taken first. -/
theorem wpA_take {c n d : Nat} {oc : Oper} {L : Array Bool} {a : Act} {rs : List Res} {v : Value} (hoc : l[c]? = some oc) (hg : oc.guard = none) (hd : oc.dst = some d) (h1 : q.i1 ≠ c) (h2 : q.i2 ≠ c) (h3 : q.d1 ≠ d) (h4 : q.d2 ≠ d)
 (hs : Region.noSelect l.toArray = true) (hf : ∀ b1 b2, Region.free md l.toArray (list2 q L b1 b2) c = true) (hr : ∀ b1 b2, (Region.ready md l.toArray (list2 q L b1 b2)).contains c = true) (hk : ks.contains c = false)
 (hQ : ∀ c' a' w', Q (.panic c') (a'.put oc.dst v) w' → Q (.panic c') a' w')
 (hS : ∀ V e, Sep S0 w0 V (e ++ rs) → S V)
 (hx : ∀ x1 x2 W, (execOp (put2 q a x1 x2).eval oc).run P W = .ok (.value v) W)
 (hnext : wpA P md l Q S ks q S0 w0 n (L.setIfInBounds c true) (a.put (some d) v) rs) :
 wpA P md l Q S ks q S0 w0 (n + 1) L a rs := by
 intro b1 b2 x1 x2 e1 e2 W hA hB M
 have h := hnext b1 b2 x1 x2 e1 e2 W hA hB M
 rw [← put2_c _ _ _ _ h3 h4, ← list2_c _ _ _ h1 h2, ← hd] at h
 have h5 := wpAnyT_takeY (S := S) hoc hs (hf b1 b2) (hr b1 b2) hk hQ (by simp only [Region.wanted, hg]) (hx x1 x2) (fun _ => hS W (e1 ++ e2) (by simpa using M)) h
 rw [Nat.add_right_comm] at h5
 exact h5
end
open Go.ChangeShapes Go.WideShapes Go.ChangeAt Go.RowKit Go.Joins Go.Deep
theorem own : ownKnob Tryz.prog.godebug = none := by kernel_rfl
theorem laidOut : laidOutB Tryz.prog = true := by kernel_rfl
section
variable {H : Type} {enc : TypeId × Value → H} {P : Program} {w : World} {base : Nat} {spare : Nat → Bool} {held : Bool}
theorem open_agg5 {r : Reach} {b0 : Nat} {t : TypeId} {f0 f1 f2 f3 f4 : Field} {v : Value} {d : DataW H} {p : List MemPlace} (hs : P.underlying t = some (.struct #[f0, f1, f2, f3, f4])) (hone : oneCellFields P #[f0, f1, f2, f3, f4] = true) (hC : P.cellsOf t = 5)
 (hv : Value.okWide P w r b0 t v) (h : DataW.Trod enc P w base spare held t v d p) :
 ∃ (v0 v1 v2 v3 v4 : Value) (y0 y1 y2 y3 y4 : DataW H × List MemPlace) (n : Nat), v = .agg #[v0, v1, v2, v3, v4] ∧ d = .agg [y0.1, y1.1, y2.1, y3.1, y4.1] ∧ p = y0.2 ++ (y1.2 ++ (y2.2 ++ (y3.2 ++ y4.2))) ∧
  DataW.trod enc P w base spare held n f0.type [v0] = some y0 ∧ DataW.trod enc P w base spare held n f1.type [v1] = some y1 ∧ DataW.trod enc P w base spare held n f2.type [v2] = some y2 ∧ DataW.trod enc P w base spare held n f3.type [v3] = some y3 ∧ DataW.trod enc P w base spare held n f4.type [v4] = some y4 := by
 obtain ⟨cs, rfl, hsz⟩ := okWide_struct hs hv
 obtain ⟨l⟩ := cs
 match l, hsz.trans hC with
 | [c0, c1, c2, c3, c4], _ =>
  obtain ⟨fuel, hf⟩ := h
  obtain ⟨xs, n, _, hx, _, hlen, hg⟩ := DataW.trod_struct hs hf
  obtain ⟨o0, k0⟩ := hone_of hone 0 f0 rfl
  obtain ⟨o1, k1⟩ := hone_of hone 1 f1 rfl
  obtain ⟨o2, k2⟩ := hone_of hone 2 f2 rfl
  obtain ⟨o3, k3⟩ := hone_of hone 3 f3 rfl
  obtain ⟨o4, k4⟩ := hone_of hone 4 f4 rfl
  match xs, hlen with
  | [y0, y1, y2, y3, y4], _ =>
   simp only [Prod.mk.injEq] at hx
   exact ⟨c0, c1, c2, c3, c4, y0, y1, y2, y3, y4, n, rfl, by simpa using hx.1, by simpa using hx.2, by simpa [Value.cells, o0, k0] using hg 0 f0 rfl, by simpa [Value.cells, o1, k1] using hg 1 f1 rfl, by simpa [Value.cells, o2, k2] using hg 2 f2 rfl, by simpa [Value.cells, o3, k3] using hg 3 f3 rfl, by simpa [Value.cells, o4, k4] using hg 4 f4 rfl⟩
/-- Five fields that are all int64: the value is written out. -/
theorem ints5 {r : Reach} {b0 : Nat} {t e : TypeId} {f0 f1 f2 f3 f4 : Field} {v : Value} {d : DataW H} {p : List MemPlace} (hs : P.underlying t = some (.struct #[f0, f1, f2, f3, f4])) (hone : oneCellFields P #[f0, f1, f2, f3, f4] = true) (hC : P.cellsOf t = 5)
 (he : P.underlying e = some (.int .i64)) (h0 : f0.type = e) (h1 : f1.type = e) (h2 : f2.type = e) (h3 : f3.type = e) (h4 : f4.type = e)
 (hv : Value.okWide P w r b0 t v) (h : DataW.Trod enc P w base spare held t v d p) :
 ∃ a0 a1 a2 a3 a4 : Int, v = .agg #[.int .i64 a0, .int .i64 a1, .int .i64 a2, .int .i64 a3, .int .i64 a4] ∧ (Lit.int .i64 a0).wf = true ∧ (Lit.int .i64 a1).wf = true ∧ (Lit.int .i64 a2).wf = true ∧ (Lit.int .i64 a3).wf = true ∧ (Lit.int .i64 a4).wf = true := by
 obtain ⟨v0, v1, v2, v3, v4, y0, y1, y2, y3, y4, n, rfl, _, _, g0, g1, g2, g3, g4⟩ := open_agg5 hs hone hC hv h
 rw [h0] at g0; rw [h1] at g1; rw [h2] at g2; rw [h3] at g3; rw [h4] at g4
 obtain ⟨a0, e0, _, w0⟩ := DataW.trod_int he g0
 obtain ⟨a1, e1, _, w1⟩ := DataW.trod_int he g1
 obtain ⟨a2, e2, _, w2⟩ := DataW.trod_int he g2
 obtain ⟨a3, e3, _, w3⟩ := DataW.trod_int he g3
 obtain ⟨a4, e4, _, w4⟩ := DataW.trod_int he g4
 simp only [List.cons.injEq, and_true] at e0 e1 e2 e3 e4
 subst e0 e1 e2 e3 e4
 exact ⟨a0, a1, a2, a3, a4, rfl, w0, w1, w2, w3, w4⟩
end
set_option maxRecDepth 100000
open Go.ChangeShapes Go.WideShapes Go.ChangeAt Go.RowKit Go.Joins Go.Deep
section
variable {H : Type} {enc : TypeId × Value → H} {w : World} {base : Nat} {spare : Nat → Bool} {held : Bool}
theorem task_cells {cs : List Value} {x : DataW H × List MemPlace} {n : Nat} (h : DataW.trod enc Tryz.prog w base spare held n 157 cs = some x) (hl : cs.length = 7) : ∃ t : T7, cs = t.cs := by
 obtain ⟨xs, k, _, hx, _, hlen, hg⟩ := DataW.trod_struct Tryz.underlying157 h
 match cs, hl with
 | [c0, c1, c2, c3, c4, c5, c6], _ =>
  match xs, hlen with
  | [y0, y1, y2, y3, y4, y5, y6], _ =>
   have hi : Tryz.prog.cellsOf 2 = 1 := by kernel_rfl
   have g0 := hg 0 _ rfl
   have g1 := hg 1 _ rfl
   have g2 := hg 2 _ rfl
   have g3 := hg 3 _ rfl
   have g4 := hg 4 _ rfl
   have g5 := hg 5 _ rfl
   have g6 := hg 6 _ rfl
   simp [hi] at g0 g1 g2 g3 g4 g5 g6
   obtain ⟨a0, e0, _, _⟩ := DataW.trod_int Tryz.underlying2 g0
   obtain ⟨a1, e1, _, _⟩ := DataW.trod_int Tryz.underlying2 g1
   obtain ⟨a2, e2, _, _⟩ := DataW.trod_int Tryz.underlying2 g2
   obtain ⟨a3, e3, _, _⟩ := DataW.trod_int Tryz.underlying2 g3
   obtain ⟨a4, e4, _, _⟩ := DataW.trod_int Tryz.underlying2 g4
   obtain ⟨a5, e5, _, _⟩ := DataW.trod_int Tryz.underlying2 g5
   obtain ⟨a6, e6, _, _⟩ := DataW.trod_int Tryz.underlying2 g6
   simp only [List.cons.injEq, and_true] at e0 e1 e2 e3 e4 e5 e6
   subst e0 e1 e2 e3 e4 e5 e6
   exact ⟨⟨a0, a1, a2, a3, a4, a5, a6⟩, rfl⟩
theorem future_cells {cs : List Value} {x : DataW H × List MemPlace} {n : Nat} (h : DataW.trod enc Tryz.prog w base spare held n 159 cs = some x) (hl : cs.length = 2) : ∃ t : F2, cs = t.cs := by
 obtain ⟨xs, k, _, hx, _, hlen, hg⟩ := DataW.trod_struct Tryz.underlying159 h
 match cs, hl with
 | [c0, c1], _ =>
  match xs, hlen with
  | [y0, y1], _ =>
   have hi : Tryz.prog.cellsOf 2 = 1 := by kernel_rfl
   have hb : Tryz.prog.cellsOf 4 = 1 := by kernel_rfl
   have g0 := hg 0 _ rfl
   have g1 := hg 1 _ rfl
   simp [hi, hb] at g0 g1
   obtain ⟨a0, e0, _⟩ := DataW.trod_bool Tryz.underlying4 g0
   obtain ⟨a1, e1, _, _⟩ := DataW.trod_int Tryz.underlying2 g1
   simp only [List.cons.injEq, and_true] at e0 e1
   subst e0 e1
   exact ⟨⟨a0, a1⟩, rfl⟩
/-- A row whose elements' cells are known by their index. -/
theorem row_of {α : Type} [Inhabited α] {size len : Nat} {a : Addr} {cellsOf : α → List Value} {cells : List α → List Value} (f : Nat → α) (hs : 0 < size)
 (hcells : ∀ l j, (cells l)[j]? = (l[j / size]?).bind (fun t => (cellsOf t)[j % size]?)) (hlen : ∀ l, (cells l).length = l.length * size)
 (h : ∀ i, i < len → ∀ j, j < size → w.cell? ((a.add (i * size)).add j) = (cellsOf (f i))[j]?) : Row w (some a) (cells ((List.range len).map f)) := by
 intro hl
 rw [hlen, List.length_map, List.length_range] at hl
 have hl0 : 0 < len := by rcases Nat.eq_zero_or_pos len with h0 | h0 <;> simp_all
 have hcell : ∀ j u, (cells ((List.range len).map f))[j]? = some u → w.cell? (a.add j) = some u := by
  intro j u hu
  rw [hcells] at hu
  have hj : j / size < len := by
   rcases Nat.lt_or_ge (j / size) len with h1 | h1
   ·exact h1
   ·rw [List.getElem?_eq_none (by simpa using h1)] at hu; cases hu
  rw [List.getElem?_map, List.getElem?_range hj] at hu
  have := h (j / size) hj (j % size) (Nat.mod_lt _ hs)
  rw [add_of_add, show j / size * size + j % size = j from Nat.div_add_mod' j size] at this
  rw [this]; exact hu
 have hpos : 0 < (cells ((List.range len).map f)).length := by rw [hlen, List.length_map, List.length_range]; exact Nat.mul_pos hl0 hs
 have c0 := hcell 0 _ (List.getElem?_eq_getElem hpos)
 obtain ⟨b, off, spot⟩ := a
 have hspot : spot = none := by simpa [Addr.add] using World.cell?_spot c0
 subst hspot
 refine ⟨b, off, rfl, fun j u hu => ?_⟩
 have := hcell j u hu
 rw [show (⟨b, off, none⟩ : Addr).add j = ⟨b, off + j, none⟩ from by unfold Addr.add; split <;> simp_all] at this
 exact this
theorem open_tasks {cs : List Value} {x : DataW H × List MemPlace} {n : Nat} (h : DataW.trod enc Tryz.prog w base spare held n 56 cs = some x) : ∃ (ts : List T7) (A : Option Addr) (c : Nat), cs = [.slice A ts.length c] ∧ ts.length ≤ maxLen ∧ Row w A (tcells ts) := by
 rcases open_slice Tryz.underlying56 h with ⟨rfl, _⟩ | ⟨a, len, cap, m, n', D, Pl, rfl, hb, hl, hm, hmm, _, hel⟩
 ·exact ⟨[], none, 0, rfl, by simp, Row.nil⟩
 ·have hc : Tryz.prog.cellsOf 157 = 7 := by kernel_rfl
  rw [hc] at hel
  have hlm : len ≤ m := by rw [hmm]; split <;> omega
  obtain ⟨f, hf⟩ := choose_lt (α := T7) (n := len) (p := fun i t => ∀ j, j < 7 → w.cell? ((a.add (i * 7)).add j) = t.cs[j]?) (fun i hi => by
   obtain ⟨cs', h1, h2⟩ := hel i (by omega)
   obtain ⟨_, hlen, hcell⟩ := World.cells?_some h1
   obtain ⟨t, rfl⟩ := task_cells h2 hlen
   exact ⟨t, hcell⟩)
  refine ⟨(List.range len).map f, some a, cap, by simp, by simp; omega, row_of (size := 7) f (by omega) tcells_at tcells_length hf⟩
theorem open_futures {cs : List Value} {x : DataW H × List MemPlace} {n : Nat} (h : DataW.trod enc Tryz.prog w base spare held n 57 cs = some x) : ∃ (fs : List F2) (A : Option Addr) (c : Nat), cs = [.slice A fs.length c] ∧ fs.length ≤ maxLen ∧ Row w A (fcells fs) := by
 rcases open_slice Tryz.underlying57 h with ⟨rfl, _⟩ | ⟨a, len, cap, m, n', D, Pl, rfl, hb, hl, hm, hmm, _, hel⟩
 ·exact ⟨[], none, 0, rfl, by simp, Row.nil⟩
 ·have hc : Tryz.prog.cellsOf 159 = 2 := by kernel_rfl
  rw [hc] at hel
  have hlm : len ≤ m := by rw [hmm]; split <;> omega
  obtain ⟨f, hf⟩ := choose_lt (α := F2) (n := len) (p := fun i t => ∀ j, j < 2 → w.cell? ((a.add (i * 2)).add j) = t.cs[j]?) (fun i hi => by
   obtain ⟨cs', h1, h2⟩ := hel i (by omega)
   obtain ⟨_, hlen, hcell⟩ := World.cells?_some h1
   obtain ⟨t, rfl⟩ := future_cells h2 hlen
   exact ⟨t, hcell⟩)
  refine ⟨(List.range len).map f, some a, cap, by simp, by simp; omega, row_of (size := 2) f (by omega) fcells_at fcells_length hf⟩
theorem open_tokens {cs : List Value} {x : DataW H × List MemPlace} {n : Nat} (h : DataW.trod enc Tryz.prog w base spare held n 32 cs = some x) : ∃ (ks : List Int) (A : Option Addr) (c : Nat), cs = [.slice A ks.length c] ∧ ks.length ≤ maxLen ∧ Row w A (icells ks) := by
 rcases open_ints Tryz.underlying32 Tryz.underlying2 (by kernel_rfl) h with ⟨rfl, _⟩ | ⟨a, len, cap, zs, rfl, hb, hl, hm, hz, _, hcell, _⟩
 ·exact ⟨[], none, 0, rfl, by simp, Row.nil⟩
 ·have hlm : len ≤ zs.length := by rw [hz]; split <;> omega
  have hr : Row w (some a) (icells ((List.range len).map fun i => zs.getD i 0)) :=
   row_of (size := 1) (cellsOf := fun z => [Value.int .i64 z]) _ (by omega) (fun l j => by simp [icells, Nat.mod_one, Nat.div_one]; cases l[j]? <;> rfl) (fun l => by simp [icells]) (fun i hi j hj => by
    obtain rfl : j = 0 := by omega
    rw [add_of_add, Nat.mul_one, Nat.add_zero]
    simpa using hcell i (by omega))
  exact ⟨_, some a, cap, by simp, by simp; omega, hr⟩
/-- A pool that came in. -/
theorem open_pool {r : Reach} {b0 : Nat} {v : Value} {d : DataW H} {p : List MemPlace} (hv : Value.okWide Tryz.prog w r b0 59 v) (h : DataW.Trod enc Tryz.prog w base spare held 59 v d p) :
 ∃ (ts : List T7) (ks : List Int) (fs : List F2) (A0 A1 A2 : Option Addr) (c0 c1 c2 : Nat) (tn : Int) (st : Bool), v = .agg #[.slice A0 ts.length c0, .slice A1 ks.length c1, .slice A2 fs.length c2, .int .i64 tn, .bool st] ∧
  InPool w ts ks fs A0 A1 A2 ∧ ts.length ≤ 9223372036854775807 ∧ ks.length ≤ 9223372036854775807 ∧ fs.length ≤ 9223372036854775807 ∧ (Lit.int .i64 tn).wf = true := by
 obtain ⟨v0, v1, v2, v3, v4, y0, y1, y2, y3, y4, n, rfl, _, _, g0, g1, g2, g3, g4⟩ := open_agg5 Tryz.underlying59 (by kernel_rfl) (by kernel_rfl : Tryz.prog.cellsOf 59 = 5) hv h
 obtain ⟨ts, A0, c0, e0, l0, r0⟩ := open_tasks g0
 obtain ⟨ks, A1, c1, e1, l1, r1⟩ := open_tokens g1
 obtain ⟨fs, A2, c2, e2, l2, r2⟩ := open_futures g2
 obtain ⟨tn, e3, _, w3⟩ := DataW.trod_int Tryz.underlying2 g3
 obtain ⟨st, e4, _⟩ := DataW.trod_bool Tryz.underlying4 g4
 simp only [List.cons.injEq, and_true] at e0 e1 e2 e3 e4
 subst e0 e1 e2 e3 e4
 unfold maxLen at l0 l1 l2
 exact ⟨ts, ks, fs, A0, A1, A2, c0, c1, c2, tn, st, rfl, ⟨r0, r1, r2⟩, by omega, by omega, by omega, w3⟩
end
open Go.ChangeShapes Go.WideShapes Go.RowKit
theorem errG : Tryz.prog.globalNamed "errors.errorType" = some 0 := by kernel_rfl
theorem errR : (Tryz.prog.cutTypes.find? (·.1 == "internal/reflectlite.rtype")).map (·.2) = some 206 := by kernel_rfl
theorem errOne : ((List.range Tryz.prog.types.size).filter fun t => Tryz.prog.rowNamed t [101, 114, 114, 111, 114]) = [84] := by kernel_rfl
theorem errH : typeHandle Tryz.prog 84 = .pointer (some ⟨1, 84, none⟩) := by kernel_rfl
/-- WHAT THE CONDITION GIVES A WALK: the variable's one cell. -/
theorem laid_of {W : World} (h : laidMetH Tryz.prog [("errors.errorType", Rows.laid_errors_errorType)] W) : Laid W := by
 have h' : laidMet Tryz.prog [] W ∧ handlesMet Tryz.prog [("errors.errorType", Rows.laid_errors_errorType)] W := h
 obtain ⟨name, u, ty, e1, e2, e3, e4, e5⟩ := h'.2 _ (List.mem_singleton.2 rfl)
 have en : name = [101, 114, 114, 111, 114] := (Option.some.inj e1).symm
 subst en
 obtain rfl := Option.some.inj (errR.symm.trans e2)
 have hm : ty ∈ (List.range Tryz.prog.types.size).filter fun t => Tryz.prog.rowNamed t [101, 114, 114, 111, 114] := List.mem_filter.2 ⟨List.mem_range.2 e3, e4⟩
 rw [errOne] at hm
 obtain rfl := List.mem_singleton.1 hm
 rw [errH] at e5
 have h9 := World.var?_cell errG e5 0
 simpa [Laid] using h9
/-- A world that meets the condition: the settled one, the variable's cell laid. -/
noncomputable def laidWorld (os : Os) : World :=
 let w0 := World.holding Tryz.prog os ⟨#[], #[], []⟩
 { w0 with heap := w0.heap.modify 0 fun
  | .cells _ t frozen => .cells #[.iface 206 (.agg #[.pointer (some ⟨1, 84, none⟩)])] t frozen
  | o => o }
theorem laidWorld_met (os : Os) (args : Array Value) : laidMetH Tryz.prog [("errors.errorType", Rows.laid_errors_errorType)] ((laidWorld os).forCall (fun _ _ => 0) ⟨#[], args, []⟩).memory :=
 laidMetH_of_parts (laidMet_nil _ _) (by kernel_rfl)
end Go.Proofs.YtfkdfkoigojciaaGreatDoor
