/- The program's check whether a task's state is open. No condition. -/
import Derived.Test.YtfkdfkoigojciaaGreatDoorQJ16
import Derived.Test.YtfkdfkoigojciaaGreatDoorQJ12
import Derived.Test.YtfkdfkoigojciaaGreatDoorQJ37
import Derived.Test.YtfkdfkoigojciaaGreatDoorQJ11
import Derived.Shelf.Abstract
import Derived.Test.YtfkdfkoigojciaaGreatDoorQJ34
import Derived.Test.YtfkdfkoigojciaaGreatDoorQJ17
import Derived.Test.YtfkdfkoigojciaaGreatDoorQJ20
import Derived.Test.YtfkdfkoigojciaaGreatDoorQJ29
import Derived.Test.YtfkdfkoigojciaaGreatDoorQJ02

namespace Go.Proofs.YtfkdfkoigojciaaGreatDoor
open Go.RowKit
set_option linter.unusedVariables false
theorem fit_parts {a b c d e : Int} {ts : List T7} {tn : Int} {k : Nat} {x : T7} (h : fitB a b c d e ts tn k x = true) : planB a b c d e = true ∧ btw x.s 1 5 = true ∧ btw x.l 0 (c - 1) = true ∧ ownB a x.s x.o = true ∧ waitB b d e x.s x.wt x.on = true ∧ btw x.v 0 9999 = true ∧ btw x.t 0 1000000 = true ∧ x.t < tn ∧ soloTo ts k x.s x.o = true ∧ waitsOk ts.length k x.wt x.on = true := by
 simp only [fitB, taskB, Bool.and_eq_true, decide_eq_true_eq] at h
 obtain ⟨⟨h1, h2, h3, h4, h5, h6, h7⟩, h8, h9, h10⟩ := h
 exact ⟨h1, h2, h3, h4, h5, h6, h7, h8, h9, h10⟩
theorem fit_mk {a b c d e : Int} {ts : List T7} {tn : Int} {k : Nat} {x : T7} (h1 : planB a b c d e = true) (h2 : btw x.s 1 5 = true) (h3 : btw x.l 0 (c - 1) = true) (h4 : ownB a x.s x.o = true) (h5 : waitB b d e x.s x.wt x.on = true) (h6 : btw x.v 0 9999 = true) (h7 : btw x.t 0 1000000 = true) (h8 : x.t < tn) (h9 : soloTo ts k x.s x.o = true) (h10 : waitsOk ts.length k x.wt x.on = true) : fitB a b c d e ts tn k x = true := by
 simp only [fitB, taskB, Bool.and_eq_true, decide_eq_true_eq]
 exact ⟨⟨h1, h2, h3, h4, h5, h6, h7⟩, h8, h9, h10⟩
theorem wait_no {b d e s : Int} (hs : s ≠ 3) : waitB b d e s 0 0 = true := by simp [waitB, hs]
theorem solo_no {ts : List T7} {k : Nat} {s o : Int} (hs : s ≠ 2) : soloTo ts k s o = true := by simp [soloTo, hs]
theorem waits_no {n k : Nat} {on : Int} : waitsOk n k 0 on = true := by simp [waitsOk]
theorem own_no {a s : Int} (hs : s ≠ 2) : ownB a s (-1) = true := by simp [ownB, hs]
theorem pool_fit {a b c d e : Int} {ts : List T7} {ks : List Int} {fs : List F2} {tn : Int} {k : Nat} {x : T7} (h : poolB a b c d e ts ks fs tn = true) (hx : ts[k]? = some x) : fitB a b c d e ts tn k x = true := (tasksB_iff ..).1 (poolB_parts h).2.2.2 k x hx
theorem runM_runs {ts : List T7} {wk i : Int} {k : Nat} (hi : 0 ≤ i) (h : runM ts wk i = i + k) : ∃ x, ts[k]? = some x ∧ x.s = 2 ∧ x.o = wk := by
 induction ts generalizing i k with
 | nil => simp only [runM] at h; omega
 | cons t r ih =>
  simp only [runM] at h
  split at h
  ·rename_i hm
   obtain rfl : k = 0 := by omega
   exact ⟨t, rfl, hm.1, hm.2⟩
  ·cases k with
   | zero => rcases runM_low r wk (i + 1) with h1 | h1 <;> omega
   | succ k =>
    obtain ⟨x, hx, h1⟩ := ih (i := i + 1) (k := k) (by omega) (by omega)
    exact ⟨x, by simpa using hx, h1⟩
theorem wakeAll_right2 {a b c d e : Int} {ks : List Int} {fs : List F2} {v : Int} (hv : btw v 0 9999 = true) : ∀ (L : List Int) (ts : List T7) (tn : Int), poolB a b c d e ts ks fs tn = true → L.Nodup → (∀ j ∈ L, ∃ (k : Nat) (x : T7), j = k ∧ ts[k]? = some x ∧ x.s = 3) → tn + L.length ≤ 1000000 → poolB a b c d e (wakeAllT L ts tn v) ks fs (tn + L.length) = true
 | [], ts, tn, hp, _, _, _ => by simpa [wakeAllT] using hp
 | j :: r, ts, tn, hp, hn, hm, hb => by
  obtain ⟨k, x, rfl, hx, hs⟩ := hm j (List.mem_cons_self ..)
  have h1 := wake_right (v := v) hp hx hs hv (by simp at hb; omega)
  obtain ⟨hn1, hn2⟩ := List.nodup_cons.1 hn
  have h2 := wakeAll_right2 hv r (ts.set k (wakeT x tn v)) (tn + 1) h1 hn2 (fun i hi => by
   obtain ⟨k2, x2, rfl, hx2, hs2⟩ := hm i (List.mem_cons_of_mem _ hi)
   refine ⟨k2, x2, rfl, ?_, hs2⟩
   rw [List.getElem?_set_ne (by intro e; apply hn1; rw [e]; exact hi)]
   exact hx2) (by simp at hb; omega)
  simp only [wakeAllT, Int.toNat_natCast, taskAt_of hx, List.length_cons]
  rw [show tn + ((r.length + 1 : Nat) : Int) = tn + 1 + (r.length : Int) by omega]
  exact h2
/-- Those who wait are woken: the pool is right just where there is a turn for each. -/
theorem wakeAll_ok {a b c d e : Int} {ts : List T7} {ks : List Int} {fs : List F2} {tn v wt on : Int} (hv : btw v 0 9999 = true) (h : poolB a b c d e ts ks fs tn = true) : poolB a b c d e (wakeAllT (waitersM ts wt on) ts tn v) ks fs (tn + (waitersM ts wt on).length) = okAll (waitersM ts wt on) v tn := by
 by_cases hb : tn + ((waitersM ts wt on).length : Int) ≤ 1000000
 ·rw [wakeAll_right2 hv _ ts tn h (waitersM_nodup ts wt on) (fun j hj => by
   obtain ⟨k, x, h1, _, h2, h3, _⟩ := waitersM_mem hj
   exact ⟨k, x, h1, h2, h3⟩) hb]
  simp [okAll, hv, hb]
 ·rw [turn_over hb]
  have he : (waitersM ts wt on).isEmpty = false := by
   cases hL : waitersM ts wt on with
   | nil => rw [hL] at hb; simp at hb; have := (poolB_parts h).2.1; omega
   | cons i r => rfl
  simp only [okAll, he, hv, Bool.false_or, Bool.true_and, decide_eq_false hb]
set_option maxRecDepth 100000 in
set_option maxHeartbeats 800000 in
theorem end_ok (ts : List T7) (ks : List Int) (fs : List F2) (A0 A1 A2 : Option Addr) (c0 c1 c2 : Nat) (tn : Int) (st : Bool) (g : Nat) (wk vv : Int) (w : World) (ht : ts.length ≤ 1048576) (hk : ks.length ≤ 1048576) (hf : fs.length ≤ 1048576) (h : Sep (fps [.blk g 35 #[.slice A0 ts.length c0, .slice A1 ks.length c1, .slice A2 fs.length c2, .int .i64 tn, .bool st], rT ts.length A0 c0 ts, rK ks.length A1 c1 ks, rF fs.length A2 c2 fs]) w w [.blk g 35 #[.slice A0 ts.length c0, .slice A1 ks.length c1, .slice A2 fs.length c2, .int .i64 tn, .bool st], rT ts.length A0 c0 ts, rK ks.length A1 c1 ks, rF fs.length A2 c2 fs]) (k : Nat) (s l o1 wt on v t : Int) (hts : ts[k]? = some ⟨s, l, o1, wt, on, v, t⟩) (hv : btw vv 0 9999 = true) (hr : runM ts wk 0 = k) (t0 : 0 ≤ tn) (t1 : tn ≤ 1000000) (ho : okAll (waitersM (ts.set k ⟨4, l, -1, wt, on, vv, t⟩) 1 k) vv tn = true) :
 Calls Tryz.prog 64 #[.pointer (some ⟨g, 0, none⟩), .int .i64 wk, .int .i64 vv] w (fun r w' => ∃ (D0 D1 D2 : Option Addr) (f0 f1 f2 : Nat), r = .returned (.agg #[.int .i64 1, .int .i64 ((waitersM (ts.set k ⟨4, l, -1, wt, on, vv, t⟩) 1 k).length : Int)]) ∧ Sep (fps [.blk g 35 #[.slice A0 ts.length c0, .slice A1 ks.length c1, .slice A2 fs.length c2, .int .i64 tn, .bool st], rT ts.length A0 c0 ts, rK ks.length A1 c1 ks, rF fs.length A2 c2 fs]) w w' [.blk g 35 #[.slice D0 ts.length f0, .slice D1 ks.length f1, .slice D2 fs.length f2, .int .i64 (tn + ((waitersM (ts.set k ⟨4, l, -1, wt, on, vv, t⟩) 1 k).length : Int)), .bool st], rT ts.length D0 f0 (wakeAllT (waitersM (ts.set k ⟨4, l, -1, wt, on, vv, t⟩) 1 k) (ts.set k ⟨4, l, -1, wt, on, vv, t⟩) tn vv), rK ks.length D1 f1 ks, rF fs.length D2 f2 fs]) := by
 have hkl : k < ts.length := by
  rcases Nat.lt_or_ge k ts.length with h1 | h1
  ·exact h1
  ·rw [List.getElem?_eq_none h1] at hts; cases hts
 have hki : (k : Int) < (ts.length : Int) := by omega
 have hk0 : (0 : Int) ≤ (k : Int) := by omega
 have hr9 : (rT ts.length A0 c0 ts).here w := h.rowAt 1 rfl
 obtain ⟨gr, rfl, hgl, hfz9⟩ := rT_form hr9 (show 0 < ts.length by omega)
 clear hr9 hfz9 hgl
 obtain ⟨S, hS⟩ : ∃ S, S = fps [.blk g 35 #[.slice (some ⟨gr, 0, none⟩) ts.length c0, .slice A1 ks.length c1, .slice A2 fs.length c2, .int .i64 tn, .bool st], rT ts.length (some ⟨gr, 0, none⟩) c0 ts, rK ks.length A1 c1 ks, rF fs.length A2 c2 fs] := ⟨_, rfl⟩
 rw [← hS] at h ⊢
 clear hS
 have M0 := hide h
 clear h
 have HT := hide hts
 clear hts
 go_enter Tryz.func64, Tryz.ntmps64
 go_wp2_with fail
 have M := M0.out.allocN 38 #[.int .i64 0, .int .i64 0]
 clear M0
 generalize w.alloc (.cells #[.int .i64 0, .int .i64 0] 38) = W1 at M ⊢
 have hB := between_any vv 0 9999 W1
 rw [hv] at hB
 refine Calls.mono (by with_reducible exact hB) ?_
 clear hB
 rintro r WB ⟨rfl, rfl⟩
 go_wp2_with fail
 go_call (giveUp_no 8 _) as r W ⟨rfl, rfl⟩
 go_wp2_with fail
 go_call (runNone_ok ts (some ⟨gr, 0, none⟩) A1 A2 c0 ks.length c1 fs.length c2 tn st wk g k _ ht (M.blk 1 rfl) (M.rowS 2 rfl) hr hk0) as r W2 ⟨rfl, g1⟩
 replace M := M.call g1
 clear g1
 obtain ⟨tY, Ag, Ah, Am, Ae, Ac, Ad, An, Af, Ai, Aj⟩ := M.f5 1 rfl
 have fz0 : W2.frozen? ⟨gr, k * 7, none⟩ = false := Own.fz (M.rowAt 2 rfl) _
 have fz2 : W2.frozen? ⟨gr, k * 7 + 2, none⟩ = false := Own.fz (M.rowAt 2 rfl) _
 have fz5 : W2.frozen? ⟨gr, k * 7 + 5, none⟩ = false := Own.fz (M.rowAt 2 rfl) _
 obtain ⟨s', l', o', wt', on', v', t', ht', y0, y1, y2, y3, y4, y5, y6⟩ := Own.t7 (M.rowAt 2 rfl) hkl
 go_wp2_with fail
 clear tY Ag Ah Am Ae Ac Ad An Af Ai Aj fz0 fz2 fz5 ht' y0 y1 y2 y3 y4 y5 y6
 have N : ∃ V, (((W2.setCell ⟨gr, k * 7, none⟩ (.int .i64 4)).setCell ⟨gr, k * 7 + 2, none⟩ (.int .i64 (-1))).setCell ⟨gr, k * 7 + 5, none⟩ (.int .i64 vv)) = V ∧ Sep S w V [.blk (w.heap.size) 38 #[.int .i64 0, .int .i64 0], .blk (g) 35 #[.slice (some ⟨gr, 0, none⟩) ts.length c0, .slice A1 ks.length c1, .slice A2 fs.length c2, .int .i64 tn, .bool st], rT ts.length (some ⟨gr, 0, none⟩) c0 (ts.set k ⟨4, l, -1, wt, on, vv, t⟩), rK ks.length A1 c1 ks, rF fs.length A2 c2 fs] := ⟨_, rfl, by have h2 := (M.putT2 2 rfl k 0 2 (by omega) (by omega) ⟨s, l, o1, wt, on, v, t⟩ 4 (-1) HT.out).putT 2 rfl k 5 (by omega) ⟨4, l, -1, wt, on, v, t⟩ vv (List.getElem?_set_self hkl); simp only [List.set_set] at h2; exact h2⟩
 clear M
 obtain ⟨W3, eW, M⟩ := N
 rw [eW]
 clear eW
 replace M := M.front 2 rfl
 simp only [List.eraseIdx_cons_succ, List.eraseIdx_cons_zero] at M
 replace M := M.front 2 rfl
 simp only [List.eraseIdx_cons_succ, List.eraseIdx_cons_zero] at M
 obtain ⟨us1, hus1⟩ : ∃ us1, us1 = ts.set k ⟨4, l, -1, wt, on, vv, t⟩ := ⟨_, rfl⟩
 rw [← hus1] at M ho
 have hl1 : us1.length = ts.length := by rw [hus1]; simp
 have hA := wakeAll_any us1 (some ⟨gr, 0, none⟩) A1 A2 c0 ks.length c1 fs.length c2 tn st g 1 k vv W3 (by omega) t0 t1 (by rw [hl1]; exact Sep.same (ps := [.blk (g) 35 #[.slice (some ⟨gr, 0, none⟩) ts.length c0, .slice A1 ks.length c1, .slice A2 fs.length c2, .int .i64 tn, .bool st], rT ts.length (some ⟨gr, 0, none⟩) c0 us1]) (rs := [.blk (w.heap.size) 38 #[.int .i64 0, .int .i64 0], rK ks.length A1 c1 ks, rF fs.length A2 c2 fs]) M (Below.refl _ _))
 rw [hl1] at hA
 refine Calls.mono (by with_reducible exact hA) ?_
 clear hA
 rintro r W4 ⟨us, tn', cnt, rfl, hul, g1, hR⟩
 replace M : Sep S w W4 [.blk (g) 35 #[.slice (some ⟨gr, 0, none⟩) ts.length c0, .slice A1 ks.length c1, .slice A2 fs.length c2, .int .i64 tn', .bool st], rT ts.length (some ⟨gr, 0, none⟩) c0 us, .blk (w.heap.size) 38 #[.int .i64 0, .int .i64 0], rK ks.length A1 c1 ks, rF fs.length A2 c2 fs] := Sep.comp (ps := [.blk (g) 35 #[.slice (some ⟨gr, 0, none⟩) ts.length c0, .slice A1 ks.length c1, .slice A2 fs.length c2, .int .i64 tn, .bool st], rT ts.length (some ⟨gr, 0, none⟩) c0 us1]) (rs := [.blk (w.heap.size) 38 #[.int .i64 0, .int .i64 0], rK ks.length A1 c1 ks, rF fs.length A2 c2 fs]) M g1
 clear g1
 have HR : Hid (us = wakeAllT (waitersM us1 1 k) us1 tn vv ∧ us1 = ts.set k ⟨4, l, -1, wt, on, vv, t⟩) := hide ⟨hR.elim (fun h => h.2.2.1) (fun h => by rw [ho] at h; cases h.1), hus1⟩
 obtain ⟨hcn, htn⟩ : cnt = ((waitersM us1 1 k).length : Int) ∧ tn' = tn + ((waitersM us1 1 k).length : Int) := hR.elim (fun h => ⟨h.2.1, h.2.2.2⟩) (fun h => by rw [ho] at h; cases h.1)
 clear hR hus1 ho
 obtain ⟨nL, hnL⟩ : ∃ nL, nL = (waitersM us1 1 k).length := ⟨_, rfl⟩
 rw [← hnL] at hcn htn
 subst hcn htn
 have HN := hide hnL
 clear hnL hul hl1
 have hne : ((nL : Int) == -1) = false := by rw [beq_eq_false_iff_ne]; omega
 go_wp2_with fail
 go_call (giveUp_no 4 _) as r W ⟨rfl, rfl⟩
 go_wp2_with fail
 go_call (okWith_any nL _) as r WO ⟨rfl, g1⟩
 replace M := M.call g1
 clear g1
 obtain ⟨tR, Ab, Ak, Aa, Al⟩ := M.f2 2 rfl
 go_wp2_with fail
 clear tR Ab Ak Aa Al
 have N := M.gset2 2 rfl (.int .i64 1) (.int .i64 nL)
 clear M
 obtain ⟨W5, eW, M⟩ := N
 rw [eW]
 clear eW
 simp only [List.set_cons_zero, List.set_cons_succ] at M
 replace M := M.front 4 rfl
 simp only [List.eraseIdx_cons_succ, List.eraseIdx_cons_zero] at M
 replace M := M.front 4 rfl
 simp only [List.eraseIdx_cons_succ, List.eraseIdx_cons_zero] at M
 replace M := M.front 3 rfl
 simp only [List.eraseIdx_cons_succ, List.eraseIdx_cons_zero] at M
 replace M := M.front 3 rfl
 simp only [List.eraseIdx_cons_succ, List.eraseIdx_cons_zero] at M
 obtain ⟨tR, Ab, Aa⟩ := M.q2 4 rfl
 have hfin : us = wakeAllT (waitersM (ts.set k ⟨4, l, -1, wt, on, vv, t⟩) 1 k) (ts.set k ⟨4, l, -1, wt, on, vv, t⟩) tn vv := by rw [← HR.out.2]; exact HR.out.1
 have hnn : nL = (waitersM (ts.set k ⟨4, l, -1, wt, on, vv, t⟩) 1 k).length := by rw [← HR.out.2]; exact HN.out
 exact bodyPost_ret (v := .agg #[.int .i64 1, .int .i64 nL]) (by simp [results, Tryz.results64, go_sem, Ab, Aa]) rfl (by rw [← hfin, ← hnn]; exact ⟨(some ⟨gr, 0, none⟩), A1, A2, c0, c1, c2, rfl, M.take 4⟩)
set_option maxRecDepth 100000
theorem Sep.enter6 {o1 o2 o3 o4 o5 o6 : Array Value} {t1 t2 t3 t4 t5 t6 : TypeId} (w : World) : Sep [] w ((((((w.alloc (.cells o1 t1)).alloc (.cells o2 t2)).alloc (.cells o3 t3)).alloc (.cells o4 t4)).alloc (.cells o5 t5)).alloc (.cells o6 t6)) [.blk (w.heap.size + 5) t6 o6, .blk (w.heap.size + 4) t5 o5, .blk (w.heap.size + 3) t4 o4, .blk (w.heap.size + 2) t3 o3, .blk (w.heap.size + 1) t2 o2, .blk w.heap.size t1 o1] :=
 (Sep.enter5 w).alloc t6 o6 _ (by simp)
set_option maxHeartbeats 400000 in
theorem endedC_yes (ts : List T7) (ks : List Int) (fs : List F2) (C0 C1 C2 : Option Addr) (e0 e1 e2 : Nat) (tn : Int) (st : Bool) (g : Nat) (wk : Int) (vv : Int) (bwk : Nat) (bvv : Nat) (o : OutP) (V : World) (h : Sep (fps [.blk g 35 #[.slice C0 ts.length e0, .slice C1 ks.length e1, .slice C2 fs.length e2, .int .i64 tn, .bool st], rT ts.length C0 e0 ts, rK ks.length C1 e1 ks, rF fs.length C2 e2 fs]) V V [.blk g 35 #[.slice C0 ts.length e0, .slice C1 ks.length e1, .slice C2 fs.length e2, .int .i64 tn, .bool st], rT ts.length C0 e0 ts, rK ks.length C1 e1 ks, rF fs.length C2 e2 fs]) (hwk : V.cell? ⟨bwk, 0, none⟩ = some (.int .i64 wk)) (lwk : bwk < V.heap.size) (hvv : V.cell? ⟨bvv, 0, none⟩ = some (.int .i64 vv)) (lvv : bvv < V.heap.size)
 (hb : ∀ V', Sep (fps [.blk g 35 #[.slice C0 ts.length e0, .slice C1 ks.length e1, .slice C2 fs.length e2, .int .i64 tn, .bool st], rT ts.length C0 e0 ts, rK ks.length C1 e1 ks, rF fs.length C2 e2 fs]) V' V' [.blk g 35 #[.slice C0 ts.length e0, .slice C1 ks.length e1, .slice C2 fs.length e2, .int .i64 tn, .bool st], rT ts.length C0 e0 ts, rK ks.length C1 e1 ks, rF fs.length C2 e2 fs] → Calls Tryz.prog 64 #[.pointer (some ⟨g, 0, none⟩), .int .i64 wk, .int .i64 vv] V' (fun r w' => ∃ (D0 D1 D2 : Option Addr) (f0 f1 f2 : Nat), r = .returned (.agg #[.int .i64 o.rp, .int .i64 o.ou]) ∧ Sep (fps [.blk g 35 #[.slice C0 ts.length e0, .slice C1 ks.length e1, .slice C2 fs.length e2, .int .i64 tn, .bool st], rT ts.length C0 e0 ts, rK ks.length C1 e1 ks, rF fs.length C2 e2 fs]) V' w' [.blk g 35 #[.slice D0 o.ts.length f0, .slice D1 o.ks.length f1, .slice D2 o.fs.length f2, .int .i64 o.tn, .bool o.st], rT o.ts.length D0 f0 o.ts, rK o.ks.length D1 f1 o.ks, rF o.fs.length D2 f2 o.fs])) :
 Calls Tryz.prog 63 (#[.pointer (some ⟨g, 0, none⟩)] ++ #[.pointer (some ⟨bwk, 0, none⟩), .pointer (some ⟨bvv, 0, none⟩)]) V (fun r w' => ∃ (D0 D1 D2 : Option Addr) (f0 f1 f2 : Nat), r = .returned (.agg #[.int .i64 o.rp, .int .i64 o.ou]) ∧ Sep (fps [.blk g 35 #[.slice C0 ts.length e0, .slice C1 ks.length e1, .slice C2 fs.length e2, .int .i64 tn, .bool st], rT ts.length C0 e0 ts, rK ks.length C1 e1 ks, rF fs.length C2 e2 fs]) V w' [.blk g 35 #[.slice D0 o.ts.length f0, .slice D1 o.ks.length f1, .slice D2 o.fs.length f2, .int .i64 o.tn, .bool o.st], rT o.ts.length D0 f0 o.ts, rK o.ks.length D1 f1 o.ks, rF o.fs.length D2 f2 o.fs]) := by
 have H := hide h
 clear h
 show Calls Tryz.prog 63 #[.pointer (some ⟨g, 0, none⟩), .pointer (some ⟨bwk, 0, none⟩), .pointer (some ⟨bvv, 0, none⟩)] V _
 go_enter Tryz.func63, Tryz.ntmps63
 go_wp2_with fail
 have M := (H.out.allocN 38 #[.int .i64 0, .int .i64 0]).rot
 generalize V.alloc (.cells #[.int .i64 0, .int .i64 0] 38) = W1 at M ⊢
 refine Calls.mono (by with_reducible exact (hb W1 (Sep.same M (Below.refl _ _)))) ?_
 rintro r W2 ⟨D0, D1, D2, f0, f1, f2, rfl, g1⟩
 have M2 := Sep.comp M g1
 clear M g1
 simp only [List.cons_append, List.nil_append] at M2
 obtain ⟨tR, Aa, Ah, Ab, Ad⟩ := M2.f2 4 rfl
 go_wp2_with fail
 have N := M2.gset2 4 rfl (.int .i64 o.rp) (.int .i64 o.ou)
 clear M2 Aa Ab Ah Ad tR
 obtain ⟨W3, eW, M⟩ := N
 rw [eW]
 clear eW
 simp only [List.set_cons_zero, List.set_cons_succ] at M
 obtain ⟨tR, Aa, Ab⟩ := M.q2 4 rfl
 exact bodyPost_ret (by simp [results, Tryz.results63, go_sem, Aa, Ab]) rfl ⟨D0, D1, D2, f0, f1, f2, rfl, M.take 4⟩
set_option maxHeartbeats 800000 in
theorem gEnded_face (a b c d e : Int) (ts : List T7) (ks : List Int) (fs : List F2) (A0 A1 A2 : Option Addr) (c0 c1 c2 : Nat) (tn : Int) (st : Bool) (wk : Int) (vv : Int) (w : World) (ht : ts.length ≤ 1048576) (hk : ks.length ≤ 1048576) (hf : fs.length ≤ 1048576) (h : InPool w ts ks fs A0 A1 A2) (o : OutP)
 (hL : ∀ (V : World) (bwk bvv : Nat), Below w.heap.size w V → V.cell? ⟨bwk, 0, none⟩ = some (.int .i64 wk) → bwk < V.heap.size → V.cell? ⟨bvv, 0, none⟩ = some (.int .i64 vv) → bvv < V.heap.size → Calls Tryz.prog 62 #[.agg #[.int .i64 a, .int .i64 b, .int .i64 c, .int .i64 d, .int .i64 e], .agg #[.slice A0 ts.length c0, .slice A1 ks.length c1, .slice A2 fs.length c2, .int .i64 tn, .bool st], .int .i64 wk, .func (.func 63) #[] #[.pointer (some ⟨bwk, 0, none⟩), .pointer (some ⟨bvv, 0, none⟩)]] V (GaveS [] V o)) :
 Calls Tryz.prog 21 #[.agg #[.int .i64 a, .int .i64 b, .int .i64 c, .int .i64 d, .int .i64 e], .agg #[.slice A0 ts.length c0, .slice A1 ks.length c1, .slice A2 fs.length c2, .int .i64 tn, .bool st], .int .i64 wk, .int .i64 vv] w (GaveS [] w o) := by
 have hmf : ∀ (fn : Fn) (first cap : Array Value) (w : World), (Instr.makeFunc fn first cap).run Tryz.prog w = .ok (.func fn first cap) w := fun _ _ _ _ => rfl
 have HL := hide hL
 have H := hide h
 clear h hL
 go_enter Tryz.func21, Tryz.ntmps21
 go_wp2_with fail
 have M : Sep [] w ((((((w.alloc (.cells #[.int .i64 a, .int .i64 b, .int .i64 c, .int .i64 d, .int .i64 e] 28)).alloc (.cells #[.slice A0 ts.length c0, .slice A1 ks.length c1, .slice A2 fs.length c2, .int .i64 tn, .bool st] 35)).alloc (.cells #[.int .i64 wk] 2)).alloc (.cells #[.int .i64 vv] 2)).alloc (.cells #[.slice none 0 0, .slice none 0 0, .slice none 0 0, .int .i64 0, .bool false] 35)).alloc (.cells #[.int .i64 0, .int .i64 0] 38)) [.blk (w.heap.size + 5) 38 #[.int .i64 0, .int .i64 0], .blk (w.heap.size + 4) 35 #[.slice none 0 0, .slice none 0 0, .slice none 0 0, .int .i64 0, .bool false], .blk (w.heap.size + 3) 2 #[.int .i64 vv], .blk (w.heap.size + 2) 2 #[.int .i64 wk], .blk (w.heap.size + 1) 35 #[.slice A0 ts.length c0, .slice A1 ks.length c1, .slice A2 fs.length c2, .int .i64 tn, .bool st], .blk (w.heap.size) 28 #[.int .i64 a, .int .i64 b, .int .i64 c, .int .i64 d, .int .i64 e]] := Sep.enter6 w
 generalize (((((w.alloc (.cells #[.int .i64 a, .int .i64 b, .int .i64 c, .int .i64 d, .int .i64 e] 28)).alloc (.cells #[.slice A0 ts.length c0, .slice A1 ks.length c1, .slice A2 fs.length c2, .int .i64 tn, .bool st] 35)).alloc (.cells #[.int .i64 wk] 2)).alloc (.cells #[.int .i64 vv] 2)).alloc (.cells #[.slice none 0 0, .slice none 0 0, .slice none 0 0, .int .i64 0, .bool false] 35)).alloc (.cells #[.int .i64 0, .int .i64 0] 38) = W1 at M ⊢
 obtain ⟨tS, Af, An, Ai, Aj⟩ := M.f2 0 rfl
 obtain ⟨tR, Aa, Ah, Ab, Ad, Ae, Ak, Ac, Al, Ag, Am⟩ := M.f5 1 rfl
 obtain ⟨tVvv, qVvv0, fVvv0⟩ := M.f1 2 rfl
 obtain ⟨tVwk, qVwk0, fVwk0⟩ := M.f1 3 rfl
 obtain ⟨tX, Bc, Ap, Ba, Av, Bd, Bg, As, Aq, Ar, Az⟩ := M.f5 4 rfl
 obtain ⟨tP, Ax, Be, Bf, At, Bb, Aw, Ao, Ay, Au, Bh⟩ := M.f5 5 rfl
 go_wp2_with fail
 have hC := HL.out _ (w.heap.size + 2) (w.heap.size + 3) M.below (M.cell 3 0 rfl) (M.lt 3 rfl) (M.cell 2 0 rfl) (M.lt 2 rfl)
 refine Calls.mono (by with_reducible exact hC) ?_
 clear hC
 rintro r W2 ⟨B0, B1, B2, d0, d1, d2, rfl, g1⟩
 clear tS Af An Ai Aj tR Aa Ah Ab Ad Ae Ak Ac Al Ag Am tVvv qVvv0 fVvv0 tVwk qVwk0 fVwk0 tX Bc Ap Ba Av Bd Bg As Aq Ar Az tP Ax Be Bf At Bb Aw Ao Ay Au Bh
 replace M := Sep.new M g1
 simp only [List.cons_append, List.nil_append] at M
 clear g1
 obtain ⟨tS, Af, An, Ai, Aj⟩ := M.f2 3 rfl
 obtain ⟨tR, Aa, Ah, Ab, Ad, Ae, Ak, Ac, Al, Ag, Am⟩ := M.f5 4 rfl
 go_wp2_with fail
 clear tS Af An Ai Aj tR Aa Ah Ab Ad Ae Ak Ac Al Ag Am
 have N := M.gset5 4 rfl (.slice B0 o.ts.length d0) (.slice B1 o.ks.length d1) (.slice B2 o.fs.length d2) (.int .i64 o.tn) (.bool o.st)
 clear M
 obtain ⟨W3, eW, M⟩ := N
 rw [eW]
 clear eW
 simp only [List.set_cons_zero, List.set_cons_succ] at M
 have N := M.gset2 3 rfl (.int .i64 o.rp) (.int .i64 o.ou)
 clear M
 obtain ⟨W4, eW, M⟩ := N
 rw [eW]
 clear eW
 simp only [List.set_cons_zero, List.set_cons_succ] at M
 obtain ⟨tS, Af, Ai⟩ := M.q2 3 rfl
 obtain ⟨tR, Aa, Ab, Ae, Ac, Ag⟩ := M.q5 4 rfl
 exact bodyPost_ret (by simp [results, Tryz.results21, go_sem, Aa, Ab, Ae, Ac, Ag, Af, Ai]) rfl ⟨B0, B1, B2, d0, d1, d2, rfl, M.take 3⟩
theorem mem_pick {q : Nat → Bool} {n k : Nat} (hk : k < n) (hq : q k = true) : k ∈ pick q n := by
 induction n with
 | zero => omega
 | succ n ih =>
  simp only [pick]
  by_cases h : k = n
  ·subst h; simp [hq]
  ·have h2 := ih (by omega)
   split
   ·exact List.mem_append_left _ h2
   ·exact h2
theorem mem_line {q : Nat → Bool} {P : Nat → Int → Bool} {n k : Nat} (hk : k < n) (hq : q k = true) : (k : Int) ∈ lineM q P n :=
 (lineM_perm q P n).mem_iff.2 (List.mem_map.2 ⟨k, mem_pick hk hq, rfl⟩)
theorem get_lt {α : Type} {ts : List α} {k : Nat} {x : α} (h : ts[k]? = some x) : k < ts.length := (List.getElem?_eq_some_iff.1 h).1
theorem mem_waiters {ts : List T7} {wt on : Int} {k : Nat} {x : T7} (h : ts[k]? = some x) (hs : x.s = 3) (hw : x.wt = wt) (ho : x.on = on) : (k : Int) ∈ waitersM ts wt on := by
 refine mem_line (get_lt h) ?_
 simp [waitQ, List.getD_eq_getElem?_getD, h, hs, hw, ho]
theorem mem_ready {ts : List T7} {k : Nat} {x : T7} (h : ts[k]? = some x) (hs : x.s = 1) : (k : Int) ∈ readyM ts := by
 refine mem_line (get_lt h) ?_
 simp [readyQ, List.getD_eq_getElem?_getD, h, hs]
theorem runM_at {ts : List T7} {wk : Int} {k : Nat} {x : T7} (i : Int) (hx : ts[k]? = some x) (hs : x.s = 2) (ho : x.o = wk) (h : ∀ (j : Nat) (u : T7), j < k → ts[j]? = some u → u.s = 2 → u.o ≠ wk) : runM ts wk i = i + k := by
 induction ts generalizing i k with
 | nil => simp at hx
 | cons t r ih =>
  simp only [runM]
  cases k with
  | zero =>
   simp at hx
   subst hx
   rw [if_pos ⟨hs, ho⟩]
   simp
  | succ k =>
   rw [if_neg (fun hh => h 0 t (by omega) rfl hh.1 hh.2)]
   rw [ih (i + 1) (by simpa using hx) (fun j u hj hu => h (j + 1) u (by omega) (by simpa using hu))]
   push_cast
   omega
/-- Two that run in a right pool have two owners. -/
theorem right_two {a b c d e : Int} {ts : List T7} {ks : List Int} {fs : List F2} {tn : Int} (h : poolB a b c d e ts ks fs tn = true) {i j : Nat} {x y : T7} (hx : ts[i]? = some x) (hy : ts[j]? = some y) (hij : i ≠ j) (hs : x.s = 2) (hs2 : y.s = 2) : x.o ≠ y.o := by
 have key : ∀ {i j : Nat} {x y : T7}, ts[i]? = some x → ts[j]? = some y → i < j → x.s = 2 → y.s = 2 → x.o ≠ y.o := fun {i j x y} hx hy hij hs hs2 e => by
  obtain ⟨_, _, _, _, _, _, _, _, g9, _⟩ := fit_parts (pool_fit h hy)
  simp only [soloTo, hs2, Bool.or_eq_true, List.all_eq_true] at g9
  rcases g9 with g9 | g9
  ·simp at g9
  ·have hm : x ∈ ts.take j := List.mem_of_getElem? (i := i) (by rw [List.getElem?_take_of_lt hij]; exact hx)
   have := g9 x hm
   simp [hs, e] at this
 rcases Nat.lt_or_ge i j with h1 | h1
 ·exact key hx hy h1 hs hs2
 ·exact fun e => key hy hx (by omega) hs2 hs e.symm
section
variable {a b c d e : Int} {ts : List T7} {ks : List Int} {fs : List F2} {tn : Int}
theorem parkP_right {m : Nat} {x : T7} {wt on : Int} (h : poolB a b c d e ts ks fs tn = true) (hx : ts[m]? = some x) (ht : tn < 1000000) (hw : waitB b d e 3 wt on = true) (hk : waitsOk ts.length m wt on = true) : poolB a b c d e (ts.set m (parkT x tn wt on)) ks fs (tn + 1) = true := by
 obtain ⟨h1, h2, h3, h4, h5, h6, h7, h8, h9, h10⟩ := fit_parts (pool_fit h hx)
 obtain ⟨hp, hb, _, hT⟩ := poolB_parts h
 refine poolB_turn h (by simp) (by omega) (tasksB_set hT (by omega) (by simp [parkT]) ?_)
 exact fit_mk hp (by simp [parkT, btw]) h3 (own_no (by simp [parkT])) hw h6 (btw_t hb.1 hb.2) (by simp only [parkT]; omega) (solo_no (by simp [parkT])) (by rw [List.length_set]; exact hk)
theorem own_free {s o : Int} (h : ownB a s o = true) (hs : s ≠ 2) : o = -1 := by
 simp only [ownB, if_neg hs, beq_iff_eq] at h
 exact h
theorem cancelP_right {k : Nat} {s l o wt on v t : Int} (h : poolB a b c d e ts ks fs tn = true) (hx : ts[k]? = some ⟨s, l, o, wt, on, v, t⟩) (hs : s ≠ 2) : poolB a b c d e (ts.set k ⟨5, l, o, 0, 0, v, t⟩) ks fs tn = true := by
 obtain ⟨h1, h2, h3, h4, h5, h6, h7, h8, h9, h10⟩ := fit_parts (pool_fit h hx)
 obtain ⟨hp, hb, _, hT⟩ := poolB_parts h
 simp only at h2 h3 h4 h5 h6 h7 h8 h9 h10
 obtain rfl := own_free h4 hs
 refine poolB_turn h (by simp) hb (tasksB_set hT (by omega) (by simp) ?_)
 exact fit_mk hp (by simp [btw]) h3 (own_no (by simp)) (wait_no (by simp)) h6 h7 h8 (solo_no (by simp)) waits_no
theorem pool_len {a b c d e : Int} {ts : List T7} {ks : List Int} {fs : List F2} {tn : Int} (h : poolB a b c d e ts ks fs tn = true) : (ts.length : Int) ≤ b ∧ (ks.length : Int) = d ∧ (fs.length : Int) = e := by
 simp only [poolB, Bool.and_eq_true, decide_eq_true_eq] at h
 exact ⟨h.2.2.1.1, h.2.2.2.1.2, h.2.2.2.2.2⟩
theorem task_nat {id : Int} {ts : List T7} (h : btw id 0 ((ts.length : Int) - 1) = true) : ∃ (k : Nat) (s l o wt on v t : Int), id = k ∧ k < ts.length ∧ ts[k]? = some ⟨s, l, o, wt, on, v, t⟩ := by
 simp [btw] at h
 obtain ⟨k, rfl⟩ := Int.eq_ofNat_of_zero_le h.1
 have hk : k < ts.length := by omega
 exact ⟨k, ts[k].s, ts[k].l, ts[k].o, ts[k].wt, ts[k].on, ts[k].v, ts[k].t, rfl, hk, by rw [List.getElem?_eq_getElem hk]⟩
end
theorem wakeAllT_mem {k : Nat} {v : Int} : ∀ (L : List Int) (ts : List T7) (tn : Int) (x : T7), (k : Int) ∈ L → L.Nodup → (∀ j ∈ L, 0 ≤ j) → ts[k]? = some x → ∃ t' : Int, (wakeAllT L ts tn v)[k]? = some ⟨1, x.l, x.o, 0, 0, v, t'⟩ := by
 intro L
 induction L with
 | nil => intro ts tn x h; cases h
 | cons j r ih =>
  intro ts tn x hm hn h0 hx
  obtain ⟨hn1, hn2⟩ := List.nodup_cons.1 hn
  have hj0 := h0 j (List.mem_cons_self ..)
  have hr0 : ∀ i ∈ r, 0 ≤ i := fun i hi => h0 i (List.mem_cons_of_mem _ hi)
  simp only [wakeAllT]
  by_cases e : j = (k : Int)
  ·subst e
   refine ⟨tn, ?_⟩
   rw [wakeAllT_other r _ _ _ k hn1 hr0, Int.toNat_natCast, List.getElem?_set_self (get_lt hx), taskAt_of hx]
   rfl
  ·have hkr : (k : Int) ∈ r := (List.mem_cons.1 hm).resolve_left (fun h => e h.symm)
   exact ih _ _ x hkr hn2 hr0 (by rw [List.getElem?_set_ne (by omega)]; exact hx)
theorem waiters_ge {ts : List T7} {wt on : Int} : ∀ j ∈ waitersM ts wt on, 0 ≤ j := fun j hj => by
 obtain ⟨k, x, rfl, _⟩ := waitersM_mem hj
 omega
/-- Who does not wait for that is as it was when all that wait are woken. -/
theorem wakeAllT_not {ts : List T7} {wt on tn v : Int} {k : Nat} {x : T7} (hx : ts[k]? = some x) (hs : x.s ≠ 3) : (wakeAllT (waitersM ts wt on) ts tn v)[k]? = some x := by
 rw [wakeAllT_other _ _ _ _ k (fun hm => ?_) waiters_ge]
 ·exact hx
 ·obtain ⟨k2, x2, e, _, hx2, hs2, _⟩ := waitersM_mem hm
  obtain rfl : k2 = k := by omega
  rw [hx] at hx2
  injection hx2 with hx2
  subst hx2
  exact hs hs2
theorem run_at {a b c d e : Int} {ts : List T7} {ks : List Int} {fs : List F2} {tn wk : Int} {k : Nat} {x : T7} (h : poolB a b c d e ts ks fs tn = true) (hx : ts[k]? = some x) (hs : x.s = 2) (ho : x.o = wk) : runM ts wk 0 = k := by
 have h1 := runM_at 0 hx hs ho (fun j u hj hu hs2 => by rw [← ho]; exact right_two h hu hx (by omega) hs2 hs)
 omega
theorem spawn_t (a b c d e : Int) (ts : List T7) (ks : List Int) (fs : List F2) (A0 A1 A2 : Option Addr) (c0 c1 c2 : Nat) (tn : Int) (st : Bool) (wk : Int) (lv : Int) (w : World) (hp : poolB a b c d e ts ks fs tn = true) (h : InPool w ts ks fs A0 A1 A2) : Calls Tryz.prog 16 #[.agg #[.int .i64 a, .int .i64 b, .int .i64 c, .int .i64 d, .int .i64 e], .agg #[.slice A0 ts.length c0, .slice A1 ks.length c1, .slice A2 fs.length c2, .int .i64 tn, .bool st], .int .i64 wk, .int .i64 lv] w fun r w' => ∃ (ts2 : List T7) (ks2 : List Int) (fs2 : List F2) (tn2 : Int) (st2 : Bool) (rp ou : Int) (B0 B1 B2 : Option Addr) (e0 e1 e2 : Nat), r = .returned (.tuple #[.agg #[.slice B0 ts2.length e0, .slice B1 ks2.length e1, .slice B2 fs2.length e2, .int .i64 tn2, .bool st2], .agg #[.int .i64 rp, .int .i64 ou]]) ∧ poolB a b c d e ts2 ks2 fs2 tn2 = true ∧ tn2 ≤ tn + 31 ∧ Sep [] w w' [rT ts2.length B0 e0 ts2, rK ks2.length B1 e1 ks2, rF fs2.length B2 e2 fs2] := by
 have hl := poolB_lens hp
 have hT := (poolB_parts hp).2.1
 have ht : (spawnM a b c d e ts ks fs tn st wk lv).tn ≤ tn + 31 := spawn_turn (m := tn + 31) wk lv (by omega) (by omega)
 exact (spawn_any a b c d e ts ks fs A0 A1 A2 c0 c1 c2 tn st wk lv w (by omega) (by omega) (by omega) h).mono fun r w' ⟨B0, B1, B2, d0, d1, d2, hr, hM⟩ => ⟨_, _, _, _, _, _, _, B0, B1, B2, d0, d1, d2, hr, spawn_right wk lv hp, ht, hM⟩
theorem take_t (a b c d e : Int) (ts : List T7) (ks : List Int) (fs : List F2) (A0 A1 A2 : Option Addr) (c0 c1 c2 : Nat) (tn : Int) (st : Bool) (wk : Int) (w : World) (hp : poolB a b c d e ts ks fs tn = true) (h : InPool w ts ks fs A0 A1 A2) : Calls Tryz.prog 17 #[.agg #[.int .i64 a, .int .i64 b, .int .i64 c, .int .i64 d, .int .i64 e], .agg #[.slice A0 ts.length c0, .slice A1 ks.length c1, .slice A2 fs.length c2, .int .i64 tn, .bool st], .int .i64 wk] w fun r w' => ∃ (ts2 : List T7) (ks2 : List Int) (fs2 : List F2) (tn2 : Int) (st2 : Bool) (rp ou : Int) (B0 B1 B2 : Option Addr) (e0 e1 e2 : Nat), r = .returned (.tuple #[.agg #[.slice B0 ts2.length e0, .slice B1 ks2.length e1, .slice B2 fs2.length e2, .int .i64 tn2, .bool st2], .agg #[.int .i64 rp, .int .i64 ou]]) ∧ poolB a b c d e ts2 ks2 fs2 tn2 = true ∧ tn2 ≤ tn + 31 ∧ Sep [] w w' [rT ts2.length B0 e0 ts2, rK ks2.length B1 e1 ks2, rF fs2.length B2 e2 fs2] := by
 have hl := poolB_lens hp
 have hT := (poolB_parts hp).2.1
 have ht : (takeM a b c d e ts ks fs tn st wk).tn ≤ tn + 31 := take_turn (m := tn + 31) wk (by omega) (by omega)
 exact (take_any a b c d e ts ks fs A0 A1 A2 c0 c1 c2 tn st wk w (by omega) (by omega) (by omega) h).mono fun r w' ⟨B0, B1, B2, d0, d1, d2, hr, hM⟩ => ⟨_, _, _, _, _, _, _, B0, B1, B2, d0, d1, d2, hr, take_right wk hp, ht, hM⟩
theorem gEnded_ok (a b c d e : Int) (ts : List T7) (ks : List Int) (fs : List F2) (tn : Int) (st : Bool) (wk vv : Int) (hl : ts.length + ks.length + fs.length ≤ 1048576) (hp : poolB a b c d e ts ks fs tn = true) (hw : btw wk 0 (a - 1) = true) (hv : btw vv 0 9999 = true) (k : Nat) (s l o1 wt on v t : Int) (hts : ts[k]? = some ⟨s, l, o1, wt, on, v, t⟩) (hr : runM ts wk 0 = k) (ho : okAll (waitersM (ts.set k ⟨4, l, -1, wt, on, vv, t⟩) 1 k) vv tn = true) :
 Hid (∀ (A0 A1 A2 : Option Addr) (c0 c1 c2 : Nat) (w : World), InPool w ts ks fs A0 A1 A2 → Calls Tryz.prog 21 #[.agg #[.int .i64 a, .int .i64 b, .int .i64 c, .int .i64 d, .int .i64 e], .agg #[.slice A0 ts.length c0, .slice A1 ks.length c1, .slice A2 fs.length c2, .int .i64 tn, .bool st], .int .i64 wk, .int .i64 vv] w (GaveA (wakeAllT (waitersM (ts.set k ⟨4, l, -1, wt, on, vv, t⟩) 1 k) (ts.set k ⟨4, l, -1, wt, on, vv, t⟩) tn vv) ks fs (tn + ((waitersM (ts.set k ⟨4, l, -1, wt, on, vv, t⟩) 1 k).length : Int)) st 1 ((waitersM (ts.set k ⟨4, l, -1, wt, on, vv, t⟩) 1 k).length : Int) w)) := by
 have ht : ts.length ≤ 1048576 := by omega
 have hk : ks.length ≤ 1048576 := by omega
 have hf : fs.length ≤ 1048576 := by omega
 have hT := (poolB_parts hp).2.1
 exact hide (fun A0 A1 A2 c0 c1 c2 w h => gEnded_face a b c d e ts ks fs A0 A1 A2 c0 c1 c2 tn st wk vv w ht hk hf h ⟨(wakeAllT (waitersM (ts.set k ⟨4, l, -1, wt, on, vv, t⟩) 1 k) (ts.set k ⟨4, l, -1, wt, on, vv, t⟩) tn vv), ks, fs, tn + ((waitersM (ts.set k ⟨4, l, -1, wt, on, vv, t⟩) 1 k).length : Int), st, 1, ((waitersM (ts.set k ⟨4, l, -1, wt, on, vv, t⟩) 1 k).length : Int)⟩ (fun V bwk bvv hV hwk lwk hvv lvv => lived_yes a b c d e ts ks fs A0 A1 A2 c0 c1 c2 tn st wk 63 #[.pointer (some ⟨bwk, 0, none⟩), .pointer (some ⟨bvv, 0, none⟩)] (Go.Proofs.enters_of Tryz.func63 (by kernel_rfl) rfl) V ht hk hf (h.below hV) hp hw _ (fun V2 g C0 C1 C2 e0 e1 e2 hV2 hM => endedC_yes ts ks fs C0 C1 C2 e0 e1 e2 tn st g wk vv bwk bvv _ V2 hM ((hV2.cell (p := ⟨bwk, 0, none⟩) lwk).trans hwk) (Nat.lt_of_lt_of_le lwk hV2.size) ((hV2.cell (p := ⟨bvv, 0, none⟩) lvv).trans hvv) (Nat.lt_of_lt_of_le lvv hV2.size) (fun V3 hM3 => by have h9 := end_ok ts ks fs C0 C1 C2 e0 e1 e2 tn st g wk vv V3 ht hk hf hM3 k s l o1 wt on v t hts hv hr hT.1 hT.2 ho; rw [show (wakeAllT (waitersM (ts.set k ⟨4, l, -1, wt, on, vv, t⟩) 1 k) (ts.set k ⟨4, l, -1, wt, on, vv, t⟩) tn vv).length = ts.length from (wakeAllT_length ..).trans List.length_set]; exact h9))))
/-- What FnJoin asks, in numbers: a waits for b; b ends; or a is cancelled. -/
def Joins (a b c d e : Int) (ts : List T7) (ks : List Int) (fs : List F2) (tn : Int) (ka kb : Nat) (x y : T7) : Prop :=
 poolB a b c d e ts ks fs tn = true ∧ ts[ka]? = some x ∧ ts[kb]? = some y ∧ x.s = 2 ∧ y.s = 2 ∧ x.o = 0 ∧ y.o = 1 ∧ ka ≠ kb ∧ runM ts 0 0 = ka ∧ runM ts 1 0 = kb
theorem joins_of {a b c d e : Int} {ts : List T7} {ks : List Int} {fs : List F2} {tn ra rb : Int} (h : poolB a b c d e ts ks fs tn = true) (ha : runM ts 0 0 = ra) (hb : runM ts 1 0 = rb) (h1 : ¬ ra < 0) (h2 : ¬ rb < 0) : ∃ (ka kb : Nat) (x y : T7), ra = ka ∧ rb = kb ∧ Joins a b c d e ts ks fs tn ka kb x y := by
 obtain ⟨ka, rfl⟩ : ∃ k : Nat, ra = k := ⟨ra.toNat, by omega⟩
 obtain ⟨kb, rfl⟩ : ∃ k : Nat, rb = k := ⟨rb.toNat, by omega⟩
 obtain ⟨x, hx, hs, ho⟩ := runM_runs (Int.le_refl 0) (show runM ts 0 0 = 0 + (ka : Int) by omega)
 obtain ⟨y, hy, hs2, ho2⟩ := runM_runs (Int.le_refl 0) (show runM ts 1 0 = 0 + (kb : Int) by omega)
 refine ⟨ka, kb, x, y, rfl, rfl, h, hx, hy, hs, hs2, ho, ho2, fun e => ?_, ha, hb⟩
 subst e
 rw [hx] at hy
 injection hy with hy
 subst hy
 omega
set_option maxHeartbeats 1000000 in
theorem open_any (s : Int) (w : World) :
 Calls Tryz.prog 172 #[.int .i64 s] w fun r w' => r = .returned (.bool (openB s)) ∧ Below w.heap.size w w' := by
 by_cases h1 : s = 1
 ·subst h1
  go_enter Tryz.func172, Tryz.ntmps172
  go_wp2
  go_ret
  exact ⟨rfl, Below.refl _ _⟩
 by_cases h2 : s = 2
 ·subst h2
  go_enter Tryz.func172, Tryz.ntmps172
  go_wp2
  go_ret
  exact ⟨rfl, Below.refl _ _⟩
 by_cases h3 : s = 3
 ·subst h3
  go_enter Tryz.func172, Tryz.ntmps172
  go_wp2
  go_ret
  exact ⟨rfl, Below.refl _ _⟩
 go_enter Tryz.func172, Tryz.ntmps172
 go_wp2
 go_ret
 exact ⟨ret_bool (by rw [show openB s = false by (unfold openB btw; simp; omega)]; simp [h1, h2, h3]), Below.refl _ _⟩
end Go.Proofs.YtfkdfkoigojciaaGreatDoor
