/- The cells of one task in a row, wherever the row lies. No condition. -/
import Derived.Shelf.Abstract
import Derived.Test.YtfjgelegojbmgaaGreatQFnLives01
import Derived.Test.YtfjgelegojbmgaaGreatQFnLives03
import Derived.Test.YtfjgelegojbmgaaGreatQFnLives06
import Derived.Test.YtfjgelegojbmgaaGreatQFnLives08
import Derived.Test.YtfjgelegojbmgaaGreatQB17
import Derived.Test.YtfjgelegojbmgaaGreatQFnLives05
import Derived.Test.YtfjgelegojbmgaaGreatQB04
import Derived.Test.YtfjgelegojbmgaaGreatQB05
import Derived.Test.YtfjgelegojbmgaaGreatQB11
import Derived.Test.YtfjgelegojbmgaaGreatQB08
import Derived.Test.YtfjgelegojbmgaaGreatQB09
import Derived.Test.YtfjgelegojbmgaaGreatQB02
import Derived.Test.YtfjgelegojbmgaaGreatQB41

namespace Go.Proofs.YtfjgelegojbmgaaGreat
open Go.RowKit
set_option linter.unusedVariables false
set_option maxRecDepth 100000
theorem Sep.enter6 {o1 o2 o3 o4 o5 o6 : Array Value} {t1 t2 t3 t4 t5 t6 : TypeId} (w : World) : Sep [] w ((((((w.alloc (.cells o1 t1)).alloc (.cells o2 t2)).alloc (.cells o3 t3)).alloc (.cells o4 t4)).alloc (.cells o5 t5)).alloc (.cells o6 t6)) [.blk (w.heap.size + 5) t6 o6, .blk (w.heap.size + 4) t5 o5, .blk (w.heap.size + 3) t4 o4, .blk (w.heap.size + 2) t3 o3, .blk (w.heap.size + 1) t2 o2, .blk w.heap.size t1 o1] :=
 (Sep.enter5 w).alloc t6 o6 _ (by simp)
set_option maxHeartbeats 400000 in
theorem endedC_no (ts : List T7) (ks : List Int) (fs : List F2) (C0 C1 C2 : Option Addr) (e0 e1 e2 : Nat) (tn : Int) (st : Bool) (g : Nat) (wk : Int) (vv : Int) (bwk : Nat) (bvv : Nat) (rp : Int) (V : World) (h : Sep (fps [.blk g 30 #[.slice C0 ts.length e0, .slice C1 ks.length e1, .slice C2 fs.length e2, .int .i64 tn, .bool st], rT ts.length C0 e0 ts, rK ks.length C1 e1 ks, rF fs.length C2 e2 fs]) V V [.blk g 30 #[.slice C0 ts.length e0, .slice C1 ks.length e1, .slice C2 fs.length e2, .int .i64 tn, .bool st], rT ts.length C0 e0 ts, rK ks.length C1 e1 ks, rF fs.length C2 e2 fs]) (hwk : V.cell? ⟨bwk, 0, none⟩ = some (.int .i64 wk)) (lwk : bwk < V.heap.size) (hvv : V.cell? ⟨bvv, 0, none⟩ = some (.int .i64 vv)) (lvv : bvv < V.heap.size)
 (hb : ∀ V', Sep (fps [.blk g 30 #[.slice C0 ts.length e0, .slice C1 ks.length e1, .slice C2 fs.length e2, .int .i64 tn, .bool st], rT ts.length C0 e0 ts, rK ks.length C1 e1 ks, rF fs.length C2 e2 fs]) V' V' [.blk g 30 #[.slice C0 ts.length e0, .slice C1 ks.length e1, .slice C2 fs.length e2, .int .i64 tn, .bool st], rT ts.length C0 e0 ts, rK ks.length C1 e1 ks, rF fs.length C2 e2 fs] → Calls Tryz.prog 84 #[.pointer (some ⟨g, 0, none⟩), .int .i64 wk, .int .i64 vv] V' (fun r w' => r = .panicked [{ v := .iface 128 (.int .i64 rp), recovered := false }] ∧ Sep (fps [.blk g 30 #[.slice C0 ts.length e0, .slice C1 ks.length e1, .slice C2 fs.length e2, .int .i64 tn, .bool st], rT ts.length C0 e0 ts, rK ks.length C1 e1 ks, rF fs.length C2 e2 fs]) V' w' [])) :
 Calls Tryz.prog 83 (#[.pointer (some ⟨g, 0, none⟩)] ++ #[.pointer (some ⟨bwk, 0, none⟩), .pointer (some ⟨bvv, 0, none⟩)]) V (fun r w' => r = .panicked [{ v := .iface 128 (.int .i64 rp), recovered := false }] ∧ Sep (fps [.blk g 30 #[.slice C0 ts.length e0, .slice C1 ks.length e1, .slice C2 fs.length e2, .int .i64 tn, .bool st], rT ts.length C0 e0 ts, rK ks.length C1 e1 ks, rF fs.length C2 e2 fs]) V w' []) := by
 have H := hide h
 clear h
 show Calls Tryz.prog 83 #[.pointer (some ⟨g, 0, none⟩), .pointer (some ⟨bwk, 0, none⟩), .pointer (some ⟨bvv, 0, none⟩)] V _
 go_enter Tryz.func83, Tryz.ntmps83
 go_wp2_with fail
 have M := (H.out.allocN 55 #[.int .i64 0, .int .i64 0]).rot
 generalize V.alloc (.cells #[.int .i64 0, .int .i64 0] 55) = W1 at M ⊢
 refine Calls.mono (by with_reducible exact (hb W1 (Sep.same M (Below.refl _ _)))) ?_
 rintro r W2 ⟨rfl, g1⟩
 have M2 := Sep.comp M g1
 clear M g1
 go_wp2_with fail
 exact ⟨rfl, rfl, M2.drop 1⟩
set_option maxHeartbeats 400000 in
theorem endedC_yes (ts : List T7) (ks : List Int) (fs : List F2) (C0 C1 C2 : Option Addr) (e0 e1 e2 : Nat) (tn : Int) (st : Bool) (g : Nat) (wk : Int) (vv : Int) (bwk : Nat) (bvv : Nat) (o : OutP) (V : World) (h : Sep (fps [.blk g 30 #[.slice C0 ts.length e0, .slice C1 ks.length e1, .slice C2 fs.length e2, .int .i64 tn, .bool st], rT ts.length C0 e0 ts, rK ks.length C1 e1 ks, rF fs.length C2 e2 fs]) V V [.blk g 30 #[.slice C0 ts.length e0, .slice C1 ks.length e1, .slice C2 fs.length e2, .int .i64 tn, .bool st], rT ts.length C0 e0 ts, rK ks.length C1 e1 ks, rF fs.length C2 e2 fs]) (hwk : V.cell? ⟨bwk, 0, none⟩ = some (.int .i64 wk)) (lwk : bwk < V.heap.size) (hvv : V.cell? ⟨bvv, 0, none⟩ = some (.int .i64 vv)) (lvv : bvv < V.heap.size)
 (hb : ∀ V', Sep (fps [.blk g 30 #[.slice C0 ts.length e0, .slice C1 ks.length e1, .slice C2 fs.length e2, .int .i64 tn, .bool st], rT ts.length C0 e0 ts, rK ks.length C1 e1 ks, rF fs.length C2 e2 fs]) V' V' [.blk g 30 #[.slice C0 ts.length e0, .slice C1 ks.length e1, .slice C2 fs.length e2, .int .i64 tn, .bool st], rT ts.length C0 e0 ts, rK ks.length C1 e1 ks, rF fs.length C2 e2 fs] → Calls Tryz.prog 84 #[.pointer (some ⟨g, 0, none⟩), .int .i64 wk, .int .i64 vv] V' (fun r w' => ∃ (D0 D1 D2 : Option Addr) (f0 f1 f2 : Nat), r = .returned (.agg #[.int .i64 o.rp, .int .i64 o.ou]) ∧ Sep (fps [.blk g 30 #[.slice C0 ts.length e0, .slice C1 ks.length e1, .slice C2 fs.length e2, .int .i64 tn, .bool st], rT ts.length C0 e0 ts, rK ks.length C1 e1 ks, rF fs.length C2 e2 fs]) V' w' [.blk g 30 #[.slice D0 o.ts.length f0, .slice D1 o.ks.length f1, .slice D2 o.fs.length f2, .int .i64 o.tn, .bool o.st], rT o.ts.length D0 f0 o.ts, rK o.ks.length D1 f1 o.ks, rF o.fs.length D2 f2 o.fs])) :
 Calls Tryz.prog 83 (#[.pointer (some ⟨g, 0, none⟩)] ++ #[.pointer (some ⟨bwk, 0, none⟩), .pointer (some ⟨bvv, 0, none⟩)]) V (fun r w' => ∃ (D0 D1 D2 : Option Addr) (f0 f1 f2 : Nat), r = .returned (.agg #[.int .i64 o.rp, .int .i64 o.ou]) ∧ Sep (fps [.blk g 30 #[.slice C0 ts.length e0, .slice C1 ks.length e1, .slice C2 fs.length e2, .int .i64 tn, .bool st], rT ts.length C0 e0 ts, rK ks.length C1 e1 ks, rF fs.length C2 e2 fs]) V w' [.blk g 30 #[.slice D0 o.ts.length f0, .slice D1 o.ks.length f1, .slice D2 o.fs.length f2, .int .i64 o.tn, .bool o.st], rT o.ts.length D0 f0 o.ts, rK o.ks.length D1 f1 o.ks, rF o.fs.length D2 f2 o.fs]) := by
 have H := hide h
 clear h
 show Calls Tryz.prog 83 #[.pointer (some ⟨g, 0, none⟩), .pointer (some ⟨bwk, 0, none⟩), .pointer (some ⟨bvv, 0, none⟩)] V _
 go_enter Tryz.func83, Tryz.ntmps83
 go_wp2_with fail
 have M := (H.out.allocN 55 #[.int .i64 0, .int .i64 0]).rot
 generalize V.alloc (.cells #[.int .i64 0, .int .i64 0] 55) = W1 at M ⊢
 refine Calls.mono (by with_reducible exact (hb W1 (Sep.same M (Below.refl _ _)))) ?_
 rintro r W2 ⟨D0, D1, D2, f0, f1, f2, rfl, g1⟩
 have M2 := Sep.comp M g1
 clear M g1
 simp only [List.cons_append, List.nil_append] at M2
 obtain ⟨tR, Ab, Ae, Aa, Ac⟩ := M2.f2 4 rfl
 go_wp2_with fail
 have N := M2.gset2 4 rfl (.int .i64 o.rp) (.int .i64 o.ou)
 clear M2 Ab Aa Ae Ac tR
 obtain ⟨W3, eW, M⟩ := N
 rw [eW]
 clear eW
 simp only [List.set_cons_zero, List.set_cons_succ] at M
 obtain ⟨tR, Ab, Aa⟩ := M.q2 4 rfl
 exact bodyPost_ret (by simp [results, Tryz.results83, go_sem, Ab, Aa]) rfl ⟨D0, D1, D2, f0, f1, f2, rfl, M.take 4⟩
set_option maxHeartbeats 800000 in
theorem gEnded_face (a b c d e : Int) (ts : List T7) (ks : List Int) (fs : List F2) (A0 A1 A2 : Option Addr) (c0 c1 c2 : Nat) (tn : Int) (st : Bool) (wk : Int) (vv : Int) (w : World) (ht : ts.length ≤ 1048576) (hk : ks.length ≤ 1048576) (hf : fs.length ≤ 1048576) (h : InPool w ts ks fs A0 A1 A2) (o : OutP)
 (hL : ∀ (V : World) (bwk bvv : Nat), Below w.heap.size w V → V.cell? ⟨bwk, 0, none⟩ = some (.int .i64 wk) → bwk < V.heap.size → V.cell? ⟨bvv, 0, none⟩ = some (.int .i64 vv) → bvv < V.heap.size → Calls Tryz.prog 68 #[.agg #[.int .i64 a, .int .i64 b, .int .i64 c, .int .i64 d, .int .i64 e], .agg #[.slice A0 ts.length c0, .slice A1 ks.length c1, .slice A2 fs.length c2, .int .i64 tn, .bool st], .int .i64 wk, .func (.func 83) #[] #[.pointer (some ⟨bwk, 0, none⟩), .pointer (some ⟨bvv, 0, none⟩)]] V (GaveS [] V o)) :
 Calls Tryz.prog 35 #[.agg #[.int .i64 a, .int .i64 b, .int .i64 c, .int .i64 d, .int .i64 e], .agg #[.slice A0 ts.length c0, .slice A1 ks.length c1, .slice A2 fs.length c2, .int .i64 tn, .bool st], .int .i64 wk, .int .i64 vv] w (GaveS [] w o) := by
 have hmf : ∀ (fn : Fn) (first cap : Array Value) (w : World), (Instr.makeFunc fn first cap).run Tryz.prog w = .ok (.func fn first cap) w := fun _ _ _ _ => rfl
 have HL := hide hL
 have H := hide h
 clear h hL
 go_enter Tryz.func35, Tryz.ntmps35
 go_wp2_with fail
 have M : Sep [] w ((((((w.alloc (.cells #[.int .i64 a, .int .i64 b, .int .i64 c, .int .i64 d, .int .i64 e] 25)).alloc (.cells #[.slice A0 ts.length c0, .slice A1 ks.length c1, .slice A2 fs.length c2, .int .i64 tn, .bool st] 30)).alloc (.cells #[.int .i64 wk] 2)).alloc (.cells #[.int .i64 vv] 2)).alloc (.cells #[.slice none 0 0, .slice none 0 0, .slice none 0 0, .int .i64 0, .bool false] 30)).alloc (.cells #[.int .i64 0, .int .i64 0] 55)) [.blk (w.heap.size + 5) 55 #[.int .i64 0, .int .i64 0], .blk (w.heap.size + 4) 30 #[.slice none 0 0, .slice none 0 0, .slice none 0 0, .int .i64 0, .bool false], .blk (w.heap.size + 3) 2 #[.int .i64 vv], .blk (w.heap.size + 2) 2 #[.int .i64 wk], .blk (w.heap.size + 1) 30 #[.slice A0 ts.length c0, .slice A1 ks.length c1, .slice A2 fs.length c2, .int .i64 tn, .bool st], .blk (w.heap.size) 25 #[.int .i64 a, .int .i64 b, .int .i64 c, .int .i64 d, .int .i64 e]] := Sep.enter6 w
 generalize (((((w.alloc (.cells #[.int .i64 a, .int .i64 b, .int .i64 c, .int .i64 d, .int .i64 e] 25)).alloc (.cells #[.slice A0 ts.length c0, .slice A1 ks.length c1, .slice A2 fs.length c2, .int .i64 tn, .bool st] 30)).alloc (.cells #[.int .i64 wk] 2)).alloc (.cells #[.int .i64 vv] 2)).alloc (.cells #[.slice none 0 0, .slice none 0 0, .slice none 0 0, .int .i64 0, .bool false] 30)).alloc (.cells #[.int .i64 0, .int .i64 0] 55) = W1 at M ⊢
 obtain ⟨tS, Ag, Am, Ah, An⟩ := M.f2 0 rfl
 obtain ⟨tR, Ab, Ae, Aa, Ac, Ai, Ak, Ad, Aj, Af, Al⟩ := M.f5 1 rfl
 obtain ⟨tVvv, qVvv0, fVvv0⟩ := M.f1 2 rfl
 obtain ⟨tVwk, qVwk0, fVwk0⟩ := M.f1 3 rfl
 obtain ⟨tX, Bh, Ap, Bg, Bc, Bd, At, Bf, As, Ao, Ax⟩ := M.f5 4 rfl
 obtain ⟨tP, Bb, Aq, Ar, Be, Au, Av, Aw, Ay, Az, Ba⟩ := M.f5 5 rfl
 go_wp2_with fail
 have hC := HL.out _ (w.heap.size + 2) (w.heap.size + 3) M.below (M.cell 3 0 rfl) (M.lt 3 rfl) (M.cell 2 0 rfl) (M.lt 2 rfl)
 refine Calls.mono (by with_reducible exact hC) ?_
 clear hC
 rintro r W2 ⟨B0, B1, B2, d0, d1, d2, rfl, g1⟩
 clear tS Ag Am Ah An tR Ab Ae Aa Ac Ai Ak Ad Aj Af Al tVvv qVvv0 fVvv0 tVwk qVwk0 fVwk0 tX Bh Ap Bg Bc Bd At Bf As Ao Ax tP Bb Aq Ar Be Au Av Aw Ay Az Ba
 replace M := Sep.new M g1
 simp only [List.cons_append, List.nil_append] at M
 clear g1
 obtain ⟨tS, Ag, Am, Ah, An⟩ := M.f2 3 rfl
 obtain ⟨tR, Ab, Ae, Aa, Ac, Ai, Ak, Ad, Aj, Af, Al⟩ := M.f5 4 rfl
 go_wp2_with fail
 clear tS Ag Am Ah An tR Ab Ae Aa Ac Ai Ak Ad Aj Af Al
 have N := M.gset5 4 rfl (.slice B0 o.ts.length d0) (.slice B1 o.ks.length d1) (.slice B2 o.fs.length d2) (.int .i64 o.tn) (.bool o.st)
 clear M
 obtain ⟨W3, eW, M⟩ := N
 rw [eW]
 clear eW
 simp only [List.set_cons_zero, List.set_cons_succ] at M
 have N := M.gset2 3 rfl (.int .i64 o.rp) (.int .i64 o.ou)
 clear M
 obtain ⟨W4, eW, M⟩ := N
 rw [eW]
 clear eW
 simp only [List.set_cons_zero, List.set_cons_succ] at M
 obtain ⟨tS, Ag, Ah⟩ := M.q2 3 rfl
 obtain ⟨tR, Ab, Aa, Ai, Ad, Af⟩ := M.q5 4 rfl
 exact bodyPost_ret (by simp [results, Tryz.results35, go_sem, Ab, Aa, Ai, Ad, Af, Ag, Ah]) rfl ⟨B0, B1, B2, d0, d1, d2, rfl, M.take 3⟩
theorem ended_told (a b c d e : Int) (ts : List T7) (ks : List Int) (fs : List F2) (tn : Int) (st : Bool) (wk : Int) (vv : Int) (hl : ts.length + ks.length + fs.length ≤ 1048576) :
 ∃ (us : List T7) (ks2 : List Int) (fs2 : List F2) (tn2 : Int) (st2 : Bool) (rp ou : Int), us.length + ks2.length + fs2.length ≤ 1048576 ∧
 ((rp = 1 → poolB a b c d e ts ks fs tn = true ∧ ∃ (k : Nat) (x : T7), runM ts wk 0 = k ∧ ts[k]? = some x ∧ x.s = 2 ∧ x.o = wk ∧ us = wakeAllT (waitersM (ts.set k ⟨4, x.l, -1, x.wt, x.on, vv, x.t⟩) 1 k) (ts.set k ⟨4, x.l, -1, x.wt, x.on, vv, x.t⟩) tn vv ∧ ou = ((waitersM (ts.set k ⟨4, x.l, -1, x.wt, x.on, vv, x.t⟩) 1 k).length : Int)) ∧ (rp ≠ 1 → poolB a b c d e ts ks fs tn = true → us = ts ∧ ks2 = ks ∧ fs2 = fs ∧ tn2 = tn ∧ st2 = st)) ∧
 Hid (∀ (A0 A1 A2 : Option Addr) (c0 c1 c2 : Nat) (w : World), InPool w ts ks fs A0 A1 A2 → Calls Tryz.prog 36 #[.agg #[.int .i64 a, .int .i64 b, .int .i64 c, .int .i64 d, .int .i64 e], .agg #[.slice A0 ts.length c0, .slice A1 ks.length c1, .slice A2 fs.length c2, .int .i64 tn, .bool st], .int .i64 wk, .int .i64 vv] w (GaveA us ks2 fs2 tn2 st2 rp ou w)) ∧
 Hid (∀ (A0 A1 A2 : Option Addr) (c0 c1 c2 : Nat) (w : World), InPool w ts ks fs A0 A1 A2 → Calls Tryz.prog 35 #[.agg #[.int .i64 a, .int .i64 b, .int .i64 c, .int .i64 d, .int .i64 e], .agg #[.slice A0 ts.length c0, .slice A1 ks.length c1, .slice A2 fs.length c2, .int .i64 tn, .bool st], .int .i64 wk, .int .i64 vv] w (GaveA us ks2 fs2 tn2 st2 rp ou w)) := by
 have ht : ts.length ≤ 1048576 := by omega
 have hk : ks.length ≤ 1048576 := by omega
 have hf : fs.length ≤ 1048576 := by omega
 cases hp : poolB a b c d e ts ks fs tn
 ·exact ⟨[], [], [], 0, false, 8, 0, by simp, ⟨(fun h => by omega), (fun _ h => by cases h)⟩, hide (fun A0 A1 A2 c0 c1 c2 w h => (ended_may a b c d e ts ks fs A0 A1 A2 c0 c1 c2 tn st wk vv w ht hk hf h _ rfl (by simp [mayB, hp])).mono (fun r w' hh => by rw [hp] at hh; exact hh)), hide (fun A0 A1 A2 c0 c1 c2 w h => gEnded_face a b c d e ts ks fs A0 A1 A2 c0 c1 c2 tn st wk vv w ht hk hf h ⟨[], [], [], 0, false, 8, 0⟩ (fun V bwk bvv hV hwk lwk hvv lvv => lived_bad a b c d e ts ks fs A0 A1 A2 c0 c1 c2 tn st wk 83 #[.pointer (some ⟨bwk, 0, none⟩), .pointer (some ⟨bvv, 0, none⟩)] (Go.Proofs.enters_of Tryz.func83 (by kernel_rfl) rfl) V ht hk hf (h.below hV) hp))⟩
 have hpl := (poolB_parts hp).1
 have hT := (poolB_parts hp).2.1
 cases hw : btw wk 0 (a - 1)
 ·exact ⟨ts, ks, fs, tn, st, 8, 0, hl, ⟨(fun h => by omega), fun _ _ => ⟨rfl, rfl, rfl, rfl, rfl⟩⟩, hide (fun A0 A1 A2 c0 c1 c2 w h => (ended_may a b c d e ts ks fs A0 A1 A2 c0 c1 c2 tn st wk vv w ht hk hf h _ rfl (by simp [mayB, workB, hp, hw])).mono (fun r w' hh => by rw [hp] at hh; exact hh)), hide (fun A0 A1 A2 c0 c1 c2 w h => gEnded_face a b c d e ts ks fs A0 A1 A2 c0 c1 c2 tn st wk vv w ht hk hf h ⟨ts, ks, fs, tn, st, 8, 0⟩ (fun V bwk bvv hV hwk lwk hvv lvv => lived_worker a b c d e ts ks fs A0 A1 A2 c0 c1 c2 tn st wk 83 #[.pointer (some ⟨bwk, 0, none⟩), .pointer (some ⟨bvv, 0, none⟩)] (Go.Proofs.enters_of Tryz.func83 (by kernel_rfl) rfl) V ht hk hf (h.below hV) hp hw))⟩
 have hm : mayB a b c d e ts ks fs tn wk = true := by simp [mayB, workB, hp, hw, hpl]
 cases hv : btw vv 0 9999
 ·exact ⟨ts, ks, fs, tn, st, 8, 0, hl, ⟨(fun h => by omega), fun _ _ => ⟨rfl, rfl, rfl, rfl, rfl⟩⟩, hide (fun A0 A1 A2 c0 c1 c2 w h => (ended_val a b c d e ts ks fs A0 A1 A2 c0 c1 c2 tn st wk vv w ht hk hf h _ rfl hm hv).mono (fun r w' hh => by rw [hp] at hh; exact hh)), hide (fun A0 A1 A2 c0 c1 c2 w h => gEnded_face a b c d e ts ks fs A0 A1 A2 c0 c1 c2 tn st wk vv w ht hk hf h ⟨ts, ks, fs, tn, st, 8, 0⟩ (fun V bwk bvv hV hwk lwk hvv lvv => lived_no a b c d e ts ks fs A0 A1 A2 c0 c1 c2 tn st wk 83 #[.pointer (some ⟨bwk, 0, none⟩), .pointer (some ⟨bvv, 0, none⟩)] (Go.Proofs.enters_of Tryz.func83 (by kernel_rfl) rfl) V ht hk hf (h.below hV) hp hw 8 (fun V2 g C0 C1 C2 e0 e1 e2 hV2 hM => endedC_no ts ks fs C0 C1 C2 e0 e1 e2 tn st g wk vv bwk bvv 8 V2 hM ((hV2.cell (p := ⟨bwk, 0, none⟩) lwk).trans hwk) (Nat.lt_of_lt_of_le lwk hV2.size) ((hV2.cell (p := ⟨bvv, 0, none⟩) lvv).trans hvv) (Nat.lt_of_lt_of_le lvv hV2.size) (fun V3 hM3 => end_val ts ks fs C0 C1 C2 e0 e1 e2 tn st g wk vv V3 ht hk hf hM3 hv))))⟩
 by_cases h0 : runM ts wk 0 < 0
 ·have hr := runM_none h0
  exact ⟨ts, ks, fs, tn, st, 2, 0, hl, ⟨(fun h => by omega), fun _ _ => ⟨rfl, rfl, rfl, rfl, rfl⟩⟩, hide (fun A0 A1 A2 c0 c1 c2 w h => (ended_none a b c d e ts ks fs A0 A1 A2 c0 c1 c2 tn st wk vv w ht hk hf h _ rfl h0 hm hv).mono (fun r w' hh => by rw [hp] at hh; exact hh)), hide (fun A0 A1 A2 c0 c1 c2 w h => gEnded_face a b c d e ts ks fs A0 A1 A2 c0 c1 c2 tn st wk vv w ht hk hf h ⟨ts, ks, fs, tn, st, 2, 0⟩ (fun V bwk bvv hV hwk lwk hvv lvv => lived_no a b c d e ts ks fs A0 A1 A2 c0 c1 c2 tn st wk 83 #[.pointer (some ⟨bwk, 0, none⟩), .pointer (some ⟨bvv, 0, none⟩)] (Go.Proofs.enters_of Tryz.func83 (by kernel_rfl) rfl) V ht hk hf (h.below hV) hp hw 2 (fun V2 g C0 C1 C2 e0 e1 e2 hV2 hM => endedC_no ts ks fs C0 C1 C2 e0 e1 e2 tn st g wk vv bwk bvv 2 V2 hM ((hV2.cell (p := ⟨bwk, 0, none⟩) lwk).trans hwk) (Nat.lt_of_lt_of_le lwk hV2.size) ((hV2.cell (p := ⟨bvv, 0, none⟩) lvv).trans hvv) (Nat.lt_of_lt_of_le lvv hV2.size) (fun V3 hM3 => end_none ts ks fs C0 C1 C2 e0 e1 e2 tn st g wk vv V3 ht hk hf hM3 hv hr))))⟩
 obtain ⟨k, hr⟩ : ∃ k : Nat, runM ts wk 0 = k := ⟨(runM ts wk 0).toNat, by omega⟩
 obtain ⟨⟨s, l, o1, wt, on, v, t⟩, hts, hs2, ho1⟩ := runM_runs (Int.le_refl 0) (show runM ts wk 0 = 0 + (k : Int) by omega)
 simp only at hs2 ho1
 have hz0 := wakeAll_ok (wt := 1) (on := k) hv (end_right (vv := vv) hp hts hs2 hv)
 cases ho : okAll (waitersM (ts.set k ⟨4, l, -1, wt, on, vv, t⟩) 1 k) vv tn
 ·have hz := hz0.trans ho
  exact ⟨ts, ks, fs, tn, st, 4, 0, hl, ⟨(fun h => by omega), fun _ _ => ⟨rfl, rfl, rfl, rfl, rfl⟩⟩, hide (fun A0 A1 A2 c0 c1 c2 w h => (ended_main a b c d e ts ks fs A0 A1 A2 c0 c1 c2 tn st wk vv w ht hk hf h k s l o1 wt on v t hts hr hm hv).mono (fun r w' hh => by rw [hz] at hh; exact hh)), hide (fun A0 A1 A2 c0 c1 c2 w h => gEnded_face a b c d e ts ks fs A0 A1 A2 c0 c1 c2 tn st wk vv w ht hk hf h ⟨ts, ks, fs, tn, st, 4, 0⟩ (fun V bwk bvv hV hwk lwk hvv lvv => lived_no a b c d e ts ks fs A0 A1 A2 c0 c1 c2 tn st wk 83 #[.pointer (some ⟨bwk, 0, none⟩), .pointer (some ⟨bvv, 0, none⟩)] (Go.Proofs.enters_of Tryz.func83 (by kernel_rfl) rfl) V ht hk hf (h.below hV) hp hw 4 (fun V2 g C0 C1 C2 e0 e1 e2 hV2 hM => endedC_no ts ks fs C0 C1 C2 e0 e1 e2 tn st g wk vv bwk bvv 4 V2 hM ((hV2.cell (p := ⟨bwk, 0, none⟩) lwk).trans hwk) (Nat.lt_of_lt_of_le lwk hV2.size) ((hV2.cell (p := ⟨bvv, 0, none⟩) lvv).trans hvv) (Nat.lt_of_lt_of_le lvv hV2.size) (fun V3 hM3 => end_full ts ks fs C0 C1 C2 e0 e1 e2 tn st g wk vv V3 ht hk hf hM3 k s l o1 wt on v t hts hv hr hT.1 hT.2 ho))))⟩
 ·have hz := hz0.trans ho
  exact ⟨(wakeAllT (waitersM (ts.set k ⟨4, l, -1, wt, on, vv, t⟩) 1 k) (ts.set k ⟨4, l, -1, wt, on, vv, t⟩) tn vv), ks, fs, tn + ((waitersM (ts.set k ⟨4, l, -1, wt, on, vv, t⟩) 1 k).length : Int), st, 1, ((waitersM (ts.set k ⟨4, l, -1, wt, on, vv, t⟩) 1 k).length : Int), by rw [wakeAllT_length, List.length_set]; exact hl, ⟨fun _ => ⟨rfl, k, ⟨s, l, o1, wt, on, v, t⟩, hr, hts, hs2, ho1, rfl, rfl⟩, fun h => absurd rfl h⟩, hide (fun A0 A1 A2 c0 c1 c2 w h => (ended_main a b c d e ts ks fs A0 A1 A2 c0 c1 c2 tn st wk vv w ht hk hf h k s l o1 wt on v t hts hr hm hv).mono (fun r w' hh => by rw [hz] at hh; exact hh)), hide (fun A0 A1 A2 c0 c1 c2 w h => gEnded_face a b c d e ts ks fs A0 A1 A2 c0 c1 c2 tn st wk vv w ht hk hf h ⟨(wakeAllT (waitersM (ts.set k ⟨4, l, -1, wt, on, vv, t⟩) 1 k) (ts.set k ⟨4, l, -1, wt, on, vv, t⟩) tn vv), ks, fs, tn + ((waitersM (ts.set k ⟨4, l, -1, wt, on, vv, t⟩) 1 k).length : Int), st, 1, ((waitersM (ts.set k ⟨4, l, -1, wt, on, vv, t⟩) 1 k).length : Int)⟩ (fun V bwk bvv hV hwk lwk hvv lvv => lived_yes a b c d e ts ks fs A0 A1 A2 c0 c1 c2 tn st wk 83 #[.pointer (some ⟨bwk, 0, none⟩), .pointer (some ⟨bvv, 0, none⟩)] (Go.Proofs.enters_of Tryz.func83 (by kernel_rfl) rfl) V ht hk hf (h.below hV) hp hw _ (fun V2 g C0 C1 C2 e0 e1 e2 hV2 hM => endedC_yes ts ks fs C0 C1 C2 e0 e1 e2 tn st g wk vv bwk bvv _ V2 hM ((hV2.cell (p := ⟨bwk, 0, none⟩) lwk).trans hwk) (Nat.lt_of_lt_of_le lwk hV2.size) ((hV2.cell (p := ⟨bvv, 0, none⟩) lvv).trans hvv) (Nat.lt_of_lt_of_le lvv hV2.size) (fun V3 hM3 => by have h9 := end_ok ts ks fs C0 C1 C2 e0 e1 e2 tn st g wk vv V3 ht hk hf hM3 k s l o1 wt on v t hts hv hr hT.1 hT.2 ho; rw [show (wakeAllT (waitersM (ts.set k ⟨4, l, -1, wt, on, vv, t⟩) 1 k) (ts.set k ⟨4, l, -1, wt, on, vv, t⟩) tn vv).length = ts.length from (wakeAllT_length ..).trans List.length_set]; exact h9))))⟩
theorem mem_pick {q : Nat → Bool} {n k : Nat} (hk : k < n) (hq : q k = true) : k ∈ pick q n := by
 induction n with
 | zero => omega
 | succ n ih =>
  simp only [pick]
  by_cases h : k = n
  ·subst h; simp [hq]
  ·have h2 := ih (by omega)
   split
   ·exact List.mem_append_left _ h2
   ·exact h2
theorem mem_line {q : Nat → Bool} {P : Nat → Int → Bool} {n k : Nat} (hk : k < n) (hq : q k = true) : (k : Int) ∈ lineM q P n :=
 (lineM_perm q P n).mem_iff.2 (List.mem_map.2 ⟨k, mem_pick hk hq, rfl⟩)
theorem get_lt {α : Type} {ts : List α} {k : Nat} {x : α} (h : ts[k]? = some x) : k < ts.length := (List.getElem?_eq_some_iff.1 h).1
theorem mem_ready {ts : List T7} {k : Nat} {x : T7} (h : ts[k]? = some x) (hs : x.s = 1) : (k : Int) ∈ readyM ts := by
 refine mem_line (get_lt h) ?_
 simp [readyQ, List.getD_eq_getElem?_getD, h, hs]
theorem runM_no {ts : List T7} {wk : Int} (i : Int) (h : ∀ u ∈ ts, u.s = 2 → u.o ≠ wk) : runM ts wk i = -1 := by
 induction ts generalizing i with
 | nil => rfl
 | cons t r ih =>
  simp only [runM]
  rw [if_neg (fun hh => h t (List.mem_cons_self ..) hh.1 hh.2)]
  exact ih (i + 1) (fun u hu => h u (List.mem_cons_of_mem _ hu))
/-- Two that run in a right pool have two owners. -/
theorem right_two {a b c d e : Int} {ts : List T7} {ks : List Int} {fs : List F2} {tn : Int} (h : poolB a b c d e ts ks fs tn = true) {i j : Nat} {x y : T7} (hx : ts[i]? = some x) (hy : ts[j]? = some y) (hij : i ≠ j) (hs : x.s = 2) (hs2 : y.s = 2) : x.o ≠ y.o := by
 have key : ∀ {i j : Nat} {x y : T7}, ts[i]? = some x → ts[j]? = some y → i < j → x.s = 2 → y.s = 2 → x.o ≠ y.o := fun {i j x y} hx hy hij hs hs2 e => by
  obtain ⟨_, _, _, _, _, _, _, _, g9, _⟩ := fit_parts (pool_fit h hy)
  simp only [soloTo, hs2, Bool.or_eq_true, List.all_eq_true] at g9
  rcases g9 with g9 | g9
  ·simp at g9
  ·have hm : x ∈ ts.take j := List.mem_of_getElem? (i := i) (by rw [List.getElem?_take_of_lt hij]; exact hx)
   have := g9 x hm
   simp [hs, e] at this
 rcases Nat.lt_or_ge i j with h1 | h1
 ·exact key hx hy h1 hs hs2
 ·exact fun e => key hy hx (by omega) hs2 hs e.symm
theorem wakeAll_get {k : Nat} {y : T7} {v : Int} : ∀ (L : List Int) (ts : List T7) (tn : Int), (wakeAllT L ts tn v)[k]? = some y → y.s = 1 ∨ ts[k]? = some y
 | [], ts, tn, h => .inr h
 | i :: r, ts, tn, h => by
  simp only [wakeAllT] at h
  rcases wakeAll_get r _ _ h with h1 | h1
  ·exact .inl h1
  ·by_cases e : i.toNat = k
   ·subst e
    have hlt : i.toNat < ts.length := by have := get_lt h1; rwa [List.length_set] at this
    rw [List.getElem?_set_self hlt] at h1
    injection h1 with h1
    subst h1
    exact .inl rfl
   ·rw [List.getElem?_set_ne e] at h1
    exact .inr h1
theorem waiters_pos {ts : List T7} {wt on : Int} : ∀ j ∈ waitersM ts wt on, 0 ≤ j := fun j hj => by
 obtain ⟨i, _, rfl, _⟩ := waitersM_mem hj
 omega
theorem ended_get {ts : List T7} {k : Nat} {x y : T7} {tn vv wt on : Int} (hx : ts[k]? = some x) (hy : y.s ≠ 3) : (wakeAllT (waitersM (ts.set k y) wt on) (ts.set k y) tn vv)[k]? = some y := by
 have hk : (ts.set k y)[k]? = some y := List.getElem?_set_self (get_lt hx)
 rw [wakeAllT_other _ _ _ _ k (fun hm => ?_) waiters_pos]
 ·exact hk
 ·obtain ⟨i, z, e, _, hz, hs, _⟩ := waitersM_mem hm
  obtain rfl : k = i := by omega
  rw [hk] at hz
  injection hz with hz
  subst hz
  exact hy hs
theorem ended_free {a b c d e : Int} {ts : List T7} {ks : List Int} {fs : List F2} {tn vv wt on tn' : Int} (h : poolB a b c d e ts ks fs tn = true) {k : Nat} {x y : T7} (hx : ts[k]? = some x) (hs : x.s = 2) (hy : y.s ≠ 2) :
 runM (wakeAllT (waitersM (ts.set k y) wt on) (ts.set k y) tn' vv) x.o 0 = -1 := by
 refine runM_no 0 fun u hu hu2 => ?_
 obtain ⟨j, hj, rfl⟩ := List.getElem_of_mem hu
 have hju := List.getElem?_eq_getElem hj
 generalize (wakeAllT (waitersM (ts.set k y) wt on) (ts.set k y) tn' vv)[j] = u at *
 rcases wakeAll_get _ _ _ hju with h1 | h1
 ·omega
 ·by_cases e : k = j
  ·subst e
   rw [List.getElem?_set_self (get_lt hx)] at h1
   injection h1 with h1
   subst h1
   exact absurd hu2 hy
  ·rw [List.getElem?_set_ne e] at h1
   exact fun e2 => right_two h h1 hx (by omega) hu2 hs e2
set_option maxRecDepth 100000 in
set_option maxHeartbeats 1000000 in
theorem likeInts_same (ks : List Int) (A B : Option Addr) (c d : Nat) (w : World) (hlen : ks.length ≤ 1048576) (h0 : Row w A (icells ks)) (h1 : Row w B (icells ks)) :
 Calls Tryz.prog 54 #[.slice A ks.length c, .slice B ks.length d] w fun r w' => r = .returned (.bool true) ∧ Below w.heap.size w w' := by
 have H0 := hide h0
 have H1 := hide h1
 clear h0 h1
 go_enter Tryz.func54, Tryz.ntmps54
 go_wp2
 go_loopw [5] (fun i wr => ∃ (k : Nat), k ≤ ks.length ∧ i = .int .i64 k ∧ Below w.heap.size w wr) (fun i _ => ks.length - (intOf i).toNat)
 case atStart => exact ⟨0, Nat.zero_le _, rfl, by go_grown⟩
 case round =>
  obtain ⟨k, hk, rfl, hbel⟩ := hrel
  have hz := hbel.size
  by_cases hlt : k < ks.length
  ·obtain ⟨b, off, v, rfl, _, hx, hb1, z0⟩ := (H0.out.below hbel).ks_at hlt
   obtain ⟨b2, off2, v', rfl, _, hx2, hb2, y0⟩ := (H1.out.below hbel).ks_at hlt
   rw [hx] at hx2
   injection hx2 with hx2
   subst hx2
   clear hx
   have c0 := KeptW.cell (W0 := wr) (b := b) (o := off + k) (z0)
   have e0 := KeptW.cell (W0 := wr) (b := b2) (o := off2 + k) (y0)
   clear z0 y0
   go_wp2_with fail
   have hx0 := KeptW.mk'_w (Below.refl wr.heap.size wr)
   generalize KeptW.mk' (Below.refl wr.heap.size wr) = x at hx0
   rw [← hx0]
   clear hx0
   refine region_kept (by kernel_rfl) (by kernel_rfl) ?_
   repeat (go_big_quiet_step (fail))
   refine wpQuiet_nil ?_
   rintro _ ⟨x, rfl⟩
   have hgx := hbel.trans (x.below.mono hz)
   go_wp2
   go_roundw
   case rel => exact ⟨k + 1, by omega, by go_num, hgx⟩
   case measure => simp [intOf]; omega
  ·go_wp2
   go_ret
   exact ⟨rfl, hbel⟩
set_option maxRecDepth 100000 in
set_option maxHeartbeats 1000000 in
theorem likePool_same (ts : List T7) (ks : List Int) (fs : List F2) (A0 A1 A2 B0 B1 B2 : Option Addr) (c0 c1 c2 d0 d1 d2 : Nat) (tn : Int) (st : Bool) (w : World) (hl : ts.length + ks.length + fs.length ≤ 1048576) (hA : InPool w ts ks fs A0 A1 A2) (hB : InPool w ts ks fs B0 B1 B2) :
 Calls Tryz.prog 14 #[.agg #[.slice A0 ts.length c0, .slice A1 ks.length c1, .slice A2 fs.length c2, .int .i64 tn, .bool st], .agg #[.slice B0 ts.length d0, .slice B1 ks.length d1, .slice B2 fs.length d2, .int .i64 tn, .bool st]] w fun r w' => r = .returned (.bool true) ∧ Below w.heap.size w w' := by
 have HA := hide hA
 have HB := hide hB
 clear hA hB
 go_enter Tryz.func14, Tryz.ntmps14
 go_wp2_with fail
 generalize hW : (w.alloc _).alloc _ = W1
 have M := Sep.e2 hW
 clear hW
 have HV := hide M.below
 obtain ⟨xb, hxb⟩ : ∃ xb, xb = w.heap.size := ⟨_, rfl⟩
 obtain ⟨yb, hyb⟩ : ∃ yb, yb = w.heap.size + 1 := ⟨_, rfl⟩
 rw [← hyb, ← hxb] at M ⊢
 obtain ⟨tX, Af, Ae, Ai, Ab, Ac⟩ := M.q5 1 rfl
 obtain ⟨tY, Ad, Aj, Aa, Ag, Ah⟩ := M.q5 0 rfl
 have HA2 := hide (InPool.below HA.out M.below)
 have HB2 := hide (InPool.below HB.out M.below)
 clear M HA HB hxb hyb tX tY
 have cX0 := fun (x : KeptW W1) => KeptW.cell Af x
 have cX1 := fun (x : KeptW W1) => KeptW.cell Ae x
 have cX2 := fun (x : KeptW W1) => KeptW.cell Ai x
 have cX3 := fun (x : KeptW W1) => KeptW.cell Ab x
 have cX4 := fun (x : KeptW W1) => KeptW.cell Ac x
 have cY0 := fun (x : KeptW W1) => KeptW.cell Ad x
 have cY1 := fun (x : KeptW W1) => KeptW.cell Aj x
 have cY2 := fun (x : KeptW W1) => KeptW.cell Aa x
 have cY3 := fun (x : KeptW W1) => KeptW.cell Ag x
 have cY4 := fun (x : KeptW W1) => KeptW.cell Ah x
 clear Af Ae Ai Ab Ac Ad Aj Aa Ag Ah
 have hx0 := KeptW.mk'_w (Below.refl W1.heap.size W1)
 generalize KeptW.mk' (Below.refl W1.heap.size W1) = x0 at hx0
 rw [← hx0]
 clear hx0
 go_wp2_with fail
 go_call (likeInts_same ks A1 B1 c1 d1 x0.w (by omega) (InPool.below HA2.out x0.below).2.1 (InPool.below HB2.out x0.below).2.1) as r Wq ⟨rfl, g3⟩
 obtain ⟨x1, rfl⟩ : ∃ y : KeptW W1, Wq = y.w := ⟨KeptW.mk' (x0.below.trans (g3.mono x0.below.size)), rfl⟩
 clear g3
 go_wp2_with fail
 go_loopw [5] (fun i wr => ∃ (k : Nat) (x : KeptW W1), k ≤ ts.length ∧ i = .int .i64 k ∧ wr = x.w) (fun i _ => ts.length - (intOf i).toNat)
 case atStart => exact ⟨0, x1, Nat.zero_le _, rfl, rfl⟩
 case round =>
  obtain ⟨k, x, hk, rfl, rfl⟩ := hrel
  by_cases hlt : k < ts.length
  ·obtain ⟨b, off, s, l, o, wt, on, v, t, eA, _, hx, hb1, z0, z1, z2, z3, z4, z5, z6⟩ := (InPool.below HA2.out x.below).1.ts_at hlt
   obtain ⟨b2, off2, s', l', o', wt', on', v', t', eB, _, hx2, hb2, y0, y1, y2, y3, y4, y5, y6⟩ := (InPool.below HB2.out x.below).1.ts_at hlt
   rw [hx] at hx2
   injection hx2 with hx2
   injection hx2 with u0 u1 u2 u3 u4 u5 u6
   subst u0 u1 u2 u3 u4 u5 u6 eA eB
   clear hx
   have e0 := KeptW.cell (W0 := x.w) (b := b) (o := off + k * 7) (z0)
   have f0 := KeptW.cell (W0 := x.w) (b := b2) (o := off2 + k * 7) (y0)
   have e1 := KeptW.cell (W0 := x.w) (b := b) (o := off + k * 7 + 1) (z1)
   have f1 := KeptW.cell (W0 := x.w) (b := b2) (o := off2 + k * 7 + 1) (y1)
   have e2 := KeptW.cell (W0 := x.w) (b := b) (o := off + k * 7 + 2) (z2)
   have f2 := KeptW.cell (W0 := x.w) (b := b2) (o := off2 + k * 7 + 2) (y2)
   have e3 := KeptW.cell (W0 := x.w) (b := b) (o := off + k * 7 + 3) (z3)
   have f3 := KeptW.cell (W0 := x.w) (b := b2) (o := off2 + k * 7 + 3) (y3)
   have e4 := KeptW.cell (W0 := x.w) (b := b) (o := off + k * 7 + 4) (z4)
   have f4 := KeptW.cell (W0 := x.w) (b := b2) (o := off2 + k * 7 + 4) (y4)
   have e5 := KeptW.cell (W0 := x.w) (b := b) (o := off + k * 7 + 5) (z5)
   have f5 := KeptW.cell (W0 := x.w) (b := b2) (o := off2 + k * 7 + 5) (y5)
   have e6 := KeptW.cell (W0 := x.w) (b := b) (o := off + k * 7 + 6) (z6)
   have f6 := KeptW.cell (W0 := x.w) (b := b2) (o := off2 + k * 7 + 6) (y6)
   clear z0 y0 z1 y1 z2 y2 z3 y3 z4 y4 z5 y5 z6 y6
   have dX0 := fun (y : KeptW x.w) => KeptW.cell (cX0 x) y
   have dX2 := fun (y : KeptW x.w) => KeptW.cell (cX2 x) y
   have dY0 := fun (y : KeptW x.w) => KeptW.cell (cY0 x) y
   have dY2 := fun (y : KeptW x.w) => KeptW.cell (cY2 x) y
   clear HA2 HB2
   go_wp2_with fail
   have hx0 := KeptW.mk'_w (Below.refl x.w.heap.size x.w)
   generalize KeptW.mk' (Below.refl x.w.heap.size x.w) = x2 at hx0
   rw [← hx0]
   clear hx0
   refine region_kept (by kernel_rfl) (by kernel_rfl) ?_
   repeat (go_big_quiet_step (fail))
   refine wpQuiet_nil ?_
   rintro _ ⟨x2, rfl⟩
   obtain ⟨y, hy⟩ : ∃ y : KeptW W1, x2.w = y.w := ⟨KeptW.mk' (x.below.trans (x2.below.mono x.below.size)), rfl⟩
   rw [hy]
   clear hy
   go_wp2
   go_roundw
   case rel => exact ⟨k + 1, y, by omega, by go_num, rfl⟩
   case measure => simp [intOf]; omega
  ·go_wp2_with fail
   go_loopw [6] (fun i wr => ∃ (k : Nat) (x : KeptW W1), k ≤ fs.length ∧ i = .int .i64 k ∧ wr = x.w) (fun i _ => fs.length - (intOf i).toNat)
   case atStart => exact ⟨0, x, Nat.zero_le _, rfl, rfl⟩
   case round =>
    clear hk hlt
    obtain ⟨k, x, hk, rfl, rfl⟩ := hrel
    by_cases hlt : k < fs.length
    ·obtain ⟨b, off, s, v, eA, _, hx, hb1, z0, z1⟩ := (InPool.below HA2.out x.below).2.2.fs_at hlt
     obtain ⟨b2, off2, s', v', eB, _, hx2, hb2, y0, y1⟩ := (InPool.below HB2.out x.below).2.2.fs_at hlt
     rw [hx] at hx2
     injection hx2 with hx2
     injection hx2 with u0 u1
     subst u0 u1 eA eB
     clear hx
     have e0 := KeptW.cell (W0 := x.w) (b := b) (o := off + k * 2) (z0)
     have f0 := KeptW.cell (W0 := x.w) (b := b2) (o := off2 + k * 2) (y0)
     have e1 := KeptW.cell (W0 := x.w) (b := b) (o := off + k * 2 + 1) (z1)
     have f1 := KeptW.cell (W0 := x.w) (b := b2) (o := off2 + k * 2 + 1) (y1)
     clear z0 y0 z1 y1
     have dX0 := fun (y : KeptW x.w) => KeptW.cell (cX0 x) y
     have dX2 := fun (y : KeptW x.w) => KeptW.cell (cX2 x) y
     have dY0 := fun (y : KeptW x.w) => KeptW.cell (cY0 x) y
     have dY2 := fun (y : KeptW x.w) => KeptW.cell (cY2 x) y
     clear HA2 HB2
     go_wp2_with fail
     have hx0 := KeptW.mk'_w (Below.refl x.w.heap.size x.w)
     generalize KeptW.mk' (Below.refl x.w.heap.size x.w) = x2 at hx0
     rw [← hx0]
     clear hx0
     refine region_kept (by kernel_rfl) (by kernel_rfl) ?_
     repeat (go_big_quiet_step (fail))
     refine wpQuiet_nil ?_
     rintro _ ⟨x2, rfl⟩
     obtain ⟨y, hy⟩ : ∃ y : KeptW W1, x2.w = y.w := ⟨KeptW.mk' (x.below.trans (x2.below.mono x.below.size)), rfl⟩
     rw [hy]
     clear hy
     go_wp2
     go_roundw
     case rel => exact ⟨k + 1, y, by omega, by go_num, rfl⟩
     case measure => simp [intOf]; omega
    ·go_wp2
     go_ret
     exact ⟨rfl, HV.out.trans (x.below.mono HV.out.size)⟩
theorem likePool_eq {us ts : List T7} {ks2 ks : List Int} {fs2 fs : List F2} {tn2 tn : Int} {st2 st : Bool} (e : us = ts ∧ ks2 = ks ∧ fs2 = fs ∧ tn2 = tn ∧ st2 = st) (A0 A1 A2 B0 B1 B2 : Option Addr) (c0 c1 c2 d0 d1 d2 : Nat) (w : World) (hl : us.length + ks2.length + fs2.length ≤ 1048576) (hA : InPool w us ks2 fs2 A0 A1 A2) (hB : InPool w ts ks fs B0 B1 B2) :
 Calls Tryz.prog 14 #[.agg #[.slice A0 us.length c0, .slice A1 ks2.length c1, .slice A2 fs2.length c2, .int .i64 tn2, .bool st2], .agg #[.slice B0 ts.length d0, .slice B1 ks.length d1, .slice B2 fs.length d2, .int .i64 tn, .bool st]] w fun r w' => r = .returned (.bool true) ∧ Below w.heap.size w w' := by
 obtain ⟨rfl, rfl, rfl, rfl, rfl⟩ := e
 exact likePool_same _ _ _ A0 A1 A2 B0 B1 B2 c0 c1 c2 d0 d1 d2 _ _ w hl hA hB
theorem sPoolOk_k {a b c d e : Int} {ts : List T7} {ks : List Int} {fs : List F2} {A0 A1 A2 : Option Addr} (c0 c1 c2 : Nat) {tn : Int} (st y : Bool) (w : World) (ht : ts.length ≤ 1048576) (hk : ks.length ≤ 1048576) (hf : fs.length ≤ 1048576) (h : InPool w ts ks fs A0 A1 A2) (hy : poolB a b c d e ts ks fs tn = y) :
 Calls Tryz.prog 16 #[.agg #[.int .i64 a, .int .i64 b, .int .i64 c, .int .i64 d, .int .i64 e], .agg #[.slice A0 ts.length c0, .slice A1 ks.length c1, .slice A2 fs.length c2, .int .i64 tn, .bool st]] w fun r w' => r = .returned (.bool y) ∧ Below w.heap.size w w' := by
 subst hy
 exact sPoolOk_any a b c d e ts ks fs A0 A1 A2 c0 c1 c2 tn st w ht hk hf h
theorem gRunBy_k {ts : List T7} {wk y : Int} (A0 A1 A2 : Option Addr) (c0 n1 c1 n2 c2 : Nat) (tn : Int) (st : Bool) (w : World) (hlen : ts.length ≤ 1048576) (h0 : Row w A0 (tcells ts)) (hy : runM ts wk 0 = y) :
 Calls Tryz.prog 22 #[.agg #[.slice A0 ts.length c0, .slice A1 n1 c1, .slice A2 n2 c2, .int .i64 tn, .bool st], .int .i64 wk] w fun r w' => r = .returned (.int .i64 y) ∧ Below w.heap.size w w' := by
 subst hy
 exact gRunBy_any ts A0 A1 A2 c0 n1 c1 n2 c2 tn st wk w hlen h0
theorem Row.cells7' {W : World} {ts : List T7} {A : Option Addr} {k : Nat} {s l o wt on v t : Int} (h : Row W A (tcells ts)) (hx : ts[k]? = some ⟨s, l, o, wt, on, v, t⟩) :
 ∃ (b off : Nat), A = some ⟨b, off, none⟩ ∧ W.cell? ⟨b, off + k * 7, none⟩ = some (.int .i64 s) ∧ W.cell? ⟨b, off + k * 7 + 1, none⟩ = some (.int .i64 l) ∧ W.cell? ⟨b, off + k * 7 + 2, none⟩ = some (.int .i64 o) ∧ W.cell? ⟨b, off + k * 7 + 3, none⟩ = some (.int .i64 wt) ∧
  W.cell? ⟨b, off + k * 7 + 4, none⟩ = some (.int .i64 on) ∧ W.cell? ⟨b, off + k * 7 + 5, none⟩ = some (.int .i64 v) ∧ W.cell? ⟨b, off + k * 7 + 6, none⟩ = some (.int .i64 t) := by
 obtain ⟨b, off, s', l', o', wt', on', v', t', e, _⟩ := h.ts_at (List.getElem?_eq_some_iff.1 hx).1
 subst e
 exact ⟨b, off, rfl, Row.cells7 h hx⟩
end Go.Proofs.YtfjgelegojbmgaaGreat
