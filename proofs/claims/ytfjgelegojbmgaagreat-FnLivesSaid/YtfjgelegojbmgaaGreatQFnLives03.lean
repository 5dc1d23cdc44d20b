/- A range over a function whose iterator works on blocks of its own: what lies from a mark on is kept by the body, what lies below it by the iterator. No condition. -/
import Derived.Test.YtfjgelegojbmgaaGreatQFnLives02
import Derived.Test.YtfjgelegojbmgaaGreatQB14
import Derived.Test.YtfjgelegojbmgaaGreatQB11
import Derived.Test.YtfjgelegojbmgaaGreatQB20
import Derived.Defers
import Derived.Recover
import Derived.Deep.DeepCutAuto
import Derived.Deep.CutRange
import Derived.RangeFuncNested
import Derived.RangeFuncBound
import Derived.RangeFuncCalls
import Derived.RangeFuncLeaves
import Derived.OwnWalkIn
import Derived.TacticsInMore
import Derived.LoopNIn
import Derived.LoopIn
import Derived.Test.YtfjgelegojbmgaaGreatQB05

namespace Go.Proofs.YtfjgelegojbmgaaGreat
open Go.RowKit
set_option linter.unusedVariables false
set_option maxRecDepth 100000
theorem wp_noPanic {P : Program} {c : Code} {K : Act → World → Prop} {Q : Exit → Act → World → Prop} {a : Act} {w : World} (h : c.wp P (Exit.then K (fun _ _ _ => False)) a w) : c.wp P (Exit.then K Q) a w :=
 wp_mono h fun e a w h => by cases e <;> first | exact h | exact h.elim
set_option maxHeartbeats 800000 in
theorem lived_bad (a b c d e : Int) (ts : List T7) (ks : List Int) (fs : List F2) (A0 A1 A2 : Option Addr) (c0 c1 c2 : Nat) (tn : Int) (st : Bool) (wk : Int) (G : FuncId) (cap : Array Value) (hG : ∀ args w, (callFunc G args).run Tryz.prog w = .ok (.enter G args) w) (w : World) (ht : ts.length ≤ 1048576) (hk : ks.length ≤ 1048576) (hf : fs.length ≤ 1048576) (h : InPool w ts ks fs A0 A1 A2) (hp : poolB a b c d e ts ks fs tn = false) :
 Calls Tryz.prog 68 #[.agg #[.int .i64 a, .int .i64 b, .int .i64 c, .int .i64 d, .int .i64 e], .agg #[.slice A0 ts.length c0, .slice A1 ks.length c1, .slice A2 fs.length c2, .int .i64 tn, .bool st], .int .i64 wk, .func (.func G) #[] cap] w (GaveS [] w ⟨[], [], [], 0, false, 8, 0⟩) := by
 have hmf : ∀ (fn : Fn) (first cap : Array Value) (w : World), (Instr.makeFunc fn first cap).run Tryz.prog w = .ok (.func fn first cap) w := fun _ _ _ _ => rfl
 have HY := hide (⟨hp, trivial⟩ : _ ∧ True)
 clear hp
 have H := hide h
 clear h
 go_enter_defers Tryz.func68, Tryz.ntmps68
 go_wp2_with fail
 generalize hW : (((w.alloc _).alloc _).alloc _).alloc _ = W1
 have M := Sep.e4 hW
 clear hW
 obtain ⟨tS, Aa, Ah, Ab, Ai⟩ := M.f2 0 rfl
 obtain ⟨tR, Af, Ak, Ac, Aj, Ag, Am, Ad, Al, Ae, An⟩ := M.f5 1 rfl
 obtain ⟨tX, Bh, Ap, Bg, Bc, Bd, At, Bf, As, Ao, Ax⟩ := M.f5 2 rfl
 obtain ⟨tP, Bb, Aq, Ar, Be, Au, Av, Aw, Ay, Az, Ba⟩ := M.f5 3 rfl
 go_wp2_with fail
 go_call (pright_v a b c d e ts ks fs A0 A1 A2 c0 c1 c2 tn st _ false HY.out.1 _ hk hf (M.blk 2 rfl) (H.out.below M.below)) as r W2 ⟨rfl, g1⟩
 clear tS Aa Ah Ab Ai tR Af Ak Ac Aj Ag Am Ad Al Ae An tX Bh Ap Bg Bc Bd At Bf As Ao Ax tP Bb Aq Ar Be Au Av Aw Ay Az Ba
 replace M := M.call g1
 clear g1
 obtain ⟨tS, Aa, Ah, Ab, Ai⟩ := M.f2 0 rfl
 obtain ⟨tR, Af, Ak, Ac, Aj, Ag, Am, Ad, Al, Ae, An⟩ := M.f5 1 rfl
 obtain ⟨tX, Bh, Ap, Bg, Bc, Bd, At, Bf, As, Ao, Ax⟩ := M.f5 2 rfl
 obtain ⟨tP, Bb, Aq, Ar, Be, Au, Av, Aw, Ay, Az, Ba⟩ := M.f5 3 rfl
 go_wp2_with fail
 clear tS Aa Ah Ab Ai tR Af Ak Ac Aj Ag Am Ad Al Ae An tX Bh Ap Bg Bc Bd At Bf As Ao Ax tP Bb Aq Ar Be Au Av Aw Ay Az Ba
 have N := M.gset5 1 rfl (.slice none 0 0) (.slice none 0 0) (.slice none 0 0) (.int .i64 0) (.bool false)
 clear M
 obtain ⟨W3, eW, M⟩ := N
 rw [eW]
 clear eW
 simp only [List.set_cons_zero, List.set_cons_succ] at M
 have N := M.gset2 0 rfl (.int .i64 8) (.int .i64 0)
 clear M
 obtain ⟨W4, eW, M⟩ := N
 rw [eW]
 clear eW
 simp only [List.set_cons_zero] at M
 obtain ⟨tS, Aa, Ab⟩ := M.q2 0 rfl
 obtain ⟨tR, Af, Ac, Ag, Ad, Ae⟩ := M.q5 1 rfl
 exact ⟨.tuple #[.agg #[.slice none 0 0, .slice none 0 0, .slice none 0 0, .int .i64 0, .bool false], .agg #[.int .i64 8, .int .i64 0]], by simp [results, Tryz.results68, go_sem, Af, Ac, Ag, Ad, Ae, Aa, Ab], none, none, none, 0, 0, 0, rfl, sep_zero M.below⟩
set_option maxHeartbeats 800000 in
theorem lived_worker (a b c d e : Int) (ts : List T7) (ks : List Int) (fs : List F2) (A0 A1 A2 : Option Addr) (c0 c1 c2 : Nat) (tn : Int) (st : Bool) (wk : Int) (G : FuncId) (cap : Array Value) (hG : ∀ args w, (callFunc G args).run Tryz.prog w = .ok (.enter G args) w) (w : World) (ht : ts.length ≤ 1048576) (hk : ks.length ≤ 1048576) (hf : fs.length ≤ 1048576) (h : InPool w ts ks fs A0 A1 A2) (hp : poolB a b c d e ts ks fs tn = true) (hw : btw wk 0 (a - 1) = false) :
 Calls Tryz.prog 68 #[.agg #[.int .i64 a, .int .i64 b, .int .i64 c, .int .i64 d, .int .i64 e], .agg #[.slice A0 ts.length c0, .slice A1 ks.length c1, .slice A2 fs.length c2, .int .i64 tn, .bool st], .int .i64 wk, .func (.func G) #[] cap] w (GaveS [] w ⟨ts, ks, fs, tn, st, 8, 0⟩) := by
 have hmf : ∀ (fn : Fn) (first cap : Array Value) (w : World), (Instr.makeFunc fn first cap).run Tryz.prog w = .ok (.func fn first cap) w := fun _ _ _ _ => rfl
 have hpl : 1 ≤ a ∧ a ≤ 30 := by
  have h1 := (poolB_parts hp).1
  simp [planB, btw] at h1
  omega
 obtain ⟨pl1, pl2⟩ := hpl
 have HY := hide (⟨hp, hw, trivial⟩ : _ ∧ _ ∧ True)
 clear hp hw
 have H := hide h
 clear h
 go_enter_defers Tryz.func68, Tryz.ntmps68
 go_wp2_with fail
 generalize hW : (((w.alloc _).alloc _).alloc _).alloc _ = W1
 have M := Sep.e4 hW
 clear hW
 obtain ⟨tS, Aa, Ah, Ab, Ai⟩ := M.f2 0 rfl
 obtain ⟨tR, Af, Ak, Ac, Aj, Ag, Am, Ad, Al, Ae, An⟩ := M.f5 1 rfl
 obtain ⟨tX, Bh, Ap, Bg, Bc, Bd, At, Bf, As, Ao, Ax⟩ := M.f5 2 rfl
 obtain ⟨tP, Bb, Aq, Ar, Be, Au, Av, Aw, Ay, Az, Ba⟩ := M.f5 3 rfl
 go_wp2_with fail
 go_call (pright_v a b c d e ts ks fs A0 A1 A2 c0 c1 c2 tn st _ true HY.out.1 _ hk hf (M.blk 2 rfl) (H.out.below M.below)) as r W2 ⟨rfl, g1⟩
 clear tS Aa Ah Ab Ai tR Af Ak Ac Aj Ag Am Ad Al Ae An tX Bh Ap Bg Bc Bd At Bf As Ao Ax tP Bb Aq Ar Be Au Av Aw Ay Az Ba
 replace M := M.call g1
 clear g1
 obtain ⟨tS, Aa, Ah, Ab, Ai⟩ := M.f2 0 rfl
 obtain ⟨tR, Af, Ak, Ac, Aj, Ag, Am, Ad, Al, Ae, An⟩ := M.f5 1 rfl
 obtain ⟨tX, Bh, Ap, Bg, Bc, Bd, At, Bf, As, Ao, Ax⟩ := M.f5 2 rfl
 obtain ⟨tP, Bb, Aq, Ar, Be, Au, Av, Aw, Ay, Az, Ba⟩ := M.f5 3 rfl
 go_wp2_with fail
 have hW := hasWorker_any a b c d e wk W2 pl1 pl2
 rw [HY.out.2.1] at hW
 refine Calls.mono (by with_reducible exact hW) ?_
 clear hW
 rintro r W3 ⟨rfl, g1⟩
 clear tS Aa Ah Ab Ai tR Af Ak Ac Aj Ag Am Ad Al Ae An tX Bh Ap Bg Bc Bd At Bf As Ao Ax tP Bb Aq Ar Be Au Av Aw Ay Az Ba
 replace M := M.call g1
 clear g1
 obtain ⟨tS, Aa, Ah, Ab, Ai⟩ := M.f2 0 rfl
 obtain ⟨tR, Af, Ak, Ac, Aj, Ag, Am, Ad, Al, Ae, An⟩ := M.f5 1 rfl
 obtain ⟨tX, Bh, Ap, Bg, Bc, Bd, At, Bf, As, Ao, Ax⟩ := M.f5 2 rfl
 obtain ⟨tP, Bb, Aq, Ar, Be, Au, Av, Aw, Ay, Az, Ba⟩ := M.f5 3 rfl
 go_wp2_with fail
 go_call (giveUp_yes 8 _) as r W ⟨rfl, rfl⟩
 clear tS Aa Ah Ab Ai tR Af Ak Ac Aj Ag Am Ad Al Ae An tX Bh Ap Bg Bc Bd At Bf As Ao Ax tP Bb Aq Ar Be Au Av Aw Ay Az Ba
 go_wp2_with fail
 replace M := M.front 1 rfl
 simp only [List.eraseIdx_cons_succ, List.eraseIdx_cons_zero] at M
 refine leaves_cons (f := 109) (args := #[.pointer (some ⟨w.heap.size + 1, 0, none⟩), .pointer (some ⟨w.heap.size + 2, 0, none⟩), .pointer (some ⟨w.heap.size + 3, 0, none⟩)]) (by simp) (by simp [go_sem]) ?_
 refine (catch_panic ts ks fs A0 A1 A2 c0 c1 c2 tn st _ _ _ 8 [] _ ht hk hf (M.blk 2 rfl) (H.out.below M.below) (Sep.same (ps := [.blk (w.heap.size + 2) 30 #[.slice none 0 0, .slice none 0 0, .slice none 0 0, .int .i64 0, .bool false], .blk (w.heap.size + 3) 55 #[.int .i64 0, .int .i64 0]]) (rs := [.blk (w.heap.size + 1) 30 #[.slice A0 ts.length c0, .slice A1 ks.length c1, .slice A2 fs.length c2, .int .i64 tn, .bool st], .blk (w.heap.size) 25 #[.int .i64 a, .int .i64 b, .int .i64 c, .int .i64 d, .int .i64 e]]) M (Below.refl _ _))).mono ?_
 rintro r u W4 ⟨rfl, rfl, B0, B1, B2, d0, d1, d2, g1⟩
 replace M : Sep [] w W4 [rT ts.length B0 d0 ts, rK ks.length B1 d1 ks, rF fs.length B2 d2 fs, .blk (w.heap.size + 2) 30 #[.slice B0 ts.length d0, .slice B1 ks.length d1, .slice B2 fs.length d2, .int .i64 tn, .bool st], .blk (w.heap.size + 3) 55 #[.int .i64 8, .int .i64 0], .blk (w.heap.size + 1) 30 #[.slice A0 ts.length c0, .slice A1 ks.length c1, .slice A2 fs.length c2, .int .i64 tn, .bool st], .blk (w.heap.size) 25 #[.int .i64 a, .int .i64 b, .int .i64 c, .int .i64 d, .int .i64 e]] := Sep.comp (ps := [.blk (w.heap.size + 2) 30 #[.slice none 0 0, .slice none 0 0, .slice none 0 0, .int .i64 0, .bool false], .blk (w.heap.size + 3) 55 #[.int .i64 0, .int .i64 0]]) (rs := [.blk (w.heap.size + 1) 30 #[.slice A0 ts.length c0, .slice A1 ks.length c1, .slice A2 fs.length c2, .int .i64 tn, .bool st], .blk (w.heap.size) 25 #[.int .i64 a, .int .i64 b, .int .i64 c, .int .i64 d, .int .i64 e]]) M g1
 clear g1
 obtain ⟨tR, Af, Ac, Ag, Ad, Ae⟩ := M.q5 3 rfl
 obtain ⟨tS, Aa, Ab⟩ := M.q2 4 rfl
 exact ⟨.tuple #[.agg #[.slice B0 ts.length d0, .slice B1 ks.length d1, .slice B2 fs.length d2, .int .i64 tn, .bool st], .agg #[.int .i64 8, .int .i64 0]], by simp [results, Tryz.results68, go_sem, Af, Ac, Ag, Ad, Ae, Aa, Ab], B0, B1, B2, d0, d1, d2, rfl, M.take 3⟩
set_option maxHeartbeats 800000 in
theorem lived_no (a b c d e : Int) (ts : List T7) (ks : List Int) (fs : List F2) (A0 A1 A2 : Option Addr) (c0 c1 c2 : Nat) (tn : Int) (st : Bool) (wk : Int) (G : FuncId) (cap : Array Value) (hG : ∀ args w, (callFunc G args).run Tryz.prog w = .ok (.enter G args) w) (w : World) (ht : ts.length ≤ 1048576) (hk : ks.length ≤ 1048576) (hf : fs.length ≤ 1048576) (h : InPool w ts ks fs A0 A1 A2) (hp : poolB a b c d e ts ks fs tn = true) (hw : btw wk 0 (a - 1) = true) (rp : Int) (hL : ∀ (V : World) (g : Nat) (C0 C1 C2 : Option Addr) (e0 e1 e2 : Nat), Below w.heap.size w V → Sep (fps [.blk g 30 #[.slice C0 ts.length e0, .slice C1 ks.length e1, .slice C2 fs.length e2, .int .i64 tn, .bool st], rT ts.length C0 e0 ts, rK ks.length C1 e1 ks, rF fs.length C2 e2 fs]) V V [.blk g 30 #[.slice C0 ts.length e0, .slice C1 ks.length e1, .slice C2 fs.length e2, .int .i64 tn, .bool st], rT ts.length C0 e0 ts, rK ks.length C1 e1 ks, rF fs.length C2 e2 fs] → Calls Tryz.prog G (#[.pointer (some ⟨g, 0, none⟩)] ++ cap) V (fun r w' => r = .panicked [{ v := .iface 128 (.int .i64 rp), recovered := false }] ∧ Sep (fps [.blk g 30 #[.slice C0 ts.length e0, .slice C1 ks.length e1, .slice C2 fs.length e2, .int .i64 tn, .bool st], rT ts.length C0 e0 ts, rK ks.length C1 e1 ks, rF fs.length C2 e2 fs]) V w' [])) :
 Calls Tryz.prog 68 #[.agg #[.int .i64 a, .int .i64 b, .int .i64 c, .int .i64 d, .int .i64 e], .agg #[.slice A0 ts.length c0, .slice A1 ks.length c1, .slice A2 fs.length c2, .int .i64 tn, .bool st], .int .i64 wk, .func (.func G) #[] cap] w (GaveS [] w ⟨ts, ks, fs, tn, st, rp, 0⟩) := by
 have hmf : ∀ (fn : Fn) (first cap : Array Value) (w : World), (Instr.makeFunc fn first cap).run Tryz.prog w = .ok (.func fn first cap) w := fun _ _ _ _ => rfl
 have hpl : 1 ≤ a ∧ a ≤ 30 := by
  have h1 := (poolB_parts hp).1
  simp [planB, btw] at h1
  omega
 obtain ⟨pl1, pl2⟩ := hpl
 have HL := hide hL
 clear hL
 have HY := hide (⟨hp, hw, trivial⟩ : _ ∧ _ ∧ True)
 clear hp hw
 have H := hide h
 clear h
 go_enter_defers Tryz.func68, Tryz.ntmps68
 go_wp2_with fail
 generalize hW : (((w.alloc _).alloc _).alloc _).alloc _ = W1
 have M := Sep.e4 hW
 clear hW
 obtain ⟨tS, Aa, Ah, Ab, Ai⟩ := M.f2 0 rfl
 obtain ⟨tR, Af, Ak, Ac, Aj, Ag, Am, Ad, Al, Ae, An⟩ := M.f5 1 rfl
 obtain ⟨tX, Bh, Ap, Bg, Bc, Bd, At, Bf, As, Ao, Ax⟩ := M.f5 2 rfl
 obtain ⟨tP, Bb, Aq, Ar, Be, Au, Av, Aw, Ay, Az, Ba⟩ := M.f5 3 rfl
 go_wp2_with fail
 go_call (pright_v a b c d e ts ks fs A0 A1 A2 c0 c1 c2 tn st _ true HY.out.1 _ hk hf (M.blk 2 rfl) (H.out.below M.below)) as r W2 ⟨rfl, g1⟩
 clear tS Aa Ah Ab Ai tR Af Ak Ac Aj Ag Am Ad Al Ae An tX Bh Ap Bg Bc Bd At Bf As Ao Ax tP Bb Aq Ar Be Au Av Aw Ay Az Ba
 replace M := M.call g1
 clear g1
 obtain ⟨tS, Aa, Ah, Ab, Ai⟩ := M.f2 0 rfl
 obtain ⟨tR, Af, Ak, Ac, Aj, Ag, Am, Ad, Al, Ae, An⟩ := M.f5 1 rfl
 obtain ⟨tX, Bh, Ap, Bg, Bc, Bd, At, Bf, As, Ao, Ax⟩ := M.f5 2 rfl
 obtain ⟨tP, Bb, Aq, Ar, Be, Au, Av, Aw, Ay, Az, Ba⟩ := M.f5 3 rfl
 go_wp2_with fail
 have hW := hasWorker_any a b c d e wk W2 pl1 pl2
 rw [HY.out.2.1] at hW
 refine Calls.mono (by with_reducible exact hW) ?_
 clear hW
 rintro r W3 ⟨rfl, g1⟩
 clear tS Aa Ah Ab Ai tR Af Ak Ac Aj Ag Am Ad Al Ae An tX Bh Ap Bg Bc Bd At Bf As Ao Ax tP Bb Aq Ar Be Au Av Aw Ay Az Ba
 replace M := M.call g1
 clear g1
 obtain ⟨tS, Aa, Ah, Ab, Ai⟩ := M.f2 0 rfl
 obtain ⟨tR, Af, Ak, Ac, Aj, Ag, Am, Ad, Al, Ae, An⟩ := M.f5 1 rfl
 obtain ⟨tX, Bh, Ap, Bg, Bc, Bd, At, Bf, As, Ao, Ax⟩ := M.f5 2 rfl
 obtain ⟨tP, Bb, Aq, Ar, Be, Au, Av, Aw, Ay, Az, Ba⟩ := M.f5 3 rfl
 go_wp2_with fail
 go_call (giveUp_no 8 _) as r W ⟨rfl, rfl⟩
 go_wp2_with fail
 go_call (copied_s ts ks fs A0 A1 A2 c0 c1 c2 tn st _ _ ht hk hf (M.blk 2 rfl) (H.out.below M.below)) as r W4 ⟨C0, C1, C2, e0, e1, e2, rfl, g1⟩
 clear tS Aa Ah Ab Ai tR Af Ak Ac Aj Ag Am Ad Al Ae An tX Bh Ap Bg Bc Bd At Bf As Ao Ax tP Bb Aq Ar Be Au Av Aw Ay Az Ba
 replace M := Sep.new M g1
 simp only [List.cons_append, List.nil_append] at M
 clear g1
 obtain ⟨tS, Aa, Ah, Ab, Ai⟩ := M.f2 3 rfl
 obtain ⟨tR, Af, Ak, Ac, Aj, Ag, Am, Ad, Al, Ae, An⟩ := M.f5 4 rfl
 obtain ⟨tX, Bh, Ap, Bg, Bc, Bd, At, Bf, As, Ao, Ax⟩ := M.f5 5 rfl
 obtain ⟨tP, Bb, Aq, Ar, Be, Au, Av, Aw, Ay, Az, Ba⟩ := M.f5 6 rfl
 go_wp2_with fail
 clear tS Aa Ah Ab Ai tR Af Ak Ac Aj Ag Am Ad Al Ae An tX Bh Ap Bg Bc Bd At Bf As Ao Ax tP Bb Aq Ar Be Au Av Aw Ay Az Ba
 have N := M.galloc 30 #[.slice C0 ts.length e0, .slice C1 ks.length e1, .slice C2 fs.length e2, .int .i64 tn, .bool st]
 clear M
 obtain ⟨W5, eW, M⟩ := N
 rw [eW]
 clear eW
 obtain ⟨tY, Br, Bq, Bo, Bm, Bp, Bn, Bj, Bi, Bl, Bk⟩ := M.f5 0 rfl
 obtain ⟨tS, Aa, Ah, Ab, Ai⟩ := M.f2 4 rfl
 obtain ⟨tR, Af, Ak, Ac, Aj, Ag, Am, Ad, Al, Ae, An⟩ := M.f5 5 rfl
 obtain ⟨tX, Bh, Ap, Bg, Bc, Bd, At, Bf, As, Ao, Ax⟩ := M.f5 6 rfl
 obtain ⟨tP, Bb, Aq, Ar, Be, Au, Av, Aw, Ay, Az, Ba⟩ := M.f5 7 rfl
 go_wp2_with fail
 clear tY Br Bq Bo Bm Bp Bn Bj Bi Bl Bk tS Aa Ah Ab Ai tR Af Ak Ac Aj Ag Am Ad Al Ae An tX Bh Ap Bg Bc Bd At Bf As Ao Ax tP Bb Aq Ar Be Au Av Aw Ay Az Ba
 replace M := M.front 3 rfl
 simp only [List.eraseIdx_cons_succ, List.eraseIdx_cons_zero] at M
 replace M := M.front 3 rfl
 simp only [List.eraseIdx_cons_succ, List.eraseIdx_cons_zero] at M
 replace M := M.front 3 rfl
 simp only [List.eraseIdx_cons_succ, List.eraseIdx_cons_zero] at M
 replace M := M.front 3 rfl
 simp only [List.eraseIdx_cons_succ, List.eraseIdx_cons_zero] at M
 have hC := HL.out _ (W4.heap.size) C0 C1 C2 e0 e1 e2 M.below (Sep.same (ps := [.blk (W4.heap.size) 30 #[.slice C0 ts.length e0, .slice C1 ks.length e1, .slice C2 fs.length e2, .int .i64 tn, .bool st], rT ts.length C0 e0 ts, rK ks.length C1 e1 ks, rF fs.length C2 e2 fs]) (rs := [.blk (w.heap.size + 3) 55 #[.int .i64 0, .int .i64 0], .blk (w.heap.size + 2) 30 #[.slice none 0 0, .slice none 0 0, .slice none 0 0, .int .i64 0, .bool false], .blk (w.heap.size + 1) 30 #[.slice A0 ts.length c0, .slice A1 ks.length c1, .slice A2 fs.length c2, .int .i64 tn, .bool st], .blk (w.heap.size) 25 #[.int .i64 a, .int .i64 b, .int .i64 c, .int .i64 d, .int .i64 e]]) M (Below.refl _ _))
 refine Calls.mono (by with_reducible exact hC) ?_
 clear hC
 rintro r W6 ⟨rfl, g1⟩
 replace M : Sep [] w W6 [.blk (w.heap.size + 3) 55 #[.int .i64 0, .int .i64 0], .blk (w.heap.size + 2) 30 #[.slice none 0 0, .slice none 0 0, .slice none 0 0, .int .i64 0, .bool false], .blk (w.heap.size + 1) 30 #[.slice A0 ts.length c0, .slice A1 ks.length c1, .slice A2 fs.length c2, .int .i64 tn, .bool st], .blk (w.heap.size) 25 #[.int .i64 a, .int .i64 b, .int .i64 c, .int .i64 d, .int .i64 e]] := Sep.comp (ps := [.blk (W4.heap.size) 30 #[.slice C0 ts.length e0, .slice C1 ks.length e1, .slice C2 fs.length e2, .int .i64 tn, .bool st], rT ts.length C0 e0 ts, rK ks.length C1 e1 ks, rF fs.length C2 e2 fs]) (rs := [.blk (w.heap.size + 3) 55 #[.int .i64 0, .int .i64 0], .blk (w.heap.size + 2) 30 #[.slice none 0 0, .slice none 0 0, .slice none 0 0, .int .i64 0, .bool false], .blk (w.heap.size + 1) 30 #[.slice A0 ts.length c0, .slice A1 ks.length c1, .slice A2 fs.length c2, .int .i64 tn, .bool st], .blk (w.heap.size) 25 #[.int .i64 a, .int .i64 b, .int .i64 c, .int .i64 d, .int .i64 e]]) M g1
 clear g1
 go_wp2_with fail
 replace M := M.front 1 rfl
 simp only [List.eraseIdx_cons_succ, List.eraseIdx_cons_zero] at M
 refine leaves_cons (f := 109) (args := #[.pointer (some ⟨w.heap.size + 1, 0, none⟩), .pointer (some ⟨w.heap.size + 2, 0, none⟩), .pointer (some ⟨w.heap.size + 3, 0, none⟩)]) (by simp) (by simp [go_sem]) ?_
 refine (catch_panic ts ks fs A0 A1 A2 c0 c1 c2 tn st _ _ _ rp [] _ ht hk hf (M.blk 2 rfl) (H.out.below M.below) (Sep.same (ps := [.blk (w.heap.size + 2) 30 #[.slice none 0 0, .slice none 0 0, .slice none 0 0, .int .i64 0, .bool false], .blk (w.heap.size + 3) 55 #[.int .i64 0, .int .i64 0]]) (rs := [.blk (w.heap.size + 1) 30 #[.slice A0 ts.length c0, .slice A1 ks.length c1, .slice A2 fs.length c2, .int .i64 tn, .bool st], .blk (w.heap.size) 25 #[.int .i64 a, .int .i64 b, .int .i64 c, .int .i64 d, .int .i64 e]]) M (Below.refl _ _))).mono ?_
 rintro r u W7 ⟨rfl, rfl, B0, B1, B2, d0, d1, d2, g1⟩
 replace M : Sep [] w W7 [rT ts.length B0 d0 ts, rK ks.length B1 d1 ks, rF fs.length B2 d2 fs, .blk (w.heap.size + 2) 30 #[.slice B0 ts.length d0, .slice B1 ks.length d1, .slice B2 fs.length d2, .int .i64 tn, .bool st], .blk (w.heap.size + 3) 55 #[.int .i64 rp, .int .i64 0], .blk (w.heap.size + 1) 30 #[.slice A0 ts.length c0, .slice A1 ks.length c1, .slice A2 fs.length c2, .int .i64 tn, .bool st], .blk (w.heap.size) 25 #[.int .i64 a, .int .i64 b, .int .i64 c, .int .i64 d, .int .i64 e]] := Sep.comp (ps := [.blk (w.heap.size + 2) 30 #[.slice none 0 0, .slice none 0 0, .slice none 0 0, .int .i64 0, .bool false], .blk (w.heap.size + 3) 55 #[.int .i64 0, .int .i64 0]]) (rs := [.blk (w.heap.size + 1) 30 #[.slice A0 ts.length c0, .slice A1 ks.length c1, .slice A2 fs.length c2, .int .i64 tn, .bool st], .blk (w.heap.size) 25 #[.int .i64 a, .int .i64 b, .int .i64 c, .int .i64 d, .int .i64 e]]) M g1
 clear g1
 obtain ⟨tR, Af, Ac, Ag, Ad, Ae⟩ := M.q5 3 rfl
 obtain ⟨tS, Aa, Ab⟩ := M.q2 4 rfl
 exact ⟨.tuple #[.agg #[.slice B0 ts.length d0, .slice B1 ks.length d1, .slice B2 fs.length d2, .int .i64 tn, .bool st], .agg #[.int .i64 rp, .int .i64 0]], by simp [results, Tryz.results68, go_sem, Af, Ac, Ag, Ad, Ae, Aa, Ab], B0, B1, B2, d0, d1, d2, rfl, M.take 3⟩
set_option maxHeartbeats 800000 in
theorem lived_yes (a b c d e : Int) (ts : List T7) (ks : List Int) (fs : List F2) (A0 A1 A2 : Option Addr) (c0 c1 c2 : Nat) (tn : Int) (st : Bool) (wk : Int) (G : FuncId) (cap : Array Value) (hG : ∀ args w, (callFunc G args).run Tryz.prog w = .ok (.enter G args) w) (w : World) (ht : ts.length ≤ 1048576) (hk : ks.length ≤ 1048576) (hf : fs.length ≤ 1048576) (h : InPool w ts ks fs A0 A1 A2) (hp : poolB a b c d e ts ks fs tn = true) (hw : btw wk 0 (a - 1) = true) (o : OutP) (hL : ∀ (V : World) (g : Nat) (C0 C1 C2 : Option Addr) (e0 e1 e2 : Nat), Below w.heap.size w V → Sep (fps [.blk g 30 #[.slice C0 ts.length e0, .slice C1 ks.length e1, .slice C2 fs.length e2, .int .i64 tn, .bool st], rT ts.length C0 e0 ts, rK ks.length C1 e1 ks, rF fs.length C2 e2 fs]) V V [.blk g 30 #[.slice C0 ts.length e0, .slice C1 ks.length e1, .slice C2 fs.length e2, .int .i64 tn, .bool st], rT ts.length C0 e0 ts, rK ks.length C1 e1 ks, rF fs.length C2 e2 fs] → Calls Tryz.prog G (#[.pointer (some ⟨g, 0, none⟩)] ++ cap) V (fun r w' => ∃ (D0 D1 D2 : Option Addr) (f0 f1 f2 : Nat), r = .returned (.agg #[.int .i64 o.rp, .int .i64 o.ou]) ∧ Sep (fps [.blk g 30 #[.slice C0 ts.length e0, .slice C1 ks.length e1, .slice C2 fs.length e2, .int .i64 tn, .bool st], rT ts.length C0 e0 ts, rK ks.length C1 e1 ks, rF fs.length C2 e2 fs]) V w' [.blk g 30 #[.slice D0 o.ts.length f0, .slice D1 o.ks.length f1, .slice D2 o.fs.length f2, .int .i64 o.tn, .bool o.st], rT o.ts.length D0 f0 o.ts, rK o.ks.length D1 f1 o.ks, rF o.fs.length D2 f2 o.fs])) :
 Calls Tryz.prog 68 #[.agg #[.int .i64 a, .int .i64 b, .int .i64 c, .int .i64 d, .int .i64 e], .agg #[.slice A0 ts.length c0, .slice A1 ks.length c1, .slice A2 fs.length c2, .int .i64 tn, .bool st], .int .i64 wk, .func (.func G) #[] cap] w (GaveS [] w o) := by
 have hmf : ∀ (fn : Fn) (first cap : Array Value) (w : World), (Instr.makeFunc fn first cap).run Tryz.prog w = .ok (.func fn first cap) w := fun _ _ _ _ => rfl
 have hpl : 1 ≤ a ∧ a ≤ 30 := by
  have h1 := (poolB_parts hp).1
  simp [planB, btw] at h1
  omega
 obtain ⟨pl1, pl2⟩ := hpl
 have HL := hide hL
 clear hL
 have HY := hide (⟨hp, hw, trivial⟩ : _ ∧ _ ∧ True)
 clear hp hw
 have H := hide h
 clear h
 go_enter_defers Tryz.func68, Tryz.ntmps68
 go_wp2_with fail
 generalize hW : (((w.alloc _).alloc _).alloc _).alloc _ = W1
 have M := Sep.e4 hW
 clear hW
 obtain ⟨tS, Aa, Ah, Ab, Ai⟩ := M.f2 0 rfl
 obtain ⟨tR, Af, Ak, Ac, Aj, Ag, Am, Ad, Al, Ae, An⟩ := M.f5 1 rfl
 obtain ⟨tX, Bh, Ap, Bg, Bc, Bd, At, Bf, As, Ao, Ax⟩ := M.f5 2 rfl
 obtain ⟨tP, Bb, Aq, Ar, Be, Au, Av, Aw, Ay, Az, Ba⟩ := M.f5 3 rfl
 go_wp2_with fail
 go_call (pright_v a b c d e ts ks fs A0 A1 A2 c0 c1 c2 tn st _ true HY.out.1 _ hk hf (M.blk 2 rfl) (H.out.below M.below)) as r W2 ⟨rfl, g1⟩
 clear tS Aa Ah Ab Ai tR Af Ak Ac Aj Ag Am Ad Al Ae An tX Bh Ap Bg Bc Bd At Bf As Ao Ax tP Bb Aq Ar Be Au Av Aw Ay Az Ba
 replace M := M.call g1
 clear g1
 obtain ⟨tS, Aa, Ah, Ab, Ai⟩ := M.f2 0 rfl
 obtain ⟨tR, Af, Ak, Ac, Aj, Ag, Am, Ad, Al, Ae, An⟩ := M.f5 1 rfl
 obtain ⟨tX, Bh, Ap, Bg, Bc, Bd, At, Bf, As, Ao, Ax⟩ := M.f5 2 rfl
 obtain ⟨tP, Bb, Aq, Ar, Be, Au, Av, Aw, Ay, Az, Ba⟩ := M.f5 3 rfl
 go_wp2_with fail
 have hW := hasWorker_any a b c d e wk W2 pl1 pl2
 rw [HY.out.2.1] at hW
 refine Calls.mono (by with_reducible exact hW) ?_
 clear hW
 rintro r W3 ⟨rfl, g1⟩
 clear tS Aa Ah Ab Ai tR Af Ak Ac Aj Ag Am Ad Al Ae An tX Bh Ap Bg Bc Bd At Bf As Ao Ax tP Bb Aq Ar Be Au Av Aw Ay Az Ba
 replace M := M.call g1
 clear g1
 obtain ⟨tS, Aa, Ah, Ab, Ai⟩ := M.f2 0 rfl
 obtain ⟨tR, Af, Ak, Ac, Aj, Ag, Am, Ad, Al, Ae, An⟩ := M.f5 1 rfl
 obtain ⟨tX, Bh, Ap, Bg, Bc, Bd, At, Bf, As, Ao, Ax⟩ := M.f5 2 rfl
 obtain ⟨tP, Bb, Aq, Ar, Be, Au, Av, Aw, Ay, Az, Ba⟩ := M.f5 3 rfl
 go_wp2_with fail
 go_call (giveUp_no 8 _) as r W ⟨rfl, rfl⟩
 go_wp2_with fail
 go_call (copied_s ts ks fs A0 A1 A2 c0 c1 c2 tn st _ _ ht hk hf (M.blk 2 rfl) (H.out.below M.below)) as r W4 ⟨C0, C1, C2, e0, e1, e2, rfl, g1⟩
 clear tS Aa Ah Ab Ai tR Af Ak Ac Aj Ag Am Ad Al Ae An tX Bh Ap Bg Bc Bd At Bf As Ao Ax tP Bb Aq Ar Be Au Av Aw Ay Az Ba
 replace M := Sep.new M g1
 simp only [List.cons_append, List.nil_append] at M
 clear g1
 obtain ⟨tS, Aa, Ah, Ab, Ai⟩ := M.f2 3 rfl
 obtain ⟨tR, Af, Ak, Ac, Aj, Ag, Am, Ad, Al, Ae, An⟩ := M.f5 4 rfl
 obtain ⟨tX, Bh, Ap, Bg, Bc, Bd, At, Bf, As, Ao, Ax⟩ := M.f5 5 rfl
 obtain ⟨tP, Bb, Aq, Ar, Be, Au, Av, Aw, Ay, Az, Ba⟩ := M.f5 6 rfl
 go_wp2_with fail
 clear tS Aa Ah Ab Ai tR Af Ak Ac Aj Ag Am Ad Al Ae An tX Bh Ap Bg Bc Bd At Bf As Ao Ax tP Bb Aq Ar Be Au Av Aw Ay Az Ba
 have N := M.galloc 30 #[.slice C0 ts.length e0, .slice C1 ks.length e1, .slice C2 fs.length e2, .int .i64 tn, .bool st]
 clear M
 obtain ⟨W5, eW, M⟩ := N
 rw [eW]
 clear eW
 obtain ⟨tY, Br, Bq, Bo, Bm, Bp, Bn, Bj, Bi, Bl, Bk⟩ := M.f5 0 rfl
 obtain ⟨tS, Aa, Ah, Ab, Ai⟩ := M.f2 4 rfl
 obtain ⟨tR, Af, Ak, Ac, Aj, Ag, Am, Ad, Al, Ae, An⟩ := M.f5 5 rfl
 obtain ⟨tX, Bh, Ap, Bg, Bc, Bd, At, Bf, As, Ao, Ax⟩ := M.f5 6 rfl
 obtain ⟨tP, Bb, Aq, Ar, Be, Au, Av, Aw, Ay, Az, Ba⟩ := M.f5 7 rfl
 go_wp2_with fail
 clear tY Br Bq Bo Bm Bp Bn Bj Bi Bl Bk tS Aa Ah Ab Ai tR Af Ak Ac Aj Ag Am Ad Al Ae An tX Bh Ap Bg Bc Bd At Bf As Ao Ax tP Bb Aq Ar Be Au Av Aw Ay Az Ba
 replace M := M.front 3 rfl
 simp only [List.eraseIdx_cons_succ, List.eraseIdx_cons_zero] at M
 replace M := M.front 3 rfl
 simp only [List.eraseIdx_cons_succ, List.eraseIdx_cons_zero] at M
 replace M := M.front 3 rfl
 simp only [List.eraseIdx_cons_succ, List.eraseIdx_cons_zero] at M
 replace M := M.front 3 rfl
 simp only [List.eraseIdx_cons_succ, List.eraseIdx_cons_zero] at M
 have hC := HL.out _ (W4.heap.size) C0 C1 C2 e0 e1 e2 M.below (Sep.same (ps := [.blk (W4.heap.size) 30 #[.slice C0 ts.length e0, .slice C1 ks.length e1, .slice C2 fs.length e2, .int .i64 tn, .bool st], rT ts.length C0 e0 ts, rK ks.length C1 e1 ks, rF fs.length C2 e2 fs]) (rs := [.blk (w.heap.size + 3) 55 #[.int .i64 0, .int .i64 0], .blk (w.heap.size + 2) 30 #[.slice none 0 0, .slice none 0 0, .slice none 0 0, .int .i64 0, .bool false], .blk (w.heap.size + 1) 30 #[.slice A0 ts.length c0, .slice A1 ks.length c1, .slice A2 fs.length c2, .int .i64 tn, .bool st], .blk (w.heap.size) 25 #[.int .i64 a, .int .i64 b, .int .i64 c, .int .i64 d, .int .i64 e]]) M (Below.refl _ _))
 refine Calls.mono (by with_reducible exact hC) ?_
 clear hC
 rintro r W6 ⟨D0, D1, D2, f0, f1, f2, rfl, g1⟩
 replace M : Sep [] w W6 [.blk (W4.heap.size) 30 #[.slice D0 o.ts.length f0, .slice D1 o.ks.length f1, .slice D2 o.fs.length f2, .int .i64 o.tn, .bool o.st], rT o.ts.length D0 f0 o.ts, rK o.ks.length D1 f1 o.ks, rF o.fs.length D2 f2 o.fs, .blk (w.heap.size + 3) 55 #[.int .i64 0, .int .i64 0], .blk (w.heap.size + 2) 30 #[.slice none 0 0, .slice none 0 0, .slice none 0 0, .int .i64 0, .bool false], .blk (w.heap.size + 1) 30 #[.slice A0 ts.length c0, .slice A1 ks.length c1, .slice A2 fs.length c2, .int .i64 tn, .bool st], .blk (w.heap.size) 25 #[.int .i64 a, .int .i64 b, .int .i64 c, .int .i64 d, .int .i64 e]] := Sep.comp (ps := [.blk (W4.heap.size) 30 #[.slice C0 ts.length e0, .slice C1 ks.length e1, .slice C2 fs.length e2, .int .i64 tn, .bool st], rT ts.length C0 e0 ts, rK ks.length C1 e1 ks, rF fs.length C2 e2 fs]) (rs := [.blk (w.heap.size + 3) 55 #[.int .i64 0, .int .i64 0], .blk (w.heap.size + 2) 30 #[.slice none 0 0, .slice none 0 0, .slice none 0 0, .int .i64 0, .bool false], .blk (w.heap.size + 1) 30 #[.slice A0 ts.length c0, .slice A1 ks.length c1, .slice A2 fs.length c2, .int .i64 tn, .bool st], .blk (w.heap.size) 25 #[.int .i64 a, .int .i64 b, .int .i64 c, .int .i64 d, .int .i64 e]]) M g1
 clear g1
 obtain ⟨tY, Br, Bq, Bo, Bm, Bp, Bn, Bj, Bi, Bl, Bk⟩ := M.f5 0 rfl
 obtain ⟨tS, Aa, Ah, Ab, Ai⟩ := M.f2 4 rfl
 go_wp2_with fail
 clear tY Br Bq Bo Bm Bp Bn Bj Bi Bl Bk tS Aa Ah Ab Ai
 have N := M.gset2 4 rfl (.int .i64 o.rp) (.int .i64 o.ou)
 clear M
 obtain ⟨W7, eW, M⟩ := N
 rw [eW]
 clear eW
 simp only [List.set_cons_zero, List.set_cons_succ] at M
 go_cut [] from 25 to 26 (fun wc => Sep [] w wc [.blk (W4.heap.size) 30 #[.slice D0 o.ts.length f0, .slice D1 o.ks.length f1, .slice D2 o.fs.length f2, .int .i64 o.tn, .bool o.st], rT o.ts.length D0 f0 o.ts, rK o.ks.length D1 f1 o.ks, rF o.fs.length D2 f2 o.fs, .blk (w.heap.size + 3) 55 #[.int .i64 o.rp, .int .i64 o.ou], .blk (w.heap.size + 2) 30 #[.slice D0 o.ts.length f0, .slice D1 o.ks.length f1, .slice D2 o.fs.length f2, .int .i64 o.tn, .bool o.st], .blk (w.heap.size + 1) 30 #[.slice A0 ts.length c0, .slice A1 ks.length c1, .slice A2 fs.length c2, .int .i64 tn, .bool st], .blk (w.heap.size) 25 #[.int .i64 a, .int .i64 b, .int .i64 c, .int .i64 d, .int .i64 e]])
 case first =>
  refine wp_noPanic ?_
  refine wp_region_T (S := (fun w' => w'.cell? ⟨W4.heap.size, 0, none⟩ = some (.slice D0 o.ts.length f0) ∧ w'.cell? ⟨W4.heap.size, 1, none⟩ = some (.slice D1 o.ks.length f1) ∧ w'.cell? ⟨W4.heap.size, 2, none⟩ = some (.slice D2 o.fs.length f2) ∧ w'.cell? ⟨W4.heap.size, 3, none⟩ = some (.int .i64 o.tn) ∧ w'.cell? ⟨W4.heap.size, 4, none⟩ = some (.bool o.st) ∧ w'.cell? ⟨w.heap.size + 3, 0, none⟩ = some (.int .i64 o.rp) ∧ w'.cell? ⟨w.heap.size + 3, 1, none⟩ = some (.int .i64 o.ou))) (ks := [3]) (by kernel_rfl) ⟨M.cell 0 0 rfl, M.cell 0 1 rfl, M.cell 0 2 rfl, M.cell 0 3 rfl, M.cell 0 4 rfl, M.cell 4 0 rfl, M.cell 4 1 rfl⟩ (fun hHeld => ?_)
  replace M := M.drew
  generalize W7.drew = W8 at M hHeld ⊢
  refine tkL 0 ?v0u1 rfl ?hy0u1 hHeld ?_
  case hy0u1 => (intro w hSw; (try dsimp only at hSw); go_split_ands; go_simp; all_goals with_reducible rfl)
  try simp only [Act.put, List.setIfInBounds_toArray, List.set_cons_zero, List.set_cons_succ]
  refine tkL 1 ?v1u2 rfl ?hy1u2 hHeld ?_
  case hy1u2 => (intro w hSw; (try dsimp only at hSw); go_split_ands; go_simp; all_goals with_reducible rfl)
  try simp only [Act.put, List.setIfInBounds_toArray, List.set_cons_zero, List.set_cons_succ]
  obtain ⟨tR, Af, Ak, Ac, Aj, Ag, Am, Ad, Al, Ae, An⟩ := M.f5 5 rfl
  refine wpAnyT_callL (i := 2) rfl (by kernel_rfl) (fun K hK => ?_)
  go_simp
  clear tR Af Ak Ac Aj Ag Am Ad Al Ae An
  have N := M.gset5 5 rfl (.slice D0 o.ts.length f0) (.slice D1 o.ks.length f1) (.slice D2 o.fs.length f2) (.int .i64 o.tn) (.bool o.st)
  clear M
  obtain ⟨W9, eW, M⟩ := N
  rw [eW]
  clear eW
  simp only [List.set_cons_zero, List.set_cons_succ] at M
  clear hHeld
  refine hK.out _ _ ?_ (fun hHeld => ?_)
  ·exact ⟨M.cell 0 0 rfl, M.cell 0 1 rfl, M.cell 0 2 rfl, M.cell 0 3 rfl, M.cell 0 4 rfl, M.cell 4 0 rfl, M.cell 4 1 rfl⟩
  clear hK K
  try simp only [Act.put, List.setIfInBounds_toArray, List.set_cons_zero, List.set_cons_succ]
  obtain ⟨tS, Aa, Ah, Ab, Ai⟩ := M.f2 4 rfl
  refine wpAnyT_oneL (i := 3) rfl (by kernel_rfl) (by kernel_rfl) (fun K hK => ?_)
  go_simp
  refine hK.out _ _ ?_
  clear hK K
  try simp only [Act.put, List.setIfInBounds_toArray, List.set_cons_zero, List.set_cons_succ]
  clear tS Aa Ah Ab Ai
  have N := M.gset2 4 rfl (.int .i64 o.rp) (.int .i64 o.ou)
  clear M
  obtain ⟨W10, eW, M⟩ := N
  rw [eW]
  clear eW
  simp only [List.set_cons_zero, List.set_cons_succ] at M
  refine wpAnyT_done (by kernel_rfl) ?_ _
  go_wp2_with fail
  go_meet
  exact M
 case rest =>
  clear M
  have M := hcut
  clear hcut
  rename World => W11
  go_wp2_with fail
  replace M := M.front 4 rfl
  simp only [List.eraseIdx_cons_succ, List.eraseIdx_cons_zero] at M
  replace M := M.front 5 rfl
  simp only [List.eraseIdx_cons_succ, List.eraseIdx_cons_zero] at M
  refine leaves_cons (f := 109) (args := #[.pointer (some ⟨w.heap.size + 1, 0, none⟩), .pointer (some ⟨w.heap.size + 2, 0, none⟩), .pointer (some ⟨w.heap.size + 3, 0, none⟩)]) (by simp) (by simp [go_sem]) ?_
  refine (catch_idle _ _ _ _).mono ?_
  rintro r u WZ ⟨rfl, rfl, rfl⟩
  replace M := M.front 5 rfl
  simp only [List.eraseIdx_cons_succ, List.eraseIdx_cons_zero] at M
  replace M := M.front 5 rfl
  simp only [List.eraseIdx_cons_succ, List.eraseIdx_cons_zero] at M
  replace M := M.front 5 rfl
  simp only [List.eraseIdx_cons_succ, List.eraseIdx_cons_zero] at M
  obtain ⟨tR, Af, Ac, Ag, Ad, Ae⟩ := M.q5 3 rfl
  obtain ⟨tS, Aa, Ab⟩ := M.q2 4 rfl
  exact ⟨.tuple #[.agg #[.slice D0 o.ts.length f0, .slice D1 o.ks.length f1, .slice D2 o.fs.length f2, .int .i64 o.tn, .bool o.st], .agg #[.int .i64 o.rp, .int .i64 o.ou]], by simp [results, Tryz.results68, go_sem, Af, Ac, Ag, Ad, Ae, Aa, Ab], D0, D1, D2, f0, f1, f2, rfl, M.take 3⟩
/-- All blocks from B on lie as they lay. -/
structure Above (B : Nat) (W W' : World) : Prop where
 size : W.heap.size ≤ W'.heap.size
 same : ∀ k, B ≤ k → k < W.heap.size → W'.heap[k]? = W.heap[k]?
theorem Above.refl (B : Nat) (W : World) : Above B W W := ⟨Nat.le_refl _, fun _ _ _ => rfl⟩
theorem Above.trans {B : Nat} {A C D : World} (h : Above B A C) (k : Above B C D) : Above B A D :=
 ⟨Nat.le_trans h.size k.size, fun i hB hi => (k.same i hB (Nat.lt_of_lt_of_le hi h.size)).trans (h.same i hB hi)⟩
theorem Above.mono {B B' : Nat} {A C : World} (h : Above B A C) (hB : B ≤ B') : Above B' A C := ⟨h.size, fun k hk hl => h.same k (Nat.le_trans hB hk) hl⟩
theorem Above.some {B k : Nat} {o : Obj} {A C : World} (h : Above B A C) (hB : B ≤ k) (ho : A.heap[k]? = some o) : C.heap[k]? = some o :=
 (h.same k hB (Array.getElem?_eq_some_iff.1 ho).1).trans ho
/-- A walk by things whose blocks all lie below B. -/
theorem Sep.above {S : List Nat} {w W : World} {rs : List Res} {B : Nat} (h : Sep S w W rs) (hS : ∀ g ∈ S, g < B) : Above B w W :=
 ⟨h.size, fun k hk hl => h.block k hl (fun hm => by have := hS k hm; omega)⟩
/-- What speaks of the blocks below B alone. -/
def Abides {β : Type} (B : Nat) (J : β → World → Prop) : Prop := ∀ s A C, J s A → Below B A C → J s C
/-- The iterator g, at what it has captured: it hands out xs, one after the other, till a round says no. -/
def SeqS {α : Type} (F : Fence) (n : Nat) (P : Program) (g : Nat) (lb : Array Value) (enc : α → Array Value) (xs : List α) (w : World) : Prop :=
 ∀ (l : Nat) (J Jx : List α → World → Prop) (W : World), Below w.heap.size w W → Abides W.heap.size J → Abides W.heap.size Jx →
  (∀ pre x W1, J pre W1 → pre ++ [x] <+: xs → YieldAt F (n - 1) P l (enc x) W1 fun e W' =>
   (e = .returned (.bool true) ∧ J (pre ++ [x]) W' ∧ Above W.heap.size W1 W') ∨ (e = .returned (.bool false) ∧ Jx (pre ++ [x]) W')) →
  J [] W →
  CallsIn F n P g (#[.func (.yield l) #[] #[]] ++ lb) W fun e W' => (∃ v, e = .returned v) ∧ (J xs W' ∨ ∃ pre, pre <+: xs ∧ Jx pre W')
/-- How the body of a round may be left. -/
def postS {α : Type} (B : Nat) (I : List α → World → Prop) (Ix : Code → List α → World → Prop) (xs : List α) (W : World) : Exit → Act → World → Prop
 | .normal, _, W' => Above B W W' ∧ I xs W'
 | .ret, _, W' => Above B W W' ∧ Ix .ret xs W'
 | _, _, _ => False
theorem below_put {B : Nat} (W : World) (l : Nat) (o : Obj) (hl : B ≤ l) (hB : B ≤ W.heap.size) : Below B W (W.putObj l o) :=
 (Below.refl B W).grown (grownBy_putObj' W l o) hB (fun k e => by cases e; exact hl)
variable {F : Fence} {n : Nat} {P : Program}
theorem wpIn_range_s {α : Type} {g : Operand} {ps : Array Tmp} {assign body : Code} {Q : Exit → Act → World → Prop} {a : Act} {w : World}
 (hro : F.round = none) (h1 : 1 ≤ n) {gf : Nat} {lb : Array Value} (hg : a.eval g = .func (.func gf) #[] lb) (hFg : F.fn gf) (eg : ∀ args w, (callFunc gf args).run P w = .ok (.enter gf args) w)
 {enc : α → Array Value} {xs : List α} {w0 : World} (hseq : SeqS F (n - 1) P gf lb enc xs w0) (hb0 : Below w0.heap.size w0 w) (hps : ∀ x, (enc x).size = ps.size)
 (I : List α → World → Prop) (Ix : Code → List α → World → Prop) (hI : Abides w.heap.size I) (hIx : ∀ c, Abides w.heap.size (Ix c)) (h0 : I [] w) (a₁ : α → Act)
 (hassign : ∀ (l : Nat) (x : α) (W : World) (K : Act → World → Prop), K (a₁ x) W →
  assign.wpIn (F.inRound l) (n - 1 - 1) P (Exit.then K (fun _ _ _ => False)) { tmps := (ps.zip (enc x)).foldl (fun t (p, v) => t.setIfInBounds p v) a.tmps, defers := [] } W)
 (hbody : ∀ (l : Nat) (pre : List α) (x : α) (W : World), w.heap.size ≤ W.heap.size → I pre W → pre ++ [x] <+: xs → body.wpIn (F.inRound l) (n - 1 - 1) P (postS w.heap.size I Ix (pre ++ [x]) W) (a₁ x) W)
 (hdone : ∀ (D : Nat) (W : World), w.heap.size ≤ D → I xs W → W.heap[D]? = some (.deferred (some [])) → Q .normal { a with defers := { target := .collected D, args := #[] } :: a.defers } W)
 (hstop : ∀ (D : Nat) (pre : List α) (W : World), w.heap.size ≤ D → pre <+: xs → Ix .ret pre W → W.heap[D]? = some (.deferred (some [])) → Code.ret.wpIn F n P Q { a with defers := { target := .collected D, args := #[] } :: a.defers } W) :
 (Code.rangeFunc g ps assign body).wpIn F n P Q a w := by
 refine wpIn_rangeFunc ?_
 intro fn hfn
 rw [hro]
 obtain ⟨rec, hrec⟩ : ∃ rec : LoopState → Option Code → Loop, rec = fun st pe => { state := st, pending := pe, fn, tmps := a.tmps, params := ps, assign, body, defers := w.heap.size } := ⟨_, rfl⟩
 obtain ⟨W1, hW1⟩ : ∃ W1, (w.alloc (.deferred (some []))).alloc (.loop (rec .ready none)) = W1 := ⟨_, rfl⟩
 have hz : W1.heap.size = w.heap.size + 2 := by rw [← hW1]; simp
 have hb1 : Below w.heap.size w W1 := by rw [← hW1]; exact ((Below.refl _ w).alloc (Nat.le_refl _) _).alloc (by simp) _
 have hL1 : W1.heap[w.heap.size + 1]? = some (.loop (rec .ready none)) := by
  rw [← hW1]; have := World.alloc_heap_new (w.alloc (.deferred (some []))) (.loop (rec .ready none)); rwa [World.size_alloc] at this
 have hK1 : W1.heap[w.heap.size]? = some (.deferred (some [])) := by
  rw [← hW1]; exact (Below.heap_alloc _ _ _ (by simp)).trans (World.alloc_heap_new w _)
 refine ⟨w.heap.size + 1, [{ target := .collected w.heap.size, args := #[] }], W1, { target := .fn (.func gf) lb, args := #[.func (.yield (w.heap.size + 1)) #[] #[]] }, W1, gf,
  #[.func (.yield (w.heap.size + 1)) #[] #[]] ++ lb, W1, ?_, ?_, ?_, ?_, fun _ => h1, ?_⟩
 ·rw [← hW1, hrec]; exact run_enterLoop_outer _ _ _ _ _
 ·simp only [resolve, hg]
  simp [go_sem]
 ·intro f' hf'; simp [Target.leads] at hf'; subst hf'; exact hFg
 ·simp [invoke, go_sem, eg]
 ·have keep : ∀ {A C : World} {k : Nat} {o : Obj}, Below W1.heap.size A C → k < w.heap.size + 2 → A.heap[k]? = some o → C.heap[k]? = some o := fun hb hk ho => (hb.block _ (by omega)).trans ho
  refine (hseq (w.heap.size + 1)
   (fun pre W => (I pre W ∧ w.heap.size ≤ W.heap.size) ∧ W.heap[w.heap.size + 1]? = some (.loop (rec .ready none)) ∧ W.heap[w.heap.size]? = some (.deferred (some [])))
   (fun pre W => Ix .ret pre W ∧ W.heap[w.heap.size + 1]? = some (.loop (rec .done (some .ret))) ∧ W.heap[w.heap.size]? = some (.deferred (some [])))
   W1 (hb0.trans (hb1.mono hb0.size))
   (fun s A C hs hb => ⟨⟨hI s A C hs.1.1 (hb.mono (by omega)), Nat.le_trans hs.1.2 hb.size⟩, keep hb (by omega) hs.2.1, keep hb (by omega) hs.2.2⟩)
   (fun s A C hs hb => ⟨hIx _ s A C hs.1 (hb.mono (by omega)), keep hb (by omega) hs.2.1, keep hb (by omega) hs.2.2⟩)
   ?_ ⟨⟨hI _ _ _ h0 hb1, hb1.size⟩, hL1, hK1⟩).mono ?_
  ·rintro pre x W ⟨⟨hi, hsz⟩, hl, hk⟩ hpre
   have hlt : w.heap.size + 1 < W.heap.size := (Array.getElem?_eq_some_iff.1 hl).1
   have hy := run_yield (P := P) (args := enc x) hl (by rw [hrec]; exact hps x)
   rw [hrec] at hy
   refine ⟨fn, _, assign, body, hy, roundIn_of_wpIn hfn (hassign _ x W _ ⟨_, run_beginRound hl (by rw [hrec]), ?_⟩)⟩
   obtain ⟨W2, hW2⟩ : ∃ W2, W.putObj (w.heap.size + 1) (.loop { rec .ready none with state := .busy }) = W2 := ⟨_, rfl⟩
   have hl2 : W2.heap[w.heap.size + 1]? = some (.loop { rec .ready none with state := .busy }) := by rw [← hW2]; exact World.putObj_heap_same hlt
   have hk2 : W2.heap[w.heap.size]? = some (.deferred (some [])) := by rw [← hW2]; exact (World.putObj_heap_other (by omega)).trans hk
   have hb2 : Below w.heap.size W W2 := by rw [← hW2]; exact below_put _ _ _ (by omega) (by omega)
   have ha2 : Above W1.heap.size W W2 := by
    rw [← hW2, hz]
    exact ⟨by simp, fun k hk _ => World.putObj_heap_other (by omega)⟩
   have hgoal := hbody (w.heap.size + 1) pre x W2 (Nat.le_trans hsz hb2.size) (hI _ _ _ hi hb2) hpre
   have hgoal2 : body.wpIn (F.inRound (w.heap.size + 1)) (n - 1 - 1) P (postS w.heap.size I Ix (pre ++ [x]) W2) (a₁ x) (W.putObj (w.heap.size + 1) (.loop { rec .ready none with state := .busy })) := by rw [hW2]; exact hgoal
   refine wpIn_mono hgoal2 ?_
   have fin : ∀ (jump : Option Code) (W3 : World), Above w.heap.size W2 W3 →
    (Instr.endRound (w.heap.size + 1) jump).run P W3 = .ok (.bool jump.isNone) (W3.putObj (w.heap.size + 1) (.loop (rec (if jump.isNone then .ready else .done) jump))) ∧
    Below w.heap.size W3 (W3.putObj (w.heap.size + 1) (.loop (rec (if jump.isNone then .ready else .done) jump))) ∧
    Above W1.heap.size W3 (W3.putObj (w.heap.size + 1) (.loop (rec (if jump.isNone then .ready else .done) jump))) ∧
    (W3.putObj (w.heap.size + 1) (.loop (rec (if jump.isNone then .ready else .done) jump))).heap[w.heap.size + 1]? = some (.loop (rec (if jump.isNone then .ready else .done) jump)) ∧
    (W3.putObj (w.heap.size + 1) (.loop (rec (if jump.isNone then .ready else .done) jump))).heap[w.heap.size]? = some (.deferred (some [])) := fun jump W3 hk3 => by
    have hl3 := hk3.some (by omega) hl2
    have hlt3 := (Array.getElem?_eq_some_iff.1 hl3).1
    refine ⟨?_, below_put _ _ _ (by omega) (by omega), ⟨by simp, fun k hk _ => World.putObj_heap_other (by omega)⟩, World.putObj_heap_same hlt3, (World.putObj_heap_other (by omega)).trans (hk3.some (Nat.le_refl _) hk2)⟩
    have := run_endRound (P := P) jump hl3
    rw [hrec] at this ⊢
    exact this
   rintro e a3 W3 hp
   cases e with
   | normal =>
    obtain ⟨hk3, hi3⟩ := hp
    obtain ⟨hr, hb4, ha4, hl4, hk4⟩ := fin none W3 hk3
    exact ⟨_, _, hr, .inl ⟨rfl, ⟨⟨hI _ _ _ hi3 hb4, Nat.le_trans (Nat.le_trans hsz hb2.size) (Nat.le_trans hk3.size hb4.size)⟩, hl4, hk4⟩, (ha2.trans (hk3.mono (by omega))).trans ha4⟩⟩
   | ret =>
    obtain ⟨hk3, hi3⟩ := hp
    obtain ⟨hr, hb4, _, hl4, hk4⟩ := fin (some .ret) W3 hk3
    exact ⟨_, _, hr, .inr ⟨rfl, hIx _ _ _ _ hi3 hb4, hl4, hk4⟩⟩
   | exit id => exact hp.elim
   | goto t => exact hp.elim
   | panic ch => exact hp.elim
   | outgrown => exact hp.elim
  ·rintro e W2 ⟨⟨v, rfl⟩, (⟨⟨hi, hsz⟩, hl, hk⟩ | ⟨pre, hpre, hi, hl, hk⟩)⟩
   ·exact ⟨none, _, by have := run_endLoop (P := P) hl (by rw [hrec]; simp); rw [hrec] at this; exact this, hdone _ _ (Nat.le_refl _) (hI _ _ _ hi (below_put _ _ _ (by omega) hsz)) ((World.putObj_heap_other (by omega)).trans hk)⟩
   ·have hlt := (Array.getElem?_eq_some_iff.1 hl).1
    exact ⟨some .ret, _, by have := run_endLoop (P := P) hl (by rw [hrec]; simp); rw [hrec] at this; exact this, hstop _ pre _ (Nat.le_refl _) hpre (hIx _ _ _ _ hi (below_put _ _ _ (by omega) (by omega))) ((World.putObj_heap_other (by omega)).trans hk)⟩
end Go.Proofs.YtfjgelegojbmgaaGreat
