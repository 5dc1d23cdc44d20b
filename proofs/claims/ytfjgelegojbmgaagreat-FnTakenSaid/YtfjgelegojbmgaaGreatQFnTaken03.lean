/- The program's line: Len, Less. The list of places no longer than a million. -/
import Derived.Test.YtfjgelegojbmgaaGreatQFnTaken01
import Derived.Test.YtfjgelegojbmgaaGreatQFnTaken02
import Derived.Test.YtfjgelegojbmgaaGreatQB14
import Derived.Test.YtfjgelegojbmgaaGreatQB11
import Derived.Test.YtfjgelegojbmgaaGreatQB20
import Derived.Defers
import Derived.Recover
import Derived.Deep.DeepCutAuto
import Derived.Deep.CutRange
import Derived.RangeFuncNested
import Derived.RangeFuncBound
import Derived.RangeFuncCalls
import Derived.RangeFuncLeaves
import Derived.OwnWalkIn
import Derived.TacticsInMore
import Derived.LoopNIn
import Derived.LoopIn
import Derived.Test.YtfjgelegojbmgaaGreatQB05
import Derived.Test.YtfjgelegojbmgaaGreatQB06
import Derived.Test.YtfjgelegojbmgaaGreatQB04

namespace Go.Proofs.YtfjgelegojbmgaaGreat
open Go.RowKit
set_option linter.unusedVariables false
set_option maxRecDepth 100000
theorem wp_noPanic {P : Program} {c : Code} {K : Act → World → Prop} {Q : Exit → Act → World → Prop} {a : Act} {w : World} (h : c.wp P (Exit.then K (fun _ _ _ => False)) a w) : c.wp P (Exit.then K Q) a w :=
 wp_mono h fun e a w h => by cases e <;> first | exact h | exact h.elim
set_option maxHeartbeats 800000 in
theorem lived_bad (a b c d e : Int) (ts : List T7) (ks : List Int) (fs : List F2) (A0 A1 A2 : Option Addr) (c0 c1 c2 : Nat) (tn : Int) (st : Bool) (wk : Int) (G : FuncId) (cap : Array Value) (hG : ∀ args w, (callFunc G args).run Tryz.prog w = .ok (.enter G args) w) (w : World) (ht : ts.length ≤ 1048576) (hk : ks.length ≤ 1048576) (hf : fs.length ≤ 1048576) (h : InPool w ts ks fs A0 A1 A2) (hp : poolB a b c d e ts ks fs tn = false) :
 Calls Tryz.prog 68 #[.agg #[.int .i64 a, .int .i64 b, .int .i64 c, .int .i64 d, .int .i64 e], .agg #[.slice A0 ts.length c0, .slice A1 ks.length c1, .slice A2 fs.length c2, .int .i64 tn, .bool st], .int .i64 wk, .func (.func G) #[] cap] w (GaveS [] w ⟨[], [], [], 0, false, 8, 0⟩) := by
 have hmf : ∀ (fn : Fn) (first cap : Array Value) (w : World), (Instr.makeFunc fn first cap).run Tryz.prog w = .ok (.func fn first cap) w := fun _ _ _ _ => rfl
 have HY := hide (⟨hp, trivial⟩ : _ ∧ True)
 clear hp
 have H := hide h
 clear h
 go_enter_defers Tryz.func68, Tryz.ntmps68
 go_wp2_with fail
 generalize hW : (((w.alloc _).alloc _).alloc _).alloc _ = W1
 have M := Sep.e4 hW
 clear hW
 obtain ⟨tS, Ab, Ai, Aa, Ah⟩ := M.f2 0 rfl
 obtain ⟨tR, Ag, Aj, Ad, An, Af, Am, Ac, Ak, Ae, Al⟩ := M.f5 1 rfl
 obtain ⟨tX, Ar, Bh, Ap, Bb, Be, Aq, Ba, Bg, As, Ay⟩ := M.f5 2 rfl
 obtain ⟨tP, Az, Bc, Bd, Av, Bf, Ao, Au, Ax, At, Aw⟩ := M.f5 3 rfl
 go_wp2_with fail
 go_call (pright_v a b c d e ts ks fs A0 A1 A2 c0 c1 c2 tn st _ false HY.out.1 _ hk hf (M.blk 2 rfl) (H.out.below M.below)) as r W2 ⟨rfl, g1⟩
 clear tS Ab Ai Aa Ah tR Ag Aj Ad An Af Am Ac Ak Ae Al tX Ar Bh Ap Bb Be Aq Ba Bg As Ay tP Az Bc Bd Av Bf Ao Au Ax At Aw
 replace M := M.call g1
 clear g1
 obtain ⟨tS, Ab, Ai, Aa, Ah⟩ := M.f2 0 rfl
 obtain ⟨tR, Ag, Aj, Ad, An, Af, Am, Ac, Ak, Ae, Al⟩ := M.f5 1 rfl
 obtain ⟨tX, Ar, Bh, Ap, Bb, Be, Aq, Ba, Bg, As, Ay⟩ := M.f5 2 rfl
 obtain ⟨tP, Az, Bc, Bd, Av, Bf, Ao, Au, Ax, At, Aw⟩ := M.f5 3 rfl
 go_wp2_with fail
 clear tS Ab Ai Aa Ah tR Ag Aj Ad An Af Am Ac Ak Ae Al tX Ar Bh Ap Bb Be Aq Ba Bg As Ay tP Az Bc Bd Av Bf Ao Au Ax At Aw
 have N := M.gset5 1 rfl (.slice none 0 0) (.slice none 0 0) (.slice none 0 0) (.int .i64 0) (.bool false)
 clear M
 obtain ⟨W3, eW, M⟩ := N
 rw [eW]
 clear eW
 simp only [List.set_cons_zero, List.set_cons_succ] at M
 have N := M.gset2 0 rfl (.int .i64 8) (.int .i64 0)
 clear M
 obtain ⟨W4, eW, M⟩ := N
 rw [eW]
 clear eW
 simp only [List.set_cons_zero] at M
 obtain ⟨tS, Ab, Aa⟩ := M.q2 0 rfl
 obtain ⟨tR, Ag, Ad, Af, Ac, Ae⟩ := M.q5 1 rfl
 exact ⟨.tuple #[.agg #[.slice none 0 0, .slice none 0 0, .slice none 0 0, .int .i64 0, .bool false], .agg #[.int .i64 8, .int .i64 0]], by simp [results, Tryz.results68, go_sem, Ag, Ad, Af, Ac, Ae, Ab, Aa], none, none, none, 0, 0, 0, rfl, sep_zero M.below⟩
set_option maxHeartbeats 800000 in
theorem lived_worker (a b c d e : Int) (ts : List T7) (ks : List Int) (fs : List F2) (A0 A1 A2 : Option Addr) (c0 c1 c2 : Nat) (tn : Int) (st : Bool) (wk : Int) (G : FuncId) (cap : Array Value) (hG : ∀ args w, (callFunc G args).run Tryz.prog w = .ok (.enter G args) w) (w : World) (ht : ts.length ≤ 1048576) (hk : ks.length ≤ 1048576) (hf : fs.length ≤ 1048576) (h : InPool w ts ks fs A0 A1 A2) (hp : poolB a b c d e ts ks fs tn = true) (hw : btw wk 0 (a - 1) = false) :
 Calls Tryz.prog 68 #[.agg #[.int .i64 a, .int .i64 b, .int .i64 c, .int .i64 d, .int .i64 e], .agg #[.slice A0 ts.length c0, .slice A1 ks.length c1, .slice A2 fs.length c2, .int .i64 tn, .bool st], .int .i64 wk, .func (.func G) #[] cap] w (GaveS [] w ⟨ts, ks, fs, tn, st, 8, 0⟩) := by
 have hmf : ∀ (fn : Fn) (first cap : Array Value) (w : World), (Instr.makeFunc fn first cap).run Tryz.prog w = .ok (.func fn first cap) w := fun _ _ _ _ => rfl
 have hpl : 1 ≤ a ∧ a ≤ 30 := by
  have h1 := (poolB_parts hp).1
  simp [planB, btw] at h1
  omega
 obtain ⟨pl1, pl2⟩ := hpl
 have HY := hide (⟨hp, hw, trivial⟩ : _ ∧ _ ∧ True)
 clear hp hw
 have H := hide h
 clear h
 go_enter_defers Tryz.func68, Tryz.ntmps68
 go_wp2_with fail
 generalize hW : (((w.alloc _).alloc _).alloc _).alloc _ = W1
 have M := Sep.e4 hW
 clear hW
 obtain ⟨tS, Ab, Ai, Aa, Ah⟩ := M.f2 0 rfl
 obtain ⟨tR, Ag, Aj, Ad, An, Af, Am, Ac, Ak, Ae, Al⟩ := M.f5 1 rfl
 obtain ⟨tX, Ar, Bh, Ap, Bb, Be, Aq, Ba, Bg, As, Ay⟩ := M.f5 2 rfl
 obtain ⟨tP, Az, Bc, Bd, Av, Bf, Ao, Au, Ax, At, Aw⟩ := M.f5 3 rfl
 go_wp2_with fail
 go_call (pright_v a b c d e ts ks fs A0 A1 A2 c0 c1 c2 tn st _ true HY.out.1 _ hk hf (M.blk 2 rfl) (H.out.below M.below)) as r W2 ⟨rfl, g1⟩
 clear tS Ab Ai Aa Ah tR Ag Aj Ad An Af Am Ac Ak Ae Al tX Ar Bh Ap Bb Be Aq Ba Bg As Ay tP Az Bc Bd Av Bf Ao Au Ax At Aw
 replace M := M.call g1
 clear g1
 obtain ⟨tS, Ab, Ai, Aa, Ah⟩ := M.f2 0 rfl
 obtain ⟨tR, Ag, Aj, Ad, An, Af, Am, Ac, Ak, Ae, Al⟩ := M.f5 1 rfl
 obtain ⟨tX, Ar, Bh, Ap, Bb, Be, Aq, Ba, Bg, As, Ay⟩ := M.f5 2 rfl
 obtain ⟨tP, Az, Bc, Bd, Av, Bf, Ao, Au, Ax, At, Aw⟩ := M.f5 3 rfl
 go_wp2_with fail
 have hW := hasWorker_any a b c d e wk W2 pl1 pl2
 rw [HY.out.2.1] at hW
 refine Calls.mono (by with_reducible exact hW) ?_
 clear hW
 rintro r W3 ⟨rfl, g1⟩
 clear tS Ab Ai Aa Ah tR Ag Aj Ad An Af Am Ac Ak Ae Al tX Ar Bh Ap Bb Be Aq Ba Bg As Ay tP Az Bc Bd Av Bf Ao Au Ax At Aw
 replace M := M.call g1
 clear g1
 obtain ⟨tS, Ab, Ai, Aa, Ah⟩ := M.f2 0 rfl
 obtain ⟨tR, Ag, Aj, Ad, An, Af, Am, Ac, Ak, Ae, Al⟩ := M.f5 1 rfl
 obtain ⟨tX, Ar, Bh, Ap, Bb, Be, Aq, Ba, Bg, As, Ay⟩ := M.f5 2 rfl
 obtain ⟨tP, Az, Bc, Bd, Av, Bf, Ao, Au, Ax, At, Aw⟩ := M.f5 3 rfl
 go_wp2_with fail
 go_call (giveUp_yes 8 _) as r W ⟨rfl, rfl⟩
 clear tS Ab Ai Aa Ah tR Ag Aj Ad An Af Am Ac Ak Ae Al tX Ar Bh Ap Bb Be Aq Ba Bg As Ay tP Az Bc Bd Av Bf Ao Au Ax At Aw
 go_wp2_with fail
 replace M := M.front 1 rfl
 simp only [List.eraseIdx_cons_succ, List.eraseIdx_cons_zero] at M
 refine leaves_cons (f := 109) (args := #[.pointer (some ⟨w.heap.size + 1, 0, none⟩), .pointer (some ⟨w.heap.size + 2, 0, none⟩), .pointer (some ⟨w.heap.size + 3, 0, none⟩)]) (by simp) (by simp [go_sem]) ?_
 refine (catch_panic ts ks fs A0 A1 A2 c0 c1 c2 tn st _ _ _ 8 [] _ ht hk hf (M.blk 2 rfl) (H.out.below M.below) (Sep.same (ps := [.blk (w.heap.size + 2) 30 #[.slice none 0 0, .slice none 0 0, .slice none 0 0, .int .i64 0, .bool false], .blk (w.heap.size + 3) 55 #[.int .i64 0, .int .i64 0]]) (rs := [.blk (w.heap.size + 1) 30 #[.slice A0 ts.length c0, .slice A1 ks.length c1, .slice A2 fs.length c2, .int .i64 tn, .bool st], .blk (w.heap.size) 25 #[.int .i64 a, .int .i64 b, .int .i64 c, .int .i64 d, .int .i64 e]]) M (Below.refl _ _))).mono ?_
 rintro r u W4 ⟨rfl, rfl, B0, B1, B2, d0, d1, d2, g1⟩
 replace M : Sep [] w W4 [rT ts.length B0 d0 ts, rK ks.length B1 d1 ks, rF fs.length B2 d2 fs, .blk (w.heap.size + 2) 30 #[.slice B0 ts.length d0, .slice B1 ks.length d1, .slice B2 fs.length d2, .int .i64 tn, .bool st], .blk (w.heap.size + 3) 55 #[.int .i64 8, .int .i64 0], .blk (w.heap.size + 1) 30 #[.slice A0 ts.length c0, .slice A1 ks.length c1, .slice A2 fs.length c2, .int .i64 tn, .bool st], .blk (w.heap.size) 25 #[.int .i64 a, .int .i64 b, .int .i64 c, .int .i64 d, .int .i64 e]] := Sep.comp (ps := [.blk (w.heap.size + 2) 30 #[.slice none 0 0, .slice none 0 0, .slice none 0 0, .int .i64 0, .bool false], .blk (w.heap.size + 3) 55 #[.int .i64 0, .int .i64 0]]) (rs := [.blk (w.heap.size + 1) 30 #[.slice A0 ts.length c0, .slice A1 ks.length c1, .slice A2 fs.length c2, .int .i64 tn, .bool st], .blk (w.heap.size) 25 #[.int .i64 a, .int .i64 b, .int .i64 c, .int .i64 d, .int .i64 e]]) M g1
 clear g1
 obtain ⟨tR, Ag, Ad, Af, Ac, Ae⟩ := M.q5 3 rfl
 obtain ⟨tS, Ab, Aa⟩ := M.q2 4 rfl
 exact ⟨.tuple #[.agg #[.slice B0 ts.length d0, .slice B1 ks.length d1, .slice B2 fs.length d2, .int .i64 tn, .bool st], .agg #[.int .i64 8, .int .i64 0]], by simp [results, Tryz.results68, go_sem, Ag, Ad, Af, Ac, Ae, Ab, Aa], B0, B1, B2, d0, d1, d2, rfl, M.take 3⟩
set_option maxHeartbeats 800000 in
theorem lived_no (a b c d e : Int) (ts : List T7) (ks : List Int) (fs : List F2) (A0 A1 A2 : Option Addr) (c0 c1 c2 : Nat) (tn : Int) (st : Bool) (wk : Int) (G : FuncId) (cap : Array Value) (hG : ∀ args w, (callFunc G args).run Tryz.prog w = .ok (.enter G args) w) (w : World) (ht : ts.length ≤ 1048576) (hk : ks.length ≤ 1048576) (hf : fs.length ≤ 1048576) (h : InPool w ts ks fs A0 A1 A2) (hp : poolB a b c d e ts ks fs tn = true) (hw : btw wk 0 (a - 1) = true) (rp : Int) (hL : ∀ (V : World) (g : Nat) (C0 C1 C2 : Option Addr) (e0 e1 e2 : Nat), Below w.heap.size w V → Sep (fps [.blk g 30 #[.slice C0 ts.length e0, .slice C1 ks.length e1, .slice C2 fs.length e2, .int .i64 tn, .bool st], rT ts.length C0 e0 ts, rK ks.length C1 e1 ks, rF fs.length C2 e2 fs]) V V [.blk g 30 #[.slice C0 ts.length e0, .slice C1 ks.length e1, .slice C2 fs.length e2, .int .i64 tn, .bool st], rT ts.length C0 e0 ts, rK ks.length C1 e1 ks, rF fs.length C2 e2 fs] → Calls Tryz.prog G (#[.pointer (some ⟨g, 0, none⟩)] ++ cap) V (fun r w' => r = .panicked [{ v := .iface 128 (.int .i64 rp), recovered := false }] ∧ Sep (fps [.blk g 30 #[.slice C0 ts.length e0, .slice C1 ks.length e1, .slice C2 fs.length e2, .int .i64 tn, .bool st], rT ts.length C0 e0 ts, rK ks.length C1 e1 ks, rF fs.length C2 e2 fs]) V w' [])) :
 Calls Tryz.prog 68 #[.agg #[.int .i64 a, .int .i64 b, .int .i64 c, .int .i64 d, .int .i64 e], .agg #[.slice A0 ts.length c0, .slice A1 ks.length c1, .slice A2 fs.length c2, .int .i64 tn, .bool st], .int .i64 wk, .func (.func G) #[] cap] w (GaveS [] w ⟨ts, ks, fs, tn, st, rp, 0⟩) := by
 have hmf : ∀ (fn : Fn) (first cap : Array Value) (w : World), (Instr.makeFunc fn first cap).run Tryz.prog w = .ok (.func fn first cap) w := fun _ _ _ _ => rfl
 have hpl : 1 ≤ a ∧ a ≤ 30 := by
  have h1 := (poolB_parts hp).1
  simp [planB, btw] at h1
  omega
 obtain ⟨pl1, pl2⟩ := hpl
 have HL := hide hL
 clear hL
 have HY := hide (⟨hp, hw, trivial⟩ : _ ∧ _ ∧ True)
 clear hp hw
 have H := hide h
 clear h
 go_enter_defers Tryz.func68, Tryz.ntmps68
 go_wp2_with fail
 generalize hW : (((w.alloc _).alloc _).alloc _).alloc _ = W1
 have M := Sep.e4 hW
 clear hW
 obtain ⟨tS, Ab, Ai, Aa, Ah⟩ := M.f2 0 rfl
 obtain ⟨tR, Ag, Aj, Ad, An, Af, Am, Ac, Ak, Ae, Al⟩ := M.f5 1 rfl
 obtain ⟨tX, Ar, Bh, Ap, Bb, Be, Aq, Ba, Bg, As, Ay⟩ := M.f5 2 rfl
 obtain ⟨tP, Az, Bc, Bd, Av, Bf, Ao, Au, Ax, At, Aw⟩ := M.f5 3 rfl
 go_wp2_with fail
 go_call (pright_v a b c d e ts ks fs A0 A1 A2 c0 c1 c2 tn st _ true HY.out.1 _ hk hf (M.blk 2 rfl) (H.out.below M.below)) as r W2 ⟨rfl, g1⟩
 clear tS Ab Ai Aa Ah tR Ag Aj Ad An Af Am Ac Ak Ae Al tX Ar Bh Ap Bb Be Aq Ba Bg As Ay tP Az Bc Bd Av Bf Ao Au Ax At Aw
 replace M := M.call g1
 clear g1
 obtain ⟨tS, Ab, Ai, Aa, Ah⟩ := M.f2 0 rfl
 obtain ⟨tR, Ag, Aj, Ad, An, Af, Am, Ac, Ak, Ae, Al⟩ := M.f5 1 rfl
 obtain ⟨tX, Ar, Bh, Ap, Bb, Be, Aq, Ba, Bg, As, Ay⟩ := M.f5 2 rfl
 obtain ⟨tP, Az, Bc, Bd, Av, Bf, Ao, Au, Ax, At, Aw⟩ := M.f5 3 rfl
 go_wp2_with fail
 have hW := hasWorker_any a b c d e wk W2 pl1 pl2
 rw [HY.out.2.1] at hW
 refine Calls.mono (by with_reducible exact hW) ?_
 clear hW
 rintro r W3 ⟨rfl, g1⟩
 clear tS Ab Ai Aa Ah tR Ag Aj Ad An Af Am Ac Ak Ae Al tX Ar Bh Ap Bb Be Aq Ba Bg As Ay tP Az Bc Bd Av Bf Ao Au Ax At Aw
 replace M := M.call g1
 clear g1
 obtain ⟨tS, Ab, Ai, Aa, Ah⟩ := M.f2 0 rfl
 obtain ⟨tR, Ag, Aj, Ad, An, Af, Am, Ac, Ak, Ae, Al⟩ := M.f5 1 rfl
 obtain ⟨tX, Ar, Bh, Ap, Bb, Be, Aq, Ba, Bg, As, Ay⟩ := M.f5 2 rfl
 obtain ⟨tP, Az, Bc, Bd, Av, Bf, Ao, Au, Ax, At, Aw⟩ := M.f5 3 rfl
 go_wp2_with fail
 go_call (giveUp_no 8 _) as r W ⟨rfl, rfl⟩
 go_wp2_with fail
 go_call (copied_s ts ks fs A0 A1 A2 c0 c1 c2 tn st _ _ ht hk hf (M.blk 2 rfl) (H.out.below M.below)) as r W4 ⟨C0, C1, C2, e0, e1, e2, rfl, g1⟩
 clear tS Ab Ai Aa Ah tR Ag Aj Ad An Af Am Ac Ak Ae Al tX Ar Bh Ap Bb Be Aq Ba Bg As Ay tP Az Bc Bd Av Bf Ao Au Ax At Aw
 replace M := Sep.new M g1
 simp only [List.cons_append, List.nil_append] at M
 clear g1
 obtain ⟨tS, Ab, Ai, Aa, Ah⟩ := M.f2 3 rfl
 obtain ⟨tR, Ag, Aj, Ad, An, Af, Am, Ac, Ak, Ae, Al⟩ := M.f5 4 rfl
 obtain ⟨tX, Ar, Bh, Ap, Bb, Be, Aq, Ba, Bg, As, Ay⟩ := M.f5 5 rfl
 obtain ⟨tP, Az, Bc, Bd, Av, Bf, Ao, Au, Ax, At, Aw⟩ := M.f5 6 rfl
 go_wp2_with fail
 clear tS Ab Ai Aa Ah tR Ag Aj Ad An Af Am Ac Ak Ae Al tX Ar Bh Ap Bb Be Aq Ba Bg As Ay tP Az Bc Bd Av Bf Ao Au Ax At Aw
 have N := M.galloc 30 #[.slice C0 ts.length e0, .slice C1 ks.length e1, .slice C2 fs.length e2, .int .i64 tn, .bool st]
 clear M
 obtain ⟨W5, eW, M⟩ := N
 rw [eW]
 clear eW
 obtain ⟨tY, Bm, Bj, Bi, Br, Bl, Bp, Bk, Bq, Bo, Bn⟩ := M.f5 0 rfl
 obtain ⟨tS, Ab, Ai, Aa, Ah⟩ := M.f2 4 rfl
 obtain ⟨tR, Ag, Aj, Ad, An, Af, Am, Ac, Ak, Ae, Al⟩ := M.f5 5 rfl
 obtain ⟨tX, Ar, Bh, Ap, Bb, Be, Aq, Ba, Bg, As, Ay⟩ := M.f5 6 rfl
 obtain ⟨tP, Az, Bc, Bd, Av, Bf, Ao, Au, Ax, At, Aw⟩ := M.f5 7 rfl
 go_wp2_with fail
 clear tY Bm Bj Bi Br Bl Bp Bk Bq Bo Bn tS Ab Ai Aa Ah tR Ag Aj Ad An Af Am Ac Ak Ae Al tX Ar Bh Ap Bb Be Aq Ba Bg As Ay tP Az Bc Bd Av Bf Ao Au Ax At Aw
 replace M := M.front 3 rfl
 simp only [List.eraseIdx_cons_succ, List.eraseIdx_cons_zero] at M
 replace M := M.front 3 rfl
 simp only [List.eraseIdx_cons_succ, List.eraseIdx_cons_zero] at M
 replace M := M.front 3 rfl
 simp only [List.eraseIdx_cons_succ, List.eraseIdx_cons_zero] at M
 replace M := M.front 3 rfl
 simp only [List.eraseIdx_cons_succ, List.eraseIdx_cons_zero] at M
 have hC := HL.out _ (W4.heap.size) C0 C1 C2 e0 e1 e2 M.below (Sep.same (ps := [.blk (W4.heap.size) 30 #[.slice C0 ts.length e0, .slice C1 ks.length e1, .slice C2 fs.length e2, .int .i64 tn, .bool st], rT ts.length C0 e0 ts, rK ks.length C1 e1 ks, rF fs.length C2 e2 fs]) (rs := [.blk (w.heap.size + 3) 55 #[.int .i64 0, .int .i64 0], .blk (w.heap.size + 2) 30 #[.slice none 0 0, .slice none 0 0, .slice none 0 0, .int .i64 0, .bool false], .blk (w.heap.size + 1) 30 #[.slice A0 ts.length c0, .slice A1 ks.length c1, .slice A2 fs.length c2, .int .i64 tn, .bool st], .blk (w.heap.size) 25 #[.int .i64 a, .int .i64 b, .int .i64 c, .int .i64 d, .int .i64 e]]) M (Below.refl _ _))
 refine Calls.mono (by with_reducible exact hC) ?_
 clear hC
 rintro r W6 ⟨rfl, g1⟩
 replace M : Sep [] w W6 [.blk (w.heap.size + 3) 55 #[.int .i64 0, .int .i64 0], .blk (w.heap.size + 2) 30 #[.slice none 0 0, .slice none 0 0, .slice none 0 0, .int .i64 0, .bool false], .blk (w.heap.size + 1) 30 #[.slice A0 ts.length c0, .slice A1 ks.length c1, .slice A2 fs.length c2, .int .i64 tn, .bool st], .blk (w.heap.size) 25 #[.int .i64 a, .int .i64 b, .int .i64 c, .int .i64 d, .int .i64 e]] := Sep.comp (ps := [.blk (W4.heap.size) 30 #[.slice C0 ts.length e0, .slice C1 ks.length e1, .slice C2 fs.length e2, .int .i64 tn, .bool st], rT ts.length C0 e0 ts, rK ks.length C1 e1 ks, rF fs.length C2 e2 fs]) (rs := [.blk (w.heap.size + 3) 55 #[.int .i64 0, .int .i64 0], .blk (w.heap.size + 2) 30 #[.slice none 0 0, .slice none 0 0, .slice none 0 0, .int .i64 0, .bool false], .blk (w.heap.size + 1) 30 #[.slice A0 ts.length c0, .slice A1 ks.length c1, .slice A2 fs.length c2, .int .i64 tn, .bool st], .blk (w.heap.size) 25 #[.int .i64 a, .int .i64 b, .int .i64 c, .int .i64 d, .int .i64 e]]) M g1
 clear g1
 go_wp2_with fail
 replace M := M.front 1 rfl
 simp only [List.eraseIdx_cons_succ, List.eraseIdx_cons_zero] at M
 refine leaves_cons (f := 109) (args := #[.pointer (some ⟨w.heap.size + 1, 0, none⟩), .pointer (some ⟨w.heap.size + 2, 0, none⟩), .pointer (some ⟨w.heap.size + 3, 0, none⟩)]) (by simp) (by simp [go_sem]) ?_
 refine (catch_panic ts ks fs A0 A1 A2 c0 c1 c2 tn st _ _ _ rp [] _ ht hk hf (M.blk 2 rfl) (H.out.below M.below) (Sep.same (ps := [.blk (w.heap.size + 2) 30 #[.slice none 0 0, .slice none 0 0, .slice none 0 0, .int .i64 0, .bool false], .blk (w.heap.size + 3) 55 #[.int .i64 0, .int .i64 0]]) (rs := [.blk (w.heap.size + 1) 30 #[.slice A0 ts.length c0, .slice A1 ks.length c1, .slice A2 fs.length c2, .int .i64 tn, .bool st], .blk (w.heap.size) 25 #[.int .i64 a, .int .i64 b, .int .i64 c, .int .i64 d, .int .i64 e]]) M (Below.refl _ _))).mono ?_
 rintro r u W7 ⟨rfl, rfl, B0, B1, B2, d0, d1, d2, g1⟩
 replace M : Sep [] w W7 [rT ts.length B0 d0 ts, rK ks.length B1 d1 ks, rF fs.length B2 d2 fs, .blk (w.heap.size + 2) 30 #[.slice B0 ts.length d0, .slice B1 ks.length d1, .slice B2 fs.length d2, .int .i64 tn, .bool st], .blk (w.heap.size + 3) 55 #[.int .i64 rp, .int .i64 0], .blk (w.heap.size + 1) 30 #[.slice A0 ts.length c0, .slice A1 ks.length c1, .slice A2 fs.length c2, .int .i64 tn, .bool st], .blk (w.heap.size) 25 #[.int .i64 a, .int .i64 b, .int .i64 c, .int .i64 d, .int .i64 e]] := Sep.comp (ps := [.blk (w.heap.size + 2) 30 #[.slice none 0 0, .slice none 0 0, .slice none 0 0, .int .i64 0, .bool false], .blk (w.heap.size + 3) 55 #[.int .i64 0, .int .i64 0]]) (rs := [.blk (w.heap.size + 1) 30 #[.slice A0 ts.length c0, .slice A1 ks.length c1, .slice A2 fs.length c2, .int .i64 tn, .bool st], .blk (w.heap.size) 25 #[.int .i64 a, .int .i64 b, .int .i64 c, .int .i64 d, .int .i64 e]]) M g1
 clear g1
 obtain ⟨tR, Ag, Ad, Af, Ac, Ae⟩ := M.q5 3 rfl
 obtain ⟨tS, Ab, Aa⟩ := M.q2 4 rfl
 exact ⟨.tuple #[.agg #[.slice B0 ts.length d0, .slice B1 ks.length d1, .slice B2 fs.length d2, .int .i64 tn, .bool st], .agg #[.int .i64 rp, .int .i64 0]], by simp [results, Tryz.results68, go_sem, Ag, Ad, Af, Ac, Ae, Ab, Aa], B0, B1, B2, d0, d1, d2, rfl, M.take 3⟩
set_option maxHeartbeats 800000 in
theorem lived_yes (a b c d e : Int) (ts : List T7) (ks : List Int) (fs : List F2) (A0 A1 A2 : Option Addr) (c0 c1 c2 : Nat) (tn : Int) (st : Bool) (wk : Int) (G : FuncId) (cap : Array Value) (hG : ∀ args w, (callFunc G args).run Tryz.prog w = .ok (.enter G args) w) (w : World) (ht : ts.length ≤ 1048576) (hk : ks.length ≤ 1048576) (hf : fs.length ≤ 1048576) (h : InPool w ts ks fs A0 A1 A2) (hp : poolB a b c d e ts ks fs tn = true) (hw : btw wk 0 (a - 1) = true) (o : OutP) (hL : ∀ (V : World) (g : Nat) (C0 C1 C2 : Option Addr) (e0 e1 e2 : Nat), Below w.heap.size w V → Sep (fps [.blk g 30 #[.slice C0 ts.length e0, .slice C1 ks.length e1, .slice C2 fs.length e2, .int .i64 tn, .bool st], rT ts.length C0 e0 ts, rK ks.length C1 e1 ks, rF fs.length C2 e2 fs]) V V [.blk g 30 #[.slice C0 ts.length e0, .slice C1 ks.length e1, .slice C2 fs.length e2, .int .i64 tn, .bool st], rT ts.length C0 e0 ts, rK ks.length C1 e1 ks, rF fs.length C2 e2 fs] → Calls Tryz.prog G (#[.pointer (some ⟨g, 0, none⟩)] ++ cap) V (fun r w' => ∃ (D0 D1 D2 : Option Addr) (f0 f1 f2 : Nat), r = .returned (.agg #[.int .i64 o.rp, .int .i64 o.ou]) ∧ Sep (fps [.blk g 30 #[.slice C0 ts.length e0, .slice C1 ks.length e1, .slice C2 fs.length e2, .int .i64 tn, .bool st], rT ts.length C0 e0 ts, rK ks.length C1 e1 ks, rF fs.length C2 e2 fs]) V w' [.blk g 30 #[.slice D0 o.ts.length f0, .slice D1 o.ks.length f1, .slice D2 o.fs.length f2, .int .i64 o.tn, .bool o.st], rT o.ts.length D0 f0 o.ts, rK o.ks.length D1 f1 o.ks, rF o.fs.length D2 f2 o.fs])) :
 Calls Tryz.prog 68 #[.agg #[.int .i64 a, .int .i64 b, .int .i64 c, .int .i64 d, .int .i64 e], .agg #[.slice A0 ts.length c0, .slice A1 ks.length c1, .slice A2 fs.length c2, .int .i64 tn, .bool st], .int .i64 wk, .func (.func G) #[] cap] w (GaveS [] w o) := by
 have hmf : ∀ (fn : Fn) (first cap : Array Value) (w : World), (Instr.makeFunc fn first cap).run Tryz.prog w = .ok (.func fn first cap) w := fun _ _ _ _ => rfl
 have hpl : 1 ≤ a ∧ a ≤ 30 := by
  have h1 := (poolB_parts hp).1
  simp [planB, btw] at h1
  omega
 obtain ⟨pl1, pl2⟩ := hpl
 have HL := hide hL
 clear hL
 have HY := hide (⟨hp, hw, trivial⟩ : _ ∧ _ ∧ True)
 clear hp hw
 have H := hide h
 clear h
 go_enter_defers Tryz.func68, Tryz.ntmps68
 go_wp2_with fail
 generalize hW : (((w.alloc _).alloc _).alloc _).alloc _ = W1
 have M := Sep.e4 hW
 clear hW
 obtain ⟨tS, Ab, Ai, Aa, Ah⟩ := M.f2 0 rfl
 obtain ⟨tR, Ag, Aj, Ad, An, Af, Am, Ac, Ak, Ae, Al⟩ := M.f5 1 rfl
 obtain ⟨tX, Ar, Bh, Ap, Bb, Be, Aq, Ba, Bg, As, Ay⟩ := M.f5 2 rfl
 obtain ⟨tP, Az, Bc, Bd, Av, Bf, Ao, Au, Ax, At, Aw⟩ := M.f5 3 rfl
 go_wp2_with fail
 go_call (pright_v a b c d e ts ks fs A0 A1 A2 c0 c1 c2 tn st _ true HY.out.1 _ hk hf (M.blk 2 rfl) (H.out.below M.below)) as r W2 ⟨rfl, g1⟩
 clear tS Ab Ai Aa Ah tR Ag Aj Ad An Af Am Ac Ak Ae Al tX Ar Bh Ap Bb Be Aq Ba Bg As Ay tP Az Bc Bd Av Bf Ao Au Ax At Aw
 replace M := M.call g1
 clear g1
 obtain ⟨tS, Ab, Ai, Aa, Ah⟩ := M.f2 0 rfl
 obtain ⟨tR, Ag, Aj, Ad, An, Af, Am, Ac, Ak, Ae, Al⟩ := M.f5 1 rfl
 obtain ⟨tX, Ar, Bh, Ap, Bb, Be, Aq, Ba, Bg, As, Ay⟩ := M.f5 2 rfl
 obtain ⟨tP, Az, Bc, Bd, Av, Bf, Ao, Au, Ax, At, Aw⟩ := M.f5 3 rfl
 go_wp2_with fail
 have hW := hasWorker_any a b c d e wk W2 pl1 pl2
 rw [HY.out.2.1] at hW
 refine Calls.mono (by with_reducible exact hW) ?_
 clear hW
 rintro r W3 ⟨rfl, g1⟩
 clear tS Ab Ai Aa Ah tR Ag Aj Ad An Af Am Ac Ak Ae Al tX Ar Bh Ap Bb Be Aq Ba Bg As Ay tP Az Bc Bd Av Bf Ao Au Ax At Aw
 replace M := M.call g1
 clear g1
 obtain ⟨tS, Ab, Ai, Aa, Ah⟩ := M.f2 0 rfl
 obtain ⟨tR, Ag, Aj, Ad, An, Af, Am, Ac, Ak, Ae, Al⟩ := M.f5 1 rfl
 obtain ⟨tX, Ar, Bh, Ap, Bb, Be, Aq, Ba, Bg, As, Ay⟩ := M.f5 2 rfl
 obtain ⟨tP, Az, Bc, Bd, Av, Bf, Ao, Au, Ax, At, Aw⟩ := M.f5 3 rfl
 go_wp2_with fail
 go_call (giveUp_no 8 _) as r W ⟨rfl, rfl⟩
 go_wp2_with fail
 go_call (copied_s ts ks fs A0 A1 A2 c0 c1 c2 tn st _ _ ht hk hf (M.blk 2 rfl) (H.out.below M.below)) as r W4 ⟨C0, C1, C2, e0, e1, e2, rfl, g1⟩
 clear tS Ab Ai Aa Ah tR Ag Aj Ad An Af Am Ac Ak Ae Al tX Ar Bh Ap Bb Be Aq Ba Bg As Ay tP Az Bc Bd Av Bf Ao Au Ax At Aw
 replace M := Sep.new M g1
 simp only [List.cons_append, List.nil_append] at M
 clear g1
 obtain ⟨tS, Ab, Ai, Aa, Ah⟩ := M.f2 3 rfl
 obtain ⟨tR, Ag, Aj, Ad, An, Af, Am, Ac, Ak, Ae, Al⟩ := M.f5 4 rfl
 obtain ⟨tX, Ar, Bh, Ap, Bb, Be, Aq, Ba, Bg, As, Ay⟩ := M.f5 5 rfl
 obtain ⟨tP, Az, Bc, Bd, Av, Bf, Ao, Au, Ax, At, Aw⟩ := M.f5 6 rfl
 go_wp2_with fail
 clear tS Ab Ai Aa Ah tR Ag Aj Ad An Af Am Ac Ak Ae Al tX Ar Bh Ap Bb Be Aq Ba Bg As Ay tP Az Bc Bd Av Bf Ao Au Ax At Aw
 have N := M.galloc 30 #[.slice C0 ts.length e0, .slice C1 ks.length e1, .slice C2 fs.length e2, .int .i64 tn, .bool st]
 clear M
 obtain ⟨W5, eW, M⟩ := N
 rw [eW]
 clear eW
 obtain ⟨tY, Bm, Bj, Bi, Br, Bl, Bp, Bk, Bq, Bo, Bn⟩ := M.f5 0 rfl
 obtain ⟨tS, Ab, Ai, Aa, Ah⟩ := M.f2 4 rfl
 obtain ⟨tR, Ag, Aj, Ad, An, Af, Am, Ac, Ak, Ae, Al⟩ := M.f5 5 rfl
 obtain ⟨tX, Ar, Bh, Ap, Bb, Be, Aq, Ba, Bg, As, Ay⟩ := M.f5 6 rfl
 obtain ⟨tP, Az, Bc, Bd, Av, Bf, Ao, Au, Ax, At, Aw⟩ := M.f5 7 rfl
 go_wp2_with fail
 clear tY Bm Bj Bi Br Bl Bp Bk Bq Bo Bn tS Ab Ai Aa Ah tR Ag Aj Ad An Af Am Ac Ak Ae Al tX Ar Bh Ap Bb Be Aq Ba Bg As Ay tP Az Bc Bd Av Bf Ao Au Ax At Aw
 replace M := M.front 3 rfl
 simp only [List.eraseIdx_cons_succ, List.eraseIdx_cons_zero] at M
 replace M := M.front 3 rfl
 simp only [List.eraseIdx_cons_succ, List.eraseIdx_cons_zero] at M
 replace M := M.front 3 rfl
 simp only [List.eraseIdx_cons_succ, List.eraseIdx_cons_zero] at M
 replace M := M.front 3 rfl
 simp only [List.eraseIdx_cons_succ, List.eraseIdx_cons_zero] at M
 have hC := HL.out _ (W4.heap.size) C0 C1 C2 e0 e1 e2 M.below (Sep.same (ps := [.blk (W4.heap.size) 30 #[.slice C0 ts.length e0, .slice C1 ks.length e1, .slice C2 fs.length e2, .int .i64 tn, .bool st], rT ts.length C0 e0 ts, rK ks.length C1 e1 ks, rF fs.length C2 e2 fs]) (rs := [.blk (w.heap.size + 3) 55 #[.int .i64 0, .int .i64 0], .blk (w.heap.size + 2) 30 #[.slice none 0 0, .slice none 0 0, .slice none 0 0, .int .i64 0, .bool false], .blk (w.heap.size + 1) 30 #[.slice A0 ts.length c0, .slice A1 ks.length c1, .slice A2 fs.length c2, .int .i64 tn, .bool st], .blk (w.heap.size) 25 #[.int .i64 a, .int .i64 b, .int .i64 c, .int .i64 d, .int .i64 e]]) M (Below.refl _ _))
 refine Calls.mono (by with_reducible exact hC) ?_
 clear hC
 rintro r W6 ⟨D0, D1, D2, f0, f1, f2, rfl, g1⟩
 replace M : Sep [] w W6 [.blk (W4.heap.size) 30 #[.slice D0 o.ts.length f0, .slice D1 o.ks.length f1, .slice D2 o.fs.length f2, .int .i64 o.tn, .bool o.st], rT o.ts.length D0 f0 o.ts, rK o.ks.length D1 f1 o.ks, rF o.fs.length D2 f2 o.fs, .blk (w.heap.size + 3) 55 #[.int .i64 0, .int .i64 0], .blk (w.heap.size + 2) 30 #[.slice none 0 0, .slice none 0 0, .slice none 0 0, .int .i64 0, .bool false], .blk (w.heap.size + 1) 30 #[.slice A0 ts.length c0, .slice A1 ks.length c1, .slice A2 fs.length c2, .int .i64 tn, .bool st], .blk (w.heap.size) 25 #[.int .i64 a, .int .i64 b, .int .i64 c, .int .i64 d, .int .i64 e]] := Sep.comp (ps := [.blk (W4.heap.size) 30 #[.slice C0 ts.length e0, .slice C1 ks.length e1, .slice C2 fs.length e2, .int .i64 tn, .bool st], rT ts.length C0 e0 ts, rK ks.length C1 e1 ks, rF fs.length C2 e2 fs]) (rs := [.blk (w.heap.size + 3) 55 #[.int .i64 0, .int .i64 0], .blk (w.heap.size + 2) 30 #[.slice none 0 0, .slice none 0 0, .slice none 0 0, .int .i64 0, .bool false], .blk (w.heap.size + 1) 30 #[.slice A0 ts.length c0, .slice A1 ks.length c1, .slice A2 fs.length c2, .int .i64 tn, .bool st], .blk (w.heap.size) 25 #[.int .i64 a, .int .i64 b, .int .i64 c, .int .i64 d, .int .i64 e]]) M g1
 clear g1
 obtain ⟨tY, Bm, Bj, Bi, Br, Bl, Bp, Bk, Bq, Bo, Bn⟩ := M.f5 0 rfl
 obtain ⟨tS, Ab, Ai, Aa, Ah⟩ := M.f2 4 rfl
 go_wp2_with fail
 clear tY Bm Bj Bi Br Bl Bp Bk Bq Bo Bn tS Ab Ai Aa Ah
 have N := M.gset2 4 rfl (.int .i64 o.rp) (.int .i64 o.ou)
 clear M
 obtain ⟨W7, eW, M⟩ := N
 rw [eW]
 clear eW
 simp only [List.set_cons_zero, List.set_cons_succ] at M
 go_cut [] from 25 to 26 (fun wc => Sep [] w wc [.blk (W4.heap.size) 30 #[.slice D0 o.ts.length f0, .slice D1 o.ks.length f1, .slice D2 o.fs.length f2, .int .i64 o.tn, .bool o.st], rT o.ts.length D0 f0 o.ts, rK o.ks.length D1 f1 o.ks, rF o.fs.length D2 f2 o.fs, .blk (w.heap.size + 3) 55 #[.int .i64 o.rp, .int .i64 o.ou], .blk (w.heap.size + 2) 30 #[.slice D0 o.ts.length f0, .slice D1 o.ks.length f1, .slice D2 o.fs.length f2, .int .i64 o.tn, .bool o.st], .blk (w.heap.size + 1) 30 #[.slice A0 ts.length c0, .slice A1 ks.length c1, .slice A2 fs.length c2, .int .i64 tn, .bool st], .blk (w.heap.size) 25 #[.int .i64 a, .int .i64 b, .int .i64 c, .int .i64 d, .int .i64 e]])
 case first =>
  refine wp_noPanic ?_
  refine wp_region_T (S := (fun w' => w'.cell? ⟨W4.heap.size, 0, none⟩ = some (.slice D0 o.ts.length f0) ∧ w'.cell? ⟨W4.heap.size, 1, none⟩ = some (.slice D1 o.ks.length f1) ∧ w'.cell? ⟨W4.heap.size, 2, none⟩ = some (.slice D2 o.fs.length f2) ∧ w'.cell? ⟨W4.heap.size, 3, none⟩ = some (.int .i64 o.tn) ∧ w'.cell? ⟨W4.heap.size, 4, none⟩ = some (.bool o.st) ∧ w'.cell? ⟨w.heap.size + 3, 0, none⟩ = some (.int .i64 o.rp) ∧ w'.cell? ⟨w.heap.size + 3, 1, none⟩ = some (.int .i64 o.ou))) (ks := [3]) (by kernel_rfl) ⟨M.cell 0 0 rfl, M.cell 0 1 rfl, M.cell 0 2 rfl, M.cell 0 3 rfl, M.cell 0 4 rfl, M.cell 4 0 rfl, M.cell 4 1 rfl⟩ (fun hHeld => ?_)
  replace M := M.drew
  generalize W7.drew = W8 at M hHeld ⊢
  refine tkL 0 ?v0u1 rfl ?hy0u1 hHeld ?_
  case hy0u1 => (intro w hSw; (try dsimp only at hSw); go_split_ands; go_simp; all_goals with_reducible rfl)
  try simp only [Act.put, List.setIfInBounds_toArray, List.set_cons_zero, List.set_cons_succ]
  refine tkL 1 ?v1u2 rfl ?hy1u2 hHeld ?_
  case hy1u2 => (intro w hSw; (try dsimp only at hSw); go_split_ands; go_simp; all_goals with_reducible rfl)
  try simp only [Act.put, List.setIfInBounds_toArray, List.set_cons_zero, List.set_cons_succ]
  obtain ⟨tR, Ag, Aj, Ad, An, Af, Am, Ac, Ak, Ae, Al⟩ := M.f5 5 rfl
  refine wpAnyT_callL (i := 2) rfl (by kernel_rfl) (fun K hK => ?_)
  go_simp
  clear tR Ag Aj Ad An Af Am Ac Ak Ae Al
  have N := M.gset5 5 rfl (.slice D0 o.ts.length f0) (.slice D1 o.ks.length f1) (.slice D2 o.fs.length f2) (.int .i64 o.tn) (.bool o.st)
  clear M
  obtain ⟨W9, eW, M⟩ := N
  rw [eW]
  clear eW
  simp only [List.set_cons_zero, List.set_cons_succ] at M
  clear hHeld
  refine hK.out _ _ ?_ (fun hHeld => ?_)
  ·exact ⟨M.cell 0 0 rfl, M.cell 0 1 rfl, M.cell 0 2 rfl, M.cell 0 3 rfl, M.cell 0 4 rfl, M.cell 4 0 rfl, M.cell 4 1 rfl⟩
  clear hK K
  try simp only [Act.put, List.setIfInBounds_toArray, List.set_cons_zero, List.set_cons_succ]
  obtain ⟨tS, Ab, Ai, Aa, Ah⟩ := M.f2 4 rfl
  refine wpAnyT_oneL (i := 3) rfl (by kernel_rfl) (by kernel_rfl) (fun K hK => ?_)
  go_simp
  refine hK.out _ _ ?_
  clear hK K
  try simp only [Act.put, List.setIfInBounds_toArray, List.set_cons_zero, List.set_cons_succ]
  clear tS Ab Ai Aa Ah
  have N := M.gset2 4 rfl (.int .i64 o.rp) (.int .i64 o.ou)
  clear M
  obtain ⟨W10, eW, M⟩ := N
  rw [eW]
  clear eW
  simp only [List.set_cons_zero, List.set_cons_succ] at M
  refine wpAnyT_done (by kernel_rfl) ?_ _
  go_wp2_with fail
  go_meet
  exact M
 case rest =>
  clear M
  have M := hcut
  clear hcut
  rename World => W11
  go_wp2_with fail
  replace M := M.front 4 rfl
  simp only [List.eraseIdx_cons_succ, List.eraseIdx_cons_zero] at M
  replace M := M.front 5 rfl
  simp only [List.eraseIdx_cons_succ, List.eraseIdx_cons_zero] at M
  refine leaves_cons (f := 109) (args := #[.pointer (some ⟨w.heap.size + 1, 0, none⟩), .pointer (some ⟨w.heap.size + 2, 0, none⟩), .pointer (some ⟨w.heap.size + 3, 0, none⟩)]) (by simp) (by simp [go_sem]) ?_
  refine (catch_idle _ _ _ _).mono ?_
  rintro r u WZ ⟨rfl, rfl, rfl⟩
  replace M := M.front 5 rfl
  simp only [List.eraseIdx_cons_succ, List.eraseIdx_cons_zero] at M
  replace M := M.front 5 rfl
  simp only [List.eraseIdx_cons_succ, List.eraseIdx_cons_zero] at M
  replace M := M.front 5 rfl
  simp only [List.eraseIdx_cons_succ, List.eraseIdx_cons_zero] at M
  obtain ⟨tR, Ag, Ad, Af, Ac, Ae⟩ := M.q5 3 rfl
  obtain ⟨tS, Ab, Aa⟩ := M.q2 4 rfl
  exact ⟨.tuple #[.agg #[.slice D0 o.ts.length f0, .slice D1 o.ks.length f1, .slice D2 o.fs.length f2, .int .i64 o.tn, .bool o.st], .agg #[.int .i64 o.rp, .int .i64 o.ou]], by simp [results, Tryz.results68, go_sem, Ag, Ad, Af, Ac, Ae, Ab, Aa], D0, D1, D2, f0, f1, f2, rfl, M.take 3⟩
/-- All blocks from B on lie as they lay. -/
structure Above (B : Nat) (W W' : World) : Prop where
 size : W.heap.size ≤ W'.heap.size
 same : ∀ k, B ≤ k → k < W.heap.size → W'.heap[k]? = W.heap[k]?
theorem Above.refl (B : Nat) (W : World) : Above B W W := ⟨Nat.le_refl _, fun _ _ _ => rfl⟩
theorem Above.trans {B : Nat} {A C D : World} (h : Above B A C) (k : Above B C D) : Above B A D :=
 ⟨Nat.le_trans h.size k.size, fun i hB hi => (k.same i hB (Nat.lt_of_lt_of_le hi h.size)).trans (h.same i hB hi)⟩
theorem Above.mono {B B' : Nat} {A C : World} (h : Above B A C) (hB : B ≤ B') : Above B' A C := ⟨h.size, fun k hk hl => h.same k (Nat.le_trans hB hk) hl⟩
theorem Above.some {B k : Nat} {o : Obj} {A C : World} (h : Above B A C) (hB : B ≤ k) (ho : A.heap[k]? = some o) : C.heap[k]? = some o :=
 (h.same k hB (Array.getElem?_eq_some_iff.1 ho).1).trans ho
/-- A walk by things whose blocks all lie below B. -/
theorem Sep.above {S : List Nat} {w W : World} {rs : List Res} {B : Nat} (h : Sep S w W rs) (hS : ∀ g ∈ S, g < B) : Above B w W :=
 ⟨h.size, fun k hk hl => h.block k hl (fun hm => by have := hS k hm; omega)⟩
variable {F : Fence} {n : Nat} {P : Program}
/-- A place in a line: level, turn, number. -/
structure P3 where (l t i : Int)
instance : Inhabited P3 := ⟨⟨0, 0, 0⟩⟩
def P3.cs (x : P3) : List Value := [.int .i64 x.l, .int .i64 x.t, .int .i64 x.i]
def P3.val (x : P3) : Value := .agg #[.int .i64 x.l, .int .i64 x.t, .int .i64 x.i]
def pcells (ps : List P3) : List Value := ps.flatMap P3.cs
def aheadP (x y : P3) : Bool := if x.l = y.l then (if x.t = y.t then decide (x.i < y.i) else decide (x.t < y.t)) else decide (y.l < x.l)
theorem pcells_length (ps : List P3) : (pcells ps).length = ps.length * 3 := by
 induction ps with
 | nil => rfl
 | cons x r ih => simp only [pcells, List.flatMap_cons, List.length_append, List.length_cons] at ih ⊢; rw [ih]; simp [P3.cs]; omega
theorem pcells_get (ps : List P3) (k : Nat) (hk : k < ps.length) (j : Nat) (hj : j < 3) : (pcells ps)[k * 3 + j]? = ps[k].cs[j]? := by
 induction ps generalizing k with
 | nil => simp at hk
 | cons x r ih =>
  have e : pcells (x :: r) = x.cs ++ pcells r := rfl
  rw [e]
  cases k with
  | zero => rw [List.getElem?_append_left (by simp [P3.cs]; omega)]; simp
  | succ k =>
   have hl : x.cs.length = 3 := rfl
   rw [List.getElem?_append_right (by rw [hl]; omega), hl, show (k + 1) * 3 + j - 3 = k * 3 + j from by omega, ih k (by simpa using hk)]
   simp
theorem pcells_at (ps : List P3) (j : Nat) : (pcells ps)[j]? = (ps[j / 3]?).bind (fun t => t.cs[j % 3]?) := by
 by_cases h : j / 3 < ps.length
 ·have := pcells_get ps (j / 3) h (j % 3) (by omega)
  rw [show j / 3 * 3 + j % 3 = j from by omega] at this
  rw [this]; simp [h]
 ·rw [List.getElem?_eq_none (by rw [pcells_length]; omega), List.getElem?_eq_none (by omega)]; rfl
theorem pcells_put (ps : List P3) (k : Nat) (x : P3) : (((pcells ps).set (k * 3) (.int .i64 x.l)).set (k * 3 + 1) (.int .i64 x.t)).set (k * 3 + 2) (.int .i64 x.i) = pcells (ps.set k x) := by
 apply List.ext_getElem?
 intro j
 rw [pcells_at (ps.set k x)]
 simp only [List.getElem?_set, List.length_set, pcells_length]
 by_cases hk : k = j / 3
 ·subst hk
  by_cases hl : j / 3 < ps.length
  ·have h3 : j % 3 = 0 ∨ j % 3 = 1 ∨ j % 3 = 2 := by omega
   have hj : j < ps.length * 3 := by omega
   rcases h3 with h | h | h
   all_goals rw [h]
   all_goals simp only [hl, if_true, Option.bind_some, P3.cs]
   ·rw [if_neg (by omega), if_neg (by omega), if_pos (by omega), if_pos (by omega)]; rfl
   ·rw [if_neg (by omega), if_pos (by omega), if_pos (by omega)]; rfl
   ·rw [if_pos (by omega), if_pos (by omega)]; rfl
  ·simp only [hl, if_false, if_true, Option.bind_none]
   repeat (split; · first | omega | (split <;> first | omega | rfl))
   rw [List.getElem?_eq_none (by rw [pcells_length]; omega)]
 ·rw [if_neg hk, if_neg (by omega), if_neg (by omega), if_neg (by omega), pcells_at]
theorem pcells_take (xs : List P3) (k : Nat) : (pcells xs).take (k * 3) = pcells (xs.take k) := by
 apply List.ext_getElem?
 intro j
 rw [List.getElem?_take, pcells_at, pcells_at, List.getElem?_take]
 by_cases h : j < k * 3
 ·rw [if_pos h, if_pos (show j / 3 < k by omega)]
 ·rw [if_neg h, if_neg (show ¬ j / 3 < k by omega)]; rfl
theorem infoPlace : (Tryz.prog.info? 124).map (fun i => (i.zero, i.size, i.bytes)) = some (some (.agg #[.int .i64 0, .int .i64 0, .int .i64 0]), 3, 24) := by kernel_rfl
set_option maxHeartbeats 4000000 in
theorem ahead_any (l t i l2 t2 i2 : Int) (w : World) :
 Calls Tryz.prog 171 #[.agg #[.int .i64 l, .int .i64 t, .int .i64 i], .agg #[.int .i64 l2, .int .i64 t2, .int .i64 i2]] w fun r w' => r = .returned (.bool (aheadP ⟨l, t, i⟩ ⟨l2, t2, i2⟩)) ∧ Below w.heap.size w w' := by
 by_cases k1 : l = l2
 ·by_cases k2 : t = t2
  ·have e : aheadP ⟨l, t, i⟩ ⟨l2, t2, i2⟩ = decide (i < i2) := by simp [aheadP, k1, k2]
   rw [e]
   subst k1 k2
   go_enter Tryz.func171, Tryz.ntmps171
   go_wp2
   go_ret
   exact ⟨rfl, by go_grown⟩
  ·have e : aheadP ⟨l, t, i⟩ ⟨l2, t2, i2⟩ = decide (t < t2) := by simp [aheadP, k1, k2]
   rw [e]
   subst k1
   go_enter Tryz.func171, Tryz.ntmps171
   go_wp2
   go_ret
   exact ⟨rfl, by go_grown⟩
 ·have e : aheadP ⟨l, t, i⟩ ⟨l2, t2, i2⟩ = decide (l2 < l) := by simp [aheadP, k1]
  rw [e]
  go_enter Tryz.func171, Tryz.ntmps171
  go_wp2
  go_ret
  exact ⟨rfl, by go_grown⟩
/-- Place k behind a slice that is not empty: where it lies, and its three cells. -/
theorem Row.ps_at {w : World} {A : Option Addr} {ps : List P3} (h : Row w A (pcells ps)) {k : Nat} (hk : k < ps.length) : ∃ (b off : Nat), A = some ⟨b, off, none⟩ ∧ b < w.heap.size ∧
 w.cell? ⟨b, off + k * 3, none⟩ = some (.int .i64 ps[k].l) ∧ w.cell? ⟨b, off + k * 3 + 1, none⟩ = some (.int .i64 ps[k].t) ∧ w.cell? ⟨b, off + k * 3 + 2, none⟩ = some (.int .i64 ps[k].i) := by
 obtain ⟨b, off, e, hc⟩ := h (by rw [pcells_length]; omega)
 have h0 : w.cell? ⟨b, off + k * 3, none⟩ = some (.int .i64 ps[k].l) := hc (k * 3 + 0) _ ((pcells_get ps k hk 0 (by omega)).trans rfl)
 exact ⟨b, off, e, World.block_lt_of_cell? w _ h0, h0, hc (k * 3 + 1) _ ((pcells_get ps k hk 1 (by omega)).trans rfl), hc (k * 3 + 2) _ ((pcells_get ps k hk 2 (by omega)).trans rfl)⟩
set_option maxHeartbeats 1000000 in
theorem len_any (A : Option Addr) (n c : Nat) (w : World) :
 Calls Tryz.prog 103 #[.slice A n c] w fun r w' => r = .returned (.int .i64 n) ∧ w = w' := by
 go_enter Tryz.func103, Tryz.ntmps103
 go_wp2
 go_ret
 exact ⟨rfl, rfl⟩
set_option maxRecDepth 100000 in
set_option maxHeartbeats 4000000 in
theorem less_any (ps : List P3) (A : Option Addr) (c i j : Nat) (hi : i < ps.length) (hj : j < ps.length) (hl : ps.length ≤ 1048576) (w : World) (h : Row w A (pcells ps)) :
 Calls Tryz.prog 167 #[.slice A ps.length c, .int .i64 i, .int .i64 j] w fun r w' => r = .returned (.bool (aheadP ps[i] ps[j])) ∧ Below w.heap.size w w' := by
 obtain ⟨b, off, rfl, hb, z0, z1, z2⟩ := h.ps_at hi
 obtain ⟨b', off', e, hb', y0, y1, y2⟩ := h.ps_at hj
 injection e with e
 injection e with e1 e2
 subst e1 e2
 have hA : aheadP ps[i] ps[j] = aheadP ⟨ps[i].l, ps[i].t, ps[i].i⟩ ⟨ps[j].l, ps[j].t, ps[j].i⟩ := rfl
 rw [hA]
 clear hA h hb'
 have hi1 : (i : Int) < (ps.length : Int) := by omega
 have hj1 : (j : Int) < (ps.length : Int) := by omega
 have hi0 : (0 : Int) ≤ (i : Int) := by omega
 have hj0 : (0 : Int) ≤ (j : Int) := by omega
 generalize ps[i].l = l1 at *
 generalize ps[i].t = t1 at *
 generalize ps[i].i = i1 at *
 generalize ps[j].l = l2 at *
 generalize ps[j].t = t2 at *
 generalize ps[j].i = i2 at *
 go_enter Tryz.func167, Tryz.ntmps167
 go_wp2_with fail
 have c0 := KeptW.cell (W0 := w) z0
 have c1 := KeptW.cell (W0 := w) z1
 have c2 := KeptW.cell (W0 := w) z2
 have c3 := KeptW.cell (W0 := w) y0
 have c4 := KeptW.cell (W0 := w) y1
 have c5 := KeptW.cell (W0 := w) y2
 refine region_kept (W0 := w) (x := KeptW.mk' (Below.refl w.heap.size w)) (by kernel_rfl) (by kernel_rfl) ?_
 repeat (go_big_quiet_step (first | (go_at_call 171; with_reducible exact (kept_call (ahead_any l1 t1 i1 l2 t2 i2 _)))))
 refine wpQuiet_nil ?_
 rintro _ ⟨x, rfl⟩
 go_wp2
 go_ret
 exact ⟨rfl, x.below⟩
end Go.Proofs.YtfjgelegojbmgaaGreat
