import Derived.Test.YtfkdfkoigojciaaGreatDoorQU14
import Derived.Test.YtfkdfkoigojciaaGreatDoorQU12
import Derived.Test.YtfkdfkoigojciaaGreatDoorQU10
import Derived.Test.YtfkdfkoigojciaaGreatDoorQU15
import Derived.Test.YtfkdfkoigojciaaGreatDoorQU13
import Derived.Defers
import Derived.Recover
import Derived.Deep.DeepCutAuto
import Derived.Deep.CutRange

namespace Go.Proofs.YtfkdfkoigojciaaGreatDoor
open Go.RowKit
set_option linter.unusedVariables false
set_option maxHeartbeats 800000
set_option maxRecDepth 100000
variable (a b c d e : Int) (ts : List T7) (ks : List Int) (fs : List F2) (A0 A1 A2 : Option Addr) (c0 c1 c2 : Nat) (tn : Int) (st : Bool)
theorem Sep.newB {w W : World} {ps rs : List Res} (h : Sep [] w W (ps ++ rs)) : ∀ q ∈ fps ps, w.heap.size ≤ q := fun q hq => by
 obtain ⟨r, hr, hg⟩ := mem_fps.1 hq
 exact (h.own r (List.mem_append_left _ hr) q hg).resolve_left (by simp)
theorem wp_noPanic {P : Program} {c : Code} {K : Act → World → Prop} {Q : Exit → Act → World → Prop} {a : Act} {w : World} (h : c.wp P (Exit.then K (fun _ _ _ => False)) a w) : c.wp P (Exit.then K Q) a w :=
 wp_mono h fun e a w h => by cases e <;> first | exact h | exact h.elim
theorem lived_bad (wk : Int) (G : FuncId) (cap : Array Value) (hG : ∀ args w, (callFunc G args).run Tryz.prog w = .ok (.enter G args) w) (w : World) (ht : ts.length ≤ 1048576) (hk : ks.length ≤ 1048576) (hf : fs.length ≤ 1048576) (h : InPool w ts ks fs A0 A1 A2) (hp : poolB a b c d e ts ks fs tn = false) :
 Calls Tryz.prog 62 #[qF a b c d e, qP ts ks fs A0 A1 A2 c0 c1 c2 tn st, .int .i64 wk, .func (.func G) #[] cap] w (GaveS [] w ⟨[], [], [], 0, false, 8, 0⟩) := by
 unfold qF qP
 have hmf : ∀ (fn : Fn) (first cap : Array Value) (w : World), (Instr.makeFunc fn first cap).run Tryz.prog w = .ok (.func fn first cap) w := fun _ _ _ _ => rfl
 have HY := hide (⟨hp, trivial⟩ : _ ∧ True)
 clear hp
 have H := hide h
 clear h
 go_enter_defers Tryz.func62, Tryz.ntmps62
 go_wp2_with fail
 generalize hW : (((w.alloc _).alloc _).alloc _).alloc _ = W1
 have M := Sep.e4 hW
 clear hW
 obtain ⟨tS, Aa, Ai, Ab, Ah⟩ := M.f2 0 rfl
 obtain ⟨tR, Ag, Aj, Af, Am, Ae, An, Ac, Al, Ad, Ak⟩ := M.f5 1 rfl
 obtain ⟨tX, Be, As, Aw, Au, Bf, Ap, Ar, Bh, Ay, Ao⟩ := M.f5 2 rfl
 obtain ⟨tP, Ba, Av, At, Bd, Bg, Ax, Bc, Az, Aq, Bb⟩ := M.f5 3 rfl
 go_wp2_with fail
 go_call (pright_v a b c d e ts ks fs A0 A1 A2 c0 c1 c2 tn st _ false HY.out.1 _ hk hf (M.blk 2 rfl) (H.out.below M.below)) as r W2 ⟨rfl, g1⟩
 clear tS Aa Ai Ab Ah tR Ag Aj Af Am Ae An Ac Al Ad Ak tX Be As Aw Au Bf Ap Ar Bh Ay Ao tP Ba Av At Bd Bg Ax Bc Az Aq Bb
 replace M := M.call g1
 clear g1
 obtain ⟨tS, Aa, Ai, Ab, Ah⟩ := M.f2 0 rfl
 obtain ⟨tR, Ag, Aj, Af, Am, Ae, An, Ac, Al, Ad, Ak⟩ := M.f5 1 rfl
 obtain ⟨tX, Be, As, Aw, Au, Bf, Ap, Ar, Bh, Ay, Ao⟩ := M.f5 2 rfl
 obtain ⟨tP, Ba, Av, At, Bd, Bg, Ax, Bc, Az, Aq, Bb⟩ := M.f5 3 rfl
 go_wp2_with fail
 clear tS Aa Ai Ab Ah tR Ag Aj Af Am Ae An Ac Al Ad Ak tX Be As Aw Au Bf Ap Ar Bh Ay Ao tP Ba Av At Bd Bg Ax Bc Az Aq Bb
 replace M := M.gset5 1 rfl (.slice none 0 0) (.slice none 0 0) (.slice none 0 0) (.int .i64 0) (.bool false)
 obtain ⟨W3, eW, M⟩ := M
 rw [eW]
 clear eW
 simp only [zZ, zS] at M
 replace M := M.gset2 0 rfl (.int .i64 8) (.int .i64 0)
 obtain ⟨W4, eW, M⟩ := M
 rw [eW]
 clear eW
 simp only [List.set_cons_zero] at M
 obtain ⟨tS, Aa, Ab⟩ := M.q2 0 rfl
 obtain ⟨tR, Ag, Af, Ae, Ac, Ad⟩ := M.q5 1 rfl
 exact ⟨.tuple #[.agg #[.slice none 0 0, .slice none 0 0, .slice none 0 0, .int .i64 0, .bool false], .agg #[.int .i64 8, .int .i64 0]], by simp [results, Tryz.results62, go_sem, Ag, Af, Ae, Ac, Ad, Aa, Ab], none, none, none, 0, 0, 0, rfl, sep_zero M.below⟩
theorem lived_worker (wk : Int) (G : FuncId) (cap : Array Value) (hG : ∀ args w, (callFunc G args).run Tryz.prog w = .ok (.enter G args) w) (w : World) (ht : ts.length ≤ 1048576) (hk : ks.length ≤ 1048576) (hf : fs.length ≤ 1048576) (h : InPool w ts ks fs A0 A1 A2) (hp : poolB a b c d e ts ks fs tn = true) (hw : btw wk 0 (a - 1) = false) :
 Calls Tryz.prog 62 #[qF a b c d e, qP ts ks fs A0 A1 A2 c0 c1 c2 tn st, .int .i64 wk, .func (.func G) #[] cap] w (GaveS [] w ⟨ts, ks, fs, tn, st, 8, 0⟩) := by
 unfold qF qP
 have hmf : ∀ (fn : Fn) (first cap : Array Value) (w : World), (Instr.makeFunc fn first cap).run Tryz.prog w = .ok (.func fn first cap) w := fun _ _ _ _ => rfl
 have hpl : 1 ≤ a ∧ a ≤ 30 := by
  have h1 := (poolB_parts hp).1
  simp [planB, btw] at h1
  omega
 obtain ⟨pl1, pl2⟩ := hpl
 have HY := hide (⟨hp, hw, trivial⟩ : _ ∧ _ ∧ True)
 clear hp hw
 have H := hide h
 clear h
 go_enter_defers Tryz.func62, Tryz.ntmps62
 go_wp2_with fail
 generalize hW : (((w.alloc _).alloc _).alloc _).alloc _ = W1
 have M := Sep.e4 hW
 clear hW
 obtain ⟨tS, Aa, Ai, Ab, Ah⟩ := M.f2 0 rfl
 obtain ⟨tR, Ag, Aj, Af, Am, Ae, An, Ac, Al, Ad, Ak⟩ := M.f5 1 rfl
 obtain ⟨tX, Be, As, Aw, Au, Bf, Ap, Ar, Bh, Ay, Ao⟩ := M.f5 2 rfl
 obtain ⟨tP, Ba, Av, At, Bd, Bg, Ax, Bc, Az, Aq, Bb⟩ := M.f5 3 rfl
 go_wp2_with fail
 go_call (pright_v a b c d e ts ks fs A0 A1 A2 c0 c1 c2 tn st _ true HY.out.1 _ hk hf (M.blk 2 rfl) (H.out.below M.below)) as r W2 ⟨rfl, g1⟩
 clear tS Aa Ai Ab Ah tR Ag Aj Af Am Ae An Ac Al Ad Ak tX Be As Aw Au Bf Ap Ar Bh Ay Ao tP Ba Av At Bd Bg Ax Bc Az Aq Bb
 replace M := M.call g1
 clear g1
 obtain ⟨tS, Aa, Ai, Ab, Ah⟩ := M.f2 0 rfl
 obtain ⟨tR, Ag, Aj, Af, Am, Ae, An, Ac, Al, Ad, Ak⟩ := M.f5 1 rfl
 obtain ⟨tX, Be, As, Aw, Au, Bf, Ap, Ar, Bh, Ay, Ao⟩ := M.f5 2 rfl
 obtain ⟨tP, Ba, Av, At, Bd, Bg, Ax, Bc, Az, Aq, Bb⟩ := M.f5 3 rfl
 go_wp2_with fail
 have hW := hasWorker_any a b c d e wk W2 pl1 pl2
 rw [HY.out.2.1] at hW
 refine Calls.mono (by with_reducible exact hW) ?_
 clear hW
 rintro r W3 ⟨rfl, g1⟩
 clear tS Aa Ai Ab Ah tR Ag Aj Af Am Ae An Ac Al Ad Ak tX Be As Aw Au Bf Ap Ar Bh Ay Ao tP Ba Av At Bd Bg Ax Bc Az Aq Bb
 replace M := M.call g1
 clear g1
 obtain ⟨tS, Aa, Ai, Ab, Ah⟩ := M.f2 0 rfl
 obtain ⟨tR, Ag, Aj, Af, Am, Ae, An, Ac, Al, Ad, Ak⟩ := M.f5 1 rfl
 obtain ⟨tX, Be, As, Aw, Au, Bf, Ap, Ar, Bh, Ay, Ao⟩ := M.f5 2 rfl
 obtain ⟨tP, Ba, Av, At, Bd, Bg, Ax, Bc, Az, Aq, Bb⟩ := M.f5 3 rfl
 go_wp2_with fail
 go_call (giveUp_yes 8 _) as r W ⟨rfl, rfl⟩
 clear tS Aa Ai Ab Ah tR Ag Aj Af Am Ae An Ac Al Ad Ak tX Be As Aw Au Bf Ap Ar Bh Ay Ao tP Ba Av At Bd Bg Ax Bc Az Aq Bb
 go_wp2_with fail
 replace M := M.front 1 rfl
 simp only [zE, zF] at M
 refine leaves_cons (f := 132) (args := #[.pointer (some ⟨w.heap.size + 1, 0, none⟩), .pointer (some ⟨w.heap.size + 2, 0, none⟩), .pointer (some ⟨w.heap.size + 3, 0, none⟩)]) (by simp) (by simp [go_sem]) ?_
 refine (catch_panic ts ks fs A0 A1 A2 c0 c1 c2 tn st _ _ _ 8 [] _ ht hk hf (M.blk 2 rfl) (H.out.below M.below) (Sep.same (ps := [.blk (w.heap.size + 2) 35 #[.slice none 0 0, .slice none 0 0, .slice none 0 0, .int .i64 0, .bool false], .blk (w.heap.size + 3) 38 #[.int .i64 0, .int .i64 0]]) (rs := [.blk (w.heap.size + 1) 35 #[.slice A0 ts.length c0, .slice A1 ks.length c1, .slice A2 fs.length c2, .int .i64 tn, .bool st], .blk (w.heap.size) 28 #[.int .i64 a, .int .i64 b, .int .i64 c, .int .i64 d, .int .i64 e]]) M (Below.refl _ _))).mono ?_
 rintro r u W4 ⟨rfl, rfl, B0, B1, B2, d0, d1, d2, g1⟩
 replace M : Sep [] w W4 [rT ts.length B0 d0 ts, rK ks.length B1 d1 ks, rF fs.length B2 d2 fs, .blk (w.heap.size + 2) 35 #[.slice B0 ts.length d0, .slice B1 ks.length d1, .slice B2 fs.length d2, .int .i64 tn, .bool st], .blk (w.heap.size + 3) 38 #[.int .i64 8, .int .i64 0], .blk (w.heap.size + 1) 35 #[.slice A0 ts.length c0, .slice A1 ks.length c1, .slice A2 fs.length c2, .int .i64 tn, .bool st], .blk (w.heap.size) 28 #[.int .i64 a, .int .i64 b, .int .i64 c, .int .i64 d, .int .i64 e]] := Sep.comp (ps := [.blk (w.heap.size + 2) 35 #[.slice none 0 0, .slice none 0 0, .slice none 0 0, .int .i64 0, .bool false], .blk (w.heap.size + 3) 38 #[.int .i64 0, .int .i64 0]]) (rs := [.blk (w.heap.size + 1) 35 #[.slice A0 ts.length c0, .slice A1 ks.length c1, .slice A2 fs.length c2, .int .i64 tn, .bool st], .blk (w.heap.size) 28 #[.int .i64 a, .int .i64 b, .int .i64 c, .int .i64 d, .int .i64 e]]) M g1
 clear g1
 obtain ⟨tR, Ag, Af, Ae, Ac, Ad⟩ := M.q5 3 rfl
 obtain ⟨tS, Aa, Ab⟩ := M.q2 4 rfl
 exact ⟨.tuple #[.agg #[.slice B0 ts.length d0, .slice B1 ks.length d1, .slice B2 fs.length d2, .int .i64 tn, .bool st], .agg #[.int .i64 8, .int .i64 0]], by simp [results, Tryz.results62, go_sem, Ag, Af, Ae, Ac, Ad, Aa, Ab], B0, B1, B2, d0, d1, d2, rfl, M.take 3⟩
theorem lived_noB (a b c d e : Int) (ts : List T7) (ks : List Int) (fs : List F2) (A0 A1 A2 : Option Addr) (c0 c1 c2 : Nat) (tn : Int) (st : Bool) (wk : Int) (G : FuncId) (cap : Array Value) (hG : ∀ args w, (callFunc G args).run Tryz.prog w = .ok (.enter G args) w) (w : World) (ht : ts.length ≤ 1048576) (hk : ks.length ≤ 1048576) (hf : fs.length ≤ 1048576) (h : InPool w ts ks fs A0 A1 A2) (hp : poolB a b c d e ts ks fs tn = true) (hw : btw wk 0 (a - 1) = true) (rp : Int) (hL : ∀ (V : World) (g : Nat) (C0 C1 C2 : Option Addr) (e0 e1 e2 : Nat), Below w.heap.size w V → Sep (fps [.blk g 35 #[.slice C0 ts.length e0, .slice C1 ks.length e1, .slice C2 fs.length e2, .int .i64 tn, .bool st], rT ts.length C0 e0 ts, rK ks.length C1 e1 ks, rF fs.length C2 e2 fs]) V V [.blk g 35 #[.slice C0 ts.length e0, .slice C1 ks.length e1, .slice C2 fs.length e2, .int .i64 tn, .bool st], rT ts.length C0 e0 ts, rK ks.length C1 e1 ks, rF fs.length C2 e2 fs] → (∀ q ∈ fps [.blk g 35 #[.slice C0 ts.length e0, .slice C1 ks.length e1, .slice C2 fs.length e2, .int .i64 tn, .bool st], rT ts.length C0 e0 ts, rK ks.length C1 e1 ks, rF fs.length C2 e2 fs], w.heap.size ≤ q) → Calls Tryz.prog G (#[.pointer (some ⟨g, 0, none⟩)] ++ cap) V (fun r w' => r = .panicked [{ v := .iface 137 (.int .i64 rp), recovered := false }] ∧ Sep (fps [.blk g 35 #[.slice C0 ts.length e0, .slice C1 ks.length e1, .slice C2 fs.length e2, .int .i64 tn, .bool st], rT ts.length C0 e0 ts, rK ks.length C1 e1 ks, rF fs.length C2 e2 fs]) V w' [])) :
 Calls Tryz.prog 62 #[.agg #[.int .i64 a, .int .i64 b, .int .i64 c, .int .i64 d, .int .i64 e], .agg #[.slice A0 ts.length c0, .slice A1 ks.length c1, .slice A2 fs.length c2, .int .i64 tn, .bool st], .int .i64 wk, .func (.func G) #[] cap] w (GaveS [] w ⟨ts, ks, fs, tn, st, rp, 0⟩) := by
 have hmf : ∀ (fn : Fn) (first cap : Array Value) (w : World), (Instr.makeFunc fn first cap).run Tryz.prog w = .ok (.func fn first cap) w := fun _ _ _ _ => rfl
 have hpl : 1 ≤ a ∧ a ≤ 30 := by
  have h1 := (poolB_parts hp).1
  simp [planB, btw] at h1
  omega
 obtain ⟨pl1, pl2⟩ := hpl
 have HL := hide hL
 clear hL
 have HY := hide (⟨hp, hw, trivial⟩ : _ ∧ _ ∧ True)
 clear hp hw
 have H := hide h
 clear h
 go_enter_defers Tryz.func62, Tryz.ntmps62
 go_wp2_with fail
 generalize hW : (((w.alloc _).alloc _).alloc _).alloc _ = W1
 have M := Sep.e4 hW
 clear hW
 obtain ⟨tS, Aa, Ai, Ab, Ah⟩ := M.f2 0 rfl
 obtain ⟨tR, Ag, Aj, Af, Am, Ae, An, Ac, Al, Ad, Ak⟩ := M.f5 1 rfl
 obtain ⟨tX, Be, As, Aw, Au, Bf, Ap, Ar, Bh, Ay, Ao⟩ := M.f5 2 rfl
 obtain ⟨tP, Ba, Av, At, Bd, Bg, Ax, Bc, Az, Aq, Bb⟩ := M.f5 3 rfl
 go_wp2_with fail
 go_call (pright_v a b c d e ts ks fs A0 A1 A2 c0 c1 c2 tn st _ true HY.out.1 _ hk hf (M.blk 2 rfl) (H.out.below M.below)) as r W2 ⟨rfl, g1⟩
 clear tS Aa Ai Ab Ah tR Ag Aj Af Am Ae An Ac Al Ad Ak tX Be As Aw Au Bf Ap Ar Bh Ay Ao tP Ba Av At Bd Bg Ax Bc Az Aq Bb
 replace M := M.call g1
 clear g1
 obtain ⟨tS, Aa, Ai, Ab, Ah⟩ := M.f2 0 rfl
 obtain ⟨tR, Ag, Aj, Af, Am, Ae, An, Ac, Al, Ad, Ak⟩ := M.f5 1 rfl
 obtain ⟨tX, Be, As, Aw, Au, Bf, Ap, Ar, Bh, Ay, Ao⟩ := M.f5 2 rfl
 obtain ⟨tP, Ba, Av, At, Bd, Bg, Ax, Bc, Az, Aq, Bb⟩ := M.f5 3 rfl
 go_wp2_with fail
 have hW := hasWorker_any a b c d e wk W2 pl1 pl2
 rw [HY.out.2.1] at hW
 refine Calls.mono (by with_reducible exact hW) ?_
 clear hW
 rintro r W3 ⟨rfl, g1⟩
 clear tS Aa Ai Ab Ah tR Ag Aj Af Am Ae An Ac Al Ad Ak tX Be As Aw Au Bf Ap Ar Bh Ay Ao tP Ba Av At Bd Bg Ax Bc Az Aq Bb
 replace M := M.call g1
 clear g1
 obtain ⟨tS, Aa, Ai, Ab, Ah⟩ := M.f2 0 rfl
 obtain ⟨tR, Ag, Aj, Af, Am, Ae, An, Ac, Al, Ad, Ak⟩ := M.f5 1 rfl
 obtain ⟨tX, Be, As, Aw, Au, Bf, Ap, Ar, Bh, Ay, Ao⟩ := M.f5 2 rfl
 obtain ⟨tP, Ba, Av, At, Bd, Bg, Ax, Bc, Az, Aq, Bb⟩ := M.f5 3 rfl
 go_wp2_with fail
 go_call (giveUp_no 8 _) as r W ⟨rfl, rfl⟩
 go_wp2_with fail
 go_call (copied_s ts ks fs A0 A1 A2 c0 c1 c2 tn st _ _ ht hk hf (M.blk 2 rfl) (H.out.below M.below)) as r W4 ⟨C0, C1, C2, e0, e1, e2, rfl, g1⟩
 clear tS Aa Ai Ab Ah tR Ag Aj Af Am Ae An Ac Al Ad Ak tX Be As Aw Au Bf Ap Ar Bh Ay Ao tP Ba Av At Bd Bg Ax Bc Az Aq Bb
 replace M := Sep.new M g1
 simp only [zC, zN] at M
 clear g1
 obtain ⟨tS, Aa, Ai, Ab, Ah⟩ := M.f2 3 rfl
 obtain ⟨tR, Ag, Aj, Af, Am, Ae, An, Ac, Al, Ad, Ak⟩ := M.f5 4 rfl
 obtain ⟨tX, Be, As, Aw, Au, Bf, Ap, Ar, Bh, Ay, Ao⟩ := M.f5 5 rfl
 obtain ⟨tP, Ba, Av, At, Bd, Bg, Ax, Bc, Az, Aq, Bb⟩ := M.f5 6 rfl
 go_wp2_with fail
 clear tS Aa Ai Ab Ah tR Ag Aj Af Am Ae An Ac Al Ad Ak tX Be As Aw Au Bf Ap Ar Bh Ay Ao tP Ba Av At Bd Bg Ax Bc Az Aq Bb
 replace M := M.galloc 35 #[.slice C0 ts.length e0, .slice C1 ks.length e1, .slice C2 fs.length e2, .int .i64 tn, .bool st]
 obtain ⟨W5, eW, M⟩ := M
 rw [eW]
 clear eW
 obtain ⟨tY, Bj, Bn, Bq, Bo, Br, Bp, Bm, Bi, Bl, Bk⟩ := M.f5 0 rfl
 obtain ⟨tS, Aa, Ai, Ab, Ah⟩ := M.f2 4 rfl
 obtain ⟨tR, Ag, Aj, Af, Am, Ae, An, Ac, Al, Ad, Ak⟩ := M.f5 5 rfl
 obtain ⟨tX, Be, As, Aw, Au, Bf, Ap, Ar, Bh, Ay, Ao⟩ := M.f5 6 rfl
 obtain ⟨tP, Ba, Av, At, Bd, Bg, Ax, Bc, Az, Aq, Bb⟩ := M.f5 7 rfl
 go_wp2_with fail
 clear tY Bj Bn Bq Bo Br Bp Bm Bi Bl Bk tS Aa Ai Ab Ah tR Ag Aj Af Am Ae An Ac Al Ad Ak tX Be As Aw Au Bf Ap Ar Bh Ay Ao tP Ba Av At Bd Bg Ax Bc Az Aq Bb
 replace M := M.front 3 rfl
 simp only [zE, zF] at M
 replace M := M.front 3 rfl
 simp only [zE, zF] at M
 replace M := M.front 3 rfl
 simp only [zE, zF] at M
 replace M := M.front 3 rfl
 simp only [zE, zF] at M
 have hC := HL.out _ (W4.heap.size) C0 C1 C2 e0 e1 e2 M.below (Sep.same (ps := [.blk (W4.heap.size) 35 #[.slice C0 ts.length e0, .slice C1 ks.length e1, .slice C2 fs.length e2, .int .i64 tn, .bool st], rT ts.length C0 e0 ts, rK ks.length C1 e1 ks, rF fs.length C2 e2 fs]) (rs := [.blk (w.heap.size + 3) 38 #[.int .i64 0, .int .i64 0], .blk (w.heap.size + 2) 35 #[.slice none 0 0, .slice none 0 0, .slice none 0 0, .int .i64 0, .bool false], .blk (w.heap.size + 1) 35 #[.slice A0 ts.length c0, .slice A1 ks.length c1, .slice A2 fs.length c2, .int .i64 tn, .bool st], .blk (w.heap.size) 28 #[.int .i64 a, .int .i64 b, .int .i64 c, .int .i64 d, .int .i64 e]]) M (Below.refl _ _)) (Sep.newB (ps := [.blk (W4.heap.size) 35 #[.slice C0 ts.length e0, .slice C1 ks.length e1, .slice C2 fs.length e2, .int .i64 tn, .bool st], rT ts.length C0 e0 ts, rK ks.length C1 e1 ks, rF fs.length C2 e2 fs]) (rs := [.blk (w.heap.size + 3) 38 #[.int .i64 0, .int .i64 0], .blk (w.heap.size + 2) 35 #[.slice none 0 0, .slice none 0 0, .slice none 0 0, .int .i64 0, .bool false], .blk (w.heap.size + 1) 35 #[.slice A0 ts.length c0, .slice A1 ks.length c1, .slice A2 fs.length c2, .int .i64 tn, .bool st], .blk (w.heap.size) 28 #[.int .i64 a, .int .i64 b, .int .i64 c, .int .i64 d, .int .i64 e]]) M)
 refine Calls.mono (by with_reducible exact hC) ?_
 clear hC
 rintro r W6 ⟨rfl, g1⟩
 replace M : Sep [] w W6 [.blk (w.heap.size + 3) 38 #[.int .i64 0, .int .i64 0], .blk (w.heap.size + 2) 35 #[.slice none 0 0, .slice none 0 0, .slice none 0 0, .int .i64 0, .bool false], .blk (w.heap.size + 1) 35 #[.slice A0 ts.length c0, .slice A1 ks.length c1, .slice A2 fs.length c2, .int .i64 tn, .bool st], .blk (w.heap.size) 28 #[.int .i64 a, .int .i64 b, .int .i64 c, .int .i64 d, .int .i64 e]] := Sep.comp (ps := [.blk (W4.heap.size) 35 #[.slice C0 ts.length e0, .slice C1 ks.length e1, .slice C2 fs.length e2, .int .i64 tn, .bool st], rT ts.length C0 e0 ts, rK ks.length C1 e1 ks, rF fs.length C2 e2 fs]) (rs := [.blk (w.heap.size + 3) 38 #[.int .i64 0, .int .i64 0], .blk (w.heap.size + 2) 35 #[.slice none 0 0, .slice none 0 0, .slice none 0 0, .int .i64 0, .bool false], .blk (w.heap.size + 1) 35 #[.slice A0 ts.length c0, .slice A1 ks.length c1, .slice A2 fs.length c2, .int .i64 tn, .bool st], .blk (w.heap.size) 28 #[.int .i64 a, .int .i64 b, .int .i64 c, .int .i64 d, .int .i64 e]]) M g1
 clear g1
 go_wp2_with fail
 replace M := M.front 1 rfl
 simp only [zE, zF] at M
 refine leaves_cons (f := 132) (args := #[.pointer (some ⟨w.heap.size + 1, 0, none⟩), .pointer (some ⟨w.heap.size + 2, 0, none⟩), .pointer (some ⟨w.heap.size + 3, 0, none⟩)]) (by simp) (by simp [go_sem]) ?_
 refine (catch_panic ts ks fs A0 A1 A2 c0 c1 c2 tn st _ _ _ rp [] _ ht hk hf (M.blk 2 rfl) (H.out.below M.below) (Sep.same (ps := [.blk (w.heap.size + 2) 35 #[.slice none 0 0, .slice none 0 0, .slice none 0 0, .int .i64 0, .bool false], .blk (w.heap.size + 3) 38 #[.int .i64 0, .int .i64 0]]) (rs := [.blk (w.heap.size + 1) 35 #[.slice A0 ts.length c0, .slice A1 ks.length c1, .slice A2 fs.length c2, .int .i64 tn, .bool st], .blk (w.heap.size) 28 #[.int .i64 a, .int .i64 b, .int .i64 c, .int .i64 d, .int .i64 e]]) M (Below.refl _ _))).mono ?_
 rintro r u W7 ⟨rfl, rfl, B0, B1, B2, d0, d1, d2, g1⟩
 replace M : Sep [] w W7 [rT ts.length B0 d0 ts, rK ks.length B1 d1 ks, rF fs.length B2 d2 fs, .blk (w.heap.size + 2) 35 #[.slice B0 ts.length d0, .slice B1 ks.length d1, .slice B2 fs.length d2, .int .i64 tn, .bool st], .blk (w.heap.size + 3) 38 #[.int .i64 rp, .int .i64 0], .blk (w.heap.size + 1) 35 #[.slice A0 ts.length c0, .slice A1 ks.length c1, .slice A2 fs.length c2, .int .i64 tn, .bool st], .blk (w.heap.size) 28 #[.int .i64 a, .int .i64 b, .int .i64 c, .int .i64 d, .int .i64 e]] := Sep.comp (ps := [.blk (w.heap.size + 2) 35 #[.slice none 0 0, .slice none 0 0, .slice none 0 0, .int .i64 0, .bool false], .blk (w.heap.size + 3) 38 #[.int .i64 0, .int .i64 0]]) (rs := [.blk (w.heap.size + 1) 35 #[.slice A0 ts.length c0, .slice A1 ks.length c1, .slice A2 fs.length c2, .int .i64 tn, .bool st], .blk (w.heap.size) 28 #[.int .i64 a, .int .i64 b, .int .i64 c, .int .i64 d, .int .i64 e]]) M g1
 clear g1
 obtain ⟨tR, Ag, Af, Ae, Ac, Ad⟩ := M.q5 3 rfl
 obtain ⟨tS, Aa, Ab⟩ := M.q2 4 rfl
 exact ⟨.tuple #[.agg #[.slice B0 ts.length d0, .slice B1 ks.length d1, .slice B2 fs.length d2, .int .i64 tn, .bool st], .agg #[.int .i64 rp, .int .i64 0]], by simp [results, Tryz.results62, go_sem, Ag, Af, Ae, Ac, Ad, Aa, Ab], B0, B1, B2, d0, d1, d2, rfl, M.take 3⟩
theorem lived_yesB (wk : Int) (G : FuncId) (cap : Array Value) (hG : ∀ args w, (callFunc G args).run Tryz.prog w = .ok (.enter G args) w) (w : World) (ht : ts.length ≤ 1048576) (hk : ks.length ≤ 1048576) (hf : fs.length ≤ 1048576) (h : InPool w ts ks fs A0 A1 A2) (hp : poolB a b c d e ts ks fs tn = true) (hw : btw wk 0 (a - 1) = true) (o : OutP) (hL : ∀ (V : World) (g : Nat) (C0 C1 C2 : Option Addr) (e0 e1 e2 : Nat), Below w.heap.size w V → Sep (fps [.blk g 35 #[.slice C0 ts.length e0, .slice C1 ks.length e1, .slice C2 fs.length e2, .int .i64 tn, .bool st], rT ts.length C0 e0 ts, rK ks.length C1 e1 ks, rF fs.length C2 e2 fs]) V V [.blk g 35 #[.slice C0 ts.length e0, .slice C1 ks.length e1, .slice C2 fs.length e2, .int .i64 tn, .bool st], rT ts.length C0 e0 ts, rK ks.length C1 e1 ks, rF fs.length C2 e2 fs] → (∀ q ∈ fps [.blk g 35 #[.slice C0 ts.length e0, .slice C1 ks.length e1, .slice C2 fs.length e2, .int .i64 tn, .bool st], rT ts.length C0 e0 ts, rK ks.length C1 e1 ks, rF fs.length C2 e2 fs], w.heap.size ≤ q) → Calls Tryz.prog G (#[.pointer (some ⟨g, 0, none⟩)] ++ cap) V (fun r w' => ∃ (D0 D1 D2 : Option Addr) (f0 f1 f2 : Nat), r = .returned (.agg #[.int .i64 o.rp, .int .i64 o.ou]) ∧ Sep (fps [.blk g 35 #[.slice C0 ts.length e0, .slice C1 ks.length e1, .slice C2 fs.length e2, .int .i64 tn, .bool st], rT ts.length C0 e0 ts, rK ks.length C1 e1 ks, rF fs.length C2 e2 fs]) V w' [.blk g 35 #[.slice D0 o.ts.length f0, .slice D1 o.ks.length f1, .slice D2 o.fs.length f2, .int .i64 o.tn, .bool o.st], rT o.ts.length D0 f0 o.ts, rK o.ks.length D1 f1 o.ks, rF o.fs.length D2 f2 o.fs])) :
 Calls Tryz.prog 62 #[qF a b c d e, qP ts ks fs A0 A1 A2 c0 c1 c2 tn st, .int .i64 wk, .func (.func G) #[] cap] w (GaveS [] w o) := by
 unfold qF qP
 have hmf : ∀ (fn : Fn) (first cap : Array Value) (w : World), (Instr.makeFunc fn first cap).run Tryz.prog w = .ok (.func fn first cap) w := fun _ _ _ _ => rfl
 have hpl : 1 ≤ a ∧ a ≤ 30 := by
  have h1 := (poolB_parts hp).1
  simp [planB, btw] at h1
  omega
 obtain ⟨pl1, pl2⟩ := hpl
 have HL := hide hL
 clear hL
 have HY := hide (⟨hp, hw, trivial⟩ : _ ∧ _ ∧ True)
 clear hp hw
 have H := hide h
 clear h
 go_enter_defers Tryz.func62, Tryz.ntmps62
 go_wp2_with fail
 generalize hW : (((w.alloc _).alloc _).alloc _).alloc _ = W1
 have M := Sep.e4 hW
 clear hW
 obtain ⟨tS, Aa, Ai, Ab, Ah⟩ := M.f2 0 rfl
 obtain ⟨tR, Ag, Aj, Af, Am, Ae, An, Ac, Al, Ad, Ak⟩ := M.f5 1 rfl
 obtain ⟨tX, Be, As, Aw, Au, Bf, Ap, Ar, Bh, Ay, Ao⟩ := M.f5 2 rfl
 obtain ⟨tP, Ba, Av, At, Bd, Bg, Ax, Bc, Az, Aq, Bb⟩ := M.f5 3 rfl
 go_wp2_with fail
 go_call (pright_v a b c d e ts ks fs A0 A1 A2 c0 c1 c2 tn st _ true HY.out.1 _ hk hf (M.blk 2 rfl) (H.out.below M.below)) as r W2 ⟨rfl, g1⟩
 clear tS Aa Ai Ab Ah tR Ag Aj Af Am Ae An Ac Al Ad Ak tX Be As Aw Au Bf Ap Ar Bh Ay Ao tP Ba Av At Bd Bg Ax Bc Az Aq Bb
 replace M := M.call g1
 clear g1
 obtain ⟨tS, Aa, Ai, Ab, Ah⟩ := M.f2 0 rfl
 obtain ⟨tR, Ag, Aj, Af, Am, Ae, An, Ac, Al, Ad, Ak⟩ := M.f5 1 rfl
 obtain ⟨tX, Be, As, Aw, Au, Bf, Ap, Ar, Bh, Ay, Ao⟩ := M.f5 2 rfl
 obtain ⟨tP, Ba, Av, At, Bd, Bg, Ax, Bc, Az, Aq, Bb⟩ := M.f5 3 rfl
 go_wp2_with fail
 have hW := hasWorker_any a b c d e wk W2 pl1 pl2
 rw [HY.out.2.1] at hW
 refine Calls.mono (by with_reducible exact hW) ?_
 clear hW
 rintro r W3 ⟨rfl, g1⟩
 clear tS Aa Ai Ab Ah tR Ag Aj Af Am Ae An Ac Al Ad Ak tX Be As Aw Au Bf Ap Ar Bh Ay Ao tP Ba Av At Bd Bg Ax Bc Az Aq Bb
 replace M := M.call g1
 clear g1
 obtain ⟨tS, Aa, Ai, Ab, Ah⟩ := M.f2 0 rfl
 obtain ⟨tR, Ag, Aj, Af, Am, Ae, An, Ac, Al, Ad, Ak⟩ := M.f5 1 rfl
 obtain ⟨tX, Be, As, Aw, Au, Bf, Ap, Ar, Bh, Ay, Ao⟩ := M.f5 2 rfl
 obtain ⟨tP, Ba, Av, At, Bd, Bg, Ax, Bc, Az, Aq, Bb⟩ := M.f5 3 rfl
 go_wp2_with fail
 go_call (giveUp_no 8 _) as r W ⟨rfl, rfl⟩
 go_wp2_with fail
 go_call (copied_s ts ks fs A0 A1 A2 c0 c1 c2 tn st _ _ ht hk hf (M.blk 2 rfl) (H.out.below M.below)) as r W4 ⟨C0, C1, C2, e0, e1, e2, rfl, g1⟩
 clear tS Aa Ai Ab Ah tR Ag Aj Af Am Ae An Ac Al Ad Ak tX Be As Aw Au Bf Ap Ar Bh Ay Ao tP Ba Av At Bd Bg Ax Bc Az Aq Bb
 replace M := Sep.new M g1
 simp only [zC, zN] at M
 clear g1
 obtain ⟨tS, Aa, Ai, Ab, Ah⟩ := M.f2 3 rfl
 obtain ⟨tR, Ag, Aj, Af, Am, Ae, An, Ac, Al, Ad, Ak⟩ := M.f5 4 rfl
 obtain ⟨tX, Be, As, Aw, Au, Bf, Ap, Ar, Bh, Ay, Ao⟩ := M.f5 5 rfl
 obtain ⟨tP, Ba, Av, At, Bd, Bg, Ax, Bc, Az, Aq, Bb⟩ := M.f5 6 rfl
 go_wp2_with fail
 clear tS Aa Ai Ab Ah tR Ag Aj Af Am Ae An Ac Al Ad Ak tX Be As Aw Au Bf Ap Ar Bh Ay Ao tP Ba Av At Bd Bg Ax Bc Az Aq Bb
 replace M := M.galloc 35 #[.slice C0 ts.length e0, .slice C1 ks.length e1, .slice C2 fs.length e2, .int .i64 tn, .bool st]
 obtain ⟨W5, eW, M⟩ := M
 rw [eW]
 clear eW
 obtain ⟨tY, Bj, Bn, Bq, Bo, Br, Bp, Bm, Bi, Bl, Bk⟩ := M.f5 0 rfl
 obtain ⟨tS, Aa, Ai, Ab, Ah⟩ := M.f2 4 rfl
 obtain ⟨tR, Ag, Aj, Af, Am, Ae, An, Ac, Al, Ad, Ak⟩ := M.f5 5 rfl
 obtain ⟨tX, Be, As, Aw, Au, Bf, Ap, Ar, Bh, Ay, Ao⟩ := M.f5 6 rfl
 obtain ⟨tP, Ba, Av, At, Bd, Bg, Ax, Bc, Az, Aq, Bb⟩ := M.f5 7 rfl
 go_wp2_with fail
 clear tY Bj Bn Bq Bo Br Bp Bm Bi Bl Bk tS Aa Ai Ab Ah tR Ag Aj Af Am Ae An Ac Al Ad Ak tX Be As Aw Au Bf Ap Ar Bh Ay Ao tP Ba Av At Bd Bg Ax Bc Az Aq Bb
 replace M := M.front 3 rfl
 simp only [zE, zF] at M
 replace M := M.front 3 rfl
 simp only [zE, zF] at M
 replace M := M.front 3 rfl
 simp only [zE, zF] at M
 replace M := M.front 3 rfl
 simp only [zE, zF] at M
 have hC := HL.out _ (W4.heap.size) C0 C1 C2 e0 e1 e2 M.below (Sep.same (ps := [.blk (W4.heap.size) 35 #[.slice C0 ts.length e0, .slice C1 ks.length e1, .slice C2 fs.length e2, .int .i64 tn, .bool st], rT ts.length C0 e0 ts, rK ks.length C1 e1 ks, rF fs.length C2 e2 fs]) (rs := [.blk (w.heap.size + 3) 38 #[.int .i64 0, .int .i64 0], .blk (w.heap.size + 2) 35 #[.slice none 0 0, .slice none 0 0, .slice none 0 0, .int .i64 0, .bool false], .blk (w.heap.size + 1) 35 #[.slice A0 ts.length c0, .slice A1 ks.length c1, .slice A2 fs.length c2, .int .i64 tn, .bool st], .blk (w.heap.size) 28 #[.int .i64 a, .int .i64 b, .int .i64 c, .int .i64 d, .int .i64 e]]) M (Below.refl _ _)) (Sep.newB (ps := [.blk (W4.heap.size) 35 #[.slice C0 ts.length e0, .slice C1 ks.length e1, .slice C2 fs.length e2, .int .i64 tn, .bool st], rT ts.length C0 e0 ts, rK ks.length C1 e1 ks, rF fs.length C2 e2 fs]) (rs := [.blk (w.heap.size + 3) 38 #[.int .i64 0, .int .i64 0], .blk (w.heap.size + 2) 35 #[.slice none 0 0, .slice none 0 0, .slice none 0 0, .int .i64 0, .bool false], .blk (w.heap.size + 1) 35 #[.slice A0 ts.length c0, .slice A1 ks.length c1, .slice A2 fs.length c2, .int .i64 tn, .bool st], .blk (w.heap.size) 28 #[.int .i64 a, .int .i64 b, .int .i64 c, .int .i64 d, .int .i64 e]]) M)
 refine Calls.mono (by with_reducible exact hC) ?_
 clear hC
 rintro r W6 ⟨D0, D1, D2, f0, f1, f2, rfl, g1⟩
 replace M : Sep [] w W6 [.blk (W4.heap.size) 35 #[.slice D0 o.ts.length f0, .slice D1 o.ks.length f1, .slice D2 o.fs.length f2, .int .i64 o.tn, .bool o.st], rT o.ts.length D0 f0 o.ts, rK o.ks.length D1 f1 o.ks, rF o.fs.length D2 f2 o.fs, .blk (w.heap.size + 3) 38 #[.int .i64 0, .int .i64 0], .blk (w.heap.size + 2) 35 #[.slice none 0 0, .slice none 0 0, .slice none 0 0, .int .i64 0, .bool false], .blk (w.heap.size + 1) 35 #[.slice A0 ts.length c0, .slice A1 ks.length c1, .slice A2 fs.length c2, .int .i64 tn, .bool st], .blk (w.heap.size) 28 #[.int .i64 a, .int .i64 b, .int .i64 c, .int .i64 d, .int .i64 e]] := Sep.comp (ps := [.blk (W4.heap.size) 35 #[.slice C0 ts.length e0, .slice C1 ks.length e1, .slice C2 fs.length e2, .int .i64 tn, .bool st], rT ts.length C0 e0 ts, rK ks.length C1 e1 ks, rF fs.length C2 e2 fs]) (rs := [.blk (w.heap.size + 3) 38 #[.int .i64 0, .int .i64 0], .blk (w.heap.size + 2) 35 #[.slice none 0 0, .slice none 0 0, .slice none 0 0, .int .i64 0, .bool false], .blk (w.heap.size + 1) 35 #[.slice A0 ts.length c0, .slice A1 ks.length c1, .slice A2 fs.length c2, .int .i64 tn, .bool st], .blk (w.heap.size) 28 #[.int .i64 a, .int .i64 b, .int .i64 c, .int .i64 d, .int .i64 e]]) M g1
 clear g1
 obtain ⟨tY, Bj, Bn, Bq, Bo, Br, Bp, Bm, Bi, Bl, Bk⟩ := M.f5 0 rfl
 obtain ⟨tS, Aa, Ai, Ab, Ah⟩ := M.f2 4 rfl
 go_wp2_with fail
 clear tY Bj Bn Bq Bo Br Bp Bm Bi Bl Bk tS Aa Ai Ab Ah
 replace M := M.gset2 4 rfl (.int .i64 o.rp) (.int .i64 o.ou)
 obtain ⟨W7, eW, M⟩ := M
 rw [eW]
 clear eW
 simp only [zZ, zS] at M
 go_cut [] from 25 to 26 (fun wc => Sep [] w wc [.blk (W4.heap.size) 35 #[.slice D0 o.ts.length f0, .slice D1 o.ks.length f1, .slice D2 o.fs.length f2, .int .i64 o.tn, .bool o.st], rT o.ts.length D0 f0 o.ts, rK o.ks.length D1 f1 o.ks, rF o.fs.length D2 f2 o.fs, .blk (w.heap.size + 3) 38 #[.int .i64 o.rp, .int .i64 o.ou], .blk (w.heap.size + 2) 35 #[.slice D0 o.ts.length f0, .slice D1 o.ks.length f1, .slice D2 o.fs.length f2, .int .i64 o.tn, .bool o.st], .blk (w.heap.size + 1) 35 #[.slice A0 ts.length c0, .slice A1 ks.length c1, .slice A2 fs.length c2, .int .i64 tn, .bool st], .blk (w.heap.size) 28 #[.int .i64 a, .int .i64 b, .int .i64 c, .int .i64 d, .int .i64 e]])
 case first =>
  refine wp_noPanic ?_
  refine wp_region_T (S := (fun w' => w'.cell? ⟨W4.heap.size, 0, none⟩ = some (.slice D0 o.ts.length f0) ∧ w'.cell? ⟨W4.heap.size, 1, none⟩ = some (.slice D1 o.ks.length f1) ∧ w'.cell? ⟨W4.heap.size, 2, none⟩ = some (.slice D2 o.fs.length f2) ∧ w'.cell? ⟨W4.heap.size, 3, none⟩ = some (.int .i64 o.tn) ∧ w'.cell? ⟨W4.heap.size, 4, none⟩ = some (.bool o.st) ∧ w'.cell? ⟨w.heap.size + 3, 0, none⟩ = some (.int .i64 o.rp) ∧ w'.cell? ⟨w.heap.size + 3, 1, none⟩ = some (.int .i64 o.ou))) (ks := [3]) (by kernel_rfl) ⟨M.cell 0 0 rfl, M.cell 0 1 rfl, M.cell 0 2 rfl, M.cell 0 3 rfl, M.cell 0 4 rfl, M.cell 4 0 rfl, M.cell 4 1 rfl⟩ (fun hHeld => ?_)
  replace M := M.drew
  generalize W7.drew = W8 at M hHeld ⊢
  refine tkLa 0 _ rfl hHeld ?_
  try simp only [Act.put, zI, zZ, zS]
  refine tkLa 1 _ rfl hHeld ?_
  try simp only [Act.put, zI, zZ, zS]
  obtain ⟨tR, Ag, Aj, Af, Am, Ae, An, Ac, Al, Ad, Ak⟩ := M.f5 5 rfl
  refine wpAnyT_callL (i := 2) rfl (by kernel_rfl) (fun K hK => ?_)
  go_simp
  clear tR Ag Aj Af Am Ae An Ac Al Ad Ak
  replace M := M.gset5 5 rfl (.slice D0 o.ts.length f0) (.slice D1 o.ks.length f1) (.slice D2 o.fs.length f2) (.int .i64 o.tn) (.bool o.st)
  obtain ⟨W9, eW, M⟩ := M
  rw [eW]
  clear eW
  simp only [zZ, zS] at M
  clear hHeld
  refine hK.out _ _ ?_ (fun hHeld => ?_)
  ·exact ⟨M.cell 0 0 rfl, M.cell 0 1 rfl, M.cell 0 2 rfl, M.cell 0 3 rfl, M.cell 0 4 rfl, M.cell 4 0 rfl, M.cell 4 1 rfl⟩
  clear hK K
  try simp only [Act.put, zI, zZ, zS]
  obtain ⟨tS, Aa, Ai, Ab, Ah⟩ := M.f2 4 rfl
  refine wpAnyT_oneL (i := 3) rfl (by kernel_rfl) (by kernel_rfl) (fun K hK => ?_)
  go_simp
  refine hK.out _ _ ?_
  clear hK K
  try simp only [Act.put, zI, zZ, zS]
  clear tS Aa Ai Ab Ah
  replace M := M.gset2 4 rfl (.int .i64 o.rp) (.int .i64 o.ou)
  obtain ⟨W10, eW, M⟩ := M
  rw [eW]
  clear eW
  simp only [zZ, zS] at M
  refine wpAnyT_done (by kernel_rfl) ?_ _
  go_wp2_with fail
  go_meet
  exact M
 case rest =>
  clear M
  have M := hcut
  clear hcut
  rename World => W11
  go_wp2_with fail
  replace M := M.front 4 rfl
  simp only [zE, zF] at M
  replace M := M.front 5 rfl
  simp only [zE, zF] at M
  refine leaves_cons (f := 132) (args := #[.pointer (some ⟨w.heap.size + 1, 0, none⟩), .pointer (some ⟨w.heap.size + 2, 0, none⟩), .pointer (some ⟨w.heap.size + 3, 0, none⟩)]) (by simp) (by simp [go_sem]) ?_
  refine (catch_idle _ _ _ _).mono ?_
  rintro r u WZ ⟨rfl, rfl, rfl⟩
  replace M := M.front 5 rfl
  simp only [zE, zF] at M
  replace M := M.front 5 rfl
  simp only [zE, zF] at M
  replace M := M.front 5 rfl
  simp only [zE, zF] at M
  obtain ⟨tR, Ag, Af, Ae, Ac, Ad⟩ := M.q5 3 rfl
  obtain ⟨tS, Aa, Ab⟩ := M.q2 4 rfl
  exact ⟨.tuple #[.agg #[.slice D0 o.ts.length f0, .slice D1 o.ks.length f1, .slice D2 o.fs.length f2, .int .i64 o.tn, .bool o.st], .agg #[.int .i64 o.rp, .int .i64 o.ou]], by simp [results, Tryz.results62, go_sem, Ag, Af, Ae, Ac, Ad, Aa, Ab], D0, D1, D2, f0, f1, f2, rfl, M.take 3⟩
theorem lived_no (a b c d e : Int) (ts : List T7) (ks : List Int) (fs : List F2) (A0 A1 A2 : Option Addr) (c0 c1 c2 : Nat) (tn : Int) (st : Bool) (wk : Int) (G : FuncId) (cap : Array Value) (hG : ∀ args w, (callFunc G args).run Tryz.prog w = .ok (.enter G args) w) (w : World) (ht : ts.length ≤ 1048576) (hk : ks.length ≤ 1048576) (hf : fs.length ≤ 1048576) (h : InPool w ts ks fs A0 A1 A2) (hp : poolB a b c d e ts ks fs tn = true) (hw : btw wk 0 (a - 1) = true) (rp : Int) (hL : ∀ (V : World) (g : Nat) (C0 C1 C2 : Option Addr) (e0 e1 e2 : Nat), Below w.heap.size w V → Sep (fps [.blk g 35 #[.slice C0 ts.length e0, .slice C1 ks.length e1, .slice C2 fs.length e2, .int .i64 tn, .bool st], rT ts.length C0 e0 ts, rK ks.length C1 e1 ks, rF fs.length C2 e2 fs]) V V [.blk g 35 #[.slice C0 ts.length e0, .slice C1 ks.length e1, .slice C2 fs.length e2, .int .i64 tn, .bool st], rT ts.length C0 e0 ts, rK ks.length C1 e1 ks, rF fs.length C2 e2 fs] → Calls Tryz.prog G (#[.pointer (some ⟨g, 0, none⟩)] ++ cap) V (fun r w' => r = .panicked [{ v := .iface 137 (.int .i64 rp), recovered := false }] ∧ Sep (fps [.blk g 35 #[.slice C0 ts.length e0, .slice C1 ks.length e1, .slice C2 fs.length e2, .int .i64 tn, .bool st], rT ts.length C0 e0 ts, rK ks.length C1 e1 ks, rF fs.length C2 e2 fs]) V w' [])) :
 Calls Tryz.prog 62 #[.agg #[.int .i64 a, .int .i64 b, .int .i64 c, .int .i64 d, .int .i64 e], .agg #[.slice A0 ts.length c0, .slice A1 ks.length c1, .slice A2 fs.length c2, .int .i64 tn, .bool st], .int .i64 wk, .func (.func G) #[] cap] w (GaveS [] w ⟨ts, ks, fs, tn, st, rp, 0⟩) := by
 apply lived_noB (hL := fun V g C0 C1 C2 e0 e1 e2 hV hM _ => hL V g C0 C1 C2 e0 e1 e2 hV hM) <;> assumption
theorem lived_yes (wk : Int) (G : FuncId) (cap : Array Value) (hG : ∀ args w, (callFunc G args).run Tryz.prog w = .ok (.enter G args) w) (w : World) (ht : ts.length ≤ 1048576) (hk : ks.length ≤ 1048576) (hf : fs.length ≤ 1048576) (h : InPool w ts ks fs A0 A1 A2) (hp : poolB a b c d e ts ks fs tn = true) (hw : btw wk 0 (a - 1) = true) (o : OutP) (hL : ∀ (V : World) (g : Nat) (C0 C1 C2 : Option Addr) (e0 e1 e2 : Nat), Below w.heap.size w V → Sep (fps [.blk g 35 #[.slice C0 ts.length e0, .slice C1 ks.length e1, .slice C2 fs.length e2, .int .i64 tn, .bool st], rT ts.length C0 e0 ts, rK ks.length C1 e1 ks, rF fs.length C2 e2 fs]) V V [.blk g 35 #[.slice C0 ts.length e0, .slice C1 ks.length e1, .slice C2 fs.length e2, .int .i64 tn, .bool st], rT ts.length C0 e0 ts, rK ks.length C1 e1 ks, rF fs.length C2 e2 fs] → Calls Tryz.prog G (#[.pointer (some ⟨g, 0, none⟩)] ++ cap) V (fun r w' => ∃ (D0 D1 D2 : Option Addr) (f0 f1 f2 : Nat), r = .returned (.agg #[.int .i64 o.rp, .int .i64 o.ou]) ∧ Sep (fps [.blk g 35 #[.slice C0 ts.length e0, .slice C1 ks.length e1, .slice C2 fs.length e2, .int .i64 tn, .bool st], rT ts.length C0 e0 ts, rK ks.length C1 e1 ks, rF fs.length C2 e2 fs]) V w' [.blk g 35 #[.slice D0 o.ts.length f0, .slice D1 o.ks.length f1, .slice D2 o.fs.length f2, .int .i64 o.tn, .bool o.st], rT o.ts.length D0 f0 o.ts, rK o.ks.length D1 f1 o.ks, rF o.fs.length D2 f2 o.fs])) :
 Calls Tryz.prog 62 #[qF a b c d e, qP ts ks fs A0 A1 A2 c0 c1 c2 tn st, .int .i64 wk, .func (.func G) #[] cap] w (GaveS [] w o) := by
 unfold qF qP
 apply lived_yesB (hL := fun V g C0 C1 C2 e0 e1 e2 hV hM _ => hL V g C0 C1 C2 e0 e1 e2 hV hM) <;> assumption
end Go.Proofs.YtfkdfkoigojciaaGreatDoor
