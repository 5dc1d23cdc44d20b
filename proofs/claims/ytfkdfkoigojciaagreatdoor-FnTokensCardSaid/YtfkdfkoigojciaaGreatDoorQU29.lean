import Derived.Test.YtfkdfkoigojciaaGreatDoorQU12
import Derived.Test.YtfkdfkoigojciaaGreatDoorQU28
import Derived.Test.YtfkdfkoigojciaaGreatDoorQU09
import Derived.Test.YtfkdfkoigojciaaGreatDoorQU13
import Derived.Deep.RegionHeld3
import Derived.Deep.RegionLaw
import Derived.BigRegion
import Derived.Shelf.Abstract
import Derived.Test.YtfkdfkoigojciaaGreatDoorQU18
import Derived.Test.YtfkdfkoigojciaaGreatDoorQU25
import Derived.Test.YtfkdfkoigojciaaGreatDoorQU26
import Derived.Test.YtfkdfkoigojciaaGreatDoorQU27

namespace Go.Proofs.YtfkdfkoigojciaaGreatDoor
open Go.RowKit
set_option linter.unusedVariables false
set_option maxHeartbeats 4000000
set_option maxRecDepth 100000
variable (a b c d e : Int) (ts : List T7) (ks : List Int) (fs : List F2) (A0 A1 A2 : Option Addr) (c0 c1 c2 : Nat) (tn : Int) (st : Bool)
theorem upped_free (wk : Int) (id : Int) (w : World) (ht : ts.length ≤ 1048576) (hk : ks.length ≤ 1048576) (hf : fs.length ≤ 1048576) (h : InPool w ts ks fs A0 A1 A2) (k : Nat) (kv : Int) (hid : id = k) (hks : ks[k]? = some kv) (hwm : waitersM ts 2 k = []) (hm : mayB a b c d e ts ks fs tn wk = true) (hi : btw id 0 (ks.length - 1) = true) :
 Calls Tryz.prog 39 #[qF a b c d e, qP ts ks fs A0 A1 A2 c0 c1 c2 tn st, .int .i64 wk, .int .i64 id] w (GaveS [] w (doneO (poolB a b c d e ts (ks.set k (kv + 1)) fs tn) ts ks fs tn st ts (ks.set k (kv + 1)) fs tn st 1 0)) := by
 unfold qF qP
 have hkl : k < ks.length := by
  rcases Nat.lt_or_ge k ks.length with h1 | h1
  ·exact h1
  ·rw [List.getElem?_eq_none h1] at hks; cases hks
 subst hid
 obtain ⟨b', off, x0, rfl, _, he, hb', z0⟩ := h.2.1.ks_at hkl
 rw [hks] at he
 injection he with he
 subst he
 have H := hide h
 clear h
 have hWt : Hid (∀ V, Row V A0 (tcells ts) → Calls Tryz.prog 97 #[.agg #[.slice A0 ts.length c0, .slice (some ⟨b', off, none⟩) ks.length c1, .slice A2 fs.length c2, .int .i64 tn, .bool st], .int .i64 2, .int .i64 k] V fun r w' => ∃ (A : Option Addr) (c : Nat), r = .returned (.slice A ([]).length c) ∧ Sep [] V w' [rK ([]).length A c ([])]) := hide (fun V hV => by
  have h1 := waitersOn_any ts A0 (some ⟨b', off, none⟩) A2 c0 ks.length c1 fs.length c2 tn st 2 k V ht hV
  rw [hwm] at h1
  exact h1.mono fun r w' ⟨A, c, hr, ho, hb⟩ => ⟨A, c, hr, sepRow hb ho⟩)
 clear hwm
 have hpo : poolB a b c d e ts ks fs tn = true := by
  have h1 := hm
  simp only [mayB, Bool.and_eq_true] at h1
  exact h1.1
 have tb : 0 ≤ tn ∧ tn ≤ 1000000 := by
  have h1 := hpo
  simp only [poolB, Bool.and_eq_true] at h1
  have h2 := h1.2.1
  simp [btw] at h2
  exact h2
 obtain ⟨tb0, tb1⟩ := tb
 have kb : 0 ≤ kv ∧ kv ≤ 100 := by
  have h1 := hpo
  simp only [poolB, Bool.and_eq_true] at h1
  have h2 := List.all_eq_true.1 h1.2.2.2.1.1 kv (List.mem_of_getElem? hks)
  simpa [tokB, btw] using h2
 obtain ⟨kb0, kb1⟩ := kb
 have hDn := hide (fun (A0x A1x A2x : Option Addr) (c0x c1x c2x : Nat) (rs : List Res) (V : World) (h1 : InPool V ts ks fs A0 (some ⟨b', off, none⟩) A2) (h2 : Sep [] w V ([rT ts.length A0x c0x ts, rK ks.length A1x c1x (ks.set k (kv + 1)), rF fs.length A2x c2x fs] ++ rs)) => l6Done_s a b c d e ts ks fs A0 (some ⟨b', off, none⟩) A2 c0 c1 c2 tn st ts.length ks.length fs.length ts (ks.set k (kv + 1)) fs A0x A1x A2x c0x c1x c2x tn st 1 0 V rfl (by simp) rfl hpo ht hk hf ht hk hf h1 h2)
 clear hpo
 generalize doneO (poolB a b c d e ts (ks.set k (kv + 1)) fs tn) ts ks fs tn st ts (ks.set k (kv + 1)) fs tn st 1 0 = o at hDn ⊢
 have HY := hide (⟨hm, hi, hks, trivial⟩ : _ ∧ _ ∧ _ ∧ True)
 clear hm hi hks
 go_enter Tryz.func39, Tryz.ntmps39
 go_wp2_with fail
 generalize hW : (((w.alloc _).alloc _).alloc _).alloc _ = W1
 have M := Sep.e4 hW
 clear hW
 obtain ⟨tX, Ah, Ad, Ai, Ab, Ae⟩ := M.q5 2 rfl
 obtain ⟨tP, Af, Ac, Aj, Ag, Aa⟩ := M.q5 3 rfl
 go_call (l6May_v a b c d e ts ks fs A0 (some ⟨b', off, none⟩) A2 c0 c1 c2 tn st wk true HY.out.1 _ ht hk hf (H.out.below M.below)) as r W2 ⟨rfl, g1⟩
 clear tX Ah Ad Ai Ab Ae tP Af Ac Aj Ag Aa
 replace M := M.call g1
 clear g1
 obtain ⟨tX, Ah, Ad, Ai, Ab, Ae⟩ := M.q5 2 rfl
 obtain ⟨tP, Af, Ac, Aj, Ag, Aa⟩ := M.q5 3 rfl
 go_wp2_with fail
 go_call (l1In_v k 0 (ks.length - 1) true HY.out.2.1 _) as r W ⟨rfl, rfl⟩
 go_wp2_with fail
 go_call (hWt.out _ (H.out.below M.below).1) as r W3 ⟨AL, cL, rfl, g1⟩
 clear tX Ah Ad Ai Ab Ae tP Af Ac Aj Ag Aa
 replace M := Sep.new M g1
 simp only [zC, zN] at M
 clear g1
 obtain ⟨tX, Ah, Ad, Ai, Ab, Ae⟩ := M.q5 3 rfl
 obtain ⟨tP, Af, Ac, Aj, Ag, Aa⟩ := M.q5 4 rfl
 go_wp2_with fail
 go_call (l3Copy_s ts ks fs A0 (some ⟨b', off, none⟩) A2 c0 c1 c2 tn st _ ht hk hf (H.out.below M.below)) as r W4 ⟨C0, C1, C2, e0, e1, e2, rfl, g1⟩
 clear tX Ah Ad Ai Ab Ae tP Af Ac Aj Ag Aa
 replace M := Sep.new M g1
 simp only [zC, zN] at M
 clear g1
 obtain ⟨g, rfl, hgl, hfz⟩ := rK_form (M.here _ (List.mem_of_getElem? (show _ = some _ from rfl : [rT ts.length C0 e0 ts, rK ks.length C1 e1 ks, rF fs.length C2 e2 fs, rK 0 AL cL [], .blk (w.heap.size + 3) 38 #[.int .i64 0, .int .i64 0], .blk (w.heap.size + 2) 35 #[.slice none 0 0, .slice none 0 0, .slice none 0 0, .int .i64 0, .bool false], .blk (w.heap.size + 1) 35 #[.slice A0 ts.length c0, .slice (some ⟨b', off, none⟩) ks.length c1, .slice A2 fs.length c2, .int .i64 tn, .bool st], .blk (w.heap.size) 28 #[.int .i64 a, .int .i64 b, .int .i64 c, .int .i64 d, .int .i64 e]][1]? = some (rK ks.length C1 e1 ks)))) (by omega)
 obtain ⟨tX, Ah, Ad, Ai, Ab, Ae⟩ := M.q5 6 rfl
 obtain ⟨tP, Af, Ac, Aj, Ag, Aa⟩ := M.q5 7 rfl
 go_wp2_with fail
 clear tX Ah Ad Ai Ab Ae tP Af Ac Aj Ag Aa
 replace M : Sep [] w (W4.alloc (.cells #[.slice C0 ts.length e0, .slice (some ⟨g, 0, none⟩) ks.length e1, .slice C2 fs.length e2, .int .i64 tn, .bool st] 35)) [.blk (W4.heap.size) 35 #[.slice C0 ts.length e0, .slice (some ⟨g, 0, none⟩) ks.length e1, .slice C2 fs.length e2, .int .i64 tn, .bool st], rT ts.length C0 e0 ts, rK ks.length (some ⟨g, 0, none⟩) e1 ks, rF fs.length C2 e2 fs, rK 0 AL cL [], .blk (w.heap.size + 3) 38 #[.int .i64 0, .int .i64 0], .blk (w.heap.size + 2) 35 #[.slice none 0 0, .slice none 0 0, .slice none 0 0, .int .i64 0, .bool false], .blk (w.heap.size + 1) 35 #[.slice A0 ts.length c0, .slice (some ⟨b', off, none⟩) ks.length c1, .slice A2 fs.length c2, .int .i64 tn, .bool st], .blk (w.heap.size) 28 #[.int .i64 a, .int .i64 b, .int .i64 c, .int .i64 d, .int .i64 e]] := M.alloc 35 #[.slice C0 ts.length e0, .slice (some ⟨g, 0, none⟩) ks.length e1, .slice C2 fs.length e2, .int .i64 tn, .bool st] _ rfl
 generalize W4.alloc (.cells #[.slice C0 ts.length e0, .slice (some ⟨g, 0, none⟩) ks.length e1, .slice C2 fs.length e2, .int .i64 tn, .bool st] 35) = W5 at M ⊢
 replace M : Sep [] w W5 [rT ts.length C0 e0 ts, rK ks.length (some ⟨g, 0, none⟩) e1 ks, rF fs.length C2 e2 fs, .blk (W4.heap.size) 35 #[.slice C0 ts.length e0, .slice (some ⟨g, 0, none⟩) ks.length e1, .slice C2 fs.length e2, .int .i64 tn, .bool st], rK 0 AL cL [], .blk (w.heap.size + 3) 38 #[.int .i64 0, .int .i64 0], .blk (w.heap.size + 2) 35 #[.slice none 0 0, .slice none 0 0, .slice none 0 0, .int .i64 0, .bool false], .blk (w.heap.size + 1) 35 #[.slice A0 ts.length c0, .slice (some ⟨b', off, none⟩) ks.length c1, .slice A2 fs.length c2, .int .i64 tn, .bool st], .blk (w.heap.size) 28 #[.int .i64 a, .int .i64 b, .int .i64 c, .int .i64 d, .int .i64 e]] := Sep.back (l1 := [rT ts.length C0 e0 ts, rK ks.length (some ⟨g, 0, none⟩) e1 ks, rF fs.length C2 e2 fs]) M
 obtain ⟨tY, As, Aw, Ba, Ax, Az, Ay, Av, Ar, Au, At⟩ := M.f5 3 rfl
 obtain ⟨tX, Ah, Ad, Ai, Ab, Ae⟩ := M.q5 7 rfl
 obtain ⟨tP, Af, Ac, Aj, Ag, Aa⟩ := M.q5 8 rfl
 have nY := M.ne 1 3 (by omega) rfl rfl rfl rfl
 have nS := M.ne 1 5 (by omega) rfl rfl rfl rfl
 have nR := M.ne 1 6 (by omega) rfl rfl rfl rfl
 have nX := M.ne 1 7 (by omega) rfl rfl rfl rfl
 have nP := M.ne 1 8 (by omega) rfl rfl rfl rfl
 have hgl1 : g < W5.heap.size := ((M.here _ (List.mem_of_getElem? (show _ = some _ from rfl : [rT ts.length C0 e0 ts, rK ks.length (some ⟨g, 0, none⟩) e1 ks, rF fs.length C2 e2 fs, .blk (W4.heap.size) 35 #[.slice C0 ts.length e0, .slice (some ⟨g, 0, none⟩) ks.length e1, .slice C2 fs.length e2, .int .i64 tn, .bool st], rK 0 AL cL [], .blk (w.heap.size + 3) 38 #[.int .i64 0, .int .i64 0], .blk (w.heap.size + 2) 35 #[.slice none 0 0, .slice none 0 0, .slice none 0 0, .int .i64 0, .bool false], .blk (w.heap.size + 1) 35 #[.slice A0 ts.length c0, .slice (some ⟨b', off, none⟩) ks.length c1, .slice A2 fs.length c2, .int .i64 tn, .bool st], .blk (w.heap.size) 28 #[.int .i64 a, .int .i64 b, .int .i64 c, .int .i64 d, .int .i64 e]][1]? = some (rK ks.length (some ⟨g, 0, none⟩) e1 ks)))).lt rfl)
 have fz : W5.frozen? ⟨g, k, none⟩ = false := Own.fz (M.rowAt 1 rfl) _
 have yk : W5.cell? ⟨g, k, none⟩ = some (.int .i64 kv) := rK_cell (M.rowAt 1 rfl) HY.out.2.2.1
 clear hfz
 go_region
 clear tY As Aw Ba Ax Az Ay Av Ar Au At tX Ah Ad Ai Ab Ae tP Af Ac Aj Ag Aa nY nS nR nX nP
 clear fz yk
 replace M : Sep [] w (W5.setCell ⟨g, k, none⟩ (.int .i64 (kv + 1))).drew [rT ts.length C0 e0 ts, rK ks.length (some ⟨g, 0, none⟩) e1 (ks.set k (kv + 1)), rF fs.length C2 e2 fs, .blk (W4.heap.size) 35 #[.slice C0 ts.length e0, .slice (some ⟨g, 0, none⟩) ks.length e1, .slice C2 fs.length e2, .int .i64 tn, .bool st], rK 0 AL cL [], .blk (w.heap.size + 3) 38 #[.int .i64 0, .int .i64 0], .blk (w.heap.size + 2) 35 #[.slice none 0 0, .slice none 0 0, .slice none 0 0, .int .i64 0, .bool false], .blk (w.heap.size + 1) 35 #[.slice A0 ts.length c0, .slice (some ⟨b', off, none⟩) ks.length c1, .slice A2 fs.length c2, .int .i64 tn, .bool st], .blk (w.heap.size) 28 #[.int .i64 a, .int .i64 b, .int .i64 c, .int .i64 d, .int .i64 e]] := (M.putK 1 rfl k (kv + 1)).drew
 generalize (W5.setCell ⟨g, k, none⟩ (.int .i64 (kv + 1))).drew = W6 at M ⊢
 obtain ⟨tY, As, Aw, Ba, Ax, Az, Ay, Av, Ar, Au, At⟩ := M.f5 3 rfl
 obtain ⟨tX, Ah, Ad, Ai, Ab, Ae⟩ := M.q5 7 rfl
 obtain ⟨tP, Af, Ac, Aj, Ag, Aa⟩ := M.q5 8 rfl
 go_wp2_with fail
 go_call (hDn.out _ _ _ _ _ _ [.blk (W4.heap.size) 35 #[.slice C0 ts.length e0, .slice (some ⟨g, 0, none⟩) ks.length e1, .slice C2 fs.length e2, .int .i64 tn, .bool st], rK 0 AL cL [], .blk (w.heap.size + 3) 38 #[.int .i64 0, .int .i64 0], .blk (w.heap.size + 2) 35 #[.slice none 0 0, .slice none 0 0, .slice none 0 0, .int .i64 0, .bool false], .blk (w.heap.size + 1) 35 #[.slice A0 ts.length c0, .slice (some ⟨b', off, none⟩) ks.length c1, .slice A2 fs.length c2, .int .i64 tn, .bool st], .blk (w.heap.size) 28 #[.int .i64 a, .int .i64 b, .int .i64 c, .int .i64 d, .int .i64 e]] _ (H.out.below M.below) M) as r W7 ⟨B0, B1, B2, d0, d1, d2, rfl, g1⟩
 clear tY As Aw Ba Ax Az Ay Av Ar Au At tX Ah Ad Ai Ab Ae tP Af Ac Aj Ag Aa
 replace M := Sep.comp (ps := [rT ts.length C0 e0 ts, rK ks.length (some ⟨g, 0, none⟩) e1 (ks.set k (kv + 1)), rF fs.length C2 e2 fs]) M g1
 simp only [zC, zN] at M
 clear g1
 obtain ⟨tS, Am, Bd, Ao, Bb⟩ := M.f2 5 rfl
 obtain ⟨tR, Aq, Bc, Ap, Bg, An, Bh, Ak, Bf, Al, Be⟩ := M.f5 6 rfl
 go_wp2_with fail
 clear tS Am Bd Ao Bb tR Aq Bc Ap Bg An Bh Ak Bf Al Be
 replace M := M.gset5 6 rfl (.slice B0 o.ts.length d0) (.slice B1 o.ks.length d1) (.slice B2 o.fs.length d2) (.int .i64 o.tn) (.bool o.st)
 obtain ⟨W8, eW, M⟩ := M
 rw [eW]
 clear eW
 simp only [zZ, zS] at M
 replace M := M.gset2 5 rfl (.int .i64 o.rp) (.int .i64 o.ou)
 obtain ⟨W9, eW, M⟩ := M
 rw [eW]
 clear eW
 simp only [zZ, zS] at M
 obtain ⟨tS, Am, Ao⟩ := M.q2 5 rfl
 obtain ⟨tR, Aq, Ap, An, Ak, Al⟩ := M.q5 6 rfl
 exact bodyPost_ret (by simp [results, Tryz.results39, go_sem, Aq, Ap, An, Ak, Al, Am, Ao]) rfl ⟨B0, B1, B2, d0, d1, d2, rfl, M.take 3⟩
theorem upped_wake (wk : Int) (id : Int) (w : World) (ht : ts.length ≤ 1048576) (hk : ks.length ≤ 1048576) (hf : fs.length ≤ 1048576) (h : InPool w ts ks fs A0 A1 A2) (k : Nat) (hid : id = k) (hkl : k < ks.length) (j : Nat) (jr : List Int) (s l o1 wt on v t : Int) (hts : ts[j]? = some ⟨s, l, o1, wt, on, v, t⟩) (hjl : j < ts.length) (hwm : waitersM ts 2 k = (j : Int) :: jr) (hm : mayB a b c d e ts ks fs tn wk = true) (hi : btw id 0 (ks.length - 1) = true) :
 Calls Tryz.prog 39 #[qF a b c d e, qP ts ks fs A0 A1 A2 c0 c1 c2 tn st, .int .i64 wk, .int .i64 id] w (GaveS [] w (doneO (poolB a b c d e (ts.set j (wakeT ⟨s, l, o1, wt, on, v, t⟩ tn 0)) ks fs (tn + 1)) ts ks fs tn st (ts.set j (wakeT ⟨s, l, o1, wt, on, v, t⟩ tn 0)) ks fs (tn + 1) st 1 ((j : Int) + 1))) := by
 unfold qF qP
 subst hid
 have H := hide h
 clear h
 have hWt : Hid (∀ V, Row V A0 (tcells ts) → Calls Tryz.prog 97 #[.agg #[.slice A0 ts.length c0, .slice A1 ks.length c1, .slice A2 fs.length c2, .int .i64 tn, .bool st], .int .i64 2, .int .i64 k] V fun r w' => ∃ (A : Option Addr) (c : Nat), r = .returned (.slice A ((j : Int) :: jr).length c) ∧ Sep [] V w' [rK ((j : Int) :: jr).length A c ((j : Int) :: jr)]) := hide (fun V hV => by
  have h1 := waitersOn_any ts A0 A1 A2 c0 ks.length c1 fs.length c2 tn st 2 k V ht hV
  rw [hwm] at h1
  exact h1.mono fun r w' ⟨A, c, hr, ho, hb⟩ => ⟨A, c, hr, sepRow hb ho⟩)
 clear hwm
 have hpo : poolB a b c d e ts ks fs tn = true := by
  have h1 := hm
  simp only [mayB, Bool.and_eq_true] at h1
  exact h1.1
 have tb : 0 ≤ tn ∧ tn ≤ 1000000 := by
  have h1 := hpo
  simp only [poolB, Bool.and_eq_true] at h1
  have h2 := h1.2.1
  simp [btw] at h2
  exact h2
 obtain ⟨tb0, tb1⟩ := tb
 have hDn := hide (fun (A0x A1x A2x : Option Addr) (c0x c1x c2x : Nat) (rs : List Res) (V : World) (h1 : InPool V ts ks fs A0 A1 A2) (h2 : Sep [] w V ([rT ts.length A0x c0x (ts.set j (wakeT ⟨s, l, o1, wt, on, v, t⟩ tn 0)), rK ks.length A1x c1x ks, rF fs.length A2x c2x fs] ++ rs)) => l6Done_s a b c d e ts ks fs A0 A1 A2 c0 c1 c2 tn st ts.length ks.length fs.length (ts.set j (wakeT ⟨s, l, o1, wt, on, v, t⟩ tn 0)) ks fs A0x A1x A2x c0x c1x c2x ((tn + 1)) st 1 ((IntKind.i64.wrap ((j : Int) + 1))) V (by simp) rfl rfl hpo ht hk hf ht hk hf h1 h2)
 clear hpo
 have hwr : IntKind.i64.wrap ((j : Int) + 1) = (j : Int) + 1 := by rw [IntKind.wrap_i64]; omega
 rw [← hwr]
 clear hwr
 generalize doneO (poolB a b c d e (ts.set j (wakeT ⟨s, l, o1, wt, on, v, t⟩ tn 0)) ks fs (tn + 1)) ts ks fs tn st (ts.set j (wakeT ⟨s, l, o1, wt, on, v, t⟩ tn 0)) ks fs (tn + 1) st 1 (IntKind.i64.wrap ((j : Int) + 1)) = o at hDn ⊢
 have HY := hide (⟨hm, hi, hts, trivial⟩ : _ ∧ _ ∧ _ ∧ True)
 clear hm hi hts
 go_enter Tryz.func39, Tryz.ntmps39
 go_wp2_with fail
 generalize hW : (((w.alloc _).alloc _).alloc _).alloc _ = W1
 have M := Sep.e4 hW
 clear hW
 obtain ⟨tX, Ah, Ad, Ai, Ab, Ae⟩ := M.q5 2 rfl
 obtain ⟨tP, Af, Ac, Aj, Ag, Aa⟩ := M.q5 3 rfl
 go_call (l6May_v a b c d e ts ks fs A0 A1 A2 c0 c1 c2 tn st wk true HY.out.1 _ ht hk hf (H.out.below M.below)) as r W2 ⟨rfl, g1⟩
 clear tX Ah Ad Ai Ab Ae tP Af Ac Aj Ag Aa
 replace M := M.call g1
 clear g1
 obtain ⟨tX, Ah, Ad, Ai, Ab, Ae⟩ := M.q5 2 rfl
 obtain ⟨tP, Af, Ac, Aj, Ag, Aa⟩ := M.q5 3 rfl
 go_wp2_with fail
 go_call (l1In_v k 0 (ks.length - 1) true HY.out.2.1 _) as r W ⟨rfl, rfl⟩
 go_wp2_with fail
 go_call (hWt.out _ (H.out.below M.below).1) as r W3 ⟨AL, cL, rfl, g1⟩
 clear tX Ah Ad Ai Ab Ae tP Af Ac Aj Ag Aa
 replace M := Sep.new M g1
 simp only [zC, zN] at M
 clear g1
 obtain ⟨gl, rfl, hgll, hfzl⟩ := rK_form (M.here _ (List.mem_cons_self)) (by simp)
 clear hfzl
 obtain ⟨tX, Ah, Ad, Ai, Ab, Ae⟩ := M.q5 3 rfl
 obtain ⟨tP, Af, Ac, Aj, Ag, Aa⟩ := M.q5 4 rfl
 go_wp2_with fail
 go_call (l3Copy_s ts ks fs A0 A1 A2 c0 c1 c2 tn st _ ht hk hf (H.out.below M.below)) as r W4 ⟨C0, C1, C2, e0, e1, e2, rfl, g1⟩
 clear tX Ah Ad Ai Ab Ae tP Af Ac Aj Ag Aa
 replace M := Sep.new M g1
 simp only [zC, zN] at M
 clear g1
 obtain ⟨tX, Ah, Ad, Ai, Ab, Ae⟩ := M.q5 6 rfl
 obtain ⟨tP, Af, Ac, Aj, Ag, Aa⟩ := M.q5 7 rfl
 go_wp2_with fail
 clear tX Ah Ad Ai Ab Ae tP Af Ac Aj Ag Aa
 replace M : Sep [] w (W4.alloc (.cells #[.slice C0 ts.length e0, .slice C1 ks.length e1, .slice C2 fs.length e2, .int .i64 tn, .bool st] 35)) [.blk (W4.heap.size) 35 #[.slice C0 ts.length e0, .slice C1 ks.length e1, .slice C2 fs.length e2, .int .i64 tn, .bool st], rT ts.length C0 e0 ts, rK ks.length C1 e1 ks, rF fs.length C2 e2 fs, rK ((j : Int) :: jr).length (some ⟨gl, 0, none⟩) cL ((j : Int) :: jr), .blk (w.heap.size + 3) 38 #[.int .i64 0, .int .i64 0], .blk (w.heap.size + 2) 35 #[.slice none 0 0, .slice none 0 0, .slice none 0 0, .int .i64 0, .bool false], .blk (w.heap.size + 1) 35 #[.slice A0 ts.length c0, .slice A1 ks.length c1, .slice A2 fs.length c2, .int .i64 tn, .bool st], .blk (w.heap.size) 28 #[.int .i64 a, .int .i64 b, .int .i64 c, .int .i64 d, .int .i64 e]] := M.alloc 35 #[.slice C0 ts.length e0, .slice C1 ks.length e1, .slice C2 fs.length e2, .int .i64 tn, .bool st] _ rfl
 generalize W4.alloc (.cells #[.slice C0 ts.length e0, .slice C1 ks.length e1, .slice C2 fs.length e2, .int .i64 tn, .bool st] 35) = W5 at M ⊢
 replace M : Sep [] w W5 [rT ts.length C0 e0 ts, rK ks.length C1 e1 ks, rF fs.length C2 e2 fs, .blk (W4.heap.size) 35 #[.slice C0 ts.length e0, .slice C1 ks.length e1, .slice C2 fs.length e2, .int .i64 tn, .bool st], rK ((j : Int) :: jr).length (some ⟨gl, 0, none⟩) cL ((j : Int) :: jr), .blk (w.heap.size + 3) 38 #[.int .i64 0, .int .i64 0], .blk (w.heap.size + 2) 35 #[.slice none 0 0, .slice none 0 0, .slice none 0 0, .int .i64 0, .bool false], .blk (w.heap.size + 1) 35 #[.slice A0 ts.length c0, .slice A1 ks.length c1, .slice A2 fs.length c2, .int .i64 tn, .bool st], .blk (w.heap.size) 28 #[.int .i64 a, .int .i64 b, .int .i64 c, .int .i64 d, .int .i64 e]] := Sep.back (l1 := [rT ts.length C0 e0 ts, rK ks.length C1 e1 ks, rF fs.length C2 e2 fs]) M
 obtain ⟨tY, As, Aw, Ba, Ax, Az, Ay, Av, Ar, Au, At⟩ := M.f5 3 rfl
 obtain ⟨tX, Ah, Ad, Ai, Ab, Ae⟩ := M.q5 7 rfl
 obtain ⟨tP, Af, Ac, Aj, Ag, Aa⟩ := M.q5 8 rfl
 clear tY As Aw Ba Ax Az Ay Av Ar Au At tX Ah Ad Ai Ab Ae tP Af Ac Aj Ag Aa
 refine wp_region_T (S := (fun w' => w'.cell? ⟨w.heap.size, 0, none⟩ = some (.int .i64 a) ∧ w'.cell? ⟨w.heap.size, 1, none⟩ = some (.int .i64 b) ∧ w'.cell? ⟨w.heap.size, 2, none⟩ = some (.int .i64 c) ∧ w'.cell? ⟨w.heap.size, 3, none⟩ = some (.int .i64 d) ∧ w'.cell? ⟨w.heap.size, 4, none⟩ = some (.int .i64 e) ∧ w'.cell? ⟨w.heap.size + 1, 0, none⟩ = some (.slice A0 ts.length c0) ∧ w'.cell? ⟨w.heap.size + 1, 1, none⟩ = some (.slice A1 ks.length c1) ∧ w'.cell? ⟨w.heap.size + 1, 2, none⟩ = some (.slice A2 fs.length c2) ∧ w'.cell? ⟨w.heap.size + 1, 3, none⟩ = some (.int .i64 tn) ∧ w'.cell? ⟨w.heap.size + 1, 4, none⟩ = some (.bool st) ∧ w'.cell? ⟨W4.heap.size, 0, none⟩ = some (.slice C0 ts.length e0) ∧ w'.cell? ⟨W4.heap.size, 1, none⟩ = some (.slice C1 ks.length e1) ∧ w'.cell? ⟨W4.heap.size, 2, none⟩ = some (.slice C2 fs.length e2) ∧ w'.cell? ⟨W4.heap.size, 3, none⟩ = some (.int .i64 tn) ∧ w'.cell? ⟨W4.heap.size, 4, none⟩ = some (.bool st) ∧ w'.cell? ⟨gl, 0, none⟩ = some (.int .i64 (j : Int)))) (ks := []) (by kernel_rfl) ⟨M.cell 8 0 rfl, M.cell 8 1 rfl, M.cell 8 2 rfl, M.cell 8 3 rfl, M.cell 8 4 rfl, M.cell 7 0 rfl, M.cell 7 1 rfl, M.cell 7 2 rfl, M.cell 7 3 rfl, M.cell 7 4 rfl, M.cell 3 0 rfl, M.cell 3 1 rfl, M.cell 3 2 rfl, M.cell 3 3 rfl, M.cell 3 4 rfl, rK_cell (M.rowAt 4 rfl) rfl⟩ (fun hHeld => ?_)
 replace M := M.drew
 generalize W5.drew = W6 at M hHeld ⊢
 refine tkLa 0 _ rfl hHeld ?_
 try simp only [Act.put, zI, zZ, zS]
 refine tkLa 1 _ rfl hHeld ?_
 try simp only [Act.put, zI, zZ, zS]
 refine tkLa 2 _ rfl hHeld ?_
 try simp only [Act.put, zI, zZ, zS]
 refine tkYa 3 _ rfl (fun _ => hHeld) ?_
 try simp only [Act.put, zI, zZ, zS]
 refine tkYa 4 _ rfl (fun _ => hHeld) ?_
 try simp only [Act.put, zI, zZ, zS]
 refine tkLa 5 _ rfl hHeld ?_
 try simp only [Act.put, zI, zZ, zS]
 refine tkYa 7 _ rfl (fun _ => hHeld) ?_
 try simp only [Act.put, zI, zZ, zS]
 refine tkYa 8 _ rfl (fun _ => hHeld) ?_
 try simp only [Act.put, zI, zZ, zS]
 refine tkLa 9 _ rfl hHeld ?_
 try simp only [Act.put, zI, zZ, zS]
 refine tkYa 10 _ rfl (fun _ => hHeld) ?_
 try simp only [Act.put, zI, zZ, zS]
 refine wpAnyT_callL (i := 6) rfl (by kernel_rfl) (fun K hK => ?_)
 go_simp
 refine (l5Wake_s ts _ _ _ _ _ _ _ _ tn st j s l o1 wt on v t 0 _ ht (by omega) (by omega) HY.out.2.2.1 (M.here _ (List.mem_cons_self))).mono ?_
 rintro r W7 ⟨rfl, g1⟩
 replace M := Sep.comp (ps := [rT ts.length C0 e0 ts]) M g1
 simp only [zC, zN] at M
 clear g1 hHeld
 go_wp2_with fail
 refine hK.out _ _ ?_ (fun hHeld => ?_)
 ·exact ⟨M.cell 8 0 rfl, M.cell 8 1 rfl, M.cell 8 2 rfl, M.cell 8 3 rfl, M.cell 8 4 rfl, M.cell 7 0 rfl, M.cell 7 1 rfl, M.cell 7 2 rfl, M.cell 7 3 rfl, M.cell 7 4 rfl, M.cell 3 0 rfl, M.cell 3 1 rfl, M.cell 3 2 rfl, M.cell 3 3 rfl, M.cell 3 4 rfl, rK_cell (M.rowAt 4 rfl) rfl⟩
 clear hK K
 try simp only [Act.put, zI, zZ, zS]
 refine wpAnyT_callL (i := 11) rfl (by kernel_rfl) (fun K hK => ?_)
 go_simp
 refine (hDn.out _ _ _ _ _ _ [.blk (W4.heap.size) 35 #[.slice C0 ts.length e0, .slice C1 ks.length e1, .slice C2 fs.length e2, .int .i64 tn, .bool st], rK ((j : Int) :: jr).length (some ⟨gl, 0, none⟩) cL ((j : Int) :: jr), .blk (w.heap.size + 3) 38 #[.int .i64 0, .int .i64 0], .blk (w.heap.size + 2) 35 #[.slice none 0 0, .slice none 0 0, .slice none 0 0, .int .i64 0, .bool false], .blk (w.heap.size + 1) 35 #[.slice A0 ts.length c0, .slice A1 ks.length c1, .slice A2 fs.length c2, .int .i64 tn, .bool st], .blk (w.heap.size) 28 #[.int .i64 a, .int .i64 b, .int .i64 c, .int .i64 d, .int .i64 e]] _ (H.out.below M.below) M).mono ?_
 rintro r W8 ⟨B0, B1, B2, d0, d1, d2, rfl, g1⟩
 replace M := Sep.comp (ps := [rT ts.length C0 e0 (ts.set j (wakeT ⟨s, l, o1, wt, on, v, t⟩ tn 0)), rK ks.length C1 e1 ks, rF fs.length C2 e2 fs]) M g1
 simp only [zC, zN] at M
 clear g1 hHeld
 go_wp2_with fail
 refine hK.out _ _ ?_ (fun hHeld => ?_)
 ·exact ⟨M.cell 8 0 rfl, M.cell 8 1 rfl, M.cell 8 2 rfl, M.cell 8 3 rfl, M.cell 8 4 rfl, M.cell 7 0 rfl, M.cell 7 1 rfl, M.cell 7 2 rfl, M.cell 7 3 rfl, M.cell 7 4 rfl, M.cell 3 0 rfl, M.cell 3 1 rfl, M.cell 3 2 rfl, M.cell 3 3 rfl, M.cell 3 4 rfl, rK_cell (M.rowAt 4 rfl) rfl⟩
 clear hK K
 try simp only [Act.put, zI, zZ, zS]
 refine tkYa 12 _ rfl (fun _ => hHeld) ?_
 try simp only [Act.put, zI, zZ, zS]
 refine tkYa 13 _ rfl (fun _ => hHeld) ?_
 try simp only [Act.put, zI, zZ, zS]
 obtain ⟨tR, Aq, Bc, Ap, Bg, An, Bh, Ak, Bf, Al, Be⟩ := M.f5 6 rfl
 refine wpAnyT_callL (i := 14) rfl (by kernel_rfl) (fun K hK => ?_)
 go_simp
 clear tR Aq Bc Ap Bg An Bh Ak Bf Al Be
 replace M := M.gset5 6 rfl (.slice B0 o.ts.length d0) (.slice B1 o.ks.length d1) (.slice B2 o.fs.length d2) (.int .i64 o.tn) (.bool o.st)
 obtain ⟨W9, eW, M⟩ := M
 rw [eW]
 clear eW
 simp only [zZ, zS] at M
 clear hHeld
 refine hK.out _ _ ?_ (fun hHeld => ?_)
 ·exact ⟨M.cell 8 0 rfl, M.cell 8 1 rfl, M.cell 8 2 rfl, M.cell 8 3 rfl, M.cell 8 4 rfl, M.cell 7 0 rfl, M.cell 7 1 rfl, M.cell 7 2 rfl, M.cell 7 3 rfl, M.cell 7 4 rfl, M.cell 3 0 rfl, M.cell 3 1 rfl, M.cell 3 2 rfl, M.cell 3 3 rfl, M.cell 3 4 rfl, rK_cell (M.rowAt 4 rfl) rfl⟩
 clear hK K
 try simp only [Act.put, zI, zZ, zS]
 obtain ⟨tS, Am, Bd, Ao, Bb⟩ := M.f2 5 rfl
 refine wpAnyT_callL (i := 15) rfl (by kernel_rfl) (fun K hK => ?_)
 go_simp
 clear tS Am Bd Ao Bb
 replace M := M.gset2 5 rfl (.int .i64 o.rp) (.int .i64 o.ou)
 obtain ⟨W10, eW, M⟩ := M
 rw [eW]
 clear eW
 simp only [zZ, zS] at M
 clear hHeld
 refine hK.out _ _ ?_ (fun hHeld => ?_)
 ·exact ⟨M.cell 8 0 rfl, M.cell 8 1 rfl, M.cell 8 2 rfl, M.cell 8 3 rfl, M.cell 8 4 rfl, M.cell 7 0 rfl, M.cell 7 1 rfl, M.cell 7 2 rfl, M.cell 7 3 rfl, M.cell 7 4 rfl, M.cell 3 0 rfl, M.cell 3 1 rfl, M.cell 3 2 rfl, M.cell 3 3 rfl, M.cell 3 4 rfl, rK_cell (M.rowAt 4 rfl) rfl⟩
 clear hK K
 try simp only [Act.put, zI, zZ, zS]
 refine wpAnyT_done (by kernel_rfl) ?_ _
 go_wp2_with fail
 obtain ⟨tS, Am, Ao⟩ := M.q2 5 rfl
 obtain ⟨tR, Aq, Ap, An, Ak, Al⟩ := M.q5 6 rfl
 exact bodyPost_ret (by simp [results, Tryz.results39, go_sem, Aq, Ap, An, Ak, Al, Am, Ao]) rfl ⟨B0, B1, B2, d0, d1, d2, rfl, M.take 3⟩
set_option maxHeartbeats 800000
set_option maxRecDepth 100000
theorem token_over {a b c d e : Int} {ts : List T7} {ks : List Int} {fs : List F2} {tn : Int} {k : Nat} {u : Int} (hk : k < ks.length) (hu : 100 < u) : poolB a b c d e ts (ks.set k u) fs tn = false := by
 have h1 : (ks.set k u).all tokB = false := by
  rw [List.all_eq_false]
  exact ⟨u, List.mem_set hk u, by simp [tokB, btw]; omega⟩
 simp [poolB, h1]
theorem uppedC (a b c d e : Int) (id : Int) (bP : Nat) (bid : Nat) (g : Nat) (V : World) (hP : ∀ j, V.cell? ⟨bP, j, none⟩ = (#[.int .i64 a, .int .i64 b, .int .i64 c, .int .i64 d, .int .i64 e] : Array Value)[j]?) (lP : bP < V.heap.size) (hid : V.cell? ⟨bid, 0, none⟩ = some (.int .i64 id)) (lid : bid < V.heap.size) (er : Value) (R : World → Prop)
 (hb : Calls Tryz.prog 91 #[.pointer (some ⟨g, 0, none⟩), .agg #[.int .i64 a, .int .i64 b, .int .i64 c, .int .i64 d, .int .i64 e], .int .i64 id] V (fun r w' => r = .returned er ∧ R w')) :
 Calls Tryz.prog 90 (#[.pointer (some ⟨g, 0, none⟩)] ++ #[.pointer (some ⟨bP, 0, none⟩), .pointer (some ⟨bid, 0, none⟩)]) V (fun r w' => r = .returned er ∧ R w') := by
 have HB := hide hb
 clear hb
 have Aq : V.cell? ⟨bP, 0, none⟩ = some (.int .i64 a) := hP 0
 have Ap : V.cell? ⟨bP, 1, none⟩ = some (.int .i64 b) := hP 1
 have As : V.cell? ⟨bP, 2, none⟩ = some (.int .i64 c) := hP 2
 have Ar : V.cell? ⟨bP, 3, none⟩ = some (.int .i64 d) := hP 3
 have Ao : V.cell? ⟨bP, 4, none⟩ = some (.int .i64 e) := hP 4
 clear hP
 show Calls Tryz.prog 90 #[.pointer (some ⟨g, 0, none⟩), .pointer (some ⟨bP, 0, none⟩), .pointer (some ⟨bid, 0, none⟩)] V _
 go_enter Tryz.func90, Tryz.ntmps90
 go_wp2_with fail
 refine Calls.mono (by with_reducible exact HB.out) ?_
 rintro r W ⟨rfl, hR⟩
 go_wp2_with fail
 go_ret
 exact ⟨rfl, hR⟩
theorem gUpped_face (wk : Int) (id : Int) (w : World) (ht : ts.length ≤ 1048576) (hk : ks.length ≤ 1048576) (hf : fs.length ≤ 1048576) (h : InPool w ts ks fs A0 A1 A2) (o : OutP)
 (hL : ∀ (V : World) (bP bid : Nat), Below w.heap.size w V → (∀ j, V.cell? ⟨bP, j, none⟩ = (#[.int .i64 a, .int .i64 b, .int .i64 c, .int .i64 d, .int .i64 e] : Array Value)[j]?) → bP < V.heap.size → V.cell? ⟨bid, 0, none⟩ = some (.int .i64 id) → bid < V.heap.size → Calls Tryz.prog 59 #[.agg #[.int .i64 a, .int .i64 b, .int .i64 c, .int .i64 d, .int .i64 e], .agg #[.slice A0 ts.length c0, .slice A1 ks.length c1, .slice A2 fs.length c2, .int .i64 tn, .bool st], .int .i64 wk, .func (.func 90) #[] #[.pointer (some ⟨bP, 0, none⟩), .pointer (some ⟨bid, 0, none⟩)]] V (GaveS [] V o)) :
 Calls Tryz.prog 35 #[qF a b c d e, qP ts ks fs A0 A1 A2 c0 c1 c2 tn st, .int .i64 wk, .int .i64 id] w (GaveS [] w o) := by
 unfold qF qP
 have hmf : ∀ (fn : Fn) (first cap : Array Value) (w : World), (Instr.makeFunc fn first cap).run Tryz.prog w = .ok (.func fn first cap) w := fun _ _ _ _ => rfl
 have HL := hide hL
 have H := hide h
 clear h hL
 go_enter Tryz.func35, Tryz.ntmps35
 go_wp2_with fail
 generalize hW : ((((w.alloc _).alloc _).alloc _).alloc _).alloc _ = W1
 have M := Sep.e5 hW
 clear hW
 obtain ⟨tS, Ac, Aj, Ae, Ai⟩ := M.f2 0 rfl
 obtain ⟨tR, Ag, Ah, Af, Am, Ad, An, Aa, Al, Ab, Ak⟩ := M.f5 1 rfl
 obtain ⟨tVid, qVid0, fVid0⟩ := M.f1 2 rfl
 obtain ⟨tX, Bf, Aw, Az, Ax, Bg, Au, Av, Bh, Bb, At⟩ := M.f5 3 rfl
 obtain ⟨tP, Aq, Ay, Ap, Be, As, Ba, Ar, Bc, Ao, Bd⟩ := M.f5 4 rfl
 go_wp2_with fail
 have hC := HL.out _ (w.heap.size) (w.heap.size + 2) M.below (fun j => M.cell 4 j rfl) (M.lt 4 rfl) (M.cell 2 0 rfl) (M.lt 2 rfl)
 refine Calls.mono (by with_reducible exact hC) ?_
 clear hC
 rintro r W2 ⟨B0, B1, B2, d0, d1, d2, rfl, g1⟩
 clear tS Ac Aj Ae Ai tR Ag Ah Af Am Ad An Aa Al Ab Ak tVid qVid0 fVid0 tX Bf Aw Az Ax Bg Au Av Bh Bb At tP Aq Ay Ap Be As Ba Ar Bc Ao Bd
 replace M := Sep.new M g1
 simp only [zC, zN] at M
 clear g1
 obtain ⟨tS, Ac, Aj, Ae, Ai⟩ := M.f2 3 rfl
 obtain ⟨tR, Ag, Ah, Af, Am, Ad, An, Aa, Al, Ab, Ak⟩ := M.f5 4 rfl
 go_wp2_with fail
 clear tS Ac Aj Ae Ai tR Ag Ah Af Am Ad An Aa Al Ab Ak
 replace M := M.gset5 4 rfl (.slice B0 o.ts.length d0) (.slice B1 o.ks.length d1) (.slice B2 o.fs.length d2) (.int .i64 o.tn) (.bool o.st)
 obtain ⟨W3, eW, M⟩ := M
 rw [eW]
 clear eW
 simp only [zZ, zS] at M
 replace M := M.gset2 3 rfl (.int .i64 o.rp) (.int .i64 o.ou)
 obtain ⟨W4, eW, M⟩ := M
 rw [eW]
 clear eW
 simp only [zZ, zS] at M
 obtain ⟨tS, Ac, Ae⟩ := M.q2 3 rfl
 obtain ⟨tR, Ag, Af, Ad, Aa, Ab⟩ := M.q5 4 rfl
 exact bodyPost_ret (by simp [results, Tryz.results35, go_sem, Ag, Af, Ad, Aa, Ab, Ac, Ae]) rfl ⟨B0, B1, B2, d0, d1, d2, rfl, M.take 3⟩
theorem upped_told (a b c d e : Int) (ts : List T7) (ks : List Int) (fs : List F2) (tn : Int) (st : Bool) (wk : Int) (id : Int) (hl : ts.length + ks.length + fs.length ≤ 1048576) :
 ∃ (us : List T7) (ks2 : List Int) (fs2 : List F2) (tn2 : Int) (st2 : Bool) (rp ou : Int), us.length + ks2.length + fs2.length ≤ 1048576 ∧
 ((rp = 1 → poolB a b c d e ts ks fs tn = true ∧ poolB a b c d e us ks2 fs2 tn2 = true ∧ fs2 = fs ∧ st2 = st ∧ ∃ (k : Nat) (kv : Int), id = k ∧ ks[k]? = some kv ∧ ((ou = 0 ∧ waitersM ts 2 k = [] ∧ us = ts ∧ ks2 = ks.set k (kv + 1) ∧ tn2 = tn) ∨ (∃ (j : Nat) (jr : List Int) (x : T7), ou = (j : Int) + 1 ∧ waitersM ts 2 k = (j : Int) :: jr ∧ ts[j]? = some x ∧ us = ts.set j (wakeT x tn 0) ∧ ks2 = ks ∧ tn2 = tn + 1))) ∧ (rp ≠ 1 → poolB a b c d e ts ks fs tn = true → us = ts ∧ ks2 = ks ∧ fs2 = fs ∧ tn2 = tn ∧ st2 = st)) ∧
 Hid (∀ (A0 A1 A2 : Option Addr) (c0 c1 c2 : Nat) (w : World), InPool w ts ks fs A0 A1 A2 → Calls Tryz.prog 39 #[.agg #[.int .i64 a, .int .i64 b, .int .i64 c, .int .i64 d, .int .i64 e], .agg #[.slice A0 ts.length c0, .slice A1 ks.length c1, .slice A2 fs.length c2, .int .i64 tn, .bool st], .int .i64 wk, .int .i64 id] w (GaveA us ks2 fs2 tn2 st2 rp ou w)) ∧
 Hid (∀ (A0 A1 A2 : Option Addr) (c0 c1 c2 : Nat) (w : World), Laid w → InPool w ts ks fs A0 A1 A2 → Calls Tryz.prog 35 #[.agg #[.int .i64 a, .int .i64 b, .int .i64 c, .int .i64 d, .int .i64 e], .agg #[.slice A0 ts.length c0, .slice A1 ks.length c1, .slice A2 fs.length c2, .int .i64 tn, .bool st], .int .i64 wk, .int .i64 id] w (GaveA us ks2 fs2 tn2 st2 rp ou w)) := by
 have ht : ts.length ≤ 1048576 := by omega
 have hk : ks.length ≤ 1048576 := by omega
 have hf : fs.length ≤ 1048576 := by omega
 cases hp : poolB a b c d e ts ks fs tn
 ·exact ⟨[], [], [], 0, false, 8, 0, by simp, ⟨fun h => by omega, fun _ h => by cases h⟩, hide (fun A0 A1 A2 c0 c1 c2 w h => (upped_may a b c d e ts ks fs A0 A1 A2 c0 c1 c2 tn st wk id w ht hk hf h (by simp [mayB, hp])).mono (fun r w' hh => by rw [hp] at hh; exact hh)), hide (fun A0 A1 A2 c0 c1 c2 w hg h => gUpped_face a b c d e ts ks fs A0 A1 A2 c0 c1 c2 tn st wk id w ht hk hf h ⟨[], [], [], 0, false, 8, 0⟩ (fun V bP bid hV hP lP hid lid => livedAs_bad a b c d e ts ks fs A0 A1 A2 c0 c1 c2 tn st wk 90 #[.pointer (some ⟨bP, 0, none⟩), .pointer (some ⟨bid, 0, none⟩)] V ht hk hf (h.below hV) hp))⟩
 have hpl := (poolB_parts hp).1
 have hT := (poolB_parts hp).2.1
 cases hw : btw wk 0 (a - 1)
 ·exact ⟨ts, ks, fs, tn, st, 8, 0, hl, ⟨fun h => by omega, fun _ _ => ⟨rfl, rfl, rfl, rfl, rfl⟩⟩, hide (fun A0 A1 A2 c0 c1 c2 w h => (upped_may a b c d e ts ks fs A0 A1 A2 c0 c1 c2 tn st wk id w ht hk hf h (by simp [mayB, workB, hp, hw])).mono (fun r w' hh => by rw [hp] at hh; exact hh)), hide (fun A0 A1 A2 c0 c1 c2 w hg h => gUpped_face a b c d e ts ks fs A0 A1 A2 c0 c1 c2 tn st wk id w ht hk hf h ⟨ts, ks, fs, tn, st, 8, 0⟩ (fun V bP bid hV hP lP hid lid => livedAs_worker a b c d e ts ks fs A0 A1 A2 c0 c1 c2 tn st wk 90 #[.pointer (some ⟨bP, 0, none⟩), .pointer (some ⟨bid, 0, none⟩)] V ht hk hf (h.below hV) hp hw))⟩
 have hm : mayB a b c d e ts ks fs tn wk = true := by simp [mayB, workB, hp, hw, hpl]
 have hd := (pool_len hp).2.1
 obtain ⟨pd1, pd2⟩ : 0 ≤ d ∧ d ≤ 30 := by have := planB_all hpl; omega
 cases hi : btw id 0 ((ks.length : Int) - 1)
 ·exact ⟨ts, ks, fs, tn, st, 8, 0, hl, ⟨fun h => by omega, fun _ _ => ⟨rfl, rfl, rfl, rfl, rfl⟩⟩, hide (fun A0 A1 A2 c0 c1 c2 w h => (upped_in a b c d e ts ks fs A0 A1 A2 c0 c1 c2 tn st wk id w ht hk hf h hm hi).mono (fun r w' hh => by rw [hp] at hh; exact hh)), hide (fun A0 A1 A2 c0 c1 c2 w hg h => gUpped_face a b c d e ts ks fs A0 A1 A2 c0 c1 c2 tn st wk id w ht hk hf h ⟨ts, ks, fs, tn, st, 8, 0⟩ (fun V bP bid hV hP lP hid lid => livedAs_no a b c d e ts ks fs A0 A1 A2 c0 c1 c2 tn st wk 90 #[.pointer (some ⟨bP, 0, none⟩), .pointer (some ⟨bid, 0, none⟩)] (Go.Proofs.enters_of Tryz.func90 (by kernel_rfl) rfl) V ht hk hf (h.below hV) (hg.below hV) hp hw 8 (by omega) (by omega) (fun V2 g C0 C1 C2 e0 e1 e2 hV2 hM => uppedC a b c d e id bP bid g V2 (fun j => (hV2.cell (p := ⟨bP, j, none⟩) lP).trans (hP j)) (Nat.lt_of_lt_of_le lP hV2.size) ((hV2.cell (p := ⟨bid, 0, none⟩) lid).trans hid) (Nat.lt_of_lt_of_le lid hV2.size) _ _ (up_kind ts ks fs C0 C1 C2 e0 e1 e2 tn st g a b c d e id _ V2 ht hk hf hM pd1 pd2 rfl (by rw [← hd]; exact hi)))))⟩
 obtain ⟨k, kv, rfl, hkl, hks⟩ := kind_nat hi
 have hi9 : btw (k : Int) 0 (d - 1) = true := by rw [← hd]; exact hi
 cases hwm : waitersM ts 2 k with
 | nil =>
  have hfr : (waitersM ts 2 k).headD (-1) = -1 := by rw [hwm]; rfl
  have htk := token_get hp hks
  by_cases hv : kv < 100
  ·have hz := tokenP_right (k := k) (u := kv + 1) hp (by simp [btw]; omega)
   exact ⟨ts, ks.set k (kv + 1), fs, tn, st, 1, 0, by simpa using hl, ⟨fun _ => ⟨rfl, hz, rfl, rfl, k, kv, rfl, hks, .inl ⟨rfl, hwm, rfl, rfl, rfl⟩⟩, fun h => absurd rfl h⟩, hide (fun A0 A1 A2 c0 c1 c2 w h => (upped_free a b c d e ts ks fs A0 A1 A2 c0 c1 c2 tn st wk k w ht hk hf h k kv rfl hks hwm hm hi).mono (fun r w' hh => by rw [hz] at hh; exact hh)), hide (fun A0 A1 A2 c0 c1 c2 w hg h => gUpped_face a b c d e ts ks fs A0 A1 A2 c0 c1 c2 tn st wk k w ht hk hf h ⟨ts, ks.set k (kv + 1), fs, tn, st, 1, 0⟩ (fun V bP bid hV hP lP hid lid => livedAs_yes a b c d e ts ks fs A0 A1 A2 c0 c1 c2 tn st wk 90 #[.pointer (some ⟨bP, 0, none⟩), .pointer (some ⟨bid, 0, none⟩)] (Go.Proofs.enters_of Tryz.func90 (by kernel_rfl) rfl) V ht hk hf (h.below hV) (hg.below hV) hp hw ⟨ts, ks.set k (kv + 1), fs, tn, st, 1, 0⟩ (.inl rfl) (fun V2 g C0 C1 C2 e0 e1 e2 hV2 hM => uppedC a b c d e k bP bid g V2 (fun j => (hV2.cell (p := ⟨bP, j, none⟩) lP).trans (hP j)) (Nat.lt_of_lt_of_le lP hV2.size) ((hV2.cell (p := ⟨bid, 0, none⟩) lid).trans hid) (Nat.lt_of_lt_of_le lid hV2.size) _ _ (up_free ts ks fs C0 C1 C2 e0 e1 e2 tn st g a b c d e k kv hks V2 ht hk hf hM pd1 pd2 htk.1 hv hfr hi9))))⟩
  ·have hz := token_over (d := d) (a := a) (b := b) (c := c) (e := e) (ts := ts) (fs := fs) (tn := tn) (u := kv + 1) hkl (by omega)
   exact ⟨ts, ks, fs, tn, st, 4, 0, hl, ⟨fun h => by omega, fun _ _ => ⟨rfl, rfl, rfl, rfl, rfl⟩⟩, hide (fun A0 A1 A2 c0 c1 c2 w h => (upped_free a b c d e ts ks fs A0 A1 A2 c0 c1 c2 tn st wk k w ht hk hf h k kv rfl hks hwm hm hi).mono (fun r w' hh => by rw [hz] at hh; exact hh)), hide (fun A0 A1 A2 c0 c1 c2 w hg h => gUpped_face a b c d e ts ks fs A0 A1 A2 c0 c1 c2 tn st wk k w ht hk hf h ⟨ts, ks, fs, tn, st, 4, 0⟩ (fun V bP bid hV hP lP hid lid => livedAs_no a b c d e ts ks fs A0 A1 A2 c0 c1 c2 tn st wk 90 #[.pointer (some ⟨bP, 0, none⟩), .pointer (some ⟨bid, 0, none⟩)] (Go.Proofs.enters_of Tryz.func90 (by kernel_rfl) rfl) V ht hk hf (h.below hV) (hg.below hV) hp hw 4 (by omega) (by omega) (fun V2 g C0 C1 C2 e0 e1 e2 hV2 hM => uppedC a b c d e k bP bid g V2 (fun j => (hV2.cell (p := ⟨bP, j, none⟩) lP).trans (hP j)) (Nat.lt_of_lt_of_le lP hV2.size) ((hV2.cell (p := ⟨bid, 0, none⟩) lid).trans hid) (Nat.lt_of_lt_of_le lid hV2.size) _ _ (up_full ts ks fs C0 C1 C2 e0 e1 e2 tn st g a b c d e k kv hks V2 ht hk hf hM pd1 pd2 hv (by simp [canB, isInB, btw]) hfr hi9))))⟩
 | cons i0 jr =>
  obtain ⟨j, ⟨s, l, o1, wt, on, v, t⟩, rfl, hjl, hts, hs3, _⟩ := waitersM_mem (show i0 ∈ waitersM ts 2 k by rw [hwm]; exact List.mem_cons_self ..)
  simp only at hs3
  have hfr : (waitersM ts 2 k).headD (-1) = (j : Int) := by rw [hwm]; rfl
  by_cases t1 : tn < 1000000
  ·have hz := wake_right (v := 0) hp hts hs3 (by simp [btw]) t1
   have hcb : canB ts j 0 tn = true := by simp [canB, isInB_of hts 3, hs3, btw, t1]
   exact ⟨ts.set j (wakeT ⟨s, l, o1, wt, on, v, t⟩ tn 0), ks, fs, tn + 1, st, 1, (j : Int) + 1, by simpa using hl, ⟨fun _ => ⟨rfl, hz, rfl, rfl, k, kv, rfl, hks, .inr ⟨j, jr, _, rfl, hwm, hts, rfl, rfl, rfl⟩⟩, fun h => absurd rfl h⟩, hide (fun A0 A1 A2 c0 c1 c2 w h => (upped_wake a b c d e ts ks fs A0 A1 A2 c0 c1 c2 tn st wk k w ht hk hf h k rfl hkl j jr s l o1 wt on v t hts hjl hwm hm hi).mono (fun r w' hh => by rw [hz] at hh; exact hh)), hide (fun A0 A1 A2 c0 c1 c2 w hg h => gUpped_face a b c d e ts ks fs A0 A1 A2 c0 c1 c2 tn st wk k w ht hk hf h ⟨ts.set j (wakeT ⟨s, l, o1, wt, on, v, t⟩ tn 0), ks, fs, tn + 1, st, 1, (j : Int) + 1⟩ (fun V bP bid hV hP lP hid lid => livedAs_yes a b c d e ts ks fs A0 A1 A2 c0 c1 c2 tn st wk 90 #[.pointer (some ⟨bP, 0, none⟩), .pointer (some ⟨bid, 0, none⟩)] (Go.Proofs.enters_of Tryz.func90 (by kernel_rfl) rfl) V ht hk hf (h.below hV) (hg.below hV) hp hw ⟨ts.set j (wakeT ⟨s, l, o1, wt, on, v, t⟩ tn 0), ks, fs, tn + 1, st, 1, (j : Int) + 1⟩ (.inl rfl) (fun V2 g C0 C1 C2 e0 e1 e2 hV2 hM => uppedC a b c d e k bP bid g V2 (fun j => (hV2.cell (p := ⟨bP, j, none⟩) lP).trans (hP j)) (Nat.lt_of_lt_of_le lP hV2.size) ((hV2.cell (p := ⟨bid, 0, none⟩) lid).trans hid) (Nat.lt_of_lt_of_le lid hV2.size) _ _ (up_wake ts ks fs C0 C1 C2 e0 e1 e2 tn st g a b c d e k j s l o1 wt on v t V2 ht hk hf hM pd1 pd2 hT.1 hjl hts hcb hfr hi9))))⟩
  ·have hz : poolB a b c d e (ts.set j (wakeT ⟨s, l, o1, wt, on, v, t⟩ tn 0)) ks fs (tn + 1) = false := turn_over (by omega)
   have hcb : canB ts j 0 tn = false := by simp [canB, t1]
   exact ⟨ts, ks, fs, tn, st, 4, 0, hl, ⟨fun h => by omega, fun _ _ => ⟨rfl, rfl, rfl, rfl, rfl⟩⟩, hide (fun A0 A1 A2 c0 c1 c2 w h => (upped_wake a b c d e ts ks fs A0 A1 A2 c0 c1 c2 tn st wk k w ht hk hf h k rfl hkl j jr s l o1 wt on v t hts hjl hwm hm hi).mono (fun r w' hh => by rw [hz] at hh; exact hh)), hide (fun A0 A1 A2 c0 c1 c2 w hg h => gUpped_face a b c d e ts ks fs A0 A1 A2 c0 c1 c2 tn st wk k w ht hk hf h ⟨ts, ks, fs, tn, st, 4, 0⟩ (fun V bP bid hV hP lP hid lid => livedAs_no a b c d e ts ks fs A0 A1 A2 c0 c1 c2 tn st wk 90 #[.pointer (some ⟨bP, 0, none⟩), .pointer (some ⟨bid, 0, none⟩)] (Go.Proofs.enters_of Tryz.func90 (by kernel_rfl) rfl) V ht hk hf (h.below hV) (hg.below hV) hp hw 4 (by omega) (by omega) (fun V2 g C0 C1 C2 e0 e1 e2 hV2 hM => uppedC a b c d e k bP bid g V2 (fun j => (hV2.cell (p := ⟨bP, j, none⟩) lP).trans (hP j)) (Nat.lt_of_lt_of_le lP hV2.size) ((hV2.cell (p := ⟨bid, 0, none⟩) lid).trans hid) (Nat.lt_of_lt_of_le lid hV2.size) _ _ (up_wfull ts ks fs C0 C1 C2 e0 e1 e2 tn st g a b c d e k j V2 ht hk hf hM pd1 pd2 hjl hcb hfr hi9))))⟩
end Go.Proofs.YtfkdfkoigojciaaGreatDoor
