/- The model's StoppedBy: it is stopped. Lists no longer than a million. -/
import Derived.Test.YtfkdfkoigojciaaGreatDoorQT12
import Derived.Test.YtfkdfkoigojciaaGreatDoorQT24
import Derived.Test.YtfkdfkoigojciaaGreatDoorQT09
import Derived.Test.YtfkdfkoigojciaaGreatDoorQT13
import Derived.Deep.RegionHeld3
import Derived.Deep.RegionLaw
import Derived.BigRegion

namespace Go.Proofs.YtfkdfkoigojciaaGreatDoor
open Go.RowKit
set_option linter.unusedVariables false
set_option maxHeartbeats 4000000
set_option maxRecDepth 100000
theorem upped_free (a b c d e : Int) (ts : List T7) (ks : List Int) (fs : List F2) (A0 A1 A2 : Option Addr) (c0 c1 c2 : Nat) (tn : Int) (st : Bool) (wk : Int) (id : Int) (w : World) (ht : ts.length ≤ 1048576) (hk : ks.length ≤ 1048576) (hf : fs.length ≤ 1048576) (h : InPool w ts ks fs A0 A1 A2) (k : Nat) (kv : Int) (hid : id = k) (hks : ks[k]? = some kv) (hwm : waitersM ts 2 k = []) (hm : mayB a b c d e ts ks fs tn wk = true) (hi : btw id 0 (ks.length - 1) = true) :
 Calls Tryz.prog 39 #[.agg #[.int .i64 a, .int .i64 b, .int .i64 c, .int .i64 d, .int .i64 e], .agg #[.slice A0 ts.length c0, .slice A1 ks.length c1, .slice A2 fs.length c2, .int .i64 tn, .bool st], .int .i64 wk, .int .i64 id] w (GaveS [] w (doneO (poolB a b c d e ts (ks.set k (kv + 1)) fs tn) ts ks fs tn st ts (ks.set k (kv + 1)) fs tn st 1 0)) := by
 have hkl : k < ks.length := by
  rcases Nat.lt_or_ge k ks.length with h1 | h1
  ·exact h1
  ·rw [List.getElem?_eq_none h1] at hks; cases hks
 subst hid
 obtain ⟨b', off, x0, rfl, _, he, hb', z0⟩ := h.2.1.ks_at hkl
 rw [hks] at he
 injection he with he
 subst he
 have H := hide h
 clear h
 have hWt : Hid (∀ V, Row V A0 (tcells ts) → Calls Tryz.prog 97 #[.agg #[.slice A0 ts.length c0, .slice (some ⟨b', off, none⟩) ks.length c1, .slice A2 fs.length c2, .int .i64 tn, .bool st], .int .i64 2, .int .i64 k] V fun r w' => ∃ (A : Option Addr) (c : Nat), r = .returned (.slice A ([]).length c) ∧ Sep [] V w' [rK ([]).length A c ([])]) := hide (fun V hV => by
  have h1 := waitersOn_any ts A0 (some ⟨b', off, none⟩) A2 c0 ks.length c1 fs.length c2 tn st 2 k V ht hV
  rw [hwm] at h1
  exact h1.mono fun r w' ⟨A, c, hr, ho, hb⟩ => ⟨A, c, hr, sepRow hb ho⟩)
 clear hwm
 have hpo : poolB a b c d e ts ks fs tn = true := by
  have h1 := hm
  simp only [mayB, Bool.and_eq_true] at h1
  exact h1.1
 have tb : 0 ≤ tn ∧ tn ≤ 1000000 := by
  have h1 := hpo
  simp only [poolB, Bool.and_eq_true] at h1
  have h2 := h1.2.1
  simp [btw] at h2
  exact h2
 obtain ⟨tb0, tb1⟩ := tb
 have kb : 0 ≤ kv ∧ kv ≤ 100 := by
  have h1 := hpo
  simp only [poolB, Bool.and_eq_true] at h1
  have h2 := List.all_eq_true.1 h1.2.2.2.1.1 kv (List.mem_of_getElem? hks)
  simpa [tokB, btw] using h2
 obtain ⟨kb0, kb1⟩ := kb
 have hDn := hide (fun (A0x A1x A2x : Option Addr) (c0x c1x c2x : Nat) (rs : List Res) (V : World) (h1 : InPool V ts ks fs A0 (some ⟨b', off, none⟩) A2) (h2 : Sep [] w V ([rT ts.length A0x c0x ts, rK ks.length A1x c1x (ks.set k (kv + 1)), rF fs.length A2x c2x fs] ++ rs)) => l6Done_s a b c d e ts ks fs A0 (some ⟨b', off, none⟩) A2 c0 c1 c2 tn st ts.length ks.length fs.length ts (ks.set k (kv + 1)) fs A0x A1x A2x c0x c1x c2x tn st 1 0 V rfl (by simp) rfl hpo ht hk hf ht hk hf h1 h2)
 clear hpo
 generalize doneO (poolB a b c d e ts (ks.set k (kv + 1)) fs tn) ts ks fs tn st ts (ks.set k (kv + 1)) fs tn st 1 0 = o at hDn ⊢
 have HY := hide (⟨hm, hi, hks, trivial⟩ : _ ∧ _ ∧ _ ∧ True)
 clear hm hi hks
 go_enter Tryz.func39, Tryz.ntmps39
 go_wp2_with fail
 generalize hW : (((w.alloc _).alloc _).alloc _).alloc _ = W1
 have M := Sep.e4 hW
 clear hW
 obtain ⟨tX, Ah, Ad, Ab, Ag, Ac⟩ := M.q5 2 rfl
 obtain ⟨tP, Aa, Af, Aj, Ai, Ae⟩ := M.q5 3 rfl
 go_call (l6May_v a b c d e ts ks fs A0 (some ⟨b', off, none⟩) A2 c0 c1 c2 tn st wk true HY.out.1 _ ht hk hf (H.out.below M.below)) as r W2 ⟨rfl, g1⟩
 clear tX Ah Ad Ab Ag Ac tP Aa Af Aj Ai Ae
 replace M := M.call g1
 clear g1
 obtain ⟨tX, Ah, Ad, Ab, Ag, Ac⟩ := M.q5 2 rfl
 obtain ⟨tP, Aa, Af, Aj, Ai, Ae⟩ := M.q5 3 rfl
 go_wp2_with fail
 go_call (l1In_v k 0 (ks.length - 1) true HY.out.2.1 _) as r W ⟨rfl, rfl⟩
 go_wp2_with fail
 go_call (hWt.out _ (H.out.below M.below).1) as r W3 ⟨AL, cL, rfl, g1⟩
 clear tX Ah Ad Ab Ag Ac tP Aa Af Aj Ai Ae
 replace M := Sep.new M g1
 simp only [zC, zN] at M
 clear g1
 obtain ⟨tX, Ah, Ad, Ab, Ag, Ac⟩ := M.q5 3 rfl
 obtain ⟨tP, Aa, Af, Aj, Ai, Ae⟩ := M.q5 4 rfl
 go_wp2_with fail
 go_call (l3Copy_s ts ks fs A0 (some ⟨b', off, none⟩) A2 c0 c1 c2 tn st _ ht hk hf (H.out.below M.below)) as r W4 ⟨C0, C1, C2, e0, e1, e2, rfl, g1⟩
 clear tX Ah Ad Ab Ag Ac tP Aa Af Aj Ai Ae
 replace M := Sep.new M g1
 simp only [zC, zN] at M
 clear g1
 obtain ⟨g, rfl, hgl, hfz⟩ := rK_form (M.here _ (List.mem_of_getElem? (show _ = some _ from rfl : [rT ts.length C0 e0 ts, rK ks.length C1 e1 ks, rF fs.length C2 e2 fs, rK 0 AL cL [], .blk (w.heap.size + 3) 38 #[.int .i64 0, .int .i64 0], .blk (w.heap.size + 2) 35 #[.slice none 0 0, .slice none 0 0, .slice none 0 0, .int .i64 0, .bool false], .blk (w.heap.size + 1) 35 #[.slice A0 ts.length c0, .slice (some ⟨b', off, none⟩) ks.length c1, .slice A2 fs.length c2, .int .i64 tn, .bool st], .blk (w.heap.size) 28 #[.int .i64 a, .int .i64 b, .int .i64 c, .int .i64 d, .int .i64 e]][1]? = some (rK ks.length C1 e1 ks)))) (by omega)
 obtain ⟨tX, Ah, Ad, Ab, Ag, Ac⟩ := M.q5 6 rfl
 obtain ⟨tP, Aa, Af, Aj, Ai, Ae⟩ := M.q5 7 rfl
 go_wp2_with fail
 clear tX Ah Ad Ab Ag Ac tP Aa Af Aj Ai Ae
 replace M : Sep [] w (W4.alloc (.cells #[.slice C0 ts.length e0, .slice (some ⟨g, 0, none⟩) ks.length e1, .slice C2 fs.length e2, .int .i64 tn, .bool st] 35)) [.blk (W4.heap.size) 35 #[.slice C0 ts.length e0, .slice (some ⟨g, 0, none⟩) ks.length e1, .slice C2 fs.length e2, .int .i64 tn, .bool st], rT ts.length C0 e0 ts, rK ks.length (some ⟨g, 0, none⟩) e1 ks, rF fs.length C2 e2 fs, rK 0 AL cL [], .blk (w.heap.size + 3) 38 #[.int .i64 0, .int .i64 0], .blk (w.heap.size + 2) 35 #[.slice none 0 0, .slice none 0 0, .slice none 0 0, .int .i64 0, .bool false], .blk (w.heap.size + 1) 35 #[.slice A0 ts.length c0, .slice (some ⟨b', off, none⟩) ks.length c1, .slice A2 fs.length c2, .int .i64 tn, .bool st], .blk (w.heap.size) 28 #[.int .i64 a, .int .i64 b, .int .i64 c, .int .i64 d, .int .i64 e]] := M.alloc 35 #[.slice C0 ts.length e0, .slice (some ⟨g, 0, none⟩) ks.length e1, .slice C2 fs.length e2, .int .i64 tn, .bool st] _ rfl
 generalize W4.alloc (.cells #[.slice C0 ts.length e0, .slice (some ⟨g, 0, none⟩) ks.length e1, .slice C2 fs.length e2, .int .i64 tn, .bool st] 35) = W5 at M ⊢
 replace M : Sep [] w W5 [rT ts.length C0 e0 ts, rK ks.length (some ⟨g, 0, none⟩) e1 ks, rF fs.length C2 e2 fs, .blk (W4.heap.size) 35 #[.slice C0 ts.length e0, .slice (some ⟨g, 0, none⟩) ks.length e1, .slice C2 fs.length e2, .int .i64 tn, .bool st], rK 0 AL cL [], .blk (w.heap.size + 3) 38 #[.int .i64 0, .int .i64 0], .blk (w.heap.size + 2) 35 #[.slice none 0 0, .slice none 0 0, .slice none 0 0, .int .i64 0, .bool false], .blk (w.heap.size + 1) 35 #[.slice A0 ts.length c0, .slice (some ⟨b', off, none⟩) ks.length c1, .slice A2 fs.length c2, .int .i64 tn, .bool st], .blk (w.heap.size) 28 #[.int .i64 a, .int .i64 b, .int .i64 c, .int .i64 d, .int .i64 e]] := Sep.back (l1 := [rT ts.length C0 e0 ts, rK ks.length (some ⟨g, 0, none⟩) e1 ks, rF fs.length C2 e2 fs]) M
 obtain ⟨tY, Az, Ba, Aw, Ay, Ar, Av, Au, At, Ax, As⟩ := M.f5 3 rfl
 obtain ⟨tX, Ah, Ad, Ab, Ag, Ac⟩ := M.q5 7 rfl
 obtain ⟨tP, Aa, Af, Aj, Ai, Ae⟩ := M.q5 8 rfl
 have nY := M.ne 1 3 (by omega) rfl rfl rfl rfl
 have nS := M.ne 1 5 (by omega) rfl rfl rfl rfl
 have nR := M.ne 1 6 (by omega) rfl rfl rfl rfl
 have nX := M.ne 1 7 (by omega) rfl rfl rfl rfl
 have nP := M.ne 1 8 (by omega) rfl rfl rfl rfl
 have hgl1 : g < W5.heap.size := ((M.here _ (List.mem_of_getElem? (show _ = some _ from rfl : [rT ts.length C0 e0 ts, rK ks.length (some ⟨g, 0, none⟩) e1 ks, rF fs.length C2 e2 fs, .blk (W4.heap.size) 35 #[.slice C0 ts.length e0, .slice (some ⟨g, 0, none⟩) ks.length e1, .slice C2 fs.length e2, .int .i64 tn, .bool st], rK 0 AL cL [], .blk (w.heap.size + 3) 38 #[.int .i64 0, .int .i64 0], .blk (w.heap.size + 2) 35 #[.slice none 0 0, .slice none 0 0, .slice none 0 0, .int .i64 0, .bool false], .blk (w.heap.size + 1) 35 #[.slice A0 ts.length c0, .slice (some ⟨b', off, none⟩) ks.length c1, .slice A2 fs.length c2, .int .i64 tn, .bool st], .blk (w.heap.size) 28 #[.int .i64 a, .int .i64 b, .int .i64 c, .int .i64 d, .int .i64 e]][1]? = some (rK ks.length (some ⟨g, 0, none⟩) e1 ks)))).lt rfl)
 have fz : W5.frozen? ⟨g, k, none⟩ = false := Own.fz (M.rowAt 1 rfl) _
 have yk : W5.cell? ⟨g, k, none⟩ = some (.int .i64 kv) := rK_cell (M.rowAt 1 rfl) HY.out.2.2.1
 clear hfz
 go_region
 clear tY Az Ba Aw Ay Ar Av Au At Ax As tX Ah Ad Ab Ag Ac tP Aa Af Aj Ai Ae nY nS nR nX nP
 clear fz yk
 replace M : Sep [] w (W5.setCell ⟨g, k, none⟩ (.int .i64 (kv + 1))).drew [rT ts.length C0 e0 ts, rK ks.length (some ⟨g, 0, none⟩) e1 (ks.set k (kv + 1)), rF fs.length C2 e2 fs, .blk (W4.heap.size) 35 #[.slice C0 ts.length e0, .slice (some ⟨g, 0, none⟩) ks.length e1, .slice C2 fs.length e2, .int .i64 tn, .bool st], rK 0 AL cL [], .blk (w.heap.size + 3) 38 #[.int .i64 0, .int .i64 0], .blk (w.heap.size + 2) 35 #[.slice none 0 0, .slice none 0 0, .slice none 0 0, .int .i64 0, .bool false], .blk (w.heap.size + 1) 35 #[.slice A0 ts.length c0, .slice (some ⟨b', off, none⟩) ks.length c1, .slice A2 fs.length c2, .int .i64 tn, .bool st], .blk (w.heap.size) 28 #[.int .i64 a, .int .i64 b, .int .i64 c, .int .i64 d, .int .i64 e]] := (M.putK 1 rfl k (kv + 1)).drew
 generalize (W5.setCell ⟨g, k, none⟩ (.int .i64 (kv + 1))).drew = W6 at M ⊢
 obtain ⟨tY, Az, Ba, Aw, Ay, Ar, Av, Au, At, Ax, As⟩ := M.f5 3 rfl
 obtain ⟨tX, Ah, Ad, Ab, Ag, Ac⟩ := M.q5 7 rfl
 obtain ⟨tP, Aa, Af, Aj, Ai, Ae⟩ := M.q5 8 rfl
 go_wp2_with fail
 go_call (hDn.out _ _ _ _ _ _ [.blk (W4.heap.size) 35 #[.slice C0 ts.length e0, .slice (some ⟨g, 0, none⟩) ks.length e1, .slice C2 fs.length e2, .int .i64 tn, .bool st], rK 0 AL cL [], .blk (w.heap.size + 3) 38 #[.int .i64 0, .int .i64 0], .blk (w.heap.size + 2) 35 #[.slice none 0 0, .slice none 0 0, .slice none 0 0, .int .i64 0, .bool false], .blk (w.heap.size + 1) 35 #[.slice A0 ts.length c0, .slice (some ⟨b', off, none⟩) ks.length c1, .slice A2 fs.length c2, .int .i64 tn, .bool st], .blk (w.heap.size) 28 #[.int .i64 a, .int .i64 b, .int .i64 c, .int .i64 d, .int .i64 e]] _ (H.out.below M.below) M) as r W7 ⟨B0, B1, B2, d0, d1, d2, rfl, g1⟩
 clear tY Az Ba Aw Ay Ar Av Au At Ax As tX Ah Ad Ab Ag Ac tP Aa Af Aj Ai Ae
 replace M := Sep.comp (ps := [rT ts.length C0 e0 ts, rK ks.length (some ⟨g, 0, none⟩) e1 (ks.set k (kv + 1)), rF fs.length C2 e2 fs]) M g1
 simp only [zC, zN] at M
 clear g1
 obtain ⟨tS, Ak, Bh, Ao, Bg⟩ := M.f2 5 rfl
 obtain ⟨tR, Am, Bc, Aq, Bd, An, Bf, Ap, Be, Al, Bb⟩ := M.f5 6 rfl
 go_wp2_with fail
 clear tS Ak Bh Ao Bg tR Am Bc Aq Bd An Bf Ap Be Al Bb
 have N := M.gset5 6 rfl (.slice B0 o.ts.length d0) (.slice B1 o.ks.length d1) (.slice B2 o.fs.length d2) (.int .i64 o.tn) (.bool o.st)
 clear M
 obtain ⟨W8, eW, M⟩ := N
 rw [eW]
 clear eW
 simp only [zZ, zS] at M
 have N := M.gset2 5 rfl (.int .i64 o.rp) (.int .i64 o.ou)
 clear M
 obtain ⟨W9, eW, M⟩ := N
 rw [eW]
 clear eW
 simp only [zZ, zS] at M
 obtain ⟨tS, Ak, Ao⟩ := M.q2 5 rfl
 obtain ⟨tR, Am, Aq, An, Ap, Al⟩ := M.q5 6 rfl
 exact bodyPost_ret (by simp [results, Tryz.results39, go_sem, Am, Aq, An, Ap, Al, Ak, Ao]) rfl ⟨B0, B1, B2, d0, d1, d2, rfl, M.take 3⟩
theorem upped_wake (a b c d e : Int) (ts : List T7) (ks : List Int) (fs : List F2) (A0 A1 A2 : Option Addr) (c0 c1 c2 : Nat) (tn : Int) (st : Bool) (wk : Int) (id : Int) (w : World) (ht : ts.length ≤ 1048576) (hk : ks.length ≤ 1048576) (hf : fs.length ≤ 1048576) (h : InPool w ts ks fs A0 A1 A2) (k : Nat) (hid : id = k) (hkl : k < ks.length) (j : Nat) (jr : List Int) (s l o1 wt on v t : Int) (hts : ts[j]? = some ⟨s, l, o1, wt, on, v, t⟩) (hjl : j < ts.length) (hwm : waitersM ts 2 k = (j : Int) :: jr) (hm : mayB a b c d e ts ks fs tn wk = true) (hi : btw id 0 (ks.length - 1) = true) :
 Calls Tryz.prog 39 #[.agg #[.int .i64 a, .int .i64 b, .int .i64 c, .int .i64 d, .int .i64 e], .agg #[.slice A0 ts.length c0, .slice A1 ks.length c1, .slice A2 fs.length c2, .int .i64 tn, .bool st], .int .i64 wk, .int .i64 id] w (GaveS [] w (doneO (poolB a b c d e (ts.set j (wakeT ⟨s, l, o1, wt, on, v, t⟩ tn 0)) ks fs (tn + 1)) ts ks fs tn st (ts.set j (wakeT ⟨s, l, o1, wt, on, v, t⟩ tn 0)) ks fs (tn + 1) st 1 ((j : Int) + 1))) := by
 subst hid
 have H := hide h
 clear h
 have hWt : Hid (∀ V, Row V A0 (tcells ts) → Calls Tryz.prog 97 #[.agg #[.slice A0 ts.length c0, .slice A1 ks.length c1, .slice A2 fs.length c2, .int .i64 tn, .bool st], .int .i64 2, .int .i64 k] V fun r w' => ∃ (A : Option Addr) (c : Nat), r = .returned (.slice A ((j : Int) :: jr).length c) ∧ Sep [] V w' [rK ((j : Int) :: jr).length A c ((j : Int) :: jr)]) := hide (fun V hV => by
  have h1 := waitersOn_any ts A0 A1 A2 c0 ks.length c1 fs.length c2 tn st 2 k V ht hV
  rw [hwm] at h1
  exact h1.mono fun r w' ⟨A, c, hr, ho, hb⟩ => ⟨A, c, hr, sepRow hb ho⟩)
 clear hwm
 have hpo : poolB a b c d e ts ks fs tn = true := by
  have h1 := hm
  simp only [mayB, Bool.and_eq_true] at h1
  exact h1.1
 have tb : 0 ≤ tn ∧ tn ≤ 1000000 := by
  have h1 := hpo
  simp only [poolB, Bool.and_eq_true] at h1
  have h2 := h1.2.1
  simp [btw] at h2
  exact h2
 obtain ⟨tb0, tb1⟩ := tb
 have hDn := hide (fun (A0x A1x A2x : Option Addr) (c0x c1x c2x : Nat) (rs : List Res) (V : World) (h1 : InPool V ts ks fs A0 A1 A2) (h2 : Sep [] w V ([rT ts.length A0x c0x (ts.set j (wakeT ⟨s, l, o1, wt, on, v, t⟩ tn 0)), rK ks.length A1x c1x ks, rF fs.length A2x c2x fs] ++ rs)) => l6Done_s a b c d e ts ks fs A0 A1 A2 c0 c1 c2 tn st ts.length ks.length fs.length (ts.set j (wakeT ⟨s, l, o1, wt, on, v, t⟩ tn 0)) ks fs A0x A1x A2x c0x c1x c2x ((tn + 1)) st 1 ((IntKind.i64.wrap ((j : Int) + 1))) V (by simp) rfl rfl hpo ht hk hf ht hk hf h1 h2)
 clear hpo
 have hwr : IntKind.i64.wrap ((j : Int) + 1) = (j : Int) + 1 := by rw [IntKind.wrap_i64]; omega
 rw [← hwr]
 clear hwr
 generalize doneO (poolB a b c d e (ts.set j (wakeT ⟨s, l, o1, wt, on, v, t⟩ tn 0)) ks fs (tn + 1)) ts ks fs tn st (ts.set j (wakeT ⟨s, l, o1, wt, on, v, t⟩ tn 0)) ks fs (tn + 1) st 1 (IntKind.i64.wrap ((j : Int) + 1)) = o at hDn ⊢
 have HY := hide (⟨hm, hi, hts, trivial⟩ : _ ∧ _ ∧ _ ∧ True)
 clear hm hi hts
 go_enter Tryz.func39, Tryz.ntmps39
 go_wp2_with fail
 generalize hW : (((w.alloc _).alloc _).alloc _).alloc _ = W1
 have M := Sep.e4 hW
 clear hW
 obtain ⟨tX, Ah, Ad, Ab, Ag, Ac⟩ := M.q5 2 rfl
 obtain ⟨tP, Aa, Af, Aj, Ai, Ae⟩ := M.q5 3 rfl
 go_call (l6May_v a b c d e ts ks fs A0 A1 A2 c0 c1 c2 tn st wk true HY.out.1 _ ht hk hf (H.out.below M.below)) as r W2 ⟨rfl, g1⟩
 clear tX Ah Ad Ab Ag Ac tP Aa Af Aj Ai Ae
 replace M := M.call g1
 clear g1
 obtain ⟨tX, Ah, Ad, Ab, Ag, Ac⟩ := M.q5 2 rfl
 obtain ⟨tP, Aa, Af, Aj, Ai, Ae⟩ := M.q5 3 rfl
 go_wp2_with fail
 go_call (l1In_v k 0 (ks.length - 1) true HY.out.2.1 _) as r W ⟨rfl, rfl⟩
 go_wp2_with fail
 go_call (hWt.out _ (H.out.below M.below).1) as r W3 ⟨AL, cL, rfl, g1⟩
 clear tX Ah Ad Ab Ag Ac tP Aa Af Aj Ai Ae
 replace M := Sep.new M g1
 simp only [zC, zN] at M
 clear g1
 obtain ⟨gl, rfl, hgll, hfzl⟩ := rK_form (M.here _ (List.mem_cons_self)) (by simp)
 clear hfzl
 obtain ⟨tX, Ah, Ad, Ab, Ag, Ac⟩ := M.q5 3 rfl
 obtain ⟨tP, Aa, Af, Aj, Ai, Ae⟩ := M.q5 4 rfl
 go_wp2_with fail
 go_call (l3Copy_s ts ks fs A0 A1 A2 c0 c1 c2 tn st _ ht hk hf (H.out.below M.below)) as r W4 ⟨C0, C1, C2, e0, e1, e2, rfl, g1⟩
 clear tX Ah Ad Ab Ag Ac tP Aa Af Aj Ai Ae
 replace M := Sep.new M g1
 simp only [zC, zN] at M
 clear g1
 obtain ⟨tX, Ah, Ad, Ab, Ag, Ac⟩ := M.q5 6 rfl
 obtain ⟨tP, Aa, Af, Aj, Ai, Ae⟩ := M.q5 7 rfl
 go_wp2_with fail
 clear tX Ah Ad Ab Ag Ac tP Aa Af Aj Ai Ae
 replace M : Sep [] w (W4.alloc (.cells #[.slice C0 ts.length e0, .slice C1 ks.length e1, .slice C2 fs.length e2, .int .i64 tn, .bool st] 35)) [.blk (W4.heap.size) 35 #[.slice C0 ts.length e0, .slice C1 ks.length e1, .slice C2 fs.length e2, .int .i64 tn, .bool st], rT ts.length C0 e0 ts, rK ks.length C1 e1 ks, rF fs.length C2 e2 fs, rK ((j : Int) :: jr).length (some ⟨gl, 0, none⟩) cL ((j : Int) :: jr), .blk (w.heap.size + 3) 38 #[.int .i64 0, .int .i64 0], .blk (w.heap.size + 2) 35 #[.slice none 0 0, .slice none 0 0, .slice none 0 0, .int .i64 0, .bool false], .blk (w.heap.size + 1) 35 #[.slice A0 ts.length c0, .slice A1 ks.length c1, .slice A2 fs.length c2, .int .i64 tn, .bool st], .blk (w.heap.size) 28 #[.int .i64 a, .int .i64 b, .int .i64 c, .int .i64 d, .int .i64 e]] := M.alloc 35 #[.slice C0 ts.length e0, .slice C1 ks.length e1, .slice C2 fs.length e2, .int .i64 tn, .bool st] _ rfl
 generalize W4.alloc (.cells #[.slice C0 ts.length e0, .slice C1 ks.length e1, .slice C2 fs.length e2, .int .i64 tn, .bool st] 35) = W5 at M ⊢
 replace M : Sep [] w W5 [rT ts.length C0 e0 ts, rK ks.length C1 e1 ks, rF fs.length C2 e2 fs, .blk (W4.heap.size) 35 #[.slice C0 ts.length e0, .slice C1 ks.length e1, .slice C2 fs.length e2, .int .i64 tn, .bool st], rK ((j : Int) :: jr).length (some ⟨gl, 0, none⟩) cL ((j : Int) :: jr), .blk (w.heap.size + 3) 38 #[.int .i64 0, .int .i64 0], .blk (w.heap.size + 2) 35 #[.slice none 0 0, .slice none 0 0, .slice none 0 0, .int .i64 0, .bool false], .blk (w.heap.size + 1) 35 #[.slice A0 ts.length c0, .slice A1 ks.length c1, .slice A2 fs.length c2, .int .i64 tn, .bool st], .blk (w.heap.size) 28 #[.int .i64 a, .int .i64 b, .int .i64 c, .int .i64 d, .int .i64 e]] := Sep.back (l1 := [rT ts.length C0 e0 ts, rK ks.length C1 e1 ks, rF fs.length C2 e2 fs]) M
 obtain ⟨tY, Az, Ba, Aw, Ay, Ar, Av, Au, At, Ax, As⟩ := M.f5 3 rfl
 obtain ⟨tX, Ah, Ad, Ab, Ag, Ac⟩ := M.q5 7 rfl
 obtain ⟨tP, Aa, Af, Aj, Ai, Ae⟩ := M.q5 8 rfl
 clear tY Az Ba Aw Ay Ar Av Au At Ax As tX Ah Ad Ab Ag Ac tP Aa Af Aj Ai Ae
 refine wp_region_T (S := (fun w' => w'.cell? ⟨w.heap.size, 0, none⟩ = some (.int .i64 a) ∧ w'.cell? ⟨w.heap.size, 1, none⟩ = some (.int .i64 b) ∧ w'.cell? ⟨w.heap.size, 2, none⟩ = some (.int .i64 c) ∧ w'.cell? ⟨w.heap.size, 3, none⟩ = some (.int .i64 d) ∧ w'.cell? ⟨w.heap.size, 4, none⟩ = some (.int .i64 e) ∧ w'.cell? ⟨w.heap.size + 1, 0, none⟩ = some (.slice A0 ts.length c0) ∧ w'.cell? ⟨w.heap.size + 1, 1, none⟩ = some (.slice A1 ks.length c1) ∧ w'.cell? ⟨w.heap.size + 1, 2, none⟩ = some (.slice A2 fs.length c2) ∧ w'.cell? ⟨w.heap.size + 1, 3, none⟩ = some (.int .i64 tn) ∧ w'.cell? ⟨w.heap.size + 1, 4, none⟩ = some (.bool st) ∧ w'.cell? ⟨W4.heap.size, 0, none⟩ = some (.slice C0 ts.length e0) ∧ w'.cell? ⟨W4.heap.size, 1, none⟩ = some (.slice C1 ks.length e1) ∧ w'.cell? ⟨W4.heap.size, 2, none⟩ = some (.slice C2 fs.length e2) ∧ w'.cell? ⟨W4.heap.size, 3, none⟩ = some (.int .i64 tn) ∧ w'.cell? ⟨W4.heap.size, 4, none⟩ = some (.bool st) ∧ w'.cell? ⟨gl, 0, none⟩ = some (.int .i64 (j : Int)))) (ks := []) (by kernel_rfl) ⟨M.cell 8 0 rfl, M.cell 8 1 rfl, M.cell 8 2 rfl, M.cell 8 3 rfl, M.cell 8 4 rfl, M.cell 7 0 rfl, M.cell 7 1 rfl, M.cell 7 2 rfl, M.cell 7 3 rfl, M.cell 7 4 rfl, M.cell 3 0 rfl, M.cell 3 1 rfl, M.cell 3 2 rfl, M.cell 3 3 rfl, M.cell 3 4 rfl, rK_cell (M.rowAt 4 rfl) rfl⟩ (fun hHeld => ?_)
 replace M := M.drew
 generalize W5.drew = W6 at M hHeld ⊢
 refine tkLa 0 _ rfl hHeld ?_
 try simp only [Act.put, zI, zZ, zS]
 refine tkLa 1 _ rfl hHeld ?_
 try simp only [Act.put, zI, zZ, zS]
 refine tkLa 2 _ rfl hHeld ?_
 try simp only [Act.put, zI, zZ, zS]
 refine tkYa 3 _ rfl (fun _ => hHeld) ?_
 try simp only [Act.put, zI, zZ, zS]
 refine tkYa 4 _ rfl (fun _ => hHeld) ?_
 try simp only [Act.put, zI, zZ, zS]
 refine tkLa 5 _ rfl hHeld ?_
 try simp only [Act.put, zI, zZ, zS]
 refine tkYa 7 _ rfl (fun _ => hHeld) ?_
 try simp only [Act.put, zI, zZ, zS]
 refine tkYa 8 _ rfl (fun _ => hHeld) ?_
 try simp only [Act.put, zI, zZ, zS]
 refine tkLa 9 _ rfl hHeld ?_
 try simp only [Act.put, zI, zZ, zS]
 refine tkYa 10 _ rfl (fun _ => hHeld) ?_
 try simp only [Act.put, zI, zZ, zS]
 refine wpAnyT_callL (i := 6) rfl (by kernel_rfl) (fun K hK => ?_)
 go_simp
 refine (l5Wake_s ts _ _ _ _ _ _ _ _ tn st j s l o1 wt on v t 0 _ ht (by omega) (by omega) HY.out.2.2.1 (M.here _ (List.mem_cons_self))).mono ?_
 rintro r W7 ⟨rfl, g1⟩
 replace M := Sep.comp (ps := [rT ts.length C0 e0 ts]) M g1
 simp only [zC, zN] at M
 clear g1 hHeld
 go_wp2_with fail
 refine hK.out _ _ ?_ (fun hHeld => ?_)
 ·exact ⟨M.cell 8 0 rfl, M.cell 8 1 rfl, M.cell 8 2 rfl, M.cell 8 3 rfl, M.cell 8 4 rfl, M.cell 7 0 rfl, M.cell 7 1 rfl, M.cell 7 2 rfl, M.cell 7 3 rfl, M.cell 7 4 rfl, M.cell 3 0 rfl, M.cell 3 1 rfl, M.cell 3 2 rfl, M.cell 3 3 rfl, M.cell 3 4 rfl, rK_cell (M.rowAt 4 rfl) rfl⟩
 clear hK K
 try simp only [Act.put, zI, zZ, zS]
 refine wpAnyT_callL (i := 11) rfl (by kernel_rfl) (fun K hK => ?_)
 go_simp
 refine (hDn.out _ _ _ _ _ _ [.blk (W4.heap.size) 35 #[.slice C0 ts.length e0, .slice C1 ks.length e1, .slice C2 fs.length e2, .int .i64 tn, .bool st], rK ((j : Int) :: jr).length (some ⟨gl, 0, none⟩) cL ((j : Int) :: jr), .blk (w.heap.size + 3) 38 #[.int .i64 0, .int .i64 0], .blk (w.heap.size + 2) 35 #[.slice none 0 0, .slice none 0 0, .slice none 0 0, .int .i64 0, .bool false], .blk (w.heap.size + 1) 35 #[.slice A0 ts.length c0, .slice A1 ks.length c1, .slice A2 fs.length c2, .int .i64 tn, .bool st], .blk (w.heap.size) 28 #[.int .i64 a, .int .i64 b, .int .i64 c, .int .i64 d, .int .i64 e]] _ (H.out.below M.below) M).mono ?_
 rintro r W8 ⟨B0, B1, B2, d0, d1, d2, rfl, g1⟩
 replace M := Sep.comp (ps := [rT ts.length C0 e0 (ts.set j (wakeT ⟨s, l, o1, wt, on, v, t⟩ tn 0)), rK ks.length C1 e1 ks, rF fs.length C2 e2 fs]) M g1
 simp only [zC, zN] at M
 clear g1 hHeld
 go_wp2_with fail
 refine hK.out _ _ ?_ (fun hHeld => ?_)
 ·exact ⟨M.cell 8 0 rfl, M.cell 8 1 rfl, M.cell 8 2 rfl, M.cell 8 3 rfl, M.cell 8 4 rfl, M.cell 7 0 rfl, M.cell 7 1 rfl, M.cell 7 2 rfl, M.cell 7 3 rfl, M.cell 7 4 rfl, M.cell 3 0 rfl, M.cell 3 1 rfl, M.cell 3 2 rfl, M.cell 3 3 rfl, M.cell 3 4 rfl, rK_cell (M.rowAt 4 rfl) rfl⟩
 clear hK K
 try simp only [Act.put, zI, zZ, zS]
 refine tkYa 12 _ rfl (fun _ => hHeld) ?_
 try simp only [Act.put, zI, zZ, zS]
 refine tkYa 13 _ rfl (fun _ => hHeld) ?_
 try simp only [Act.put, zI, zZ, zS]
 obtain ⟨tR, Am, Bc, Aq, Bd, An, Bf, Ap, Be, Al, Bb⟩ := M.f5 6 rfl
 refine wpAnyT_callL (i := 14) rfl (by kernel_rfl) (fun K hK => ?_)
 go_simp
 clear tR Am Bc Aq Bd An Bf Ap Be Al Bb
 have N := M.gset5 6 rfl (.slice B0 o.ts.length d0) (.slice B1 o.ks.length d1) (.slice B2 o.fs.length d2) (.int .i64 o.tn) (.bool o.st)
 clear M
 obtain ⟨W9, eW, M⟩ := N
 rw [eW]
 clear eW
 simp only [zZ, zS] at M
 clear hHeld
 refine hK.out _ _ ?_ (fun hHeld => ?_)
 ·exact ⟨M.cell 8 0 rfl, M.cell 8 1 rfl, M.cell 8 2 rfl, M.cell 8 3 rfl, M.cell 8 4 rfl, M.cell 7 0 rfl, M.cell 7 1 rfl, M.cell 7 2 rfl, M.cell 7 3 rfl, M.cell 7 4 rfl, M.cell 3 0 rfl, M.cell 3 1 rfl, M.cell 3 2 rfl, M.cell 3 3 rfl, M.cell 3 4 rfl, rK_cell (M.rowAt 4 rfl) rfl⟩
 clear hK K
 try simp only [Act.put, zI, zZ, zS]
 obtain ⟨tS, Ak, Bh, Ao, Bg⟩ := M.f2 5 rfl
 refine wpAnyT_callL (i := 15) rfl (by kernel_rfl) (fun K hK => ?_)
 go_simp
 clear tS Ak Bh Ao Bg
 have N := M.gset2 5 rfl (.int .i64 o.rp) (.int .i64 o.ou)
 clear M
 obtain ⟨W10, eW, M⟩ := N
 rw [eW]
 clear eW
 simp only [zZ, zS] at M
 clear hHeld
 refine hK.out _ _ ?_ (fun hHeld => ?_)
 ·exact ⟨M.cell 8 0 rfl, M.cell 8 1 rfl, M.cell 8 2 rfl, M.cell 8 3 rfl, M.cell 8 4 rfl, M.cell 7 0 rfl, M.cell 7 1 rfl, M.cell 7 2 rfl, M.cell 7 3 rfl, M.cell 7 4 rfl, M.cell 3 0 rfl, M.cell 3 1 rfl, M.cell 3 2 rfl, M.cell 3 3 rfl, M.cell 3 4 rfl, rK_cell (M.rowAt 4 rfl) rfl⟩
 clear hK K
 try simp only [Act.put, zI, zZ, zS]
 refine wpAnyT_done (by kernel_rfl) ?_ _
 go_wp2_with fail
 obtain ⟨tS, Ak, Ao⟩ := M.q2 5 rfl
 obtain ⟨tR, Am, Aq, An, Ap, Al⟩ := M.q5 6 rfl
 exact bodyPost_ret (by simp [results, Tryz.results39, go_sem, Am, Aq, An, Ap, Al, Ak, Ao]) rfl ⟨B0, B1, B2, d0, d1, d2, rfl, M.take 3⟩
set_option maxHeartbeats 4000000
set_option maxRecDepth 100000
theorem stopped_may (a b c d e : Int) (ts : List T7) (ks : List Int) (fs : List F2) (A0 A1 A2 : Option Addr) (c0 c1 c2 : Nat) (tn : Int) (st : Bool) (wk : Int) (w : World) (ht : ts.length ≤ 1048576) (hk : ks.length ≤ 1048576) (hf : fs.length ≤ 1048576) (h : InPool w ts ks fs A0 A1 A2) (hm : mayB a b c d e ts ks fs tn wk = false) :
 Calls Tryz.prog 163 #[.agg #[.int .i64 a, .int .i64 b, .int .i64 c, .int .i64 d, .int .i64 e], .agg #[.slice A0 ts.length c0, .slice A1 ks.length c1, .slice A2 fs.length c2, .int .i64 tn, .bool st], .int .i64 wk] w (GaveS [] w (noO (poolB a b c d e ts ks fs tn) ts ks fs tn st 8)) := by
 have H := hide h
 clear h
 have hNo := hide (fun (V : World) (hV : InPool V ts ks fs A0 A1 A2) => l6No_s a b c d e ts ks fs A0 A1 A2 c0 c1 c2 tn st 8 V ht hk hf hV)
 generalize noO (poolB a b c d e ts ks fs tn) ts ks fs tn st 8 = o at hNo ⊢
 have HY := hide (⟨hm, trivial⟩ : _ ∧ True)
 clear hm
 go_enter Tryz.func163, Tryz.ntmps163
 go_wp2_with fail
 generalize hW : (((w.alloc _).alloc _).alloc _).alloc _ = W1
 have M := Sep.e4 hW
 clear hW
 obtain ⟨tX, Ak, Af, Ac, Aj, Ad⟩ := M.q5 2 rfl
 obtain ⟨tP, Ab, Ai, Aq, An, Ah⟩ := M.q5 3 rfl
 go_call (l6May_v a b c d e ts ks fs A0 A1 A2 c0 c1 c2 tn st wk false HY.out.1 _ ht hk hf (H.out.below M.below)) as r W2 ⟨rfl, g1⟩
 clear tX Ak Af Ac Aj Ad tP Ab Ai Aq An Ah
 replace M := M.call g1
 clear g1
 obtain ⟨tX, Ak, Af, Ac, Aj, Ad⟩ := M.q5 2 rfl
 obtain ⟨tP, Ab, Ai, Aq, An, Ah⟩ := M.q5 3 rfl
 go_wp2_with fail
 go_call (hNo.out _ (H.out.below M.below)) as r W3 ⟨B0, B1, B2, d0, d1, d2, rfl, g1⟩
 clear tX Ak Af Ac Aj Ad tP Ab Ai Aq An Ah
 replace M := Sep.new M g1
 simp only [zC, zN] at M
 clear g1
 obtain ⟨tS, Aa, Ax, Am, Aw⟩ := M.f2 3 rfl
 obtain ⟨tR, Ag, As, Ap, At, Al, Av, Ao, Au, Ae, Ar⟩ := M.f5 4 rfl
 go_wp2_with fail
 clear tS Aa Ax Am Aw tR Ag As Ap At Al Av Ao Au Ae Ar
 have N := M.gset5 4 rfl (.slice B0 o.ts.length d0) (.slice B1 o.ks.length d1) (.slice B2 o.fs.length d2) (.int .i64 o.tn) (.bool o.st)
 clear M
 obtain ⟨W4, eW, M⟩ := N
 rw [eW]
 clear eW
 simp only [zZ, zS] at M
 have N := M.gset2 3 rfl (.int .i64 o.rp) (.int .i64 o.ou)
 clear M
 obtain ⟨W5, eW, M⟩ := N
 rw [eW]
 clear eW
 simp only [zZ, zS] at M
 obtain ⟨tS, Aa, Am⟩ := M.q2 3 rfl
 obtain ⟨tR, Ag, Ap, Al, Ao, Ae⟩ := M.q5 4 rfl
 exact bodyPost_ret (by simp [results, Tryz.results163, go_sem, Ag, Ap, Al, Ao, Ae, Aa, Am]) rfl ⟨B0, B1, B2, d0, d1, d2, rfl, M.take 3⟩
theorem stopped_stop (a b c d e : Int) (ts : List T7) (ks : List Int) (fs : List F2) (A0 A1 A2 : Option Addr) (c0 c1 c2 : Nat) (tn : Int) (wk : Int) (w : World) (ht : ts.length ≤ 1048576) (hk : ks.length ≤ 1048576) (hf : fs.length ≤ 1048576) (h : InPool w ts ks fs A0 A1 A2) (hm : mayB a b c d e ts ks fs tn wk = true) :
 Calls Tryz.prog 163 #[.agg #[.int .i64 a, .int .i64 b, .int .i64 c, .int .i64 d, .int .i64 e], .agg #[.slice A0 ts.length c0, .slice A1 ks.length c1, .slice A2 fs.length c2, .int .i64 tn, .bool true], .int .i64 wk] w (GaveS [] w (noO (poolB a b c d e ts ks fs tn) ts ks fs tn true 6)) := by
 have H := hide h
 clear h
 have hNo := hide (fun (V : World) (hV : InPool V ts ks fs A0 A1 A2) => l6No_s a b c d e ts ks fs A0 A1 A2 c0 c1 c2 tn true 6 V ht hk hf hV)
 generalize noO (poolB a b c d e ts ks fs tn) ts ks fs tn true 6 = o at hNo ⊢
 have HY := hide (⟨hm, trivial⟩ : _ ∧ True)
 clear hm
 go_enter Tryz.func163, Tryz.ntmps163
 go_wp2_with fail
 generalize hW : (((w.alloc _).alloc _).alloc _).alloc _ = W1
 have M := Sep.e4 hW
 clear hW
 obtain ⟨tX, Ak, Af, Ac, Aj, Ad⟩ := M.q5 2 rfl
 obtain ⟨tP, Ab, Ai, Aq, An, Ah⟩ := M.q5 3 rfl
 go_call (l6May_v a b c d e ts ks fs A0 A1 A2 c0 c1 c2 tn true wk true HY.out.1 _ ht hk hf (H.out.below M.below)) as r W2 ⟨rfl, g1⟩
 clear tX Ak Af Ac Aj Ad tP Ab Ai Aq An Ah
 replace M := M.call g1
 clear g1
 obtain ⟨tX, Ak, Af, Ac, Aj, Ad⟩ := M.q5 2 rfl
 obtain ⟨tP, Ab, Ai, Aq, An, Ah⟩ := M.q5 3 rfl
 go_wp2_with fail
 go_call (hNo.out _ (H.out.below M.below)) as r W3 ⟨B0, B1, B2, d0, d1, d2, rfl, g1⟩
 clear tX Ak Af Ac Aj Ad tP Ab Ai Aq An Ah
 replace M := Sep.new M g1
 simp only [zC, zN] at M
 clear g1
 obtain ⟨tS, Aa, Ax, Am, Aw⟩ := M.f2 3 rfl
 obtain ⟨tR, Ag, As, Ap, At, Al, Av, Ao, Au, Ae, Ar⟩ := M.f5 4 rfl
 go_wp2_with fail
 clear tS Aa Ax Am Aw tR Ag As Ap At Al Av Ao Au Ae Ar
 have N := M.gset5 4 rfl (.slice B0 o.ts.length d0) (.slice B1 o.ks.length d1) (.slice B2 o.fs.length d2) (.int .i64 o.tn) (.bool o.st)
 clear M
 obtain ⟨W4, eW, M⟩ := N
 rw [eW]
 clear eW
 simp only [zZ, zS] at M
 have N := M.gset2 3 rfl (.int .i64 o.rp) (.int .i64 o.ou)
 clear M
 obtain ⟨W5, eW, M⟩ := N
 rw [eW]
 clear eW
 simp only [zZ, zS] at M
 obtain ⟨tS, Aa, Am⟩ := M.q2 3 rfl
 obtain ⟨tR, Ag, Ap, Al, Ao, Ae⟩ := M.q5 4 rfl
 exact bodyPost_ret (by simp [results, Tryz.results163, go_sem, Ag, Ap, Al, Ao, Ae, Aa, Am]) rfl ⟨B0, B1, B2, d0, d1, d2, rfl, M.take 3⟩
def openN (ts : List T7) : Nat := (ts.filter fun t => openB t.s).length
theorem openN_le (ts : List T7) : openN ts ≤ ts.length := List.length_filter_le _ _
theorem openN_take (ts : List T7) (k : Nat) (x : T7) (h : ts[k]? = some x) : openN (ts.take (k + 1)) = openN (ts.take k) + (if openB x.s then 1 else 0) := by
 have hk : k < ts.length := by
  rcases Nat.lt_or_ge k ts.length with h1 | h1
  ·exact h1
  ·rw [List.getElem?_eq_none h1] at h; cases h
 rw [List.getElem?_eq_getElem hk] at h
 injection h with h
 subst h
 rw [openN, List.take_succ_eq_append_getElem hk, List.filter_append, List.length_append]
 by_cases ho : openB ts[k].s = true <;> simp [openN, ho]
set_option maxRecDepth 100000 in
set_option maxHeartbeats 4000000 in
theorem stopped_main (a b c d e : Int) (ts : List T7) (ks : List Int) (fs : List F2) (A0 A1 A2 : Option Addr) (c0 c1 c2 : Nat) (tn : Int) (wk : Int) (w : World) (ht : ts.length ≤ 1048576) (hk : ks.length ≤ 1048576) (hf : fs.length ≤ 1048576) (h : InPool w ts ks fs A0 A1 A2) (hm : mayB a b c d e ts ks fs tn wk = true) :
 Calls Tryz.prog 163 #[.agg #[.int .i64 a, .int .i64 b, .int .i64 c, .int .i64 d, .int .i64 e], .agg #[.slice A0 ts.length c0, .slice A1 ks.length c1, .slice A2 fs.length c2, .int .i64 tn, .bool false], .int .i64 wk] w (GaveS [] w (⟨ts, ks, fs, tn, true, 1, (openN ts : Nat)⟩)) := by
 have H := hide h
 clear h
 have HY := hide (⟨hm, trivial⟩ : _ ∧ True)
 clear hm
 go_enter Tryz.func163, Tryz.ntmps163
 go_wp2_with fail
 generalize hW : (((w.alloc _).alloc _).alloc _).alloc _ = W1
 have M := Sep.e4 hW
 clear hW
 obtain ⟨tX, Ah, Ad, Ab, Ag, Ac⟩ := M.q5 2 rfl
 obtain ⟨tP, Aa, Af, Aj, Ai, Ae⟩ := M.q5 3 rfl
 go_call (l6May_v a b c d e ts ks fs A0 A1 A2 c0 c1 c2 tn false wk true HY.out.1 _ ht hk hf (H.out.below M.below)) as r W2 ⟨rfl, g1⟩
 clear tX Ah Ad Ab Ag Ac tP Aa Af Aj Ai Ae
 replace M := M.call g1
 clear g1
 obtain ⟨tX, Ah, Ad, Ab, Ag, Ac⟩ := M.q5 2 rfl
 obtain ⟨tP, Aa, Af, Aj, Ai, Ae⟩ := M.q5 3 rfl
 go_wp2_with fail
 go_call (l3Copy_s ts ks fs A0 A1 A2 c0 c1 c2 tn false _ ht hk hf (H.out.below M.below)) as r W3 ⟨C0, C1, C2, e0, e1, e2, rfl, g1⟩
 clear tX Ah Ad Ab Ag Ac tP Aa Af Aj Ai Ae
 replace M := Sep.new M g1
 simp only [zC, zN] at M
 clear g1
 obtain ⟨tX, Ah, Ad, Ab, Ag, Ac⟩ := M.q5 5 rfl
 obtain ⟨tP, Aa, Af, Aj, Ai, Ae⟩ := M.q5 6 rfl
 go_wp2_with fail
 clear tX Ah Ad Ab Ag Ac tP Aa Af Aj Ai Ae
 replace M : Sep [] w (W3.alloc (.cells #[.slice C0 ts.length e0, .slice C1 ks.length e1, .slice C2 fs.length e2, .int .i64 tn, .bool true] 35)) [.blk (W3.heap.size) 35 #[.slice C0 ts.length e0, .slice C1 ks.length e1, .slice C2 fs.length e2, .int .i64 tn, .bool true], rT ts.length C0 e0 ts, rK ks.length C1 e1 ks, rF fs.length C2 e2 fs, .blk (w.heap.size + 3) 38 #[.int .i64 0, .int .i64 0], .blk (w.heap.size + 2) 35 #[.slice none 0 0, .slice none 0 0, .slice none 0 0, .int .i64 0, .bool false], .blk (w.heap.size + 1) 35 #[.slice A0 ts.length c0, .slice A1 ks.length c1, .slice A2 fs.length c2, .int .i64 tn, .bool false], .blk (w.heap.size) 28 #[.int .i64 a, .int .i64 b, .int .i64 c, .int .i64 d, .int .i64 e]] := M.alloc 35 #[.slice C0 ts.length e0, .slice C1 ks.length e1, .slice C2 fs.length e2, .int .i64 tn, .bool true] _ rfl
 generalize W3.alloc (.cells #[.slice C0 ts.length e0, .slice C1 ks.length e1, .slice C2 fs.length e2, .int .i64 tn, .bool true] 35) = W4 at M ⊢
 replace M : Sep [] w W4 [rT ts.length C0 e0 ts, rK ks.length C1 e1 ks, rF fs.length C2 e2 fs, .blk (W3.heap.size) 35 #[.slice C0 ts.length e0, .slice C1 ks.length e1, .slice C2 fs.length e2, .int .i64 tn, .bool true], .blk (w.heap.size + 3) 38 #[.int .i64 0, .int .i64 0], .blk (w.heap.size + 2) 35 #[.slice none 0 0, .slice none 0 0, .slice none 0 0, .int .i64 0, .bool false], .blk (w.heap.size + 1) 35 #[.slice A0 ts.length c0, .slice A1 ks.length c1, .slice A2 fs.length c2, .int .i64 tn, .bool false], .blk (w.heap.size) 28 #[.int .i64 a, .int .i64 b, .int .i64 c, .int .i64 d, .int .i64 e]] := Sep.back (l1 := [rT ts.length C0 e0 ts, rK ks.length C1 e1 ks, rF fs.length C2 e2 fs]) M
 have hy0 : W4.heap.size = W4.heap.size := rfl
 clear hy0
 go_loopw [9, 10] (fun n i wr => ∃ (k : Nat), k ≤ ts.length ∧ i = .int .i64 k ∧ n = .int .i64 (openN (ts.take k) : Nat) ∧ Sep [] w wr [rT ts.length C0 e0 ts, rK ks.length C1 e1 ks, rF fs.length C2 e2 fs, .blk (W3.heap.size) 35 #[.slice C0 ts.length e0, .slice C1 ks.length e1, .slice C2 fs.length e2, .int .i64 tn, .bool true], .blk (w.heap.size + 3) 38 #[.int .i64 0, .int .i64 0], .blk (w.heap.size + 2) 35 #[.slice none 0 0, .slice none 0 0, .slice none 0 0, .int .i64 0, .bool false], .blk (w.heap.size + 1) 35 #[.slice A0 ts.length c0, .slice A1 ks.length c1, .slice A2 fs.length c2, .int .i64 tn, .bool false], .blk (w.heap.size) 28 #[.int .i64 a, .int .i64 b, .int .i64 c, .int .i64 d, .int .i64 e]]) (fun _ i _ => ts.length - (intOf i).toNat)
 case atStart => exact ⟨0, Nat.zero_le _, rfl, by simp [openN], M⟩
 case round =>
  clear M
  obtain ⟨k, hk', rfl, rfl, M⟩ := hrel
  have hol := openN_le (ts.take k)
  rw [List.length_take] at hol
  obtain ⟨tY, Aw, Az, As, Au, Al, Aq, Ap, An, At, Am⟩ := M.f5 3 rfl
  obtain ⟨tS, Ak, Bq, Ax, Bm⟩ := M.f2 4 rfl
  obtain ⟨tR, Ar, Be, Ba, Bh, Av, Bj, Ay, Bi, Ao, Bc⟩ := M.f5 5 rfl
  obtain ⟨tX, Ah, Bp, Ad, Bb, Ab, Br, Ag, Bk, Ac, Bg⟩ := M.f5 6 rfl
  obtain ⟨tP, Aa, Bf, Af, Bn, Aj, Bl, Ai, Bo, Ae, Bd⟩ := M.f5 7 rfl
  by_cases hlt : k < ts.length
  ·obtain ⟨b', off, s, l, o1, wt, on, v, t, rfl, _, hts, hb', z0, z1, z2, z3, z4, z5, z6⟩ := H.out.1.ts_at hlt
   have hot := openN_take ts k _ hts
   simp only at hot
   clear hts
   have ye0 : wr.cell? ⟨b', off + k * 7, none⟩ = some (.int .i64 s) := (M.below.cell (p := ⟨b', off + k * 7, none⟩) hb').trans z0
   have ye1 : wr.cell? ⟨b', off + k * 7 + 1, none⟩ = some (.int .i64 l) := (M.below.cell (p := ⟨b', off + k * 7 + 1, none⟩) hb').trans z1
   have ye2 : wr.cell? ⟨b', off + k * 7 + 2, none⟩ = some (.int .i64 o1) := (M.below.cell (p := ⟨b', off + k * 7 + 2, none⟩) hb').trans z2
   have ye3 : wr.cell? ⟨b', off + k * 7 + 3, none⟩ = some (.int .i64 wt) := (M.below.cell (p := ⟨b', off + k * 7 + 3, none⟩) hb').trans z3
   have ye4 : wr.cell? ⟨b', off + k * 7 + 4, none⟩ = some (.int .i64 on) := (M.below.cell (p := ⟨b', off + k * 7 + 4, none⟩) hb').trans z4
   have ye5 : wr.cell? ⟨b', off + k * 7 + 5, none⟩ = some (.int .i64 v) := (M.below.cell (p := ⟨b', off + k * 7 + 5, none⟩) hb').trans z5
   have ye6 : wr.cell? ⟨b', off + k * 7 + 6, none⟩ = some (.int .i64 t) := (M.below.cell (p := ⟨b', off + k * 7 + 6, none⟩) hb').trans z6
   clear z0 z1 z2 z3 z4 z5 z6
   rcases Bool.eq_false_or_eq_true (openB s) with ho | ho
   ·have hct : openN (ts.take (k + 1)) = openN (ts.take k) + 1 := by rw [hot, ho]; rfl
    have Hc := hide hct
    have HO := hide ho
    clear hct ho hot
    generalize openN (ts.take k) = m at *
    go_wp2_with fail
    go_call (sIsOpen_any s l o1 wt on v t _) as r W5 ⟨rfl, g1⟩
    clear tY Aw Az As Au Al Aq Ap An At Am tS Ak Bq Ax Bm tR Ar Be Ba Bh Av Bj Ay Bi Ao Bc tX Ah Bp Ad Bb Ab Br Ag Bk Ac Bg tP Aa Bf Af Bn Aj Bl Ai Bo Ae Bd
    replace M := M.call g1
    clear g1
    clear ye0 ye1 ye2 ye3 ye4 ye5 ye6
    rw [HO.out]
    obtain ⟨tY, Aw, Az, As, Au, Al, Aq, Ap, An, At, Am⟩ := M.f5 3 rfl
    obtain ⟨tX, Ah, Ad, Ab, Ag, Ac⟩ := M.q5 6 rfl
    obtain ⟨tP, Aa, Af, Aj, Ai, Ae⟩ := M.q5 7 rfl
    go_wp2_with fail
    go_roundw
    case rel => exact ⟨k + 1, by omega, by go_num, by rw [Hc.out]; go_num, M⟩
    case measure => simp [intOf]; omega
   ·have hct : openN (ts.take (k + 1)) = openN (ts.take k) := by rw [hot, ho]; rfl
    have Hc := hide hct
    have HO := hide ho
    clear hct ho hot
    generalize openN (ts.take k) = m at *
    go_wp2_with fail
    go_call (sIsOpen_any s l o1 wt on v t _) as r W5 ⟨rfl, g1⟩
    clear tY Aw Az As Au Al Aq Ap An At Am tS Ak Bq Ax Bm tR Ar Be Ba Bh Av Bj Ay Bi Ao Bc tX Ah Bp Ad Bb Ab Br Ag Bk Ac Bg tP Aa Bf Af Bn Aj Bl Ai Bo Ae Bd
    replace M := M.call g1
    clear g1
    clear ye0 ye1 ye2 ye3 ye4 ye5 ye6
    rw [HO.out]
    obtain ⟨tY, Aw, Az, As, Au, Al, Aq, Ap, An, At, Am⟩ := M.f5 3 rfl
    obtain ⟨tX, Ah, Ad, Ab, Ag, Ac⟩ := M.q5 6 rfl
    obtain ⟨tP, Aa, Af, Aj, Ai, Ae⟩ := M.q5 7 rfl
    go_wp2_with fail
    go_roundw
    case rel => exact ⟨k + 1, by omega, by go_num, by rw [Hc.out], M⟩
    case measure => simp [intOf]; omega
  ·obtain rfl : k = ts.length := by omega
   clear hol
   rw [List.take_length]
   go_wp2_with fail
   clear tY Aw Az As Au Al Aq Ap An At Am tS Ak Bq Ax Bm tR Ar Be Ba Bh Av Bj Ay Bi Ao Bc tX Ah Bp Ad Bb Ab Br Ag Bk Ac Bg tP Aa Bf Af Bn Aj Bl Ai Bo Ae Bd
   have N := M.gset5 5 rfl (.slice C0 ts.length e0) (.slice C1 ks.length e1) (.slice C2 fs.length e2) (.int .i64 tn) (.bool true)
   clear M
   obtain ⟨W5, eW, M⟩ := N
   rw [eW]
   clear eW
   simp only [zZ, zS] at M
   have N := M.gset2 4 rfl (.int .i64 1) (.int .i64 (openN ts : Nat))
   clear M
   obtain ⟨W6, eW, M⟩ := N
   rw [eW]
   clear eW
   simp only [zZ, zS] at M
   obtain ⟨tS, Ak, Ax⟩ := M.q2 4 rfl
   obtain ⟨tR, Ar, Ba, Av, Ay, Ao⟩ := M.q5 5 rfl
   exact bodyPost_ret (by simp [results, Tryz.results163, go_sem, Ar, Ba, Av, Ay, Ao, Ak, Ax]) rfl ⟨C0, C1, C2, e0, e1, e2, rfl, M.take 3⟩
end Go.Proofs.YtfkdfkoigojciaaGreatDoor
