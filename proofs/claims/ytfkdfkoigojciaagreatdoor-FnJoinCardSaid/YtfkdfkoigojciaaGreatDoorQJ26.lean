/- The model's StoppedBy: the ways that refuse. Lists no longer than a million. -/
import Derived.Test.YtfkdfkoigojciaaGreatDoorQJ13
import Derived.Test.YtfkdfkoigojciaaGreatDoorQJ25
import Derived.Test.YtfkdfkoigojciaaGreatDoorQJ10
import Derived.Test.YtfkdfkoigojciaaGreatDoorQJ14
import Derived.Deep.RegionHeld3
import Derived.Deep.RegionLaw
import Derived.BigRegion

namespace Go.Proofs.YtfkdfkoigojciaaGreatDoor
open Go.RowKit
set_option linter.unusedVariables false
set_option maxRecDepth 100000
set_option maxHeartbeats 4000000 in
theorem upped_free (a b c d e : Int) (ts : List T7) (ks : List Int) (fs : List F2) (A0 A1 A2 : Option Addr) (c0 c1 c2 : Nat) (tn : Int) (st : Bool) (wk : Int) (id : Int) (w : World) (ht : ts.length ≤ 1048576) (hk : ks.length ≤ 1048576) (hf : fs.length ≤ 1048576) (h : InPool w ts ks fs A0 A1 A2) (k : Nat) (kv : Int) (hid : id = k) (hks : ks[k]? = some kv) (hwm : waitersM ts 2 k = []) (hm : mayB a b c d e ts ks fs tn wk = true) (hi : btw id 0 (ks.length - 1) = true) :
 Calls Tryz.prog 39 #[.agg #[.int .i64 a, .int .i64 b, .int .i64 c, .int .i64 d, .int .i64 e], .agg #[.slice A0 ts.length c0, .slice A1 ks.length c1, .slice A2 fs.length c2, .int .i64 tn, .bool st], .int .i64 wk, .int .i64 id] w (GaveS [] w (doneO (poolB a b c d e ts (ks.set k (kv + 1)) fs tn) ts ks fs tn st ts (ks.set k (kv + 1)) fs tn st 1 0)) := by
 have hkl : k < ks.length := by
  rcases Nat.lt_or_ge k ks.length with h1 | h1
  ·exact h1
  ·rw [List.getElem?_eq_none h1] at hks; cases hks
 subst hid
 obtain ⟨b', off, x0, rfl, _, he, hb', z0⟩ := h.2.1.ks_at hkl
 rw [hks] at he
 injection he with he
 subst he
 have H := hide h
 clear h
 have hWt : Hid (∀ V, Row V A0 (tcells ts) → Calls Tryz.prog 97 #[.agg #[.slice A0 ts.length c0, .slice (some ⟨b', off, none⟩) ks.length c1, .slice A2 fs.length c2, .int .i64 tn, .bool st], .int .i64 2, .int .i64 k] V fun r w' => ∃ (A : Option Addr) (c : Nat), r = .returned (.slice A ([]).length c) ∧ Sep [] V w' [rK ([]).length A c ([])]) := hide (fun V hV => by
  have h1 := waitersOn_any ts A0 (some ⟨b', off, none⟩) A2 c0 ks.length c1 fs.length c2 tn st 2 k V ht hV
  rw [hwm] at h1
  exact h1.mono fun r w' ⟨A, c, hr, ho, hb⟩ => ⟨A, c, hr, sepRow hb ho⟩)
 clear hwm
 have hpo : poolB a b c d e ts ks fs tn = true := by
  have h1 := hm
  simp only [mayB, Bool.and_eq_true] at h1
  exact h1.1
 have tb : 0 ≤ tn ∧ tn ≤ 1000000 := by
  have h1 := hpo
  simp only [poolB, Bool.and_eq_true] at h1
  have h2 := h1.2.1
  simp [btw] at h2
  exact h2
 obtain ⟨tb0, tb1⟩ := tb
 have kb : 0 ≤ kv ∧ kv ≤ 100 := by
  have h1 := hpo
  simp only [poolB, Bool.and_eq_true] at h1
  have h2 := List.all_eq_true.1 h1.2.2.2.1.1 kv (List.mem_of_getElem? hks)
  simpa [tokB, btw] using h2
 obtain ⟨kb0, kb1⟩ := kb
 have hDn := hide (fun (A0x A1x A2x : Option Addr) (c0x c1x c2x : Nat) (rs : List Res) (V : World) (h1 : InPool V ts ks fs A0 (some ⟨b', off, none⟩) A2) (h2 : Sep [] w V ([rT ts.length A0x c0x ts, rK ks.length A1x c1x (ks.set k (kv + 1)), rF fs.length A2x c2x fs] ++ rs)) => l6Done_s a b c d e ts ks fs A0 (some ⟨b', off, none⟩) A2 c0 c1 c2 tn st ts.length ks.length fs.length ts (ks.set k (kv + 1)) fs A0x A1x A2x c0x c1x c2x tn st 1 0 V rfl (by simp) rfl hpo ht hk hf ht hk hf h1 h2)
 clear hpo
 generalize doneO (poolB a b c d e ts (ks.set k (kv + 1)) fs tn) ts ks fs tn st ts (ks.set k (kv + 1)) fs tn st 1 0 = o at hDn ⊢
 have HY := hide (⟨hm, hi, hks, trivial⟩ : _ ∧ _ ∧ _ ∧ True)
 clear hm hi hks
 go_enter Tryz.func39, Tryz.ntmps39
 go_wp2_with fail
 generalize hW : (((w.alloc _).alloc _).alloc _).alloc _ = W1
 have M := Sep.e4 hW
 clear hW
 obtain ⟨tX, Ah, Af, Ai, Ac, Ab⟩ := M.q5 2 rfl
 obtain ⟨tP, Ae, Aj, Ag, Aa, Ad⟩ := M.q5 3 rfl
 go_call (l6May_v a b c d e ts ks fs A0 (some ⟨b', off, none⟩) A2 c0 c1 c2 tn st wk true HY.out.1 _ ht hk hf (H.out.below M.below)) as r W2 ⟨rfl, g1⟩
 clear tX Ah Af Ai Ac Ab tP Ae Aj Ag Aa Ad
 replace M := M.call g1
 clear g1
 obtain ⟨tX, Ah, Af, Ai, Ac, Ab⟩ := M.q5 2 rfl
 obtain ⟨tP, Ae, Aj, Ag, Aa, Ad⟩ := M.q5 3 rfl
 go_wp2_with fail
 go_call (l1In_v k 0 (ks.length - 1) true HY.out.2.1 _) as r W ⟨rfl, rfl⟩
 go_wp2_with fail
 go_call (hWt.out _ (H.out.below M.below).1) as r W3 ⟨AL, cL, rfl, g1⟩
 clear tX Ah Af Ai Ac Ab tP Ae Aj Ag Aa Ad
 replace M := Sep.new M g1
 simp only [List.cons_append, List.nil_append] at M
 clear g1
 obtain ⟨tX, Ah, Af, Ai, Ac, Ab⟩ := M.q5 3 rfl
 obtain ⟨tP, Ae, Aj, Ag, Aa, Ad⟩ := M.q5 4 rfl
 go_wp2_with fail
 go_call (l3Copy_s ts ks fs A0 (some ⟨b', off, none⟩) A2 c0 c1 c2 tn st _ ht hk hf (H.out.below M.below)) as r W4 ⟨C0, C1, C2, e0, e1, e2, rfl, g1⟩
 clear tX Ah Af Ai Ac Ab tP Ae Aj Ag Aa Ad
 replace M := Sep.new M g1
 simp only [List.cons_append, List.nil_append] at M
 clear g1
 obtain ⟨g, rfl, hgl, hfz⟩ := rK_form (M.here _ (List.mem_of_getElem? (show _ = some _ from rfl : [rT ts.length C0 e0 ts, rK ks.length C1 e1 ks, rF fs.length C2 e2 fs, rK 0 AL cL [], .blk (w.heap.size + 3) 38 #[.int .i64 0, .int .i64 0], .blk (w.heap.size + 2) 35 #[.slice none 0 0, .slice none 0 0, .slice none 0 0, .int .i64 0, .bool false], .blk (w.heap.size + 1) 35 #[.slice A0 ts.length c0, .slice (some ⟨b', off, none⟩) ks.length c1, .slice A2 fs.length c2, .int .i64 tn, .bool st], .blk (w.heap.size) 28 #[.int .i64 a, .int .i64 b, .int .i64 c, .int .i64 d, .int .i64 e]][1]? = some (rK ks.length C1 e1 ks)))) (by omega)
 obtain ⟨tX, Ah, Af, Ai, Ac, Ab⟩ := M.q5 6 rfl
 obtain ⟨tP, Ae, Aj, Ag, Aa, Ad⟩ := M.q5 7 rfl
 go_wp2_with fail
 clear tX Ah Af Ai Ac Ab tP Ae Aj Ag Aa Ad
 replace M : Sep [] w (W4.alloc (.cells #[.slice C0 ts.length e0, .slice (some ⟨g, 0, none⟩) ks.length e1, .slice C2 fs.length e2, .int .i64 tn, .bool st] 35)) [.blk (W4.heap.size) 35 #[.slice C0 ts.length e0, .slice (some ⟨g, 0, none⟩) ks.length e1, .slice C2 fs.length e2, .int .i64 tn, .bool st], rT ts.length C0 e0 ts, rK ks.length (some ⟨g, 0, none⟩) e1 ks, rF fs.length C2 e2 fs, rK 0 AL cL [], .blk (w.heap.size + 3) 38 #[.int .i64 0, .int .i64 0], .blk (w.heap.size + 2) 35 #[.slice none 0 0, .slice none 0 0, .slice none 0 0, .int .i64 0, .bool false], .blk (w.heap.size + 1) 35 #[.slice A0 ts.length c0, .slice (some ⟨b', off, none⟩) ks.length c1, .slice A2 fs.length c2, .int .i64 tn, .bool st], .blk (w.heap.size) 28 #[.int .i64 a, .int .i64 b, .int .i64 c, .int .i64 d, .int .i64 e]] := M.alloc 35 #[.slice C0 ts.length e0, .slice (some ⟨g, 0, none⟩) ks.length e1, .slice C2 fs.length e2, .int .i64 tn, .bool st] _ rfl
 generalize W4.alloc (.cells #[.slice C0 ts.length e0, .slice (some ⟨g, 0, none⟩) ks.length e1, .slice C2 fs.length e2, .int .i64 tn, .bool st] 35) = W5 at M ⊢
 replace M : Sep [] w W5 [rT ts.length C0 e0 ts, rK ks.length (some ⟨g, 0, none⟩) e1 ks, rF fs.length C2 e2 fs, .blk (W4.heap.size) 35 #[.slice C0 ts.length e0, .slice (some ⟨g, 0, none⟩) ks.length e1, .slice C2 fs.length e2, .int .i64 tn, .bool st], rK 0 AL cL [], .blk (w.heap.size + 3) 38 #[.int .i64 0, .int .i64 0], .blk (w.heap.size + 2) 35 #[.slice none 0 0, .slice none 0 0, .slice none 0 0, .int .i64 0, .bool false], .blk (w.heap.size + 1) 35 #[.slice A0 ts.length c0, .slice (some ⟨b', off, none⟩) ks.length c1, .slice A2 fs.length c2, .int .i64 tn, .bool st], .blk (w.heap.size) 28 #[.int .i64 a, .int .i64 b, .int .i64 c, .int .i64 d, .int .i64 e]] := Sep.back (l1 := [rT ts.length C0 e0 ts, rK ks.length (some ⟨g, 0, none⟩) e1 ks, rF fs.length C2 e2 fs]) M
 obtain ⟨tY, As, Ay, Az, Au, At, Av, Ba, Aw, Ax, Ar⟩ := M.f5 3 rfl
 obtain ⟨tX, Ah, Af, Ai, Ac, Ab⟩ := M.q5 7 rfl
 obtain ⟨tP, Ae, Aj, Ag, Aa, Ad⟩ := M.q5 8 rfl
 have nY := M.ne 1 3 (by omega) rfl rfl rfl rfl
 have nS := M.ne 1 5 (by omega) rfl rfl rfl rfl
 have nR := M.ne 1 6 (by omega) rfl rfl rfl rfl
 have nX := M.ne 1 7 (by omega) rfl rfl rfl rfl
 have nP := M.ne 1 8 (by omega) rfl rfl rfl rfl
 have hgl1 : g < W5.heap.size := ((M.here _ (List.mem_of_getElem? (show _ = some _ from rfl : [rT ts.length C0 e0 ts, rK ks.length (some ⟨g, 0, none⟩) e1 ks, rF fs.length C2 e2 fs, .blk (W4.heap.size) 35 #[.slice C0 ts.length e0, .slice (some ⟨g, 0, none⟩) ks.length e1, .slice C2 fs.length e2, .int .i64 tn, .bool st], rK 0 AL cL [], .blk (w.heap.size + 3) 38 #[.int .i64 0, .int .i64 0], .blk (w.heap.size + 2) 35 #[.slice none 0 0, .slice none 0 0, .slice none 0 0, .int .i64 0, .bool false], .blk (w.heap.size + 1) 35 #[.slice A0 ts.length c0, .slice (some ⟨b', off, none⟩) ks.length c1, .slice A2 fs.length c2, .int .i64 tn, .bool st], .blk (w.heap.size) 28 #[.int .i64 a, .int .i64 b, .int .i64 c, .int .i64 d, .int .i64 e]][1]? = some (rK ks.length (some ⟨g, 0, none⟩) e1 ks)))).lt rfl)
 have fz : W5.frozen? ⟨g, k, none⟩ = false := Own.fz (M.rowAt 1 rfl) _
 have yk : W5.cell? ⟨g, k, none⟩ = some (.int .i64 kv) := rK_cell (M.rowAt 1 rfl) HY.out.2.2.1
 clear hfz
 go_region
 clear tY As Ay Az Au At Av Ba Aw Ax Ar tX Ah Af Ai Ac Ab tP Ae Aj Ag Aa Ad nY nS nR nX nP
 clear fz yk
 replace M : Sep [] w (W5.setCell ⟨g, k, none⟩ (.int .i64 (kv + 1))).drew [rT ts.length C0 e0 ts, rK ks.length (some ⟨g, 0, none⟩) e1 (ks.set k (kv + 1)), rF fs.length C2 e2 fs, .blk (W4.heap.size) 35 #[.slice C0 ts.length e0, .slice (some ⟨g, 0, none⟩) ks.length e1, .slice C2 fs.length e2, .int .i64 tn, .bool st], rK 0 AL cL [], .blk (w.heap.size + 3) 38 #[.int .i64 0, .int .i64 0], .blk (w.heap.size + 2) 35 #[.slice none 0 0, .slice none 0 0, .slice none 0 0, .int .i64 0, .bool false], .blk (w.heap.size + 1) 35 #[.slice A0 ts.length c0, .slice (some ⟨b', off, none⟩) ks.length c1, .slice A2 fs.length c2, .int .i64 tn, .bool st], .blk (w.heap.size) 28 #[.int .i64 a, .int .i64 b, .int .i64 c, .int .i64 d, .int .i64 e]] := (M.putK 1 rfl k (kv + 1)).drew
 generalize (W5.setCell ⟨g, k, none⟩ (.int .i64 (kv + 1))).drew = W6 at M ⊢
 obtain ⟨tY, As, Ay, Az, Au, At, Av, Ba, Aw, Ax, Ar⟩ := M.f5 3 rfl
 obtain ⟨tX, Ah, Af, Ai, Ac, Ab⟩ := M.q5 7 rfl
 obtain ⟨tP, Ae, Aj, Ag, Aa, Ad⟩ := M.q5 8 rfl
 go_wp2_with fail
 go_call (hDn.out _ _ _ _ _ _ [.blk (W4.heap.size) 35 #[.slice C0 ts.length e0, .slice (some ⟨g, 0, none⟩) ks.length e1, .slice C2 fs.length e2, .int .i64 tn, .bool st], rK 0 AL cL [], .blk (w.heap.size + 3) 38 #[.int .i64 0, .int .i64 0], .blk (w.heap.size + 2) 35 #[.slice none 0 0, .slice none 0 0, .slice none 0 0, .int .i64 0, .bool false], .blk (w.heap.size + 1) 35 #[.slice A0 ts.length c0, .slice (some ⟨b', off, none⟩) ks.length c1, .slice A2 fs.length c2, .int .i64 tn, .bool st], .blk (w.heap.size) 28 #[.int .i64 a, .int .i64 b, .int .i64 c, .int .i64 d, .int .i64 e]] _ (H.out.below M.below) M) as r W7 ⟨B0, B1, B2, d0, d1, d2, rfl, g1⟩
 clear tY As Ay Az Au At Av Ba Aw Ax Ar tX Ah Af Ai Ac Ab tP Ae Aj Ag Aa Ad
 replace M := Sep.comp (ps := [rT ts.length C0 e0 ts, rK ks.length (some ⟨g, 0, none⟩) e1 (ks.set k (kv + 1)), rF fs.length C2 e2 fs]) M g1
 simp only [List.cons_append, List.nil_append] at M
 clear g1
 obtain ⟨tS, An, Bh, Aq, Bb⟩ := M.f2 5 rfl
 obtain ⟨tR, Am, Bg, Ap, Bc, Al, Bd, Ak, Be, Ao, Bf⟩ := M.f5 6 rfl
 go_wp2_with fail
 clear tS An Bh Aq Bb tR Am Bg Ap Bc Al Bd Ak Be Ao Bf
 have N := M.gset5 6 rfl (.slice B0 o.ts.length d0) (.slice B1 o.ks.length d1) (.slice B2 o.fs.length d2) (.int .i64 o.tn) (.bool o.st)
 clear M
 obtain ⟨W8, eW, M⟩ := N
 rw [eW]
 clear eW
 simp only [List.set_cons_zero, List.set_cons_succ] at M
 have N := M.gset2 5 rfl (.int .i64 o.rp) (.int .i64 o.ou)
 clear M
 obtain ⟨W9, eW, M⟩ := N
 rw [eW]
 clear eW
 simp only [List.set_cons_zero, List.set_cons_succ] at M
 obtain ⟨tS, An, Aq⟩ := M.q2 5 rfl
 obtain ⟨tR, Am, Ap, Al, Ak, Ao⟩ := M.q5 6 rfl
 exact bodyPost_ret (by simp [results, Tryz.results39, go_sem, Am, Ap, Al, Ak, Ao, An, Aq]) rfl ⟨B0, B1, B2, d0, d1, d2, rfl, M.take 3⟩
set_option maxHeartbeats 4000000 in
theorem upped_wake (a b c d e : Int) (ts : List T7) (ks : List Int) (fs : List F2) (A0 A1 A2 : Option Addr) (c0 c1 c2 : Nat) (tn : Int) (st : Bool) (wk : Int) (id : Int) (w : World) (ht : ts.length ≤ 1048576) (hk : ks.length ≤ 1048576) (hf : fs.length ≤ 1048576) (h : InPool w ts ks fs A0 A1 A2) (k : Nat) (hid : id = k) (hkl : k < ks.length) (j : Nat) (jr : List Int) (s l o1 wt on v t : Int) (hts : ts[j]? = some ⟨s, l, o1, wt, on, v, t⟩) (hjl : j < ts.length) (hwm : waitersM ts 2 k = (j : Int) :: jr) (hm : mayB a b c d e ts ks fs tn wk = true) (hi : btw id 0 (ks.length - 1) = true) :
 Calls Tryz.prog 39 #[.agg #[.int .i64 a, .int .i64 b, .int .i64 c, .int .i64 d, .int .i64 e], .agg #[.slice A0 ts.length c0, .slice A1 ks.length c1, .slice A2 fs.length c2, .int .i64 tn, .bool st], .int .i64 wk, .int .i64 id] w (GaveS [] w (doneO (poolB a b c d e (ts.set j (wakeT ⟨s, l, o1, wt, on, v, t⟩ tn 0)) ks fs (tn + 1)) ts ks fs tn st (ts.set j (wakeT ⟨s, l, o1, wt, on, v, t⟩ tn 0)) ks fs (tn + 1) st 1 ((j : Int) + 1))) := by
 subst hid
 have H := hide h
 clear h
 have hWt : Hid (∀ V, Row V A0 (tcells ts) → Calls Tryz.prog 97 #[.agg #[.slice A0 ts.length c0, .slice A1 ks.length c1, .slice A2 fs.length c2, .int .i64 tn, .bool st], .int .i64 2, .int .i64 k] V fun r w' => ∃ (A : Option Addr) (c : Nat), r = .returned (.slice A ((j : Int) :: jr).length c) ∧ Sep [] V w' [rK ((j : Int) :: jr).length A c ((j : Int) :: jr)]) := hide (fun V hV => by
  have h1 := waitersOn_any ts A0 A1 A2 c0 ks.length c1 fs.length c2 tn st 2 k V ht hV
  rw [hwm] at h1
  exact h1.mono fun r w' ⟨A, c, hr, ho, hb⟩ => ⟨A, c, hr, sepRow hb ho⟩)
 clear hwm
 have hpo : poolB a b c d e ts ks fs tn = true := by
  have h1 := hm
  simp only [mayB, Bool.and_eq_true] at h1
  exact h1.1
 have tb : 0 ≤ tn ∧ tn ≤ 1000000 := by
  have h1 := hpo
  simp only [poolB, Bool.and_eq_true] at h1
  have h2 := h1.2.1
  simp [btw] at h2
  exact h2
 obtain ⟨tb0, tb1⟩ := tb
 have hDn := hide (fun (A0x A1x A2x : Option Addr) (c0x c1x c2x : Nat) (rs : List Res) (V : World) (h1 : InPool V ts ks fs A0 A1 A2) (h2 : Sep [] w V ([rT ts.length A0x c0x (ts.set j (wakeT ⟨s, l, o1, wt, on, v, t⟩ tn 0)), rK ks.length A1x c1x ks, rF fs.length A2x c2x fs] ++ rs)) => l6Done_s a b c d e ts ks fs A0 A1 A2 c0 c1 c2 tn st ts.length ks.length fs.length (ts.set j (wakeT ⟨s, l, o1, wt, on, v, t⟩ tn 0)) ks fs A0x A1x A2x c0x c1x c2x ((tn + 1)) st 1 ((IntKind.i64.wrap ((j : Int) + 1))) V (by simp) rfl rfl hpo ht hk hf ht hk hf h1 h2)
 clear hpo
 have hwr : IntKind.i64.wrap ((j : Int) + 1) = (j : Int) + 1 := by rw [IntKind.wrap_i64]; omega
 rw [← hwr]
 clear hwr
 generalize doneO (poolB a b c d e (ts.set j (wakeT ⟨s, l, o1, wt, on, v, t⟩ tn 0)) ks fs (tn + 1)) ts ks fs tn st (ts.set j (wakeT ⟨s, l, o1, wt, on, v, t⟩ tn 0)) ks fs (tn + 1) st 1 (IntKind.i64.wrap ((j : Int) + 1)) = o at hDn ⊢
 have HY := hide (⟨hm, hi, hts, trivial⟩ : _ ∧ _ ∧ _ ∧ True)
 clear hm hi hts
 go_enter Tryz.func39, Tryz.ntmps39
 go_wp2_with fail
 generalize hW : (((w.alloc _).alloc _).alloc _).alloc _ = W1
 have M := Sep.e4 hW
 clear hW
 obtain ⟨tX, Ah, Af, Ai, Ac, Ab⟩ := M.q5 2 rfl
 obtain ⟨tP, Ae, Aj, Ag, Aa, Ad⟩ := M.q5 3 rfl
 go_call (l6May_v a b c d e ts ks fs A0 A1 A2 c0 c1 c2 tn st wk true HY.out.1 _ ht hk hf (H.out.below M.below)) as r W2 ⟨rfl, g1⟩
 clear tX Ah Af Ai Ac Ab tP Ae Aj Ag Aa Ad
 replace M := M.call g1
 clear g1
 obtain ⟨tX, Ah, Af, Ai, Ac, Ab⟩ := M.q5 2 rfl
 obtain ⟨tP, Ae, Aj, Ag, Aa, Ad⟩ := M.q5 3 rfl
 go_wp2_with fail
 go_call (l1In_v k 0 (ks.length - 1) true HY.out.2.1 _) as r W ⟨rfl, rfl⟩
 go_wp2_with fail
 go_call (hWt.out _ (H.out.below M.below).1) as r W3 ⟨AL, cL, rfl, g1⟩
 clear tX Ah Af Ai Ac Ab tP Ae Aj Ag Aa Ad
 replace M := Sep.new M g1
 simp only [List.cons_append, List.nil_append] at M
 clear g1
 obtain ⟨gl, rfl, hgll, hfzl⟩ := rK_form (M.here _ (List.mem_cons_self)) (by simp)
 clear hfzl
 obtain ⟨tX, Ah, Af, Ai, Ac, Ab⟩ := M.q5 3 rfl
 obtain ⟨tP, Ae, Aj, Ag, Aa, Ad⟩ := M.q5 4 rfl
 go_wp2_with fail
 go_call (l3Copy_s ts ks fs A0 A1 A2 c0 c1 c2 tn st _ ht hk hf (H.out.below M.below)) as r W4 ⟨C0, C1, C2, e0, e1, e2, rfl, g1⟩
 clear tX Ah Af Ai Ac Ab tP Ae Aj Ag Aa Ad
 replace M := Sep.new M g1
 simp only [List.cons_append, List.nil_append] at M
 clear g1
 obtain ⟨tX, Ah, Af, Ai, Ac, Ab⟩ := M.q5 6 rfl
 obtain ⟨tP, Ae, Aj, Ag, Aa, Ad⟩ := M.q5 7 rfl
 go_wp2_with fail
 clear tX Ah Af Ai Ac Ab tP Ae Aj Ag Aa Ad
 replace M : Sep [] w (W4.alloc (.cells #[.slice C0 ts.length e0, .slice C1 ks.length e1, .slice C2 fs.length e2, .int .i64 tn, .bool st] 35)) [.blk (W4.heap.size) 35 #[.slice C0 ts.length e0, .slice C1 ks.length e1, .slice C2 fs.length e2, .int .i64 tn, .bool st], rT ts.length C0 e0 ts, rK ks.length C1 e1 ks, rF fs.length C2 e2 fs, rK ((j : Int) :: jr).length (some ⟨gl, 0, none⟩) cL ((j : Int) :: jr), .blk (w.heap.size + 3) 38 #[.int .i64 0, .int .i64 0], .blk (w.heap.size + 2) 35 #[.slice none 0 0, .slice none 0 0, .slice none 0 0, .int .i64 0, .bool false], .blk (w.heap.size + 1) 35 #[.slice A0 ts.length c0, .slice A1 ks.length c1, .slice A2 fs.length c2, .int .i64 tn, .bool st], .blk (w.heap.size) 28 #[.int .i64 a, .int .i64 b, .int .i64 c, .int .i64 d, .int .i64 e]] := M.alloc 35 #[.slice C0 ts.length e0, .slice C1 ks.length e1, .slice C2 fs.length e2, .int .i64 tn, .bool st] _ rfl
 generalize W4.alloc (.cells #[.slice C0 ts.length e0, .slice C1 ks.length e1, .slice C2 fs.length e2, .int .i64 tn, .bool st] 35) = W5 at M ⊢
 replace M : Sep [] w W5 [rT ts.length C0 e0 ts, rK ks.length C1 e1 ks, rF fs.length C2 e2 fs, .blk (W4.heap.size) 35 #[.slice C0 ts.length e0, .slice C1 ks.length e1, .slice C2 fs.length e2, .int .i64 tn, .bool st], rK ((j : Int) :: jr).length (some ⟨gl, 0, none⟩) cL ((j : Int) :: jr), .blk (w.heap.size + 3) 38 #[.int .i64 0, .int .i64 0], .blk (w.heap.size + 2) 35 #[.slice none 0 0, .slice none 0 0, .slice none 0 0, .int .i64 0, .bool false], .blk (w.heap.size + 1) 35 #[.slice A0 ts.length c0, .slice A1 ks.length c1, .slice A2 fs.length c2, .int .i64 tn, .bool st], .blk (w.heap.size) 28 #[.int .i64 a, .int .i64 b, .int .i64 c, .int .i64 d, .int .i64 e]] := Sep.back (l1 := [rT ts.length C0 e0 ts, rK ks.length C1 e1 ks, rF fs.length C2 e2 fs]) M
 obtain ⟨tY, As, Ay, Az, Au, At, Av, Ba, Aw, Ax, Ar⟩ := M.f5 3 rfl
 obtain ⟨tX, Ah, Af, Ai, Ac, Ab⟩ := M.q5 7 rfl
 obtain ⟨tP, Ae, Aj, Ag, Aa, Ad⟩ := M.q5 8 rfl
 clear tY As Ay Az Au At Av Ba Aw Ax Ar tX Ah Af Ai Ac Ab tP Ae Aj Ag Aa Ad
 refine wp_region_T (S := (fun w' => w'.cell? ⟨w.heap.size, 0, none⟩ = some (.int .i64 a) ∧ w'.cell? ⟨w.heap.size, 1, none⟩ = some (.int .i64 b) ∧ w'.cell? ⟨w.heap.size, 2, none⟩ = some (.int .i64 c) ∧ w'.cell? ⟨w.heap.size, 3, none⟩ = some (.int .i64 d) ∧ w'.cell? ⟨w.heap.size, 4, none⟩ = some (.int .i64 e) ∧ w'.cell? ⟨w.heap.size + 1, 0, none⟩ = some (.slice A0 ts.length c0) ∧ w'.cell? ⟨w.heap.size + 1, 1, none⟩ = some (.slice A1 ks.length c1) ∧ w'.cell? ⟨w.heap.size + 1, 2, none⟩ = some (.slice A2 fs.length c2) ∧ w'.cell? ⟨w.heap.size + 1, 3, none⟩ = some (.int .i64 tn) ∧ w'.cell? ⟨w.heap.size + 1, 4, none⟩ = some (.bool st) ∧ w'.cell? ⟨W4.heap.size, 0, none⟩ = some (.slice C0 ts.length e0) ∧ w'.cell? ⟨W4.heap.size, 1, none⟩ = some (.slice C1 ks.length e1) ∧ w'.cell? ⟨W4.heap.size, 2, none⟩ = some (.slice C2 fs.length e2) ∧ w'.cell? ⟨W4.heap.size, 3, none⟩ = some (.int .i64 tn) ∧ w'.cell? ⟨W4.heap.size, 4, none⟩ = some (.bool st) ∧ w'.cell? ⟨gl, 0, none⟩ = some (.int .i64 (j : Int)))) (ks := []) (by kernel_rfl) ⟨M.cell 8 0 rfl, M.cell 8 1 rfl, M.cell 8 2 rfl, M.cell 8 3 rfl, M.cell 8 4 rfl, M.cell 7 0 rfl, M.cell 7 1 rfl, M.cell 7 2 rfl, M.cell 7 3 rfl, M.cell 7 4 rfl, M.cell 3 0 rfl, M.cell 3 1 rfl, M.cell 3 2 rfl, M.cell 3 3 rfl, M.cell 3 4 rfl, rK_cell (M.rowAt 4 rfl) rfl⟩ (fun hHeld => ?_)
 replace M := M.drew
 generalize W5.drew = W6 at M hHeld ⊢
 refine tkL 0 ?v0u1 rfl ?hy0u1 hHeld ?_
 case hy0u1 => (intro w hSw; (try dsimp only at hSw); go_split_ands; go_simp; all_goals with_reducible rfl)
 try simp only [Act.put, List.setIfInBounds_toArray, List.set_cons_zero, List.set_cons_succ]
 refine tkL 1 ?v1u2 rfl ?hy1u2 hHeld ?_
 case hy1u2 => (intro w hSw; (try dsimp only at hSw); go_split_ands; go_simp; all_goals with_reducible rfl)
 try simp only [Act.put, List.setIfInBounds_toArray, List.set_cons_zero, List.set_cons_succ]
 refine tkL 2 ?v2u3 rfl ?hy2u3 hHeld ?_
 case hy2u3 => (intro w hSw; (try dsimp only at hSw); go_split_ands; go_simp; all_goals with_reducible rfl)
 try simp only [Act.put, List.setIfInBounds_toArray, List.set_cons_zero, List.set_cons_succ]
 refine tkY 3 ?v3u4 rfl ?hy3u4 (fun _ => hHeld) ?_
 case hy3u4 => (intro w; go_simp; all_goals with_reducible rfl)
 try simp only [Act.put, List.setIfInBounds_toArray, List.set_cons_zero, List.set_cons_succ]
 refine tkY 4 ?v4u5 rfl ?hy4u5 (fun _ => hHeld) ?_
 case hy4u5 => (intro w; go_simp; all_goals with_reducible rfl)
 try simp only [Act.put, List.setIfInBounds_toArray, List.set_cons_zero, List.set_cons_succ]
 refine tkL 5 ?v5u6 rfl ?hy5u6 hHeld ?_
 case hy5u6 => (intro w hSw; (try dsimp only at hSw); go_split_ands; go_simp; all_goals with_reducible rfl)
 try simp only [Act.put, List.setIfInBounds_toArray, List.set_cons_zero, List.set_cons_succ]
 refine tkY 7 ?v7u7 rfl ?hy7u7 (fun _ => hHeld) ?_
 case hy7u7 => (intro w; go_simp; all_goals with_reducible rfl)
 try simp only [Act.put, List.setIfInBounds_toArray, List.set_cons_zero, List.set_cons_succ]
 refine tkY 8 ?v8u8 rfl ?hy8u8 (fun _ => hHeld) ?_
 case hy8u8 => (intro w; go_simp; all_goals with_reducible rfl)
 try simp only [Act.put, List.setIfInBounds_toArray, List.set_cons_zero, List.set_cons_succ]
 refine tkL 9 ?v9u9 rfl ?hy9u9 hHeld ?_
 case hy9u9 => (intro w hSw; (try dsimp only at hSw); go_split_ands; go_simp; all_goals with_reducible rfl)
 try simp only [Act.put, List.setIfInBounds_toArray, List.set_cons_zero, List.set_cons_succ]
 refine tkY 10 ?v10u10 rfl ?hy10u10 (fun _ => hHeld) ?_
 case hy10u10 => (intro w; go_simp; all_goals with_reducible rfl)
 try simp only [Act.put, List.setIfInBounds_toArray, List.set_cons_zero, List.set_cons_succ]
 refine wpAnyT_callL (i := 6) rfl (by kernel_rfl) (fun K hK => ?_)
 go_simp
 refine (l5Wake_s ts _ _ _ _ _ _ _ _ tn st j s l o1 wt on v t 0 _ ht (by omega) (by omega) HY.out.2.2.1 (M.here _ (List.mem_cons_self))).mono ?_
 rintro r W7 ⟨rfl, g1⟩
 replace M := Sep.comp (ps := [rT ts.length C0 e0 ts]) M g1
 simp only [List.cons_append, List.nil_append] at M
 clear g1 hHeld
 go_wp2_with fail
 refine hK.out _ _ ?_ (fun hHeld => ?_)
 ·exact ⟨M.cell 8 0 rfl, M.cell 8 1 rfl, M.cell 8 2 rfl, M.cell 8 3 rfl, M.cell 8 4 rfl, M.cell 7 0 rfl, M.cell 7 1 rfl, M.cell 7 2 rfl, M.cell 7 3 rfl, M.cell 7 4 rfl, M.cell 3 0 rfl, M.cell 3 1 rfl, M.cell 3 2 rfl, M.cell 3 3 rfl, M.cell 3 4 rfl, rK_cell (M.rowAt 4 rfl) rfl⟩
 clear hK K
 try simp only [Act.put, List.setIfInBounds_toArray, List.set_cons_zero, List.set_cons_succ]
 refine wpAnyT_callL (i := 11) rfl (by kernel_rfl) (fun K hK => ?_)
 go_simp
 refine (hDn.out _ _ _ _ _ _ [.blk (W4.heap.size) 35 #[.slice C0 ts.length e0, .slice C1 ks.length e1, .slice C2 fs.length e2, .int .i64 tn, .bool st], rK ((j : Int) :: jr).length (some ⟨gl, 0, none⟩) cL ((j : Int) :: jr), .blk (w.heap.size + 3) 38 #[.int .i64 0, .int .i64 0], .blk (w.heap.size + 2) 35 #[.slice none 0 0, .slice none 0 0, .slice none 0 0, .int .i64 0, .bool false], .blk (w.heap.size + 1) 35 #[.slice A0 ts.length c0, .slice A1 ks.length c1, .slice A2 fs.length c2, .int .i64 tn, .bool st], .blk (w.heap.size) 28 #[.int .i64 a, .int .i64 b, .int .i64 c, .int .i64 d, .int .i64 e]] _ (H.out.below M.below) M).mono ?_
 rintro r W8 ⟨B0, B1, B2, d0, d1, d2, rfl, g1⟩
 replace M := Sep.comp (ps := [rT ts.length C0 e0 (ts.set j (wakeT ⟨s, l, o1, wt, on, v, t⟩ tn 0)), rK ks.length C1 e1 ks, rF fs.length C2 e2 fs]) M g1
 simp only [List.cons_append, List.nil_append] at M
 clear g1 hHeld
 go_wp2_with fail
 refine hK.out _ _ ?_ (fun hHeld => ?_)
 ·exact ⟨M.cell 8 0 rfl, M.cell 8 1 rfl, M.cell 8 2 rfl, M.cell 8 3 rfl, M.cell 8 4 rfl, M.cell 7 0 rfl, M.cell 7 1 rfl, M.cell 7 2 rfl, M.cell 7 3 rfl, M.cell 7 4 rfl, M.cell 3 0 rfl, M.cell 3 1 rfl, M.cell 3 2 rfl, M.cell 3 3 rfl, M.cell 3 4 rfl, rK_cell (M.rowAt 4 rfl) rfl⟩
 clear hK K
 try simp only [Act.put, List.setIfInBounds_toArray, List.set_cons_zero, List.set_cons_succ]
 refine tkY 12 ?v12u11 rfl ?hy12u11 (fun _ => hHeld) ?_
 case hy12u11 => (intro w; go_simp; all_goals with_reducible rfl)
 try simp only [Act.put, List.setIfInBounds_toArray, List.set_cons_zero, List.set_cons_succ]
 refine tkY 13 ?v13u12 rfl ?hy13u12 (fun _ => hHeld) ?_
 case hy13u12 => (intro w; go_simp; all_goals with_reducible rfl)
 try simp only [Act.put, List.setIfInBounds_toArray, List.set_cons_zero, List.set_cons_succ]
 obtain ⟨tR, Am, Bg, Ap, Bc, Al, Bd, Ak, Be, Ao, Bf⟩ := M.f5 6 rfl
 refine wpAnyT_callL (i := 14) rfl (by kernel_rfl) (fun K hK => ?_)
 go_simp
 clear tR Am Bg Ap Bc Al Bd Ak Be Ao Bf
 have N := M.gset5 6 rfl (.slice B0 o.ts.length d0) (.slice B1 o.ks.length d1) (.slice B2 o.fs.length d2) (.int .i64 o.tn) (.bool o.st)
 clear M
 obtain ⟨W9, eW, M⟩ := N
 rw [eW]
 clear eW
 simp only [List.set_cons_zero, List.set_cons_succ] at M
 clear hHeld
 refine hK.out _ _ ?_ (fun hHeld => ?_)
 ·exact ⟨M.cell 8 0 rfl, M.cell 8 1 rfl, M.cell 8 2 rfl, M.cell 8 3 rfl, M.cell 8 4 rfl, M.cell 7 0 rfl, M.cell 7 1 rfl, M.cell 7 2 rfl, M.cell 7 3 rfl, M.cell 7 4 rfl, M.cell 3 0 rfl, M.cell 3 1 rfl, M.cell 3 2 rfl, M.cell 3 3 rfl, M.cell 3 4 rfl, rK_cell (M.rowAt 4 rfl) rfl⟩
 clear hK K
 try simp only [Act.put, List.setIfInBounds_toArray, List.set_cons_zero, List.set_cons_succ]
 obtain ⟨tS, An, Bh, Aq, Bb⟩ := M.f2 5 rfl
 refine wpAnyT_callL (i := 15) rfl (by kernel_rfl) (fun K hK => ?_)
 go_simp
 clear tS An Bh Aq Bb
 have N := M.gset2 5 rfl (.int .i64 o.rp) (.int .i64 o.ou)
 clear M
 obtain ⟨W10, eW, M⟩ := N
 rw [eW]
 clear eW
 simp only [List.set_cons_zero, List.set_cons_succ] at M
 clear hHeld
 refine hK.out _ _ ?_ (fun hHeld => ?_)
 ·exact ⟨M.cell 8 0 rfl, M.cell 8 1 rfl, M.cell 8 2 rfl, M.cell 8 3 rfl, M.cell 8 4 rfl, M.cell 7 0 rfl, M.cell 7 1 rfl, M.cell 7 2 rfl, M.cell 7 3 rfl, M.cell 7 4 rfl, M.cell 3 0 rfl, M.cell 3 1 rfl, M.cell 3 2 rfl, M.cell 3 3 rfl, M.cell 3 4 rfl, rK_cell (M.rowAt 4 rfl) rfl⟩
 clear hK K
 try simp only [Act.put, List.setIfInBounds_toArray, List.set_cons_zero, List.set_cons_succ]
 refine wpAnyT_done (by kernel_rfl) ?_ _
 go_wp2_with fail
 obtain ⟨tS, An, Aq⟩ := M.q2 5 rfl
 obtain ⟨tR, Am, Ap, Al, Ak, Ao⟩ := M.q5 6 rfl
 exact bodyPost_ret (by simp [results, Tryz.results39, go_sem, Am, Ap, Al, Ak, Ao, An, Aq]) rfl ⟨B0, B1, B2, d0, d1, d2, rfl, M.take 3⟩
set_option maxRecDepth 100000
set_option maxHeartbeats 4000000 in
theorem stopped_may (a b c d e : Int) (ts : List T7) (ks : List Int) (fs : List F2) (A0 A1 A2 : Option Addr) (c0 c1 c2 : Nat) (tn : Int) (st : Bool) (wk : Int) (w : World) (ht : ts.length ≤ 1048576) (hk : ks.length ≤ 1048576) (hf : fs.length ≤ 1048576) (h : InPool w ts ks fs A0 A1 A2) (hm : mayB a b c d e ts ks fs tn wk = false) :
 Calls Tryz.prog 163 #[.agg #[.int .i64 a, .int .i64 b, .int .i64 c, .int .i64 d, .int .i64 e], .agg #[.slice A0 ts.length c0, .slice A1 ks.length c1, .slice A2 fs.length c2, .int .i64 tn, .bool st], .int .i64 wk] w (GaveS [] w (noO (poolB a b c d e ts ks fs tn) ts ks fs tn st 8)) := by
 have H := hide h
 clear h
 have hNo := hide (fun (V : World) (hV : InPool V ts ks fs A0 A1 A2) => l6No_s a b c d e ts ks fs A0 A1 A2 c0 c1 c2 tn st 8 V ht hk hf hV)
 generalize noO (poolB a b c d e ts ks fs tn) ts ks fs tn st 8 = o at hNo ⊢
 have HY := hide (⟨hm, trivial⟩ : _ ∧ True)
 clear hm
 go_enter Tryz.func163, Tryz.ntmps163
 go_wp2_with fail
 generalize hW : (((w.alloc _).alloc _).alloc _).alloc _ = W1
 have M := Sep.e4 hW
 clear hW
 obtain ⟨tX, Am, Ak, An, Af, Ac⟩ := M.q5 2 rfl
 obtain ⟨tP, Aj, Ap, Al, Ab, Ag⟩ := M.q5 3 rfl
 go_call (l6May_v a b c d e ts ks fs A0 A1 A2 c0 c1 c2 tn st wk false HY.out.1 _ ht hk hf (H.out.below M.below)) as r W2 ⟨rfl, g1⟩
 clear tX Am Ak An Af Ac tP Aj Ap Al Ab Ag
 replace M := M.call g1
 clear g1
 obtain ⟨tX, Am, Ak, An, Af, Ac⟩ := M.q5 2 rfl
 obtain ⟨tP, Aj, Ap, Al, Ab, Ag⟩ := M.q5 3 rfl
 go_wp2_with fail
 go_call (hNo.out _ (H.out.below M.below)) as r W3 ⟨B0, B1, B2, d0, d1, d2, rfl, g1⟩
 clear tX Am Ak An Af Ac tP Aj Ap Al Ab Ag
 replace M := Sep.new M g1
 simp only [List.cons_append, List.nil_append] at M
 clear g1
 obtain ⟨tS, Ah, Ax, Aq, Ar⟩ := M.f2 3 rfl
 obtain ⟨tR, Ae, Aw, Ao, As, Ad, At, Aa, Au, Ai, Av⟩ := M.f5 4 rfl
 go_wp2_with fail
 clear tS Ah Ax Aq Ar tR Ae Aw Ao As Ad At Aa Au Ai Av
 have N := M.gset5 4 rfl (.slice B0 o.ts.length d0) (.slice B1 o.ks.length d1) (.slice B2 o.fs.length d2) (.int .i64 o.tn) (.bool o.st)
 clear M
 obtain ⟨W4, eW, M⟩ := N
 rw [eW]
 clear eW
 simp only [List.set_cons_zero, List.set_cons_succ] at M
 have N := M.gset2 3 rfl (.int .i64 o.rp) (.int .i64 o.ou)
 clear M
 obtain ⟨W5, eW, M⟩ := N
 rw [eW]
 clear eW
 simp only [List.set_cons_zero, List.set_cons_succ] at M
 obtain ⟨tS, Ah, Aq⟩ := M.q2 3 rfl
 obtain ⟨tR, Ae, Ao, Ad, Aa, Ai⟩ := M.q5 4 rfl
 exact bodyPost_ret (by simp [results, Tryz.results163, go_sem, Ae, Ao, Ad, Aa, Ai, Ah, Aq]) rfl ⟨B0, B1, B2, d0, d1, d2, rfl, M.take 3⟩
set_option maxHeartbeats 4000000 in
theorem stopped_stop (a b c d e : Int) (ts : List T7) (ks : List Int) (fs : List F2) (A0 A1 A2 : Option Addr) (c0 c1 c2 : Nat) (tn : Int) (wk : Int) (w : World) (ht : ts.length ≤ 1048576) (hk : ks.length ≤ 1048576) (hf : fs.length ≤ 1048576) (h : InPool w ts ks fs A0 A1 A2) (hm : mayB a b c d e ts ks fs tn wk = true) :
 Calls Tryz.prog 163 #[.agg #[.int .i64 a, .int .i64 b, .int .i64 c, .int .i64 d, .int .i64 e], .agg #[.slice A0 ts.length c0, .slice A1 ks.length c1, .slice A2 fs.length c2, .int .i64 tn, .bool true], .int .i64 wk] w (GaveS [] w (noO (poolB a b c d e ts ks fs tn) ts ks fs tn true 6)) := by
 have H := hide h
 clear h
 have hNo := hide (fun (V : World) (hV : InPool V ts ks fs A0 A1 A2) => l6No_s a b c d e ts ks fs A0 A1 A2 c0 c1 c2 tn true 6 V ht hk hf hV)
 generalize noO (poolB a b c d e ts ks fs tn) ts ks fs tn true 6 = o at hNo ⊢
 have HY := hide (⟨hm, trivial⟩ : _ ∧ True)
 clear hm
 go_enter Tryz.func163, Tryz.ntmps163
 go_wp2_with fail
 generalize hW : (((w.alloc _).alloc _).alloc _).alloc _ = W1
 have M := Sep.e4 hW
 clear hW
 obtain ⟨tX, Am, Ak, An, Af, Ac⟩ := M.q5 2 rfl
 obtain ⟨tP, Aj, Ap, Al, Ab, Ag⟩ := M.q5 3 rfl
 go_call (l6May_v a b c d e ts ks fs A0 A1 A2 c0 c1 c2 tn true wk true HY.out.1 _ ht hk hf (H.out.below M.below)) as r W2 ⟨rfl, g1⟩
 clear tX Am Ak An Af Ac tP Aj Ap Al Ab Ag
 replace M := M.call g1
 clear g1
 obtain ⟨tX, Am, Ak, An, Af, Ac⟩ := M.q5 2 rfl
 obtain ⟨tP, Aj, Ap, Al, Ab, Ag⟩ := M.q5 3 rfl
 go_wp2_with fail
 go_call (hNo.out _ (H.out.below M.below)) as r W3 ⟨B0, B1, B2, d0, d1, d2, rfl, g1⟩
 clear tX Am Ak An Af Ac tP Aj Ap Al Ab Ag
 replace M := Sep.new M g1
 simp only [List.cons_append, List.nil_append] at M
 clear g1
 obtain ⟨tS, Ah, Ax, Aq, Ar⟩ := M.f2 3 rfl
 obtain ⟨tR, Ae, Aw, Ao, As, Ad, At, Aa, Au, Ai, Av⟩ := M.f5 4 rfl
 go_wp2_with fail
 clear tS Ah Ax Aq Ar tR Ae Aw Ao As Ad At Aa Au Ai Av
 have N := M.gset5 4 rfl (.slice B0 o.ts.length d0) (.slice B1 o.ks.length d1) (.slice B2 o.fs.length d2) (.int .i64 o.tn) (.bool o.st)
 clear M
 obtain ⟨W4, eW, M⟩ := N
 rw [eW]
 clear eW
 simp only [List.set_cons_zero, List.set_cons_succ] at M
 have N := M.gset2 3 rfl (.int .i64 o.rp) (.int .i64 o.ou)
 clear M
 obtain ⟨W5, eW, M⟩ := N
 rw [eW]
 clear eW
 simp only [List.set_cons_zero, List.set_cons_succ] at M
 obtain ⟨tS, Ah, Aq⟩ := M.q2 3 rfl
 obtain ⟨tR, Ae, Ao, Ad, Aa, Ai⟩ := M.q5 4 rfl
 exact bodyPost_ret (by simp [results, Tryz.results163, go_sem, Ae, Ao, Ad, Aa, Ai, Ah, Aq]) rfl ⟨B0, B1, B2, d0, d1, d2, rfl, M.take 3⟩
end Go.Proofs.YtfkdfkoigojciaaGreatDoor
