import Derived.Test.YtfkdfkoigojciaaGreatDoorQU12
import Derived.Test.YtfkdfkoigojciaaGreatDoorQU09
import Derived.Test.YtfkdfkoigojciaaGreatDoorQU13
import Derived.Deep.RegionHeld3
import Derived.Deep.RegionLaw
import Derived.BigRegion

namespace Go.Proofs.YtfkdfkoigojciaaGreatDoor
open Go.RowKit
set_option linter.unusedVariables false
set_option maxHeartbeats 4000000
set_option maxRecDepth 100000
variable (a b c d e : Int) (ts : List T7) (ks : List Int) (fs : List F2) (A0 A1 A2 : Option Addr) (c0 c1 c2 : Nat) (tn : Int) (st : Bool)
theorem cellFar5 {W : World} {g k r : Nat} {v u0 u1 u2 u3 u4 : Value} (hne : r ≠ g) (h : W.cell? ⟨g, k, none⟩ = some v) : (((((W.setCell ⟨r, 0, none⟩ u0).setCell ⟨r, 1, none⟩ u1).setCell ⟨r, 2, none⟩ u2).setCell ⟨r, 3, none⟩ u3).setCell ⟨r, 4, none⟩ u4).cell? ⟨g, k, none⟩ = some v := by
 have n : ∀ j, (⟨r, j, none⟩ : Addr) ≠ ⟨g, k, none⟩ := fun j e => hne (by injection e)
 rw [World.cell?_setCell_other _ _ _ _ (n 4), World.cell?_setCell_other _ _ _ _ (n 3), World.cell?_setCell_other _ _ _ _ (n 2), World.cell?_setCell_other _ _ _ _ (n 1), World.cell?_setCell_other _ _ _ _ (n 0)]
 exact h
theorem cellFar2 {W : World} {g k r : Nat} {v u0 u1 : Value} (hne : r ≠ g) (h : W.cell? ⟨g, k, none⟩ = some v) : ((W.setCell ⟨r, 0, none⟩ u0).setCell ⟨r, 1, none⟩ u1).cell? ⟨g, k, none⟩ = some v := by
 have n : ∀ j, (⟨r, j, none⟩ : Addr) ≠ ⟨g, k, none⟩ := fun j e => hne (by injection e)
 rw [World.cell?_setCell_other _ _ _ _ (n 1), World.cell?_setCell_other _ _ _ _ (n 0)]
 exact h
theorem l6Done_b (n0 n1 n2 : Nat) (tsx : List T7) (ksx : List Int) (fsx : List F2) (A0x A1x A2x : Option Addr) (c0x c1x c2x : Nat) (tnx : Int) (stx : Bool) (rp ou : Int) {S : List Nat} {w0 : World} {rs : List Res} (w : World) (e0 : tsx.length = n0) (e1 : ksx.length = n1) (e2 : fsx.length = n2) (ho : poolB a b c d e ts ks fs tn = true) (ht : ts.length ≤ 1048576) (hk : ks.length ≤ 1048576) (hf : fs.length ≤ 1048576) (htx : n0 ≤ 1048576) (hkx : n1 ≤ 1048576) (hfx : n2 ≤ 1048576) (h : InPool w ts ks fs A0 A1 A2) (hM : Sep S w0 w ([rT n0 A0x c0x tsx, rK n1 A1x c1x ksx, rF n2 A2x c2x fsx] ++ rs)) :
 Calls Tryz.prog 56 #[qF a b c d e, qP ts ks fs A0 A1 A2 c0 c1 c2 tn st, .agg #[.slice A0x n0 c0x, .slice A1x n1 c1x, .slice A2x n2 c2x, .int .i64 tnx, .bool stx], .int .i64 rp, .int .i64 ou] w (fun r w' => (GaveS [rT n0 A0x c0x tsx, rK n1 A1x c1x ksx, rF n2 A2x c2x fsx] w (doneO (poolB a b c d e tsx ksx fsx tnx) ts ks fs tn st tsx ksx fsx tnx stx rp ou)) r w' ∧ Below w.heap.size w w') := by
 unfold qF qP
 subst e0 e1 e2
 have hx : InPool w tsx ksx fsx A0x A1x A2x := ⟨Row.of_own (hM.rowAt 0 rfl), Row.of_own (hM.rowAt 1 rfl), Row.of_own (hM.rowAt 2 rfl)⟩
 by_cases hz : poolB a b c d e tsx ksx fsx tnx = true
 ·rw [hz]
  exact (l6Done_yes a b c d e ts ks fs A0 A1 A2 c0 c1 c2 tn st tsx ksx fsx A0x A1x A2x c0x c1x c2x tnx stx rp ou w ho hz ht hk hf htx hkx hfx h hx).mono fun r w' hr => ⟨⟨_, _, _, _, _, _, hr.1, hM.same hr.2⟩, hr.2⟩
 ·have hz' : poolB a b c d e tsx ksx fsx tnx = false := by simpa using hz
  rw [hz']
  exact (l6Done_full a b c d e ts ks fs A0 A1 A2 c0 c1 c2 tn st tsx ksx fsx A0x A1x A2x c0x c1x c2x tnx stx rp ou w ho hz' ht hk hf htx hkx hfx h hx).mono fun r w' hr => by
   obtain ⟨B0, B1, B2, d0, d1, d2, he, hw, hb⟩ := hr
   exact ⟨⟨B0, B1, B2, d0, d1, d2, he, (sepPool (Nat.le_refl _) hb hw).wideS (by simp)⟩, hb⟩
theorem rK_cell {W : World} {n c g k : Nat} {ks : List Int} {u : Int} (h : (rK n (some ⟨g, 0, none⟩) c ks).here W) (hk : ks[k]? = some u) : W.cell? ⟨g, k, none⟩ = some (.int .i64 u) := by
 have hkl : k < ks.length := by
  rcases Nat.lt_or_ge k ks.length with h1 | h1
  ·exact h1
  ·rw [List.getElem?_eq_none h1] at hk; cases hk
 obtain ⟨v, hv, hc⟩ := Own.i1 h hkl
 rw [hk] at hv
 injection hv with hv
 subst hv
 exact hc
theorem downed_free (wk : Int) (id : Int) (w : World) (ht : ts.length ≤ 1048576) (hk : ks.length ≤ 1048576) (hf : fs.length ≤ 1048576) (h : InPool w ts ks fs A0 A1 A2) (k : Nat) (kv : Int) (hid : id = k) (hks : ks[k]? = some kv) (hkv : 0 < kv) (m : Nat) (hme : runM ts wk 0 = m) (hm : mayB a b c d e ts ks fs tn wk = true) (hi : btw id 0 (ks.length - 1) = true) :
 Calls Tryz.prog 47 #[qF a b c d e, qP ts ks fs A0 A1 A2 c0 c1 c2 tn st, .int .i64 wk, .int .i64 id] w (GaveS [] w (doneO (poolB a b c d e ts (ks.set k (kv - 1)) fs tn) ts ks fs tn st ts (ks.set k (kv - 1)) fs tn st 1 (kv - 1))) := by
 unfold qF qP
 have hkl : k < ks.length := by
  rcases Nat.lt_or_ge k ks.length with h1 | h1
  ·exact h1
  ·rw [List.getElem?_eq_none h1] at hks; cases hks
 subst hid
 obtain ⟨b', off, x0, rfl, _, he, hb', z0⟩ := h.2.1.ks_at hkl
 rw [hks] at he
 injection he with he
 subst he
 have H := hide h
 clear h
 have hpo : poolB a b c d e ts ks fs tn = true := by
  have h1 := hm
  simp only [mayB, Bool.and_eq_true] at h1
  exact h1.1
 have tb : 0 ≤ tn ∧ tn ≤ 1000000 := by
  have h1 := hpo
  simp only [poolB, Bool.and_eq_true] at h1
  have h2 := h1.2.1
  simp [btw] at h2
  exact h2
 obtain ⟨tb0, tb1⟩ := tb
 have kb : 0 ≤ kv ∧ kv ≤ 100 := by
  have h1 := hpo
  simp only [poolB, Bool.and_eq_true] at h1
  have h2 := List.all_eq_true.1 h1.2.2.2.1.1 kv (List.mem_of_getElem? hks)
  simpa [tokB, btw] using h2
 obtain ⟨kb0, kb1⟩ := kb
 have hDn := hide (fun (A0x A1x A2x : Option Addr) (c0x c1x c2x : Nat) (rs : List Res) (V : World) (h1 : InPool V ts ks fs A0 (some ⟨b', off, none⟩) A2) (h2 : Sep [] w V ([rT ts.length A0x c0x ts, rK ks.length A1x c1x (ks.set k (kv - 1)), rF fs.length A2x c2x fs] ++ rs)) => l6Done_b a b c d e ts ks fs A0 (some ⟨b', off, none⟩) A2 c0 c1 c2 tn st ts.length ks.length fs.length ts (ks.set k (kv - 1)) fs A0x A1x A2x c0x c1x c2x tn st 1 ((kv - 1)) V rfl (by simp) rfl hpo ht hk hf ht hk hf h1 h2)
 clear hpo
 generalize doneO (poolB a b c d e ts (ks.set k (kv - 1)) fs tn) ts ks fs tn st ts (ks.set k (kv - 1)) fs tn st 1 (kv - 1) = o at hDn ⊢
 have HY := hide (⟨hme, hm, hi, hks, trivial⟩ : _ ∧ _ ∧ _ ∧ _ ∧ True)
 clear hme hm hi hks
 go_enter Tryz.func47, Tryz.ntmps47
 go_wp2_with fail
 generalize hW : (((w.alloc _).alloc _).alloc _).alloc _ = W1
 have M := Sep.e4 hW
 clear hW
 obtain ⟨tX, Ah, Ad, Ai, Ab, Ae⟩ := M.q5 2 rfl
 obtain ⟨tP, Af, Ac, Aj, Ag, Aa⟩ := M.q5 3 rfl
 go_call (sRunBy_v ts A0 (some ⟨b', off, none⟩) A2 c0 ks.length c1 fs.length c2 tn st wk m HY.out.1 _ ht (H.out.below M.below).1) as r W2 ⟨rfl, g1⟩
 clear tX Ah Ad Ai Ab Ae tP Af Ac Aj Ag Aa
 replace M := M.call g1
 clear g1
 obtain ⟨tX, Ah, Ad, Ai, Ab, Ae⟩ := M.q5 2 rfl
 obtain ⟨tP, Af, Ac, Aj, Ag, Aa⟩ := M.q5 3 rfl
 go_wp2_with fail
 go_call (l6May_v a b c d e ts ks fs A0 (some ⟨b', off, none⟩) A2 c0 c1 c2 tn st wk true HY.out.2.1 _ ht hk hf (H.out.below M.below)) as r W3 ⟨rfl, g1⟩
 clear tX Ah Ad Ai Ab Ae tP Af Ac Aj Ag Aa
 replace M := M.call g1
 clear g1
 obtain ⟨tX, Ah, Ad, Ai, Ab, Ae⟩ := M.q5 2 rfl
 obtain ⟨tP, Af, Ac, Aj, Ag, Aa⟩ := M.q5 3 rfl
 go_wp2_with fail
 go_call (l1In_v k 0 (ks.length - 1) true HY.out.2.2.1 _) as r W ⟨rfl, rfl⟩
 go_wp2_with fail
 go_call (l3Copy_s ts ks fs A0 (some ⟨b', off, none⟩) A2 c0 c1 c2 tn st _ ht hk hf (H.out.below M.below)) as r W4 ⟨C0, C1, C2, e0, e1, e2, rfl, g1⟩
 clear tX Ah Ad Ai Ab Ae tP Af Ac Aj Ag Aa
 replace M := Sep.new M g1
 simp only [zC, zN] at M
 clear g1
 obtain ⟨g, rfl, hgl, hfz⟩ := rK_form (M.here _ (List.mem_of_getElem? (show _ = some _ from rfl : [rT ts.length C0 e0 ts, rK ks.length C1 e1 ks, rF fs.length C2 e2 fs, .blk (w.heap.size + 3) 38 #[.int .i64 0, .int .i64 0], .blk (w.heap.size + 2) 35 #[.slice none 0 0, .slice none 0 0, .slice none 0 0, .int .i64 0, .bool false], .blk (w.heap.size + 1) 35 #[.slice A0 ts.length c0, .slice (some ⟨b', off, none⟩) ks.length c1, .slice A2 fs.length c2, .int .i64 tn, .bool st], .blk (w.heap.size) 28 #[.int .i64 a, .int .i64 b, .int .i64 c, .int .i64 d, .int .i64 e]][1]? = some (rK ks.length C1 e1 ks)))) (by omega)
 obtain ⟨tX, Ah, Ad, Ai, Ab, Ae⟩ := M.q5 5 rfl
 obtain ⟨tP, Af, Ac, Aj, Ag, Aa⟩ := M.q5 6 rfl
 have hb2 : b' < W4.heap.size := Nat.lt_of_lt_of_le hb' M.size
 have ye : W4.cell? ⟨b', off + k, none⟩ = some (.int .i64 kv) := (M.below.cell (p := ⟨b', off + k, none⟩) hb').trans z0
 go_wp2_with fail
 clear ye hb2
 clear tX Ah Ad Ai Ab Ae tP Af Ac Aj Ag Aa
 replace M : Sep [] w (W4.alloc (.cells #[.slice C0 ts.length e0, .slice (some ⟨g, 0, none⟩) ks.length e1, .slice C2 fs.length e2, .int .i64 tn, .bool st] 35)) [.blk (W4.heap.size) 35 #[.slice C0 ts.length e0, .slice (some ⟨g, 0, none⟩) ks.length e1, .slice C2 fs.length e2, .int .i64 tn, .bool st], rT ts.length C0 e0 ts, rK ks.length (some ⟨g, 0, none⟩) e1 ks, rF fs.length C2 e2 fs, .blk (w.heap.size + 3) 38 #[.int .i64 0, .int .i64 0], .blk (w.heap.size + 2) 35 #[.slice none 0 0, .slice none 0 0, .slice none 0 0, .int .i64 0, .bool false], .blk (w.heap.size + 1) 35 #[.slice A0 ts.length c0, .slice (some ⟨b', off, none⟩) ks.length c1, .slice A2 fs.length c2, .int .i64 tn, .bool st], .blk (w.heap.size) 28 #[.int .i64 a, .int .i64 b, .int .i64 c, .int .i64 d, .int .i64 e]] := M.alloc 35 #[.slice C0 ts.length e0, .slice (some ⟨g, 0, none⟩) ks.length e1, .slice C2 fs.length e2, .int .i64 tn, .bool st] _ rfl
 generalize W4.alloc (.cells #[.slice C0 ts.length e0, .slice (some ⟨g, 0, none⟩) ks.length e1, .slice C2 fs.length e2, .int .i64 tn, .bool st] 35) = W5 at M ⊢
 replace M : Sep [] w W5 [rT ts.length C0 e0 ts, rK ks.length (some ⟨g, 0, none⟩) e1 ks, rF fs.length C2 e2 fs, .blk (W4.heap.size) 35 #[.slice C0 ts.length e0, .slice (some ⟨g, 0, none⟩) ks.length e1, .slice C2 fs.length e2, .int .i64 tn, .bool st], .blk (w.heap.size + 3) 38 #[.int .i64 0, .int .i64 0], .blk (w.heap.size + 2) 35 #[.slice none 0 0, .slice none 0 0, .slice none 0 0, .int .i64 0, .bool false], .blk (w.heap.size + 1) 35 #[.slice A0 ts.length c0, .slice (some ⟨b', off, none⟩) ks.length c1, .slice A2 fs.length c2, .int .i64 tn, .bool st], .blk (w.heap.size) 28 #[.int .i64 a, .int .i64 b, .int .i64 c, .int .i64 d, .int .i64 e]] := Sep.back (l1 := [rT ts.length C0 e0 ts, rK ks.length (some ⟨g, 0, none⟩) e1 ks, rF fs.length C2 e2 fs]) M
 obtain ⟨tY, Am, Au, Az, Aw, Ay, Ax, At, Al, Ap, Ao⟩ := M.f5 3 rfl
 obtain ⟨tX, Ah, Ad, Ai, Ab, Ae⟩ := M.q5 6 rfl
 obtain ⟨tP, Af, Ac, Aj, Ag, Aa⟩ := M.q5 7 rfl
 have nY := M.ne 1 3 (by omega) rfl rfl rfl rfl
 have nS := M.ne 1 4 (by omega) rfl rfl rfl rfl
 have nR := M.ne 1 5 (by omega) rfl rfl rfl rfl
 have nX := M.ne 1 6 (by omega) rfl rfl rfl rfl
 have nP := M.ne 1 7 (by omega) rfl rfl rfl rfl
 have hb2 : b' < W5.heap.size := Nat.lt_of_lt_of_le hb' M.size
 have ye : W5.cell? ⟨b', off + k, none⟩ = some (.int .i64 kv) := (M.below.cell (p := ⟨b', off + k, none⟩) hb').trans z0
 have hgl1 : g < W5.heap.size := ((M.here _ (List.mem_of_getElem? (show _ = some _ from rfl : [rT ts.length C0 e0 ts, rK ks.length (some ⟨g, 0, none⟩) e1 ks, rF fs.length C2 e2 fs, .blk (W4.heap.size) 35 #[.slice C0 ts.length e0, .slice (some ⟨g, 0, none⟩) ks.length e1, .slice C2 fs.length e2, .int .i64 tn, .bool st], .blk (w.heap.size + 3) 38 #[.int .i64 0, .int .i64 0], .blk (w.heap.size + 2) 35 #[.slice none 0 0, .slice none 0 0, .slice none 0 0, .int .i64 0, .bool false], .blk (w.heap.size + 1) 35 #[.slice A0 ts.length c0, .slice (some ⟨b', off, none⟩) ks.length c1, .slice A2 fs.length c2, .int .i64 tn, .bool st], .blk (w.heap.size) 28 #[.int .i64 a, .int .i64 b, .int .i64 c, .int .i64 d, .int .i64 e]][1]? = some (rK ks.length (some ⟨g, 0, none⟩) e1 ks)))).lt rfl)
 have fz : W5.frozen? ⟨g, k, none⟩ = false := Own.fz (M.rowAt 1 rfl) _
 have yk : W5.cell? ⟨g, k, none⟩ = some (.int .i64 kv) := rK_cell (M.rowAt 1 rfl) HY.out.2.2.2.1
 clear hfz
 go_region
 clear tY Am Au Az Aw Ay Ax At Al Ap Ao tX Ah Ad Ai Ab Ae tP Af Ac Aj Ag Aa nY nS nR nX nP
 clear fz yk ye hb2
 replace M : Sep [] w (W5.setCell ⟨g, k, none⟩ (.int .i64 (kv - 1))).drew [rT ts.length C0 e0 ts, rK ks.length (some ⟨g, 0, none⟩) e1 (ks.set k (kv - 1)), rF fs.length C2 e2 fs, .blk (W4.heap.size) 35 #[.slice C0 ts.length e0, .slice (some ⟨g, 0, none⟩) ks.length e1, .slice C2 fs.length e2, .int .i64 tn, .bool st], .blk (w.heap.size + 3) 38 #[.int .i64 0, .int .i64 0], .blk (w.heap.size + 2) 35 #[.slice none 0 0, .slice none 0 0, .slice none 0 0, .int .i64 0, .bool false], .blk (w.heap.size + 1) 35 #[.slice A0 ts.length c0, .slice (some ⟨b', off, none⟩) ks.length c1, .slice A2 fs.length c2, .int .i64 tn, .bool st], .blk (w.heap.size) 28 #[.int .i64 a, .int .i64 b, .int .i64 c, .int .i64 d, .int .i64 e]] := (M.putK 1 rfl k (kv - 1)).drew
 generalize (W5.setCell ⟨g, k, none⟩ (.int .i64 (kv - 1))).drew = W6 at M ⊢
 obtain ⟨tY, Am, Au, Az, Aw, Ay, Ax, At, Al, Ap, Ao⟩ := M.f5 3 rfl
 obtain ⟨tX, Ah, Ad, Ai, Ab, Ae⟩ := M.q5 6 rfl
 obtain ⟨tP, Af, Ac, Aj, Ag, Aa⟩ := M.q5 7 rfl
 have yk : W6.drew.cell? ⟨g, k, none⟩ = some (.int .i64 (kv - 1)) := rK_cell (M.drew.rowAt 1 rfl) (List.getElem?_set_self hkl)
 have yk' : W6.cell? ⟨g, k, none⟩ = some (.int .i64 (kv - 1)) := yk
 go_wp2_with fail
 have ngR := (M.ne 1 5 (by omega) rfl rfl rfl rfl).2
 have ngS := (M.ne 1 4 (by omega) rfl rfl rfl rfl).2
 have hgd : g < W6.drew.heap.size := (M.drew.here _ (List.mem_of_getElem? (show _ = some _ from rfl : [rT ts.length C0 e0 ts, rK ks.length (some ⟨g, 0, none⟩) e1 (ks.set k (kv - 1)), rF fs.length C2 e2 fs, .blk (W4.heap.size) 35 #[.slice C0 ts.length e0, .slice (some ⟨g, 0, none⟩) ks.length e1, .slice C2 fs.length e2, .int .i64 tn, .bool st], .blk (w.heap.size + 3) 38 #[.int .i64 0, .int .i64 0], .blk (w.heap.size + 2) 35 #[.slice none 0 0, .slice none 0 0, .slice none 0 0, .int .i64 0, .bool false], .blk (w.heap.size + 1) 35 #[.slice A0 ts.length c0, .slice (some ⟨b', off, none⟩) ks.length c1, .slice A2 fs.length c2, .int .i64 tn, .bool st], .blk (w.heap.size) 28 #[.int .i64 a, .int .i64 b, .int .i64 c, .int .i64 d, .int .i64 e]][1]? = some (rK ks.length (some ⟨g, 0, none⟩) e1 (ks.set k (kv - 1)))))).lt rfl
 have MD : Sep [] w W6.drew [rT ts.length C0 e0 ts, rK ks.length (some ⟨g, 0, none⟩) e1 (ks.set k (kv - 1)), rF fs.length C2 e2 fs, .blk (W4.heap.size) 35 #[.slice C0 ts.length e0, .slice (some ⟨g, 0, none⟩) ks.length e1, .slice C2 fs.length e2, .int .i64 tn, .bool st], .blk (w.heap.size + 3) 38 #[.int .i64 0, .int .i64 0], .blk (w.heap.size + 2) 35 #[.slice none 0 0, .slice none 0 0, .slice none 0 0, .int .i64 0, .bool false], .blk (w.heap.size + 1) 35 #[.slice A0 ts.length c0, .slice (some ⟨b', off, none⟩) ks.length c1, .slice A2 fs.length c2, .int .i64 tn, .bool st], .blk (w.heap.size) 28 #[.int .i64 a, .int .i64 b, .int .i64 c, .int .i64 d, .int .i64 e]] := M.drew
 have hs1 : W6.drew.cell? ⟨w.heap.size, 0, none⟩ = some (.int .i64 a) ∧ W6.drew.cell? ⟨w.heap.size, 1, none⟩ = some (.int .i64 b) ∧ W6.drew.cell? ⟨w.heap.size, 2, none⟩ = some (.int .i64 c) ∧ W6.drew.cell? ⟨w.heap.size, 3, none⟩ = some (.int .i64 d) ∧ W6.drew.cell? ⟨w.heap.size, 4, none⟩ = some (.int .i64 e) ∧ W6.drew.cell? ⟨w.heap.size + 1, 0, none⟩ = some (.slice A0 ts.length c0) ∧ W6.drew.cell? ⟨w.heap.size + 1, 1, none⟩ = some (.slice (some ⟨b', off, none⟩) ks.length c1) ∧ W6.drew.cell? ⟨w.heap.size + 1, 2, none⟩ = some (.slice A2 fs.length c2) ∧ W6.drew.cell? ⟨w.heap.size + 1, 3, none⟩ = some (.int .i64 tn) ∧ W6.drew.cell? ⟨w.heap.size + 1, 4, none⟩ = some (.bool st) ∧ W6.drew.cell? ⟨W4.heap.size, 0, none⟩ = some (.slice C0 ts.length e0) ∧ W6.drew.cell? ⟨W4.heap.size, 1, none⟩ = some (.slice (some ⟨g, 0, none⟩) ks.length e1) ∧ W6.drew.cell? ⟨W4.heap.size, 2, none⟩ = some (.slice C2 fs.length e2) ∧ W6.drew.cell? ⟨W4.heap.size, 3, none⟩ = some (.int .i64 tn) ∧ W6.drew.cell? ⟨W4.heap.size, 4, none⟩ = some (.bool st) := ⟨MD.cell 7 0 rfl, MD.cell 7 1 rfl, MD.cell 7 2 rfl, MD.cell 7 3 rfl, MD.cell 7 4 rfl, MD.cell 6 0 rfl, MD.cell 6 1 rfl, MD.cell 6 2 rfl, MD.cell 6 3 rfl, MD.cell 6 4 rfl, MD.cell 3 0 rfl, MD.cell 3 1 rfl, MD.cell 3 2 rfl, MD.cell 3 3 rfl, MD.cell 3 4 rfl⟩
 have hq1 : W6.drew.cell? ⟨w.heap.size, 0, none⟩ = some (.int .i64 a) ∧ W6.drew.cell? ⟨w.heap.size, 1, none⟩ = some (.int .i64 b) ∧ W6.drew.cell? ⟨w.heap.size, 2, none⟩ = some (.int .i64 c) ∧ W6.drew.cell? ⟨w.heap.size, 3, none⟩ = some (.int .i64 d) ∧ W6.drew.cell? ⟨w.heap.size, 4, none⟩ = some (.int .i64 e) ∧ W6.drew.cell? ⟨w.heap.size + 1, 0, none⟩ = some (.slice A0 ts.length c0) ∧ W6.drew.cell? ⟨w.heap.size + 1, 1, none⟩ = some (.slice (some ⟨b', off, none⟩) ks.length c1) ∧ W6.drew.cell? ⟨w.heap.size + 1, 2, none⟩ = some (.slice A2 fs.length c2) ∧ W6.drew.cell? ⟨w.heap.size + 1, 3, none⟩ = some (.int .i64 tn) ∧ W6.drew.cell? ⟨w.heap.size + 1, 4, none⟩ = some (.bool st) ∧ W6.drew.cell? ⟨W4.heap.size, 0, none⟩ = some (.slice C0 ts.length e0) ∧ W6.drew.cell? ⟨W4.heap.size, 1, none⟩ = some (.slice (some ⟨g, 0, none⟩) ks.length e1) ∧ W6.drew.cell? ⟨W4.heap.size, 2, none⟩ = some (.slice C2 fs.length e2) ∧ W6.drew.cell? ⟨W4.heap.size, 3, none⟩ = some (.int .i64 tn) ∧ W6.drew.cell? ⟨W4.heap.size, 4, none⟩ = some (.bool st) ∧ W6.drew.cell? ⟨g, k, none⟩ = some (.int .i64 (kv - 1)) := ⟨MD.cell 7 0 rfl, MD.cell 7 1 rfl, MD.cell 7 2 rfl, MD.cell 7 3 rfl, MD.cell 7 4 rfl, MD.cell 6 0 rfl, MD.cell 6 1 rfl, MD.cell 6 2 rfl, MD.cell 6 3 rfl, MD.cell 6 4 rfl, MD.cell 3 0 rfl, MD.cell 3 1 rfl, MD.cell 3 2 rfl, MD.cell 3 3 rfl, MD.cell 3 4 rfl, yk⟩
 have key := hide (fun (V : World) (h1 : Blk V w.heap.size 28 #[.int .i64 a, .int .i64 b, .int .i64 c, .int .i64 d, .int .i64 e]) (h2 : Blk V (w.heap.size + 1) 35 #[.slice A0 ts.length c0, .slice (some ⟨b', off, none⟩) ks.length c1, .slice A2 fs.length c2, .int .i64 tn, .bool st]) (h3 : Blk V W4.heap.size 35 #[.slice C0 ts.length e0, .slice (some ⟨g, 0, none⟩) ks.length e1, .slice C2 fs.length e2, .int .i64 tn, .bool st]) (h4 : V.cell? ⟨g, k, none⟩ = some (.int .i64 (kv - 1))) => (⟨h1.cell 0, h1.cell 1, h1.cell 2, h1.cell 3, h1.cell 4, h2.cell 0, h2.cell 1, h2.cell 2, h2.cell 3, h2.cell 4, h3.cell 0, h3.cell 1, h3.cell 2, h3.cell 3, h3.cell 4, h4⟩ : V.cell? ⟨w.heap.size, 0, none⟩ = some (.int .i64 a) ∧ V.cell? ⟨w.heap.size, 1, none⟩ = some (.int .i64 b) ∧ V.cell? ⟨w.heap.size, 2, none⟩ = some (.int .i64 c) ∧ V.cell? ⟨w.heap.size, 3, none⟩ = some (.int .i64 d) ∧ V.cell? ⟨w.heap.size, 4, none⟩ = some (.int .i64 e) ∧ V.cell? ⟨w.heap.size + 1, 0, none⟩ = some (.slice A0 ts.length c0) ∧ V.cell? ⟨w.heap.size + 1, 1, none⟩ = some (.slice (some ⟨b', off, none⟩) ks.length c1) ∧ V.cell? ⟨w.heap.size + 1, 2, none⟩ = some (.slice A2 fs.length c2) ∧ V.cell? ⟨w.heap.size + 1, 3, none⟩ = some (.int .i64 tn) ∧ V.cell? ⟨w.heap.size + 1, 4, none⟩ = some (.bool st) ∧ V.cell? ⟨W4.heap.size, 0, none⟩ = some (.slice C0 ts.length e0) ∧ V.cell? ⟨W4.heap.size, 1, none⟩ = some (.slice (some ⟨g, 0, none⟩) ks.length e1) ∧ V.cell? ⟨W4.heap.size, 2, none⟩ = some (.slice C2 fs.length e2) ∧ V.cell? ⟨W4.heap.size, 3, none⟩ = some (.int .i64 tn) ∧ V.cell? ⟨W4.heap.size, 4, none⟩ = some (.bool st) ∧ V.cell? ⟨g, k, none⟩ = some (.int .i64 (kv - 1))))
 go_region_held3 (fun w' : World => w'.cell? ⟨w.heap.size, 0, none⟩ = some (.int .i64 a) ∧ w'.cell? ⟨w.heap.size, 1, none⟩ = some (.int .i64 b) ∧ w'.cell? ⟨w.heap.size, 2, none⟩ = some (.int .i64 c) ∧ w'.cell? ⟨w.heap.size, 3, none⟩ = some (.int .i64 d) ∧ w'.cell? ⟨w.heap.size, 4, none⟩ = some (.int .i64 e) ∧ w'.cell? ⟨w.heap.size + 1, 0, none⟩ = some (.slice A0 ts.length c0) ∧ w'.cell? ⟨w.heap.size + 1, 1, none⟩ = some (.slice (some ⟨b', off, none⟩) ks.length c1) ∧ w'.cell? ⟨w.heap.size + 1, 2, none⟩ = some (.slice A2 fs.length c2) ∧ w'.cell? ⟨w.heap.size + 1, 3, none⟩ = some (.int .i64 tn) ∧ w'.cell? ⟨w.heap.size + 1, 4, none⟩ = some (.bool st) ∧ w'.cell? ⟨W4.heap.size, 0, none⟩ = some (.slice C0 ts.length e0) ∧ w'.cell? ⟨W4.heap.size, 1, none⟩ = some (.slice (some ⟨g, 0, none⟩) ks.length e1) ∧ w'.cell? ⟨W4.heap.size, 2, none⟩ = some (.slice C2 fs.length e2) ∧ w'.cell? ⟨W4.heap.size, 3, none⟩ = some (.int .i64 tn) ∧ w'.cell? ⟨W4.heap.size, 4, none⟩ = some (.bool st) ∧ w'.cell? ⟨g, k, none⟩ = some (.int .i64 (kv - 1))) (with_reducible (first | exact hs4 | exact hs3 | exact hs2 | exact hq1)) (first | (go_at_call 56; refine (hDn.out _ _ _ _ _ _ _ _ (H.out.below MD.below) MD).mono ?_; rintro r W7 ⟨⟨B0, B1, B2, d0, d1, d2, rfl, g1⟩, gB⟩; have M7 := Sep.comp (ps := [rT ts.length C0 e0 ts, rK ks.length (some ⟨g, 0, none⟩) e1 (ks.set k (kv - 1)), rF fs.length C2 e2 fs]) MD g1; simp only [zC, zN] at M7; clear g1; have hs2 := key.out W7 (M7.blk 7 rfl) (M7.blk 6 rfl) (M7.blk 3 rfl) ((gB.cell (p := ⟨g, k, none⟩) hgd).trans yk); obtain ⟨tR, Ba, Bb, Av, Bg, Ar, Bh, Ak, Bf, An, Be⟩ := M7.f5 5 rfl; obtain ⟨tS, Aq, Bd, As, Bc⟩ := M7.f2 4 rfl; have M7R := M7.set5 5 rfl (.slice B0 o.ts.length d0) (.slice B1 o.ks.length d1) (.slice B2 o.fs.length d2) (.int .i64 o.tn) (.bool o.st); simp only [zZ, zS] at M7R; have hs3 := key.out _ (M7R.blk 7 rfl) (M7R.blk 6 rfl) (M7R.blk 3 rfl) (cellFar5 ngR ((gB.cell (p := ⟨g, k, none⟩) hgd).trans yk)); have M7RS := M7R.set2 4 rfl (.int .i64 o.rp) (.int .i64 o.ou); simp only [zZ, zS] at M7RS; have hs4 := key.out _ (M7RS.blk 7 rfl) (M7RS.blk 6 rfl) (M7RS.blk 3 rfl) (cellFar2 ngS (cellFar5 ngR ((gB.cell (p := ⟨g, k, none⟩) hgd).trans yk)))))
 all_goals go_wp2_with fail
 all_goals obtain ⟨Bi, zR0, zR1, zR2, zR3, zR4⟩ := M7RS.q5 5 rfl
 all_goals obtain ⟨Bj, zS0, zS1⟩ := M7RS.q2 4 rfl
 all_goals exact bodyPost_ret (v := .tuple #[.agg #[.slice B0 o.ts.length d0, .slice B1 o.ks.length d1, .slice B2 o.fs.length d2, .int .i64 o.tn, .bool o.st], .agg #[.int .i64 o.rp, .int .i64 o.ou]]) (by simp [results, Tryz.results47, go_sem, zR0, zR1, zR2, zR3, zR4, zS0, zS1]) rfl ⟨B0, B1, B2, d0, d1, d2, rfl, M7RS.take 3⟩
theorem downed_park (wk : Int) (id : Int) (w : World) (ht : ts.length ≤ 1048576) (hk : ks.length ≤ 1048576) (hf : fs.length ≤ 1048576) (h : InPool w ts ks fs A0 A1 A2) (k : Nat) (kv : Int) (hid : id = k) (hks : ks[k]? = some kv) (hkv : ¬ 0 < kv) (m : Nat) (s l o1 wt on v t : Int) (hts : ts[m]? = some ⟨s, l, o1, wt, on, v, t⟩) (hme : runM ts wk 0 = m) (hm : mayB a b c d e ts ks fs tn wk = true) (hi : btw id 0 (ks.length - 1) = true) :
 Calls Tryz.prog 47 #[qF a b c d e, qP ts ks fs A0 A1 A2 c0 c1 c2 tn st, .int .i64 wk, .int .i64 id] w (GaveS [] w (doneO (poolB a b c d e (ts.set m (parkT ⟨s, l, o1, wt, on, v, t⟩ tn 2 k)) ks fs (tn + 1)) ts ks fs tn st (ts.set m (parkT ⟨s, l, o1, wt, on, v, t⟩ tn 2 k)) ks fs (tn + 1) st 7 (m : Int))) := by
 unfold qF qP
 have hkl : k < ks.length := by
  rcases Nat.lt_or_ge k ks.length with h1 | h1
  ·exact h1
  ·rw [List.getElem?_eq_none h1] at hks; cases hks
 subst hid
 obtain ⟨b', off, x0, rfl, _, he, hb', z0⟩ := h.2.1.ks_at hkl
 rw [hks] at he
 injection he with he
 subst he
 have H := hide h
 clear h
 have hpo : poolB a b c d e ts ks fs tn = true := by
  have h1 := hm
  simp only [mayB, Bool.and_eq_true] at h1
  exact h1.1
 have tb : 0 ≤ tn ∧ tn ≤ 1000000 := by
  have h1 := hpo
  simp only [poolB, Bool.and_eq_true] at h1
  have h2 := h1.2.1
  simp [btw] at h2
  exact h2
 obtain ⟨tb0, tb1⟩ := tb
 have hDn := hide (fun (A0x A1x A2x : Option Addr) (c0x c1x c2x : Nat) (rs : List Res) (V : World) (h1 : InPool V ts ks fs A0 (some ⟨b', off, none⟩) A2) (h2 : Sep [] w V ([rT ts.length A0x c0x (ts.set m (parkT ⟨s, l, o1, wt, on, v, t⟩ tn 2 k)), rK ks.length A1x c1x ks, rF fs.length A2x c2x fs] ++ rs)) => l6Done_s a b c d e ts ks fs A0 (some ⟨b', off, none⟩) A2 c0 c1 c2 tn st ts.length ks.length fs.length (ts.set m (parkT ⟨s, l, o1, wt, on, v, t⟩ tn 2 k)) ks fs A0x A1x A2x c0x c1x c2x ((tn + 1)) st 7 ((m : Int)) V (by simp) rfl rfl hpo ht hk hf ht hk hf h1 h2)
 clear hpo
 generalize doneO (poolB a b c d e (ts.set m (parkT ⟨s, l, o1, wt, on, v, t⟩ tn 2 k)) ks fs (tn + 1)) ts ks fs tn st (ts.set m (parkT ⟨s, l, o1, wt, on, v, t⟩ tn 2 k)) ks fs (tn + 1) st 7 (m : Int) = o at hDn ⊢
 have HY := hide (⟨hme, hm, hi, hks, hts, trivial⟩ : _ ∧ _ ∧ _ ∧ _ ∧ _ ∧ True)
 clear hme hm hi hks hts
 go_enter Tryz.func47, Tryz.ntmps47
 go_wp2_with fail
 generalize hW : (((w.alloc _).alloc _).alloc _).alloc _ = W1
 have M := Sep.e4 hW
 clear hW
 obtain ⟨tX, Ah, Ad, Ai, Ab, Ae⟩ := M.q5 2 rfl
 obtain ⟨tP, Af, Ac, Aj, Ag, Aa⟩ := M.q5 3 rfl
 go_call (sRunBy_v ts A0 (some ⟨b', off, none⟩) A2 c0 ks.length c1 fs.length c2 tn st wk m HY.out.1 _ ht (H.out.below M.below).1) as r W2 ⟨rfl, g1⟩
 clear tX Ah Ad Ai Ab Ae tP Af Ac Aj Ag Aa
 replace M := M.call g1
 clear g1
 obtain ⟨tX, Ah, Ad, Ai, Ab, Ae⟩ := M.q5 2 rfl
 obtain ⟨tP, Af, Ac, Aj, Ag, Aa⟩ := M.q5 3 rfl
 go_wp2_with fail
 go_call (l6May_v a b c d e ts ks fs A0 (some ⟨b', off, none⟩) A2 c0 c1 c2 tn st wk true HY.out.2.1 _ ht hk hf (H.out.below M.below)) as r W3 ⟨rfl, g1⟩
 clear tX Ah Ad Ai Ab Ae tP Af Ac Aj Ag Aa
 replace M := M.call g1
 clear g1
 obtain ⟨tX, Ah, Ad, Ai, Ab, Ae⟩ := M.q5 2 rfl
 obtain ⟨tP, Af, Ac, Aj, Ag, Aa⟩ := M.q5 3 rfl
 go_wp2_with fail
 go_call (l1In_v k 0 (ks.length - 1) true HY.out.2.2.1 _) as r W ⟨rfl, rfl⟩
 go_wp2_with fail
 go_call (l3Copy_s ts ks fs A0 (some ⟨b', off, none⟩) A2 c0 c1 c2 tn st _ ht hk hf (H.out.below M.below)) as r W4 ⟨C0, C1, C2, e0, e1, e2, rfl, g1⟩
 clear tX Ah Ad Ai Ab Ae tP Af Ac Aj Ag Aa
 replace M := Sep.new M g1
 simp only [zC, zN] at M
 clear g1
 obtain ⟨tX, Ah, Ad, Ai, Ab, Ae⟩ := M.q5 5 rfl
 obtain ⟨tP, Af, Ac, Aj, Ag, Aa⟩ := M.q5 6 rfl
 have hb2 : b' < W4.heap.size := Nat.lt_of_lt_of_le hb' M.size
 have ye : W4.cell? ⟨b', off + k, none⟩ = some (.int .i64 kv) := (M.below.cell (p := ⟨b', off + k, none⟩) hb').trans z0
 go_wp2_with fail
 clear ye hb2
 clear tX Ah Ad Ai Ab Ae tP Af Ac Aj Ag Aa
 replace M : Sep [] w (W4.alloc (.cells #[.slice C0 ts.length e0, .slice C1 ks.length e1, .slice C2 fs.length e2, .int .i64 tn, .bool st] 35)) [.blk (W4.heap.size) 35 #[.slice C0 ts.length e0, .slice C1 ks.length e1, .slice C2 fs.length e2, .int .i64 tn, .bool st], rT ts.length C0 e0 ts, rK ks.length C1 e1 ks, rF fs.length C2 e2 fs, .blk (w.heap.size + 3) 38 #[.int .i64 0, .int .i64 0], .blk (w.heap.size + 2) 35 #[.slice none 0 0, .slice none 0 0, .slice none 0 0, .int .i64 0, .bool false], .blk (w.heap.size + 1) 35 #[.slice A0 ts.length c0, .slice (some ⟨b', off, none⟩) ks.length c1, .slice A2 fs.length c2, .int .i64 tn, .bool st], .blk (w.heap.size) 28 #[.int .i64 a, .int .i64 b, .int .i64 c, .int .i64 d, .int .i64 e]] := M.alloc 35 #[.slice C0 ts.length e0, .slice C1 ks.length e1, .slice C2 fs.length e2, .int .i64 tn, .bool st] _ rfl
 generalize W4.alloc (.cells #[.slice C0 ts.length e0, .slice C1 ks.length e1, .slice C2 fs.length e2, .int .i64 tn, .bool st] 35) = W5 at M ⊢
 replace M : Sep [] w W5 [rT ts.length C0 e0 ts, rK ks.length C1 e1 ks, rF fs.length C2 e2 fs, .blk (W4.heap.size) 35 #[.slice C0 ts.length e0, .slice C1 ks.length e1, .slice C2 fs.length e2, .int .i64 tn, .bool st], .blk (w.heap.size + 3) 38 #[.int .i64 0, .int .i64 0], .blk (w.heap.size + 2) 35 #[.slice none 0 0, .slice none 0 0, .slice none 0 0, .int .i64 0, .bool false], .blk (w.heap.size + 1) 35 #[.slice A0 ts.length c0, .slice (some ⟨b', off, none⟩) ks.length c1, .slice A2 fs.length c2, .int .i64 tn, .bool st], .blk (w.heap.size) 28 #[.int .i64 a, .int .i64 b, .int .i64 c, .int .i64 d, .int .i64 e]] := Sep.back (l1 := [rT ts.length C0 e0 ts, rK ks.length C1 e1 ks, rF fs.length C2 e2 fs]) M
 obtain ⟨tY, Am, Au, Az, Aw, Ay, Ax, At, Al, Ap, Ao⟩ := M.f5 3 rfl
 obtain ⟨tX, Ah, Ad, Ai, Ab, Ae⟩ := M.q5 6 rfl
 obtain ⟨tP, Af, Ac, Aj, Ag, Aa⟩ := M.q5 7 rfl
 clear tY Am Au Az Aw Ay Ax At Al Ap Ao tX Ah Ad Ai Ab Ae tP Af Ac Aj Ag Aa
 refine wp_region_T (S := (fun w' => w'.cell? ⟨w.heap.size, 0, none⟩ = some (.int .i64 a) ∧ w'.cell? ⟨w.heap.size, 1, none⟩ = some (.int .i64 b) ∧ w'.cell? ⟨w.heap.size, 2, none⟩ = some (.int .i64 c) ∧ w'.cell? ⟨w.heap.size, 3, none⟩ = some (.int .i64 d) ∧ w'.cell? ⟨w.heap.size, 4, none⟩ = some (.int .i64 e) ∧ w'.cell? ⟨w.heap.size + 1, 0, none⟩ = some (.slice A0 ts.length c0) ∧ w'.cell? ⟨w.heap.size + 1, 1, none⟩ = some (.slice (some ⟨b', off, none⟩) ks.length c1) ∧ w'.cell? ⟨w.heap.size + 1, 2, none⟩ = some (.slice A2 fs.length c2) ∧ w'.cell? ⟨w.heap.size + 1, 3, none⟩ = some (.int .i64 tn) ∧ w'.cell? ⟨w.heap.size + 1, 4, none⟩ = some (.bool st) ∧ w'.cell? ⟨W4.heap.size, 0, none⟩ = some (.slice C0 ts.length e0) ∧ w'.cell? ⟨W4.heap.size, 1, none⟩ = some (.slice C1 ks.length e1) ∧ w'.cell? ⟨W4.heap.size, 2, none⟩ = some (.slice C2 fs.length e2) ∧ w'.cell? ⟨W4.heap.size, 3, none⟩ = some (.int .i64 tn) ∧ w'.cell? ⟨W4.heap.size, 4, none⟩ = some (.bool st))) (ks := []) (by kernel_rfl) ⟨M.cell 7 0 rfl, M.cell 7 1 rfl, M.cell 7 2 rfl, M.cell 7 3 rfl, M.cell 7 4 rfl, M.cell 6 0 rfl, M.cell 6 1 rfl, M.cell 6 2 rfl, M.cell 6 3 rfl, M.cell 6 4 rfl, M.cell 3 0 rfl, M.cell 3 1 rfl, M.cell 3 2 rfl, M.cell 3 3 rfl, M.cell 3 4 rfl⟩ (fun hHeld => ?_)
 replace M := M.drew
 generalize W5.drew = W6 at M hHeld ⊢
 refine tkLa 0 _ rfl hHeld ?_
 try simp only [Act.put, zI, zZ, zS]
 refine tkLa 1 _ rfl hHeld ?_
 try simp only [Act.put, zI, zZ, zS]
 refine tkLa 2 _ rfl hHeld ?_
 try simp only [Act.put, zI, zZ, zS]
 refine tkYa 3 _ rfl (fun _ => hHeld) ?_
 try simp only [Act.put, zI, zZ, zS]
 refine tkYa 4 _ rfl (fun _ => hHeld) ?_
 try simp only [Act.put, zI, zZ, zS]
 refine tkYa 6 _ rfl (fun _ => hHeld) ?_
 try simp only [Act.put, zI, zZ, zS]
 refine wpAnyT_callL (i := 5) rfl (by kernel_rfl) (fun K hK => ?_)
 go_simp
 refine (l5Park_s ts _ _ _ _ _ _ _ _ tn st m s l o1 wt on v t 2 k _ ht (by omega) (by omega) HY.out.2.2.2.2.1 (M.here _ (List.mem_cons_self))).mono ?_
 rintro r W7 ⟨rfl, g1⟩
 replace M := Sep.comp (ps := [rT ts.length C0 e0 ts]) M g1
 simp only [zC, zN] at M
 clear g1 hHeld
 go_wp2_with fail
 refine hK.out _ _ ?_ (fun hHeld => ?_)
 ·exact ⟨M.cell 7 0 rfl, M.cell 7 1 rfl, M.cell 7 2 rfl, M.cell 7 3 rfl, M.cell 7 4 rfl, M.cell 6 0 rfl, M.cell 6 1 rfl, M.cell 6 2 rfl, M.cell 6 3 rfl, M.cell 6 4 rfl, M.cell 3 0 rfl, M.cell 3 1 rfl, M.cell 3 2 rfl, M.cell 3 3 rfl, M.cell 3 4 rfl⟩
 clear hK K
 try simp only [Act.put, zI, zZ, zS]
 refine wpAnyT_callL (i := 7) rfl (by kernel_rfl) (fun K hK => ?_)
 go_simp
 refine (hDn.out _ _ _ _ _ _ [.blk (W4.heap.size) 35 #[.slice C0 ts.length e0, .slice C1 ks.length e1, .slice C2 fs.length e2, .int .i64 tn, .bool st], .blk (w.heap.size + 3) 38 #[.int .i64 0, .int .i64 0], .blk (w.heap.size + 2) 35 #[.slice none 0 0, .slice none 0 0, .slice none 0 0, .int .i64 0, .bool false], .blk (w.heap.size + 1) 35 #[.slice A0 ts.length c0, .slice (some ⟨b', off, none⟩) ks.length c1, .slice A2 fs.length c2, .int .i64 tn, .bool st], .blk (w.heap.size) 28 #[.int .i64 a, .int .i64 b, .int .i64 c, .int .i64 d, .int .i64 e]] _ (H.out.below M.below) M).mono ?_
 rintro r W8 ⟨B0, B1, B2, d0, d1, d2, rfl, g1⟩
 replace M := Sep.comp (ps := [rT ts.length C0 e0 (ts.set m (parkT ⟨s, l, o1, wt, on, v, t⟩ tn 2 k)), rK ks.length C1 e1 ks, rF fs.length C2 e2 fs]) M g1
 simp only [zC, zN] at M
 clear g1 hHeld
 go_wp2_with fail
 refine hK.out _ _ ?_ (fun hHeld => ?_)
 ·exact ⟨M.cell 7 0 rfl, M.cell 7 1 rfl, M.cell 7 2 rfl, M.cell 7 3 rfl, M.cell 7 4 rfl, M.cell 6 0 rfl, M.cell 6 1 rfl, M.cell 6 2 rfl, M.cell 6 3 rfl, M.cell 6 4 rfl, M.cell 3 0 rfl, M.cell 3 1 rfl, M.cell 3 2 rfl, M.cell 3 3 rfl, M.cell 3 4 rfl⟩
 clear hK K
 try simp only [Act.put, zI, zZ, zS]
 refine tkYa 8 _ rfl (fun _ => hHeld) ?_
 try simp only [Act.put, zI, zZ, zS]
 refine tkYa 9 _ rfl (fun _ => hHeld) ?_
 try simp only [Act.put, zI, zZ, zS]
 obtain ⟨tR, Ba, Bb, Av, Bg, Ar, Bh, Ak, Bf, An, Be⟩ := M.f5 5 rfl
 refine wpAnyT_callL (i := 10) rfl (by kernel_rfl) (fun K hK => ?_)
 go_simp
 clear tR Ba Bb Av Bg Ar Bh Ak Bf An Be
 replace M := M.gset5 5 rfl (.slice B0 o.ts.length d0) (.slice B1 o.ks.length d1) (.slice B2 o.fs.length d2) (.int .i64 o.tn) (.bool o.st)
 obtain ⟨W9, eW, M⟩ := M
 rw [eW]
 clear eW
 simp only [zZ, zS] at M
 clear hHeld
 refine hK.out _ _ ?_ (fun hHeld => ?_)
 ·exact ⟨M.cell 7 0 rfl, M.cell 7 1 rfl, M.cell 7 2 rfl, M.cell 7 3 rfl, M.cell 7 4 rfl, M.cell 6 0 rfl, M.cell 6 1 rfl, M.cell 6 2 rfl, M.cell 6 3 rfl, M.cell 6 4 rfl, M.cell 3 0 rfl, M.cell 3 1 rfl, M.cell 3 2 rfl, M.cell 3 3 rfl, M.cell 3 4 rfl⟩
 clear hK K
 try simp only [Act.put, zI, zZ, zS]
 obtain ⟨tS, Aq, Bd, As, Bc⟩ := M.f2 4 rfl
 refine wpAnyT_callL (i := 11) rfl (by kernel_rfl) (fun K hK => ?_)
 go_simp
 clear tS Aq Bd As Bc
 replace M := M.gset2 4 rfl (.int .i64 o.rp) (.int .i64 o.ou)
 obtain ⟨W10, eW, M⟩ := M
 rw [eW]
 clear eW
 simp only [zZ, zS] at M
 clear hHeld
 refine hK.out _ _ ?_ (fun hHeld => ?_)
 ·exact ⟨M.cell 7 0 rfl, M.cell 7 1 rfl, M.cell 7 2 rfl, M.cell 7 3 rfl, M.cell 7 4 rfl, M.cell 6 0 rfl, M.cell 6 1 rfl, M.cell 6 2 rfl, M.cell 6 3 rfl, M.cell 6 4 rfl, M.cell 3 0 rfl, M.cell 3 1 rfl, M.cell 3 2 rfl, M.cell 3 3 rfl, M.cell 3 4 rfl⟩
 clear hK K
 try simp only [Act.put, zI, zZ, zS]
 refine wpAnyT_done (by kernel_rfl) ?_ _
 go_wp2_with fail
 obtain ⟨tS, Aq, As⟩ := M.q2 4 rfl
 obtain ⟨tR, Ba, Av, Ar, Ak, An⟩ := M.q5 5 rfl
 exact bodyPost_ret (by simp [results, Tryz.results47, go_sem, Ba, Av, Ar, Ak, An, Aq, As]) rfl ⟨B0, B1, B2, d0, d1, d2, rfl, M.take 3⟩
end Go.Proofs.YtfkdfkoigojciaaGreatDoor
