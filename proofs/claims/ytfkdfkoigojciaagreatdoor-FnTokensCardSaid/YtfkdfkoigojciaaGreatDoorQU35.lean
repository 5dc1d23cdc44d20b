import Derived.Test.YtfkdfkoigojciaaGreatDoorQU12
import Derived.Test.YtfkdfkoigojciaaGreatDoorQU09
import Derived.Test.YtfkdfkoigojciaaGreatDoorQU13
import Derived.Deep.RegionLaw
import Derived.BigRegion
import Derived.Deep.RegionHeld3

namespace Go.Proofs.YtfkdfkoigojciaaGreatDoor
open Go.RowKit
set_option linter.unusedVariables false
set_option maxHeartbeats 4000000
set_option maxRecDepth 100000
variable (a b c d e : Int) (ts : List T7) (ks : List Int) (fs : List F2) (A0 A1 A2 : Option Addr) (c0 c1 c2 : Nat) (tn : Int) (st : Bool)
theorem joined_done (wk : Int) (id : Int) (w : World) (ht : ts.length ≤ 1048576) (hk : ks.length ≤ 1048576) (hf : fs.length ≤ 1048576) (h : InPool w ts ks fs A0 A1 A2) (k : Nat) (s l o1 wt on v t : Int) (hid : id = k) (hts : ts[k]? = some ⟨s, l, o1, wt, on, v, t⟩) (hs : s = 4) (me : Int) (hme : runM ts wk 0 = me) (h0 : 0 ≤ me) (hne : ¬ (k : Int) = me) (hm : mayB a b c d e ts ks fs tn wk = true) (hh : btw id 0 (ts.length - 1) = true) :
 Calls Tryz.prog 27 #[qF a b c d e, qP ts ks fs A0 A1 A2 c0 c1 c2 tn st, .int .i64 wk, .int .i64 id] w (GaveS [] w (⟨ts, ks, fs, tn, st, 1, v⟩)) := by
 unfold qF qP
 have hkl : k < ts.length := by
  rcases Nat.lt_or_ge k ts.length with h1 | h1
  ·exact h1
  ·rw [List.getElem?_eq_none h1] at hts; cases hts
 subst hid
 obtain ⟨b', off, x0, x1, x2, x3, x4, x5, x6, rfl, _, he, hb', z0, z1, z2, z3, z4, z5, z6⟩ := h.1.ts_at hkl
 rw [hts] at he
 injection he with he
 injection he with u0 u1 u2 u3 u4 u5 u6
 subst u0 u1 u2 u3 u4 u5 u6
 have H := hide h
 clear h
 have HY := hide (⟨hme, hm, hh, hts, trivial⟩ : _ ∧ _ ∧ _ ∧ _ ∧ True)
 clear hme hm hh hts
 go_enter Tryz.func27, Tryz.ntmps27
 go_wp2_with fail
 generalize hW : (((w.alloc _).alloc _).alloc _).alloc _ = W1
 have M := Sep.e4 hW
 clear hW
 obtain ⟨tX, Ah, Ad, Ai, Ab, Ae⟩ := M.q5 2 rfl
 obtain ⟨tP, Af, Ac, Aj, Ag, Aa⟩ := M.q5 3 rfl
 go_call (sRunBy_v ts (some ⟨b', off, none⟩) A1 A2 c0 ks.length c1 fs.length c2 tn st wk me HY.out.1 _ ht (H.out.below M.below).1) as r W2 ⟨rfl, g1⟩
 clear tX Ah Ad Ai Ab Ae tP Af Ac Aj Ag Aa
 replace M := M.call g1
 clear g1
 obtain ⟨tX, Ah, Ad, Ai, Ab, Ae⟩ := M.q5 2 rfl
 obtain ⟨tP, Af, Ac, Aj, Ag, Aa⟩ := M.q5 3 rfl
 go_wp2_with fail
 go_call (l6May_v a b c d e ts ks fs (some ⟨b', off, none⟩) A1 A2 c0 c1 c2 tn st wk true HY.out.2.1 _ ht hk hf (H.out.below M.below)) as r W3 ⟨rfl, g1⟩
 clear tX Ah Ad Ai Ab Ae tP Af Ac Aj Ag Aa
 replace M := M.call g1
 clear g1
 obtain ⟨tX, Ah, Ad, Ai, Ab, Ae⟩ := M.q5 2 rfl
 obtain ⟨tP, Af, Ac, Aj, Ag, Aa⟩ := M.q5 3 rfl
 go_wp2_with fail
 go_call (l5Has_v ts (some ⟨b', off, none⟩) A1 A2 c0 ks.length c1 fs.length c2 tn st k true HY.out.2.2.1 _ ht) as r W4 ⟨rfl, g1⟩
 clear tX Ah Ad Ai Ab Ae tP Af Ac Aj Ag Aa
 replace M := M.call g1
 clear g1
 obtain ⟨tX, Ah, Ad, Ai, Ab, Ae⟩ := M.q5 2 rfl
 obtain ⟨tP, Af, Ac, Aj, Ag, Aa⟩ := M.q5 3 rfl
 have ye0 : W4.cell? ⟨b', off + k * 7, none⟩ = some (.int .i64 s) := (M.below.cell (p := ⟨b', off + k * 7, none⟩) hb').trans z0
 have ye5 : W4.cell? ⟨b', off + k * 7 + 5, none⟩ = some (.int .i64 v) := (M.below.cell (p := ⟨b', off + k * 7 + 5, none⟩) hb').trans z5
 go_wp2_with fail
 clear tX Ah Ad Ai Ab Ae tP Af Ac Aj Ag Aa
 refine wp_region_T (S := (fun w' => w'.cell? ⟨w.heap.size + 1, 0, none⟩ = some (.slice (some ⟨b', off, none⟩) ts.length c0) ∧ w'.cell? ⟨w.heap.size + 1, 1, none⟩ = some (.slice A1 ks.length c1) ∧ w'.cell? ⟨w.heap.size + 1, 2, none⟩ = some (.slice A2 fs.length c2) ∧ w'.cell? ⟨w.heap.size + 1, 3, none⟩ = some (.int .i64 tn) ∧ w'.cell? ⟨w.heap.size + 1, 4, none⟩ = some (.bool st) ∧ w'.cell? ⟨b', off + k * 7 + 5, none⟩ = some (.int .i64 v))) (ks := []) (by kernel_rfl) ⟨M.cell 2 0 rfl, M.cell 2 1 rfl, M.cell 2 2 rfl, M.cell 2 3 rfl, M.cell 2 4 rfl, (M.below.cell (p := ⟨b', off + k * 7 + 5, none⟩) hb').trans z5⟩ (fun hHeld => ?_)
 replace M := M.drew
 generalize W4.drew = W5 at M hHeld ⊢
 refine tkLa 0 _ rfl hHeld ?_
 try simp only [Act.put, zI, zZ, zS]
 refine tkYa 2 _ rfl (fun _ => hHeld) ?_
 try simp only [Act.put, zI, zZ, zS]
 refine tkLa 3 _ rfl hHeld ?_
 try simp only [Act.put, zI, zZ, zS]
 refine tkYa 4 _ rfl (fun _ => hHeld) ?_
 try simp only [Act.put, zI, zZ, zS]
 refine tkYa 5 _ rfl (fun _ => hHeld) ?_
 try simp only [Act.put, zI, zZ, zS]
 refine tkYa 6 _ rfl (fun _ => hHeld) ?_
 try simp only [Act.put, zI, zZ, zS]
 refine tkLa 7 _ rfl hHeld ?_
 try simp only [Act.put, zI, zZ, zS]
 refine tkYa 8 _ rfl (fun _ => hHeld) ?_
 try simp only [Act.put, zI, zZ, zS]
 refine wpAnyT_callL (i := 1) rfl (by kernel_rfl) (fun K hK => ?_)
 go_simp
 refine (l3Copy_s ts ks fs (some ⟨b', off, none⟩) A1 A2 c0 c1 c2 tn st _ ht hk hf (H.out.below M.below)).mono ?_
 rintro r W6 ⟨C0, C1, C2, e0, e1, e2, rfl, g1⟩
 replace M := Sep.new M g1
 simp only [zC, zN] at M
 clear g1 hHeld
 go_wp2_with fail
 refine hK.out _ _ ?_ (fun hHeld => ?_)
 ·exact ⟨M.cell 5 0 rfl, M.cell 5 1 rfl, M.cell 5 2 rfl, M.cell 5 3 rfl, M.cell 5 4 rfl, (M.below.cell (p := ⟨b', off + k * 7 + 5, none⟩) hb').trans z5⟩
 clear hK K
 try simp only [Act.put, zI, zZ, zS]
 obtain ⟨tR, Aq, Ar, Ap, Aw, An, Ax, Ak, Av, Al, Au⟩ := M.f5 4 rfl
 refine wpAnyT_callL (i := 9) rfl (by kernel_rfl) (fun K hK => ?_)
 go_simp
 clear tR Aq Ar Ap Aw An Ax Ak Av Al Au
 replace M := M.gset5 4 rfl (.slice C0 ts.length e0) (.slice C1 ks.length e1) (.slice C2 fs.length e2) (.int .i64 tn) (.bool st)
 obtain ⟨W7, eW, M⟩ := M
 rw [eW]
 clear eW
 simp only [zZ, zS] at M
 clear hHeld
 refine hK.out _ _ ?_ (fun hHeld => ?_)
 ·exact ⟨M.cell 5 0 rfl, M.cell 5 1 rfl, M.cell 5 2 rfl, M.cell 5 3 rfl, M.cell 5 4 rfl, (M.below.cell (p := ⟨b', off + k * 7 + 5, none⟩) hb').trans z5⟩
 clear hK K
 try simp only [Act.put, zI, zZ, zS]
 obtain ⟨tS, Am, At, Ao, As⟩ := M.f2 3 rfl
 refine wpAnyT_callL (i := 10) rfl (by kernel_rfl) (fun K hK => ?_)
 go_simp
 clear tS Am At Ao As
 replace M := M.gset2 3 rfl (.int .i64 1) (.int .i64 v)
 obtain ⟨W8, eW, M⟩ := M
 rw [eW]
 clear eW
 simp only [zZ, zS] at M
 clear hHeld
 refine hK.out _ _ ?_ (fun hHeld => ?_)
 ·exact ⟨M.cell 5 0 rfl, M.cell 5 1 rfl, M.cell 5 2 rfl, M.cell 5 3 rfl, M.cell 5 4 rfl, (M.below.cell (p := ⟨b', off + k * 7 + 5, none⟩) hb').trans z5⟩
 clear hK K
 try simp only [Act.put, zI, zZ, zS]
 refine wpAnyT_done (by kernel_rfl) ?_ _
 go_wp2_with fail
 obtain ⟨tS, Am, Ao⟩ := M.q2 3 rfl
 obtain ⟨tR, Aq, Ap, An, Ak, Al⟩ := M.q5 4 rfl
 exact bodyPost_ret (by simp [results, Tryz.results27, go_sem, Aq, Ap, An, Ak, Al, Am, Ao]) rfl ⟨C0, C1, C2, e0, e1, e2, rfl, M.take 3⟩
theorem joined_park (wk : Int) (id : Int) (w : World) (ht : ts.length ≤ 1048576) (hk : ks.length ≤ 1048576) (hf : fs.length ≤ 1048576) (h : InPool w ts ks fs A0 A1 A2) (k : Nat) (s l o1 wt on v t : Int) (hid : id = k) (hts : ts[k]? = some ⟨s, l, o1, wt, on, v, t⟩) (hs4 : ¬ s = 4) (hs5 : ¬ s = 5) (m : Nat) (s2 l2 o2 wt2 on2 v2 t2 : Int) (ht2 : ts[m]? = some ⟨s2, l2, o2, wt2, on2, v2, t2⟩) (hme : runM ts wk 0 = m) (hne : ¬ (k : Int) = m) (hne' : ¬ k = m) (hm : mayB a b c d e ts ks fs tn wk = true) (hh : btw id 0 (ts.length - 1) = true) :
 Calls Tryz.prog 27 #[qF a b c d e, qP ts ks fs A0 A1 A2 c0 c1 c2 tn st, .int .i64 wk, .int .i64 id] w (GaveS [] w (doneO (poolB a b c d e (ts.set m (parkT ⟨s2, l2, o2, wt2, on2, v2, t2⟩ tn 1 k)) ks fs (tn + 1)) ts ks fs tn st (ts.set m (parkT ⟨s2, l2, o2, wt2, on2, v2, t2⟩ tn 1 k)) ks fs (tn + 1) st 7 (m : Int))) := by
 unfold qF qP
 have hkl : k < ts.length := by
  rcases Nat.lt_or_ge k ts.length with h1 | h1
  ·exact h1
  ·rw [List.getElem?_eq_none h1] at hts; cases hts
 subst hid
 obtain ⟨b', off, x0, x1, x2, x3, x4, x5, x6, rfl, _, he, hb', z0, z1, z2, z3, z4, z5, z6⟩ := h.1.ts_at hkl
 rw [hts] at he
 injection he with he
 injection he with u0 u1 u2 u3 u4 u5 u6
 subst u0 u1 u2 u3 u4 u5 u6
 have H := hide h
 clear h
 have hpo : poolB a b c d e ts ks fs tn = true := by
  have h1 := hm
  simp only [mayB, Bool.and_eq_true] at h1
  exact h1.1
 have tb : 0 ≤ tn ∧ tn ≤ 1000000 := by
  have h1 := hpo
  simp only [poolB, Bool.and_eq_true] at h1
  have h2 := h1.2.1
  simp [btw] at h2
  exact h2
 obtain ⟨tb0, tb1⟩ := tb
 have hDn := hide (fun (A0x A1x A2x : Option Addr) (c0x c1x c2x : Nat) (rs : List Res) (V : World) (h1 : InPool V ts ks fs (some ⟨b', off, none⟩) A1 A2) (h2 : Sep [] w V ([rT ts.length A0x c0x (ts.set m (parkT ⟨s2, l2, o2, wt2, on2, v2, t2⟩ tn 1 k)), rK ks.length A1x c1x ks, rF fs.length A2x c2x fs] ++ rs)) => l6Done_s a b c d e ts ks fs (some ⟨b', off, none⟩) A1 A2 c0 c1 c2 tn st ts.length ks.length fs.length (ts.set m (parkT ⟨s2, l2, o2, wt2, on2, v2, t2⟩ tn 1 k)) ks fs A0x A1x A2x c0x c1x c2x ((tn + 1)) st 7 ((m : Int)) V (by simp) rfl rfl hpo ht hk hf ht hk hf h1 h2)
 clear hpo
 generalize doneO (poolB a b c d e (ts.set m (parkT ⟨s2, l2, o2, wt2, on2, v2, t2⟩ tn 1 k)) ks fs (tn + 1)) ts ks fs tn st (ts.set m (parkT ⟨s2, l2, o2, wt2, on2, v2, t2⟩ tn 1 k)) ks fs (tn + 1) st 7 (m : Int) = o at hDn ⊢
 have HY := hide (⟨hme, hm, hh, hts, ht2, trivial⟩ : _ ∧ _ ∧ _ ∧ _ ∧ _ ∧ True)
 clear hme hm hh hts ht2
 go_enter Tryz.func27, Tryz.ntmps27
 go_wp2_with fail
 generalize hW : (((w.alloc _).alloc _).alloc _).alloc _ = W1
 have M := Sep.e4 hW
 clear hW
 obtain ⟨tX, Ah, Ad, Ai, Ab, Ae⟩ := M.q5 2 rfl
 obtain ⟨tP, Af, Ac, Aj, Ag, Aa⟩ := M.q5 3 rfl
 go_call (sRunBy_v ts (some ⟨b', off, none⟩) A1 A2 c0 ks.length c1 fs.length c2 tn st wk m HY.out.1 _ ht (H.out.below M.below).1) as r W2 ⟨rfl, g1⟩
 clear tX Ah Ad Ai Ab Ae tP Af Ac Aj Ag Aa
 replace M := M.call g1
 clear g1
 obtain ⟨tX, Ah, Ad, Ai, Ab, Ae⟩ := M.q5 2 rfl
 obtain ⟨tP, Af, Ac, Aj, Ag, Aa⟩ := M.q5 3 rfl
 go_wp2_with fail
 go_call (l6May_v a b c d e ts ks fs (some ⟨b', off, none⟩) A1 A2 c0 c1 c2 tn st wk true HY.out.2.1 _ ht hk hf (H.out.below M.below)) as r W3 ⟨rfl, g1⟩
 clear tX Ah Ad Ai Ab Ae tP Af Ac Aj Ag Aa
 replace M := M.call g1
 clear g1
 obtain ⟨tX, Ah, Ad, Ai, Ab, Ae⟩ := M.q5 2 rfl
 obtain ⟨tP, Af, Ac, Aj, Ag, Aa⟩ := M.q5 3 rfl
 go_wp2_with fail
 go_call (l5Has_v ts (some ⟨b', off, none⟩) A1 A2 c0 ks.length c1 fs.length c2 tn st k true HY.out.2.2.1 _ ht) as r W4 ⟨rfl, g1⟩
 clear tX Ah Ad Ai Ab Ae tP Af Ac Aj Ag Aa
 replace M := M.call g1
 clear g1
 obtain ⟨tX, Ah, Ad, Ai, Ab, Ae⟩ := M.q5 2 rfl
 obtain ⟨tP, Af, Ac, Aj, Ag, Aa⟩ := M.q5 3 rfl
 have ye0 : W4.cell? ⟨b', off + k * 7, none⟩ = some (.int .i64 s) := (M.below.cell (p := ⟨b', off + k * 7, none⟩) hb').trans z0
 go_wp2_with fail
 clear tX Ah Ad Ai Ab Ae tP Af Ac Aj Ag Aa
 refine wp_region_T (S := (fun w' => w'.cell? ⟨w.heap.size, 0, none⟩ = some (.int .i64 a) ∧ w'.cell? ⟨w.heap.size, 1, none⟩ = some (.int .i64 b) ∧ w'.cell? ⟨w.heap.size, 2, none⟩ = some (.int .i64 c) ∧ w'.cell? ⟨w.heap.size, 3, none⟩ = some (.int .i64 d) ∧ w'.cell? ⟨w.heap.size, 4, none⟩ = some (.int .i64 e) ∧ w'.cell? ⟨w.heap.size + 1, 0, none⟩ = some (.slice (some ⟨b', off, none⟩) ts.length c0) ∧ w'.cell? ⟨w.heap.size + 1, 1, none⟩ = some (.slice A1 ks.length c1) ∧ w'.cell? ⟨w.heap.size + 1, 2, none⟩ = some (.slice A2 fs.length c2) ∧ w'.cell? ⟨w.heap.size + 1, 3, none⟩ = some (.int .i64 tn) ∧ w'.cell? ⟨w.heap.size + 1, 4, none⟩ = some (.bool st))) (ks := []) (by kernel_rfl) ⟨M.cell 3 0 rfl, M.cell 3 1 rfl, M.cell 3 2 rfl, M.cell 3 3 rfl, M.cell 3 4 rfl, M.cell 2 0 rfl, M.cell 2 1 rfl, M.cell 2 2 rfl, M.cell 2 3 rfl, M.cell 2 4 rfl⟩ (fun hHeld => ?_)
 replace M := M.drew
 generalize W4.drew = W5 at M hHeld ⊢
 refine tkLa 0 _ rfl hHeld ?_
 try simp only [Act.put, zI, zZ, zS]
 refine tkLa 1 _ rfl hHeld ?_
 try simp only [Act.put, zI, zZ, zS]
 refine tkLa 2 _ rfl hHeld ?_
 try simp only [Act.put, zI, zZ, zS]
 refine tkYa 4 _ rfl (fun _ => hHeld) ?_
 try simp only [Act.put, zI, zZ, zS]
 refine tkYa 5 _ rfl (fun _ => hHeld) ?_
 try simp only [Act.put, zI, zZ, zS]
 refine tkYa 7 _ rfl (fun _ => hHeld) ?_
 try simp only [Act.put, zI, zZ, zS]
 refine wpAnyT_callL (i := 3) rfl (by kernel_rfl) (fun K hK => ?_)
 go_simp
 refine (l3Copy_s ts ks fs (some ⟨b', off, none⟩) A1 A2 c0 c1 c2 tn st _ ht hk hf (H.out.below M.below)).mono ?_
 rintro r W6 ⟨C0, C1, C2, e0, e1, e2, rfl, g1⟩
 replace M := Sep.new M g1
 simp only [zC, zN] at M
 clear g1 hHeld
 go_wp2_with fail
 refine hK.out _ _ ?_ (fun hHeld => ?_)
 ·exact M.c10 6 5 rfl rfl
 clear hK K
 try simp only [Act.put, zI, zZ, zS]
 refine wpAnyT_callL (i := 6) rfl (by kernel_rfl) (fun K hK => ?_)
 go_simp
 refine (l5Park_s ts _ _ _ _ _ _ _ _ tn st m s2 l2 o2 wt2 on2 v2 t2 1 k _ ht (by omega) (by omega) HY.out.2.2.2.2.1 (M.here _ (List.mem_cons_self))).mono ?_
 rintro r W7 ⟨rfl, g1⟩
 replace M := Sep.comp (ps := [rT ts.length C0 e0 ts]) M g1
 simp only [zC, zN] at M
 clear g1 hHeld
 go_wp2_with fail
 refine hK.out _ _ ?_ (fun hHeld => ?_)
 ·exact M.c10 6 5 rfl rfl
 clear hK K
 try simp only [Act.put, zI, zZ, zS]
 refine wpAnyT_callL (i := 8) rfl (by kernel_rfl) (fun K hK => ?_)
 go_simp
 refine (hDn.out _ _ _ _ _ _ [.blk (w.heap.size + 3) 38 #[.int .i64 0, .int .i64 0], .blk (w.heap.size + 2) 35 #[.slice none 0 0, .slice none 0 0, .slice none 0 0, .int .i64 0, .bool false], .blk (w.heap.size + 1) 35 #[.slice (some ⟨b', off, none⟩) ts.length c0, .slice A1 ks.length c1, .slice A2 fs.length c2, .int .i64 tn, .bool st], .blk (w.heap.size) 28 #[.int .i64 a, .int .i64 b, .int .i64 c, .int .i64 d, .int .i64 e]] _ (H.out.below M.below) M).mono ?_
 rintro r W8 ⟨B0, B1, B2, d0, d1, d2, rfl, g1⟩
 replace M := Sep.comp (ps := [rT ts.length C0 e0 (ts.set m (parkT ⟨s2, l2, o2, wt2, on2, v2, t2⟩ tn 1 k)), rK ks.length C1 e1 ks, rF fs.length C2 e2 fs]) M g1
 simp only [zC, zN] at M
 clear g1 hHeld
 go_wp2_with fail
 refine hK.out _ _ ?_ (fun hHeld => ?_)
 ·exact M.c10 6 5 rfl rfl
 clear hK K
 try simp only [Act.put, zI, zZ, zS]
 refine tkYa 9 _ rfl (fun _ => hHeld) ?_
 try simp only [Act.put, zI, zZ, zS]
 refine tkYa 10 _ rfl (fun _ => hHeld) ?_
 try simp only [Act.put, zI, zZ, zS]
 obtain ⟨tR, Aq, Ar, Ap, Aw, An, Ax, Ak, Av, Al, Au⟩ := M.f5 4 rfl
 refine wpAnyT_callL (i := 11) rfl (by kernel_rfl) (fun K hK => ?_)
 go_simp
 clear tR Aq Ar Ap Aw An Ax Ak Av Al Au
 replace M := M.gset5 4 rfl (.slice B0 o.ts.length d0) (.slice B1 o.ks.length d1) (.slice B2 o.fs.length d2) (.int .i64 o.tn) (.bool o.st)
 obtain ⟨W9, eW, M⟩ := M
 rw [eW]
 clear eW
 simp only [zZ, zS] at M
 clear hHeld
 refine hK.out _ _ ?_ (fun hHeld => ?_)
 ·exact M.c10 6 5 rfl rfl
 clear hK K
 try simp only [Act.put, zI, zZ, zS]
 obtain ⟨tS, Am, At, Ao, As⟩ := M.f2 3 rfl
 refine wpAnyT_callL (i := 12) rfl (by kernel_rfl) (fun K hK => ?_)
 go_simp
 clear tS Am At Ao As
 replace M := M.gset2 3 rfl (.int .i64 o.rp) (.int .i64 o.ou)
 obtain ⟨W10, eW, M⟩ := M
 rw [eW]
 clear eW
 simp only [zZ, zS] at M
 clear hHeld
 refine hK.out _ _ ?_ (fun hHeld => ?_)
 ·exact M.c10 6 5 rfl rfl
 clear hK K
 try simp only [Act.put, zI, zZ, zS]
 refine wpAnyT_done (by kernel_rfl) ?_ _
 go_wp2_with fail
 obtain ⟨tS, Am, Ao⟩ := M.q2 3 rfl
 obtain ⟨tR, Aq, Ap, An, Ak, Al⟩ := M.q5 4 rfl
 exact bodyPost_ret (by simp [results, Tryz.results27, go_sem, Aq, Ap, An, Ak, Al, Am, Ao]) rfl ⟨B0, B1, B2, d0, d1, d2, rfl, M.take 3⟩
set_option maxHeartbeats 4000000
set_option maxRecDepth 100000
theorem stopped_may (wk : Int) (w : World) (ht : ts.length ≤ 1048576) (hk : ks.length ≤ 1048576) (hf : fs.length ≤ 1048576) (h : InPool w ts ks fs A0 A1 A2) (hm : mayB a b c d e ts ks fs tn wk = false) :
 Calls Tryz.prog 163 #[qF a b c d e, qP ts ks fs A0 A1 A2 c0 c1 c2 tn st, .int .i64 wk] w (GaveS [] w (noO (poolB a b c d e ts ks fs tn) ts ks fs tn st 8)) := by
 unfold qF qP
 have H := hide h
 clear h
 have hNo := hide (fun V => l6No_s a b c d e ts ks fs A0 A1 A2 c0 c1 c2 tn st 8 V ht hk hf)
 generalize noO (poolB a b c d e ts ks fs tn) ts ks fs tn st 8 = o at hNo ⊢
 have HY := hide (⟨hm, trivial⟩ : _ ∧ True)
 clear hm
 go_enter Tryz.func163, Tryz.ntmps163
 go_wp2_with fail
 generalize hW : (((w.alloc _).alloc _).alloc _).alloc _ = W1
 have M := Sep.e4 hW
 clear hW
 obtain ⟨tX, Ao, Ai, Ap, Ae, Aj⟩ := M.q5 2 rfl
 obtain ⟨tP, Al, Ah, Aq, Am, Ad⟩ := M.q5 3 rfl
 go_call (l6May_v a b c d e ts ks fs A0 A1 A2 c0 c1 c2 tn st wk false HY.out.1 _ ht hk hf (H.out.below M.below)) as r W2 ⟨rfl, g1⟩
 clear tX Ao Ai Ap Ae Aj tP Al Ah Aq Am Ad
 replace M := M.call g1
 clear g1
 obtain ⟨tX, Ao, Ai, Ap, Ae, Aj⟩ := M.q5 2 rfl
 obtain ⟨tP, Al, Ah, Aq, Am, Ad⟩ := M.q5 3 rfl
 go_wp2_with fail
 go_call (hNo.out _ (H.out.below M.below)) as r W3 ⟨B0, B1, B2, d0, d1, d2, rfl, g1⟩
 clear tX Ao Ai Ap Ae Aj tP Al Ah Aq Am Ad
 replace M := Sep.new M g1
 simp only [zC, zN] at M
 clear g1
 obtain ⟨tS, Ac, At, Ag, Ar⟩ := M.f2 3 rfl
 obtain ⟨tR, An, As, Ak, Aw, Af, Ax, Aa, Av, Ab, Au⟩ := M.f5 4 rfl
 go_wp2_with fail
 clear tS Ac At Ag Ar tR An As Ak Aw Af Ax Aa Av Ab Au
 replace M := M.gset5 4 rfl (.slice B0 o.ts.length d0) (.slice B1 o.ks.length d1) (.slice B2 o.fs.length d2) (.int .i64 o.tn) (.bool o.st)
 obtain ⟨W4, eW, M⟩ := M
 rw [eW]
 clear eW
 simp only [zZ, zS] at M
 replace M := M.gset2 3 rfl (.int .i64 o.rp) (.int .i64 o.ou)
 obtain ⟨W5, eW, M⟩ := M
 rw [eW]
 clear eW
 simp only [zZ, zS] at M
 obtain ⟨tS, Ac, Ag⟩ := M.q2 3 rfl
 obtain ⟨tR, An, Ak, Af, Aa, Ab⟩ := M.q5 4 rfl
 exact bodyPost_ret (by simp [results, Tryz.results163, go_sem, An, Ak, Af, Aa, Ab, Ac, Ag]) rfl ⟨B0, B1, B2, d0, d1, d2, rfl, M.take 3⟩
theorem stopped_stop (a b c d e : Int) (ts : List T7) (ks : List Int) (fs : List F2) (A0 A1 A2 : Option Addr) (c0 c1 c2 : Nat) (tn : Int) (wk : Int) (w : World) (ht : ts.length ≤ 1048576) (hk : ks.length ≤ 1048576) (hf : fs.length ≤ 1048576) (h : InPool w ts ks fs A0 A1 A2) (hm : mayB a b c d e ts ks fs tn wk = true) :
 Calls Tryz.prog 163 #[qF a b c d e, qP ts ks fs A0 A1 A2 c0 c1 c2 tn true, .int .i64 wk] w (GaveS [] w (noO (poolB a b c d e ts ks fs tn) ts ks fs tn true 6)) := by
 unfold qF qP
 have H := hide h
 clear h
 have hNo := hide (fun (V : World) (hV : InPool V ts ks fs A0 A1 A2) => l6No_s a b c d e ts ks fs A0 A1 A2 c0 c1 c2 tn true 6 V ht hk hf hV)
 generalize noO (poolB a b c d e ts ks fs tn) ts ks fs tn true 6 = o at hNo ⊢
 have HY := hide (⟨hm, trivial⟩ : _ ∧ True)
 clear hm
 go_enter Tryz.func163, Tryz.ntmps163
 go_wp2_with fail
 generalize hW : (((w.alloc _).alloc _).alloc _).alloc _ = W1
 have M := Sep.e4 hW
 clear hW
 obtain ⟨tX, Ao, Ai, Ap, Ae, Aj⟩ := M.q5 2 rfl
 obtain ⟨tP, Al, Ah, Aq, Am, Ad⟩ := M.q5 3 rfl
 go_call (l6May_v a b c d e ts ks fs A0 A1 A2 c0 c1 c2 tn true wk true HY.out.1 _ ht hk hf (H.out.below M.below)) as r W2 ⟨rfl, g1⟩
 clear tX Ao Ai Ap Ae Aj tP Al Ah Aq Am Ad
 replace M := M.call g1
 clear g1
 obtain ⟨tX, Ao, Ai, Ap, Ae, Aj⟩ := M.q5 2 rfl
 obtain ⟨tP, Al, Ah, Aq, Am, Ad⟩ := M.q5 3 rfl
 go_wp2_with fail
 go_call (hNo.out _ (H.out.below M.below)) as r W3 ⟨B0, B1, B2, d0, d1, d2, rfl, g1⟩
 clear tX Ao Ai Ap Ae Aj tP Al Ah Aq Am Ad
 replace M := Sep.new M g1
 simp only [zC, zN] at M
 clear g1
 obtain ⟨tS, Ac, At, Ag, Ar⟩ := M.f2 3 rfl
 obtain ⟨tR, An, As, Ak, Aw, Af, Ax, Aa, Av, Ab, Au⟩ := M.f5 4 rfl
 go_wp2_with fail
 clear tS Ac At Ag Ar tR An As Ak Aw Af Ax Aa Av Ab Au
 replace M := M.gset5 4 rfl (.slice B0 o.ts.length d0) (.slice B1 o.ks.length d1) (.slice B2 o.fs.length d2) (.int .i64 o.tn) (.bool o.st)
 obtain ⟨W4, eW, M⟩ := M
 rw [eW]
 clear eW
 simp only [zZ, zS] at M
 replace M := M.gset2 3 rfl (.int .i64 o.rp) (.int .i64 o.ou)
 obtain ⟨W5, eW, M⟩ := M
 rw [eW]
 clear eW
 simp only [zZ, zS] at M
 obtain ⟨tS, Ac, Ag⟩ := M.q2 3 rfl
 obtain ⟨tR, An, Ak, Af, Aa, Ab⟩ := M.q5 4 rfl
 exact bodyPost_ret (by simp [results, Tryz.results163, go_sem, An, Ak, Af, Aa, Ab, Ac, Ag]) rfl ⟨B0, B1, B2, d0, d1, d2, rfl, M.take 3⟩
def openN (ts : List T7) : Nat := (ts.filter fun t => openB t.s).length
theorem openN_le (ts : List T7) : openN ts ≤ ts.length := List.length_filter_le _ _
theorem openN_take (ts : List T7) (k : Nat) (x : T7) (h : ts[k]? = some x) : openN (ts.take (k + 1)) = openN (ts.take k) + (if openB x.s then 1 else 0) := by
 have hk : k < ts.length := by
  rcases Nat.lt_or_ge k ts.length with h1 | h1
  ·exact h1
  ·rw [List.getElem?_eq_none h1] at h; cases h
 rw [List.getElem?_eq_getElem hk] at h
 injection h with h
 subst h
 rw [openN, List.take_succ_eq_append_getElem hk, List.filter_append, List.length_append]
 by_cases ho : openB ts[k].s = true <;> simp [openN, ho]
set_option maxRecDepth 100000 in
set_option maxHeartbeats 4000000 in
theorem stopped_main (a b c d e : Int) (ts : List T7) (ks : List Int) (fs : List F2) (A0 A1 A2 : Option Addr) (c0 c1 c2 : Nat) (tn : Int) (wk : Int) (w : World) (ht : ts.length ≤ 1048576) (hk : ks.length ≤ 1048576) (hf : fs.length ≤ 1048576) (h : InPool w ts ks fs A0 A1 A2) (hm : mayB a b c d e ts ks fs tn wk = true) :
 Calls Tryz.prog 163 #[qF a b c d e, qP ts ks fs A0 A1 A2 c0 c1 c2 tn false, .int .i64 wk] w (GaveS [] w (⟨ts, ks, fs, tn, true, 1, (openN ts : Nat)⟩)) := by
 unfold qF qP
 have H := hide h
 clear h
 have HY := hide (⟨hm, trivial⟩ : _ ∧ True)
 clear hm
 go_enter Tryz.func163, Tryz.ntmps163
 go_wp2_with fail
 generalize hW : (((w.alloc _).alloc _).alloc _).alloc _ = W1
 have M := Sep.e4 hW
 clear hW
 obtain ⟨tX, Ah, Ad, Ai, Ab, Ae⟩ := M.q5 2 rfl
 obtain ⟨tP, Af, Ac, Aj, Ag, Aa⟩ := M.q5 3 rfl
 go_call (l6May_v a b c d e ts ks fs A0 A1 A2 c0 c1 c2 tn false wk true HY.out.1 _ ht hk hf (H.out.below M.below)) as r W2 ⟨rfl, g1⟩
 clear tX Ah Ad Ai Ab Ae tP Af Ac Aj Ag Aa
 replace M := M.call g1
 clear g1
 obtain ⟨tX, Ah, Ad, Ai, Ab, Ae⟩ := M.q5 2 rfl
 obtain ⟨tP, Af, Ac, Aj, Ag, Aa⟩ := M.q5 3 rfl
 go_wp2_with fail
 go_call (l3Copy_s ts ks fs A0 A1 A2 c0 c1 c2 tn false _ ht hk hf (H.out.below M.below)) as r W3 ⟨C0, C1, C2, e0, e1, e2, rfl, g1⟩
 clear tX Ah Ad Ai Ab Ae tP Af Ac Aj Ag Aa
 replace M := Sep.new M g1
 simp only [zC, zN] at M
 clear g1
 obtain ⟨tX, Ah, Ad, Ai, Ab, Ae⟩ := M.q5 5 rfl
 obtain ⟨tP, Af, Ac, Aj, Ag, Aa⟩ := M.q5 6 rfl
 go_wp2_with fail
 clear tX Ah Ad Ai Ab Ae tP Af Ac Aj Ag Aa
 replace M : Sep [] w (W3.alloc (.cells #[.slice C0 ts.length e0, .slice C1 ks.length e1, .slice C2 fs.length e2, .int .i64 tn, .bool true] 35)) [.blk (W3.heap.size) 35 #[.slice C0 ts.length e0, .slice C1 ks.length e1, .slice C2 fs.length e2, .int .i64 tn, .bool true], rT ts.length C0 e0 ts, rK ks.length C1 e1 ks, rF fs.length C2 e2 fs, .blk (w.heap.size + 3) 38 #[.int .i64 0, .int .i64 0], .blk (w.heap.size + 2) 35 #[.slice none 0 0, .slice none 0 0, .slice none 0 0, .int .i64 0, .bool false], .blk (w.heap.size + 1) 35 #[.slice A0 ts.length c0, .slice A1 ks.length c1, .slice A2 fs.length c2, .int .i64 tn, .bool false], .blk (w.heap.size) 28 #[.int .i64 a, .int .i64 b, .int .i64 c, .int .i64 d, .int .i64 e]] := M.alloc 35 #[.slice C0 ts.length e0, .slice C1 ks.length e1, .slice C2 fs.length e2, .int .i64 tn, .bool true] _ rfl
 generalize W3.alloc (.cells #[.slice C0 ts.length e0, .slice C1 ks.length e1, .slice C2 fs.length e2, .int .i64 tn, .bool true] 35) = W4 at M ⊢
 replace M : Sep [] w W4 [rT ts.length C0 e0 ts, rK ks.length C1 e1 ks, rF fs.length C2 e2 fs, .blk (W3.heap.size) 35 #[.slice C0 ts.length e0, .slice C1 ks.length e1, .slice C2 fs.length e2, .int .i64 tn, .bool true], .blk (w.heap.size + 3) 38 #[.int .i64 0, .int .i64 0], .blk (w.heap.size + 2) 35 #[.slice none 0 0, .slice none 0 0, .slice none 0 0, .int .i64 0, .bool false], .blk (w.heap.size + 1) 35 #[.slice A0 ts.length c0, .slice A1 ks.length c1, .slice A2 fs.length c2, .int .i64 tn, .bool false], .blk (w.heap.size) 28 #[.int .i64 a, .int .i64 b, .int .i64 c, .int .i64 d, .int .i64 e]] := Sep.back (l1 := [rT ts.length C0 e0 ts, rK ks.length C1 e1 ks, rF fs.length C2 e2 fs]) M
 have hy0 : W4.heap.size = W4.heap.size := rfl
 clear hy0
 go_loopw [9, 10] (fun n i wr => ∃ (k : Nat), k ≤ ts.length ∧ i = .int .i64 k ∧ n = .int .i64 (openN (ts.take k) : Nat) ∧ Sep [] w wr [rT ts.length C0 e0 ts, rK ks.length C1 e1 ks, rF fs.length C2 e2 fs, .blk (W3.heap.size) 35 #[.slice C0 ts.length e0, .slice C1 ks.length e1, .slice C2 fs.length e2, .int .i64 tn, .bool true], .blk (w.heap.size + 3) 38 #[.int .i64 0, .int .i64 0], .blk (w.heap.size + 2) 35 #[.slice none 0 0, .slice none 0 0, .slice none 0 0, .int .i64 0, .bool false], .blk (w.heap.size + 1) 35 #[.slice A0 ts.length c0, .slice A1 ks.length c1, .slice A2 fs.length c2, .int .i64 tn, .bool false], .blk (w.heap.size) 28 #[.int .i64 a, .int .i64 b, .int .i64 c, .int .i64 d, .int .i64 e]]) (fun _ i _ => ts.length - (intOf i).toNat)
 case atStart => exact ⟨0, Nat.zero_le _, rfl, by simp [openN], M⟩
 case round =>
  clear M
  obtain ⟨k, hk', rfl, rfl, M⟩ := hrel
  have hol := openN_le (ts.take k)
  rw [List.length_take] at hol
  obtain ⟨tY, Am, Au, Az, Aw, Ay, Ax, At, Al, Ap, Ao⟩ := M.f5 3 rfl
  obtain ⟨tS, Aq, Bi, As, Bc⟩ := M.f2 4 rfl
  obtain ⟨tR, Ba, Bd, Av, Bp, Ar, Bq, Ak, Bn, An, Bm⟩ := M.f5 5 rfl
  obtain ⟨tX, Ah, Bf, Ad, Bg, Ai, Be, Ab, Br, Ae, Bb⟩ := M.f5 6 rfl
  obtain ⟨tP, Af, Bh, Ac, Bo, Aj, Bj, Ag, Bk, Aa, Bl⟩ := M.f5 7 rfl
  by_cases hlt : k < ts.length
  ·obtain ⟨b', off, s, l, o1, wt, on, v, t, rfl, _, hts, hb', z0, z1, z2, z3, z4, z5, z6⟩ := H.out.1.ts_at hlt
   have hot := openN_take ts k _ hts
   simp only at hot
   clear hts
   have ye0 : wr.cell? ⟨b', off + k * 7, none⟩ = some (.int .i64 s) := (M.below.cell (p := ⟨b', off + k * 7, none⟩) hb').trans z0
   have ye1 : wr.cell? ⟨b', off + k * 7 + 1, none⟩ = some (.int .i64 l) := (M.below.cell (p := ⟨b', off + k * 7 + 1, none⟩) hb').trans z1
   have ye2 : wr.cell? ⟨b', off + k * 7 + 2, none⟩ = some (.int .i64 o1) := (M.below.cell (p := ⟨b', off + k * 7 + 2, none⟩) hb').trans z2
   have ye3 : wr.cell? ⟨b', off + k * 7 + 3, none⟩ = some (.int .i64 wt) := (M.below.cell (p := ⟨b', off + k * 7 + 3, none⟩) hb').trans z3
   have ye4 : wr.cell? ⟨b', off + k * 7 + 4, none⟩ = some (.int .i64 on) := (M.below.cell (p := ⟨b', off + k * 7 + 4, none⟩) hb').trans z4
   have ye5 : wr.cell? ⟨b', off + k * 7 + 5, none⟩ = some (.int .i64 v) := (M.below.cell (p := ⟨b', off + k * 7 + 5, none⟩) hb').trans z5
   have ye6 : wr.cell? ⟨b', off + k * 7 + 6, none⟩ = some (.int .i64 t) := (M.below.cell (p := ⟨b', off + k * 7 + 6, none⟩) hb').trans z6
   clear z0 z1 z2 z3 z4 z5 z6
   rcases Bool.eq_false_or_eq_true (openB s) with ho | ho
   ·have hct : openN (ts.take (k + 1)) = openN (ts.take k) + 1 := by rw [hot, ho]; rfl
    have Hc := hide hct
    have HO := hide ho
    clear hct ho hot
    generalize openN (ts.take k) = m at *
    go_wp2_with fail
    go_call (sIsOpen_any s l o1 wt on v t _) as r W5 ⟨rfl, g1⟩
    clear tY Am Au Az Aw Ay Ax At Al Ap Ao tS Aq Bi As Bc tR Ba Bd Av Bp Ar Bq Ak Bn An Bm tX Ah Bf Ad Bg Ai Be Ab Br Ae Bb tP Af Bh Ac Bo Aj Bj Ag Bk Aa Bl
    replace M := M.call g1
    clear g1
    clear ye0 ye1 ye2 ye3 ye4 ye5 ye6
    rw [HO.out]
    obtain ⟨tY, Am, Au, Az, Aw, Ay, Ax, At, Al, Ap, Ao⟩ := M.f5 3 rfl
    obtain ⟨tX, Ah, Ad, Ai, Ab, Ae⟩ := M.q5 6 rfl
    obtain ⟨tP, Af, Ac, Aj, Ag, Aa⟩ := M.q5 7 rfl
    go_wp2_with fail
    go_roundw
    case rel => exact ⟨k + 1, by omega, by go_num, by rw [Hc.out]; go_num, M⟩
    case measure => simp [intOf]; omega
   ·have hct : openN (ts.take (k + 1)) = openN (ts.take k) := by rw [hot, ho]; rfl
    have Hc := hide hct
    have HO := hide ho
    clear hct ho hot
    generalize openN (ts.take k) = m at *
    go_wp2_with fail
    go_call (sIsOpen_any s l o1 wt on v t _) as r W5 ⟨rfl, g1⟩
    clear tY Am Au Az Aw Ay Ax At Al Ap Ao tS Aq Bi As Bc tR Ba Bd Av Bp Ar Bq Ak Bn An Bm tX Ah Bf Ad Bg Ai Be Ab Br Ae Bb tP Af Bh Ac Bo Aj Bj Ag Bk Aa Bl
    replace M := M.call g1
    clear g1
    clear ye0 ye1 ye2 ye3 ye4 ye5 ye6
    rw [HO.out]
    obtain ⟨tY, Am, Au, Az, Aw, Ay, Ax, At, Al, Ap, Ao⟩ := M.f5 3 rfl
    obtain ⟨tX, Ah, Ad, Ai, Ab, Ae⟩ := M.q5 6 rfl
    obtain ⟨tP, Af, Ac, Aj, Ag, Aa⟩ := M.q5 7 rfl
    go_wp2_with fail
    go_roundw
    case rel => exact ⟨k + 1, by omega, by go_num, by rw [Hc.out], M⟩
    case measure => simp [intOf]; omega
  ·obtain rfl : k = ts.length := by omega
   clear hol
   rw [List.take_length]
   go_wp2_with fail
   clear tY Am Au Az Aw Ay Ax At Al Ap Ao tS Aq Bi As Bc tR Ba Bd Av Bp Ar Bq Ak Bn An Bm tX Ah Bf Ad Bg Ai Be Ab Br Ae Bb tP Af Bh Ac Bo Aj Bj Ag Bk Aa Bl
   replace M := M.gset5 5 rfl (.slice C0 ts.length e0) (.slice C1 ks.length e1) (.slice C2 fs.length e2) (.int .i64 tn) (.bool true)
   obtain ⟨W5, eW, M⟩ := M
   rw [eW]
   clear eW
   simp only [zZ, zS] at M
   replace M := M.gset2 4 rfl (.int .i64 1) (.int .i64 (openN ts : Nat))
   obtain ⟨W6, eW, M⟩ := M
   rw [eW]
   clear eW
   simp only [zZ, zS] at M
   obtain ⟨tS, Aq, As⟩ := M.q2 4 rfl
   obtain ⟨tR, Ba, Av, Ar, Ak, An⟩ := M.q5 5 rfl
   exact bodyPost_ret (by simp [results, Tryz.results163, go_sem, Ba, Av, Ar, Ak, An, Aq, As]) rfl ⟨C0, C1, C2, e0, e1, e2, rfl, M.take 3⟩
end Go.Proofs.YtfkdfkoigojciaaGreatDoor
