/- Joined of the program and of the model answer alike. Lists no longer than a million. -/
import Derived.Test.YtfkdfkoigojciaaGreatDoorQB09
import Derived.Test.YtfkdfkoigojciaaGreatDoorQB07
import Derived.Test.YtfkdfkoigojciaaGreatDoorQB10
import Derived.Deep.RegionLaw
import Derived.BigRegion
import Derived.Shelf.Abstract
import Derived.Test.YtfkdfkoigojciaaGreatDoorQB12
import Derived.Test.YtfkdfkoigojciaaGreatDoorQB15
import Derived.Test.YtfkdfkoigojciaaGreatDoorQExactJoined01

namespace Go.Proofs.YtfkdfkoigojciaaGreatDoor
open Go.RowKit
set_option linter.unusedVariables false
set_option maxRecDepth 100000
set_option maxHeartbeats 4000000 in
theorem joined_done (a b c d e : Int) (ts : List T7) (ks : List Int) (fs : List F2) (A0 A1 A2 : Option Addr) (c0 c1 c2 : Nat) (tn : Int) (st : Bool) (wk : Int) (id : Int) (w : World) (ht : ts.length ≤ 1048576) (hk : ks.length ≤ 1048576) (hf : fs.length ≤ 1048576) (h : InPool w ts ks fs A0 A1 A2) (k : Nat) (s l o1 wt on v t : Int) (hid : id = k) (hts : ts[k]? = some ⟨s, l, o1, wt, on, v, t⟩) (hs : s = 4) (me : Int) (hme : runM ts wk 0 = me) (h0 : 0 ≤ me) (hne : ¬ (k : Int) = me) (hm : mayB a b c d e ts ks fs tn wk = true) (hh : btw id 0 (ts.length - 1) = true) :
 Calls Tryz.prog 27 #[.agg #[.int .i64 a, .int .i64 b, .int .i64 c, .int .i64 d, .int .i64 e], .agg #[.slice A0 ts.length c0, .slice A1 ks.length c1, .slice A2 fs.length c2, .int .i64 tn, .bool st], .int .i64 wk, .int .i64 id] w (GaveS [] w (⟨ts, ks, fs, tn, st, 1, v⟩)) := by
 have hkl : k < ts.length := by
  rcases Nat.lt_or_ge k ts.length with h1 | h1
  ·exact h1
  ·rw [List.getElem?_eq_none h1] at hts; cases hts
 subst hid
 obtain ⟨b', off, x0, x1, x2, x3, x4, x5, x6, rfl, _, he, hb', z0, z1, z2, z3, z4, z5, z6⟩ := h.1.ts_at hkl
 rw [hts] at he
 injection he with he
 injection he with u0 u1 u2 u3 u4 u5 u6
 subst u0 u1 u2 u3 u4 u5 u6
 have H := hide h
 clear h
 have HY := hide (⟨hme, hm, hh, hts, trivial⟩ : _ ∧ _ ∧ _ ∧ _ ∧ True)
 clear hme hm hh hts
 go_enter Tryz.func27, Tryz.ntmps27
 go_wp2_with fail
 generalize hW : (((w.alloc _).alloc _).alloc _).alloc _ = W1
 have M := Sep.e4 hW
 clear hW
 obtain ⟨tX, Ag, Af, Ab, Aa, Aj⟩ := M.q5 2 rfl
 obtain ⟨tP, Ae, Ac, Ad, Ah, Ai⟩ := M.q5 3 rfl
 go_call (sRunBy_v ts (some ⟨b', off, none⟩) A1 A2 c0 ks.length c1 fs.length c2 tn st wk me HY.out.1 _ ht (H.out.below M.below).1) as r W2 ⟨rfl, g1⟩
 clear tX Ag Af Ab Aa Aj tP Ae Ac Ad Ah Ai
 replace M := M.call g1
 clear g1
 obtain ⟨tX, Ag, Af, Ab, Aa, Aj⟩ := M.q5 2 rfl
 obtain ⟨tP, Ae, Ac, Ad, Ah, Ai⟩ := M.q5 3 rfl
 go_wp2_with fail
 go_call (l6May_v a b c d e ts ks fs (some ⟨b', off, none⟩) A1 A2 c0 c1 c2 tn st wk true HY.out.2.1 _ ht hk hf (H.out.below M.below)) as r W3 ⟨rfl, g1⟩
 clear tX Ag Af Ab Aa Aj tP Ae Ac Ad Ah Ai
 replace M := M.call g1
 clear g1
 obtain ⟨tX, Ag, Af, Ab, Aa, Aj⟩ := M.q5 2 rfl
 obtain ⟨tP, Ae, Ac, Ad, Ah, Ai⟩ := M.q5 3 rfl
 go_wp2_with fail
 go_call (l5Has_v ts (some ⟨b', off, none⟩) A1 A2 c0 ks.length c1 fs.length c2 tn st k true HY.out.2.2.1 _ ht) as r W4 ⟨rfl, g1⟩
 clear tX Ag Af Ab Aa Aj tP Ae Ac Ad Ah Ai
 replace M := M.call g1
 clear g1
 obtain ⟨tX, Ag, Af, Ab, Aa, Aj⟩ := M.q5 2 rfl
 obtain ⟨tP, Ae, Ac, Ad, Ah, Ai⟩ := M.q5 3 rfl
 have ye0 : W4.cell? ⟨b', off + k * 7, none⟩ = some (.int .i64 s) := (M.below.cell (p := ⟨b', off + k * 7, none⟩) hb').trans z0
 have ye5 : W4.cell? ⟨b', off + k * 7 + 5, none⟩ = some (.int .i64 v) := (M.below.cell (p := ⟨b', off + k * 7 + 5, none⟩) hb').trans z5
 go_wp2_with fail
 clear tX Ag Af Ab Aa Aj tP Ae Ac Ad Ah Ai
 refine wp_region_T (S := (fun w' => w'.cell? ⟨w.heap.size + 1, 0, none⟩ = some (.slice (some ⟨b', off, none⟩) ts.length c0) ∧ w'.cell? ⟨w.heap.size + 1, 1, none⟩ = some (.slice A1 ks.length c1) ∧ w'.cell? ⟨w.heap.size + 1, 2, none⟩ = some (.slice A2 fs.length c2) ∧ w'.cell? ⟨w.heap.size + 1, 3, none⟩ = some (.int .i64 tn) ∧ w'.cell? ⟨w.heap.size + 1, 4, none⟩ = some (.bool st) ∧ w'.cell? ⟨b', off + k * 7 + 5, none⟩ = some (.int .i64 v))) (ks := []) (by kernel_rfl) ⟨M.cell 2 0 rfl, M.cell 2 1 rfl, M.cell 2 2 rfl, M.cell 2 3 rfl, M.cell 2 4 rfl, (M.below.cell (p := ⟨b', off + k * 7 + 5, none⟩) hb').trans z5⟩ (fun hHeld => ?_)
 replace M := M.drew
 generalize W4.drew = W5 at M hHeld ⊢
 refine tkL 0 ?v0u1 rfl ?hy0u1 hHeld ?_
 case hy0u1 => (intro w hSw; (try dsimp only at hSw); go_split_ands; go_simp; all_goals with_reducible rfl)
 try simp only [Act.put, List.setIfInBounds_toArray, List.set_cons_zero, List.set_cons_succ]
 refine tkY 2 ?v2u2 rfl ?hy2u2 (fun _ => hHeld) ?_
 case hy2u2 => (intro w; go_simp; all_goals with_reducible rfl)
 try simp only [Act.put, List.setIfInBounds_toArray, List.set_cons_zero, List.set_cons_succ]
 refine tkL 3 ?v3u3 rfl ?hy3u3 hHeld ?_
 case hy3u3 => (intro w hSw; (try dsimp only at hSw); go_split_ands; go_simp; all_goals with_reducible rfl)
 try simp only [Act.put, List.setIfInBounds_toArray, List.set_cons_zero, List.set_cons_succ]
 refine tkY 4 ?v4u4 rfl ?hy4u4 (fun _ => hHeld) ?_
 case hy4u4 => (intro w; go_simp; all_goals with_reducible rfl)
 try simp only [Act.put, List.setIfInBounds_toArray, List.set_cons_zero, List.set_cons_succ]
 refine tkY 5 ?v5u5 rfl ?hy5u5 (fun _ => hHeld) ?_
 case hy5u5 => (intro w; go_simp; all_goals with_reducible rfl)
 try simp only [Act.put, List.setIfInBounds_toArray, List.set_cons_zero, List.set_cons_succ]
 refine tkY 6 ?v6u6 rfl ?hy6u6 (fun _ => hHeld) ?_
 case hy6u6 => (intro w; go_simp; all_goals with_reducible rfl)
 try simp only [Act.put, List.setIfInBounds_toArray, List.set_cons_zero, List.set_cons_succ]
 refine tkL 7 ?v7u7 rfl ?hy7u7 hHeld ?_
 case hy7u7 => (intro w hSw; (try dsimp only at hSw); go_split_ands; go_simp; all_goals with_reducible rfl)
 try simp only [Act.put, List.setIfInBounds_toArray, List.set_cons_zero, List.set_cons_succ]
 refine tkY 8 ?v8u8 rfl ?hy8u8 (fun _ => hHeld) ?_
 case hy8u8 => (intro w; go_simp; all_goals with_reducible rfl)
 try simp only [Act.put, List.setIfInBounds_toArray, List.set_cons_zero, List.set_cons_succ]
 refine wpAnyT_callL (i := 1) rfl (by kernel_rfl) (fun K hK => ?_)
 go_simp
 refine (l3Copy_s ts ks fs (some ⟨b', off, none⟩) A1 A2 c0 c1 c2 tn st _ ht hk hf (H.out.below M.below)).mono ?_
 rintro r W6 ⟨C0, C1, C2, e0, e1, e2, rfl, g1⟩
 replace M := Sep.new M g1
 simp only [List.cons_append, List.nil_append] at M
 clear g1 hHeld
 go_wp2_with fail
 refine hK.out _ _ ?_ (fun hHeld => ?_)
 ·exact ⟨M.cell 5 0 rfl, M.cell 5 1 rfl, M.cell 5 2 rfl, M.cell 5 3 rfl, M.cell 5 4 rfl, (M.below.cell (p := ⟨b', off + k * 7 + 5, none⟩) hb').trans z5⟩
 clear hK K
 try simp only [Act.put, List.setIfInBounds_toArray, List.set_cons_zero, List.set_cons_succ]
 obtain ⟨tR, An, Ax, Ao, Ar, Al, Au, Aq, At, Am, Aw⟩ := M.f5 4 rfl
 refine wpAnyT_callL (i := 9) rfl (by kernel_rfl) (fun K hK => ?_)
 go_simp
 clear tR An Ax Ao Ar Al Au Aq At Am Aw
 have N := M.gset5 4 rfl (.slice C0 ts.length e0) (.slice C1 ks.length e1) (.slice C2 fs.length e2) (.int .i64 tn) (.bool st)
 clear M
 obtain ⟨W7, eW, M⟩ := N
 rw [eW]
 clear eW
 simp only [List.set_cons_zero, List.set_cons_succ] at M
 clear hHeld
 refine hK.out _ _ ?_ (fun hHeld => ?_)
 ·exact ⟨M.cell 5 0 rfl, M.cell 5 1 rfl, M.cell 5 2 rfl, M.cell 5 3 rfl, M.cell 5 4 rfl, (M.below.cell (p := ⟨b', off + k * 7 + 5, none⟩) hb').trans z5⟩
 clear hK K
 try simp only [Act.put, List.setIfInBounds_toArray, List.set_cons_zero, List.set_cons_succ]
 obtain ⟨tS, Ak, As, Ap, Av⟩ := M.f2 3 rfl
 refine wpAnyT_callL (i := 10) rfl (by kernel_rfl) (fun K hK => ?_)
 go_simp
 clear tS Ak As Ap Av
 have N := M.gset2 3 rfl (.int .i64 1) (.int .i64 v)
 clear M
 obtain ⟨W8, eW, M⟩ := N
 rw [eW]
 clear eW
 simp only [List.set_cons_zero, List.set_cons_succ] at M
 clear hHeld
 refine hK.out _ _ ?_ (fun hHeld => ?_)
 ·exact ⟨M.cell 5 0 rfl, M.cell 5 1 rfl, M.cell 5 2 rfl, M.cell 5 3 rfl, M.cell 5 4 rfl, (M.below.cell (p := ⟨b', off + k * 7 + 5, none⟩) hb').trans z5⟩
 clear hK K
 try simp only [Act.put, List.setIfInBounds_toArray, List.set_cons_zero, List.set_cons_succ]
 refine wpAnyT_done (by kernel_rfl) ?_ _
 go_wp2_with fail
 obtain ⟨tS, Ak, Ap⟩ := M.q2 3 rfl
 obtain ⟨tR, An, Ao, Al, Aq, Am⟩ := M.q5 4 rfl
 exact bodyPost_ret (by simp [results, Tryz.results27, go_sem, An, Ao, Al, Aq, Am, Ak, Ap]) rfl ⟨C0, C1, C2, e0, e1, e2, rfl, M.take 3⟩
set_option maxHeartbeats 4000000 in
theorem joined_park (a b c d e : Int) (ts : List T7) (ks : List Int) (fs : List F2) (A0 A1 A2 : Option Addr) (c0 c1 c2 : Nat) (tn : Int) (st : Bool) (wk : Int) (id : Int) (w : World) (ht : ts.length ≤ 1048576) (hk : ks.length ≤ 1048576) (hf : fs.length ≤ 1048576) (h : InPool w ts ks fs A0 A1 A2) (k : Nat) (s l o1 wt on v t : Int) (hid : id = k) (hts : ts[k]? = some ⟨s, l, o1, wt, on, v, t⟩) (hs4 : ¬ s = 4) (hs5 : ¬ s = 5) (m : Nat) (s2 l2 o2 wt2 on2 v2 t2 : Int) (ht2 : ts[m]? = some ⟨s2, l2, o2, wt2, on2, v2, t2⟩) (hme : runM ts wk 0 = m) (hne : ¬ (k : Int) = m) (hne' : ¬ k = m) (hm : mayB a b c d e ts ks fs tn wk = true) (hh : btw id 0 (ts.length - 1) = true) :
 Calls Tryz.prog 27 #[.agg #[.int .i64 a, .int .i64 b, .int .i64 c, .int .i64 d, .int .i64 e], .agg #[.slice A0 ts.length c0, .slice A1 ks.length c1, .slice A2 fs.length c2, .int .i64 tn, .bool st], .int .i64 wk, .int .i64 id] w (GaveS [] w (doneO (poolB a b c d e (ts.set m (parkT ⟨s2, l2, o2, wt2, on2, v2, t2⟩ tn 1 k)) ks fs (tn + 1)) ts ks fs tn st (ts.set m (parkT ⟨s2, l2, o2, wt2, on2, v2, t2⟩ tn 1 k)) ks fs (tn + 1) st 7 (m : Int))) := by
 have hkl : k < ts.length := by
  rcases Nat.lt_or_ge k ts.length with h1 | h1
  ·exact h1
  ·rw [List.getElem?_eq_none h1] at hts; cases hts
 subst hid
 obtain ⟨b', off, x0, x1, x2, x3, x4, x5, x6, rfl, _, he, hb', z0, z1, z2, z3, z4, z5, z6⟩ := h.1.ts_at hkl
 rw [hts] at he
 injection he with he
 injection he with u0 u1 u2 u3 u4 u5 u6
 subst u0 u1 u2 u3 u4 u5 u6
 have H := hide h
 clear h
 have hpo : poolB a b c d e ts ks fs tn = true := by
  have h1 := hm
  simp only [mayB, Bool.and_eq_true] at h1
  exact h1.1
 have tb : 0 ≤ tn ∧ tn ≤ 1000000 := by
  have h1 := hpo
  simp only [poolB, Bool.and_eq_true] at h1
  have h2 := h1.2.1
  simp [btw] at h2
  exact h2
 obtain ⟨tb0, tb1⟩ := tb
 have hDn := hide (fun (A0x A1x A2x : Option Addr) (c0x c1x c2x : Nat) (rs : List Res) (V : World) (h1 : InPool V ts ks fs (some ⟨b', off, none⟩) A1 A2) (h2 : Sep [] w V ([rT ts.length A0x c0x (ts.set m (parkT ⟨s2, l2, o2, wt2, on2, v2, t2⟩ tn 1 k)), rK ks.length A1x c1x ks, rF fs.length A2x c2x fs] ++ rs)) => l6Done_s a b c d e ts ks fs (some ⟨b', off, none⟩) A1 A2 c0 c1 c2 tn st ts.length ks.length fs.length (ts.set m (parkT ⟨s2, l2, o2, wt2, on2, v2, t2⟩ tn 1 k)) ks fs A0x A1x A2x c0x c1x c2x ((tn + 1)) st 7 ((m : Int)) V (by simp) rfl rfl hpo ht hk hf ht hk hf h1 h2)
 clear hpo
 generalize doneO (poolB a b c d e (ts.set m (parkT ⟨s2, l2, o2, wt2, on2, v2, t2⟩ tn 1 k)) ks fs (tn + 1)) ts ks fs tn st (ts.set m (parkT ⟨s2, l2, o2, wt2, on2, v2, t2⟩ tn 1 k)) ks fs (tn + 1) st 7 (m : Int) = o at hDn ⊢
 have HY := hide (⟨hme, hm, hh, hts, ht2, trivial⟩ : _ ∧ _ ∧ _ ∧ _ ∧ _ ∧ True)
 clear hme hm hh hts ht2
 go_enter Tryz.func27, Tryz.ntmps27
 go_wp2_with fail
 generalize hW : (((w.alloc _).alloc _).alloc _).alloc _ = W1
 have M := Sep.e4 hW
 clear hW
 obtain ⟨tX, Ag, Af, Ab, Aa, Aj⟩ := M.q5 2 rfl
 obtain ⟨tP, Ae, Ac, Ad, Ah, Ai⟩ := M.q5 3 rfl
 go_call (sRunBy_v ts (some ⟨b', off, none⟩) A1 A2 c0 ks.length c1 fs.length c2 tn st wk m HY.out.1 _ ht (H.out.below M.below).1) as r W2 ⟨rfl, g1⟩
 clear tX Ag Af Ab Aa Aj tP Ae Ac Ad Ah Ai
 replace M := M.call g1
 clear g1
 obtain ⟨tX, Ag, Af, Ab, Aa, Aj⟩ := M.q5 2 rfl
 obtain ⟨tP, Ae, Ac, Ad, Ah, Ai⟩ := M.q5 3 rfl
 go_wp2_with fail
 go_call (l6May_v a b c d e ts ks fs (some ⟨b', off, none⟩) A1 A2 c0 c1 c2 tn st wk true HY.out.2.1 _ ht hk hf (H.out.below M.below)) as r W3 ⟨rfl, g1⟩
 clear tX Ag Af Ab Aa Aj tP Ae Ac Ad Ah Ai
 replace M := M.call g1
 clear g1
 obtain ⟨tX, Ag, Af, Ab, Aa, Aj⟩ := M.q5 2 rfl
 obtain ⟨tP, Ae, Ac, Ad, Ah, Ai⟩ := M.q5 3 rfl
 go_wp2_with fail
 go_call (l5Has_v ts (some ⟨b', off, none⟩) A1 A2 c0 ks.length c1 fs.length c2 tn st k true HY.out.2.2.1 _ ht) as r W4 ⟨rfl, g1⟩
 clear tX Ag Af Ab Aa Aj tP Ae Ac Ad Ah Ai
 replace M := M.call g1
 clear g1
 obtain ⟨tX, Ag, Af, Ab, Aa, Aj⟩ := M.q5 2 rfl
 obtain ⟨tP, Ae, Ac, Ad, Ah, Ai⟩ := M.q5 3 rfl
 have ye0 : W4.cell? ⟨b', off + k * 7, none⟩ = some (.int .i64 s) := (M.below.cell (p := ⟨b', off + k * 7, none⟩) hb').trans z0
 go_wp2_with fail
 clear tX Ag Af Ab Aa Aj tP Ae Ac Ad Ah Ai
 refine wp_region_T (S := (fun w' => w'.cell? ⟨w.heap.size, 0, none⟩ = some (.int .i64 a) ∧ w'.cell? ⟨w.heap.size, 1, none⟩ = some (.int .i64 b) ∧ w'.cell? ⟨w.heap.size, 2, none⟩ = some (.int .i64 c) ∧ w'.cell? ⟨w.heap.size, 3, none⟩ = some (.int .i64 d) ∧ w'.cell? ⟨w.heap.size, 4, none⟩ = some (.int .i64 e) ∧ w'.cell? ⟨w.heap.size + 1, 0, none⟩ = some (.slice (some ⟨b', off, none⟩) ts.length c0) ∧ w'.cell? ⟨w.heap.size + 1, 1, none⟩ = some (.slice A1 ks.length c1) ∧ w'.cell? ⟨w.heap.size + 1, 2, none⟩ = some (.slice A2 fs.length c2) ∧ w'.cell? ⟨w.heap.size + 1, 3, none⟩ = some (.int .i64 tn) ∧ w'.cell? ⟨w.heap.size + 1, 4, none⟩ = some (.bool st))) (ks := []) (by kernel_rfl) ⟨M.cell 3 0 rfl, M.cell 3 1 rfl, M.cell 3 2 rfl, M.cell 3 3 rfl, M.cell 3 4 rfl, M.cell 2 0 rfl, M.cell 2 1 rfl, M.cell 2 2 rfl, M.cell 2 3 rfl, M.cell 2 4 rfl⟩ (fun hHeld => ?_)
 replace M := M.drew
 generalize W4.drew = W5 at M hHeld ⊢
 refine tkL 0 ?v0u9 rfl ?hy0u9 hHeld ?_
 case hy0u9 => (intro w hSw; (try dsimp only at hSw); go_split_ands; go_simp; all_goals with_reducible rfl)
 try simp only [Act.put, List.setIfInBounds_toArray, List.set_cons_zero, List.set_cons_succ]
 refine tkL 1 ?v1u10 rfl ?hy1u10 hHeld ?_
 case hy1u10 => (intro w hSw; (try dsimp only at hSw); go_split_ands; go_simp; all_goals with_reducible rfl)
 try simp only [Act.put, List.setIfInBounds_toArray, List.set_cons_zero, List.set_cons_succ]
 refine tkL 2 ?v2u11 rfl ?hy2u11 hHeld ?_
 case hy2u11 => (intro w hSw; (try dsimp only at hSw); go_split_ands; go_simp; all_goals with_reducible rfl)
 try simp only [Act.put, List.setIfInBounds_toArray, List.set_cons_zero, List.set_cons_succ]
 refine tkY 4 ?v4u12 rfl ?hy4u12 (fun _ => hHeld) ?_
 case hy4u12 => (intro w; go_simp; all_goals with_reducible rfl)
 try simp only [Act.put, List.setIfInBounds_toArray, List.set_cons_zero, List.set_cons_succ]
 refine tkY 5 ?v5u13 rfl ?hy5u13 (fun _ => hHeld) ?_
 case hy5u13 => (intro w; go_simp; all_goals with_reducible rfl)
 try simp only [Act.put, List.setIfInBounds_toArray, List.set_cons_zero, List.set_cons_succ]
 refine tkY 7 ?v7u14 rfl ?hy7u14 (fun _ => hHeld) ?_
 case hy7u14 => (intro w; go_simp; all_goals with_reducible rfl)
 try simp only [Act.put, List.setIfInBounds_toArray, List.set_cons_zero, List.set_cons_succ]
 refine wpAnyT_callL (i := 3) rfl (by kernel_rfl) (fun K hK => ?_)
 go_simp
 refine (l3Copy_s ts ks fs (some ⟨b', off, none⟩) A1 A2 c0 c1 c2 tn st _ ht hk hf (H.out.below M.below)).mono ?_
 rintro r W6 ⟨C0, C1, C2, e0, e1, e2, rfl, g1⟩
 replace M := Sep.new M g1
 simp only [List.cons_append, List.nil_append] at M
 clear g1 hHeld
 go_wp2_with fail
 refine hK.out _ _ ?_ (fun hHeld => ?_)
 ·exact ⟨M.cell 6 0 rfl, M.cell 6 1 rfl, M.cell 6 2 rfl, M.cell 6 3 rfl, M.cell 6 4 rfl, M.cell 5 0 rfl, M.cell 5 1 rfl, M.cell 5 2 rfl, M.cell 5 3 rfl, M.cell 5 4 rfl⟩
 clear hK K
 try simp only [Act.put, List.setIfInBounds_toArray, List.set_cons_zero, List.set_cons_succ]
 refine wpAnyT_callL (i := 6) rfl (by kernel_rfl) (fun K hK => ?_)
 go_simp
 refine (l5Park_s ts _ _ _ _ _ _ _ _ tn st m s2 l2 o2 wt2 on2 v2 t2 1 k _ ht (by omega) (by omega) HY.out.2.2.2.2.1 (M.here _ (List.mem_cons_self))).mono ?_
 rintro r W7 ⟨rfl, g1⟩
 replace M := Sep.comp (ps := [rT ts.length C0 e0 ts]) M g1
 simp only [List.cons_append, List.nil_append] at M
 clear g1 hHeld
 go_wp2_with fail
 refine hK.out _ _ ?_ (fun hHeld => ?_)
 ·exact ⟨M.cell 6 0 rfl, M.cell 6 1 rfl, M.cell 6 2 rfl, M.cell 6 3 rfl, M.cell 6 4 rfl, M.cell 5 0 rfl, M.cell 5 1 rfl, M.cell 5 2 rfl, M.cell 5 3 rfl, M.cell 5 4 rfl⟩
 clear hK K
 try simp only [Act.put, List.setIfInBounds_toArray, List.set_cons_zero, List.set_cons_succ]
 refine wpAnyT_callL (i := 8) rfl (by kernel_rfl) (fun K hK => ?_)
 go_simp
 refine (hDn.out _ _ _ _ _ _ [.blk (w.heap.size + 3) 38 #[.int .i64 0, .int .i64 0], .blk (w.heap.size + 2) 35 #[.slice none 0 0, .slice none 0 0, .slice none 0 0, .int .i64 0, .bool false], .blk (w.heap.size + 1) 35 #[.slice (some ⟨b', off, none⟩) ts.length c0, .slice A1 ks.length c1, .slice A2 fs.length c2, .int .i64 tn, .bool st], .blk (w.heap.size) 28 #[.int .i64 a, .int .i64 b, .int .i64 c, .int .i64 d, .int .i64 e]] _ (H.out.below M.below) M).mono ?_
 rintro r W8 ⟨B0, B1, B2, d0, d1, d2, rfl, g1⟩
 replace M := Sep.comp (ps := [rT ts.length C0 e0 (ts.set m (parkT ⟨s2, l2, o2, wt2, on2, v2, t2⟩ tn 1 k)), rK ks.length C1 e1 ks, rF fs.length C2 e2 fs]) M g1
 simp only [List.cons_append, List.nil_append] at M
 clear g1 hHeld
 go_wp2_with fail
 refine hK.out _ _ ?_ (fun hHeld => ?_)
 ·exact ⟨M.cell 6 0 rfl, M.cell 6 1 rfl, M.cell 6 2 rfl, M.cell 6 3 rfl, M.cell 6 4 rfl, M.cell 5 0 rfl, M.cell 5 1 rfl, M.cell 5 2 rfl, M.cell 5 3 rfl, M.cell 5 4 rfl⟩
 clear hK K
 try simp only [Act.put, List.setIfInBounds_toArray, List.set_cons_zero, List.set_cons_succ]
 refine tkY 9 ?v9u15 rfl ?hy9u15 (fun _ => hHeld) ?_
 case hy9u15 => (intro w; go_simp; all_goals with_reducible rfl)
 try simp only [Act.put, List.setIfInBounds_toArray, List.set_cons_zero, List.set_cons_succ]
 refine tkY 10 ?v10u16 rfl ?hy10u16 (fun _ => hHeld) ?_
 case hy10u16 => (intro w; go_simp; all_goals with_reducible rfl)
 try simp only [Act.put, List.setIfInBounds_toArray, List.set_cons_zero, List.set_cons_succ]
 obtain ⟨tR, An, Ax, Ao, Ar, Al, Au, Aq, At, Am, Aw⟩ := M.f5 4 rfl
 refine wpAnyT_callL (i := 11) rfl (by kernel_rfl) (fun K hK => ?_)
 go_simp
 clear tR An Ax Ao Ar Al Au Aq At Am Aw
 have N := M.gset5 4 rfl (.slice B0 o.ts.length d0) (.slice B1 o.ks.length d1) (.slice B2 o.fs.length d2) (.int .i64 o.tn) (.bool o.st)
 clear M
 obtain ⟨W9, eW, M⟩ := N
 rw [eW]
 clear eW
 simp only [List.set_cons_zero, List.set_cons_succ] at M
 clear hHeld
 refine hK.out _ _ ?_ (fun hHeld => ?_)
 ·exact ⟨M.cell 6 0 rfl, M.cell 6 1 rfl, M.cell 6 2 rfl, M.cell 6 3 rfl, M.cell 6 4 rfl, M.cell 5 0 rfl, M.cell 5 1 rfl, M.cell 5 2 rfl, M.cell 5 3 rfl, M.cell 5 4 rfl⟩
 clear hK K
 try simp only [Act.put, List.setIfInBounds_toArray, List.set_cons_zero, List.set_cons_succ]
 obtain ⟨tS, Ak, As, Ap, Av⟩ := M.f2 3 rfl
 refine wpAnyT_callL (i := 12) rfl (by kernel_rfl) (fun K hK => ?_)
 go_simp
 clear tS Ak As Ap Av
 have N := M.gset2 3 rfl (.int .i64 o.rp) (.int .i64 o.ou)
 clear M
 obtain ⟨W10, eW, M⟩ := N
 rw [eW]
 clear eW
 simp only [List.set_cons_zero, List.set_cons_succ] at M
 clear hHeld
 refine hK.out _ _ ?_ (fun hHeld => ?_)
 ·exact ⟨M.cell 6 0 rfl, M.cell 6 1 rfl, M.cell 6 2 rfl, M.cell 6 3 rfl, M.cell 6 4 rfl, M.cell 5 0 rfl, M.cell 5 1 rfl, M.cell 5 2 rfl, M.cell 5 3 rfl, M.cell 5 4 rfl⟩
 clear hK K
 try simp only [Act.put, List.setIfInBounds_toArray, List.set_cons_zero, List.set_cons_succ]
 refine wpAnyT_done (by kernel_rfl) ?_ _
 go_wp2_with fail
 obtain ⟨tS, Ak, Ap⟩ := M.q2 3 rfl
 obtain ⟨tR, An, Ao, Al, Aq, Am⟩ := M.q5 4 rfl
 exact bodyPost_ret (by simp [results, Tryz.results27, go_sem, An, Ao, Al, Aq, Am, Ak, Ap]) rfl ⟨B0, B1, B2, d0, d1, d2, rfl, M.take 3⟩
set_option maxRecDepth 100000
theorem nat_task {k : Nat} {x : T7} {ts : List T7} (h : ts[k]? = some x) : btw (k : Int) 0 ((ts.length : Int) - 1) = true := by
 have hk : k < ts.length := by
  rcases Nat.lt_or_ge k ts.length with h1 | h1
  ·exact h1
  ·rw [List.getElem?_eq_none h1] at h; cases h
 simp [btw]
 omega
theorem Sep.enterSix {o1 o2 o3 o4 o5 o6 : Array Value} {t1 t2 t3 t4 t5 t6 : TypeId} (w : World) : Sep [] w ((((((w.alloc (.cells o1 t1)).alloc (.cells o2 t2)).alloc (.cells o3 t3)).alloc (.cells o4 t4)).alloc (.cells o5 t5)).alloc (.cells o6 t6)) [.blk (w.heap.size + 5) t6 o6, .blk (w.heap.size + 4) t5 o5, .blk (w.heap.size + 3) t4 o4, .blk (w.heap.size + 2) t3 o3, .blk (w.heap.size + 1) t2 o2, .blk w.heap.size t1 o1] :=
 (Sep.enter5 w).alloc t6 o6 _ (by simp)
set_option maxHeartbeats 400000 in
theorem joinedC (a b c d e : Int) (wk : Int) (id : Int) (bP : Nat) (bwk : Nat) (bid : Nat) (g : Nat) (V : World) (hP : ∀ j, V.cell? ⟨bP, j, none⟩ = (#[.int .i64 a, .int .i64 b, .int .i64 c, .int .i64 d, .int .i64 e] : Array Value)[j]?) (lP : bP < V.heap.size) (hwk : V.cell? ⟨bwk, 0, none⟩ = some (.int .i64 wk)) (lwk : bwk < V.heap.size) (hid : V.cell? ⟨bid, 0, none⟩ = some (.int .i64 id)) (lid : bid < V.heap.size) (er : Value) (R : World → Prop)
 (hb : Calls Tryz.prog 61 #[.pointer (some ⟨g, 0, none⟩), .agg #[.int .i64 a, .int .i64 b, .int .i64 c, .int .i64 d, .int .i64 e], .int .i64 wk, .int .i64 id] V (fun r w' => r = .returned er ∧ R w')) :
 Calls Tryz.prog 60 (#[.pointer (some ⟨g, 0, none⟩)] ++ #[.pointer (some ⟨bP, 0, none⟩), .pointer (some ⟨bwk, 0, none⟩), .pointer (some ⟨bid, 0, none⟩)]) V (fun r w' => r = .returned er ∧ R w') := by
 have HB := hide hb
 clear hb
 have Aq : V.cell? ⟨bP, 0, none⟩ = some (.int .i64 a) := hP 0
 have Ao : V.cell? ⟨bP, 1, none⟩ = some (.int .i64 b) := hP 1
 have Ap : V.cell? ⟨bP, 2, none⟩ = some (.int .i64 c) := hP 2
 have Ar : V.cell? ⟨bP, 3, none⟩ = some (.int .i64 d) := hP 3
 have As : V.cell? ⟨bP, 4, none⟩ = some (.int .i64 e) := hP 4
 clear hP
 show Calls Tryz.prog 60 #[.pointer (some ⟨g, 0, none⟩), .pointer (some ⟨bP, 0, none⟩), .pointer (some ⟨bwk, 0, none⟩), .pointer (some ⟨bid, 0, none⟩)] V _
 go_enter Tryz.func60, Tryz.ntmps60
 go_wp2_with fail
 refine Calls.mono (by with_reducible exact HB.out) ?_
 rintro r W ⟨rfl, hR⟩
 go_wp2_with fail
 go_ret
 exact ⟨rfl, hR⟩
set_option maxHeartbeats 800000 in
theorem gJoined_face (a b c d e : Int) (ts : List T7) (ks : List Int) (fs : List F2) (A0 A1 A2 : Option Addr) (c0 c1 c2 : Nat) (tn : Int) (st : Bool) (wk : Int) (id : Int) (w : World) (ht : ts.length ≤ 1048576) (hk : ks.length ≤ 1048576) (hf : fs.length ≤ 1048576) (h : InPool w ts ks fs A0 A1 A2) (o : OutP)
 (hL : ∀ (V : World) (bP bwk bid : Nat), Below w.heap.size w V → (∀ j, V.cell? ⟨bP, j, none⟩ = (#[.int .i64 a, .int .i64 b, .int .i64 c, .int .i64 d, .int .i64 e] : Array Value)[j]?) → bP < V.heap.size → V.cell? ⟨bwk, 0, none⟩ = some (.int .i64 wk) → bwk < V.heap.size → V.cell? ⟨bid, 0, none⟩ = some (.int .i64 id) → bid < V.heap.size → Calls Tryz.prog 59 #[.agg #[.int .i64 a, .int .i64 b, .int .i64 c, .int .i64 d, .int .i64 e], .agg #[.slice A0 ts.length c0, .slice A1 ks.length c1, .slice A2 fs.length c2, .int .i64 tn, .bool st], .int .i64 wk, .func (.func 60) #[] #[.pointer (some ⟨bP, 0, none⟩), .pointer (some ⟨bwk, 0, none⟩), .pointer (some ⟨bid, 0, none⟩)]] V (GaveS [] V o)) :
 Calls Tryz.prog 20 #[.agg #[.int .i64 a, .int .i64 b, .int .i64 c, .int .i64 d, .int .i64 e], .agg #[.slice A0 ts.length c0, .slice A1 ks.length c1, .slice A2 fs.length c2, .int .i64 tn, .bool st], .int .i64 wk, .int .i64 id] w (GaveS [] w o) := by
 have hmf : ∀ (fn : Fn) (first cap : Array Value) (w : World), (Instr.makeFunc fn first cap).run Tryz.prog w = .ok (.func fn first cap) w := fun _ _ _ _ => rfl
 have HL := hide hL
 have H := hide h
 clear h hL
 go_enter Tryz.func20, Tryz.ntmps20
 go_wp2_with fail
 have M : Sep [] w ((((((w.alloc (.cells #[.int .i64 a, .int .i64 b, .int .i64 c, .int .i64 d, .int .i64 e] 28)).alloc (.cells #[.slice A0 ts.length c0, .slice A1 ks.length c1, .slice A2 fs.length c2, .int .i64 tn, .bool st] 35)).alloc (.cells #[.int .i64 wk] 2)).alloc (.cells #[.int .i64 id] 2)).alloc (.cells #[.slice none 0 0, .slice none 0 0, .slice none 0 0, .int .i64 0, .bool false] 35)).alloc (.cells #[.int .i64 0, .int .i64 0] 38)) [.blk (w.heap.size + 5) 38 #[.int .i64 0, .int .i64 0], .blk (w.heap.size + 4) 35 #[.slice none 0 0, .slice none 0 0, .slice none 0 0, .int .i64 0, .bool false], .blk (w.heap.size + 3) 2 #[.int .i64 id], .blk (w.heap.size + 2) 2 #[.int .i64 wk], .blk (w.heap.size + 1) 35 #[.slice A0 ts.length c0, .slice A1 ks.length c1, .slice A2 fs.length c2, .int .i64 tn, .bool st], .blk (w.heap.size) 28 #[.int .i64 a, .int .i64 b, .int .i64 c, .int .i64 d, .int .i64 e]] := Sep.enterSix w
 generalize (((((w.alloc (.cells #[.int .i64 a, .int .i64 b, .int .i64 c, .int .i64 d, .int .i64 e] 28)).alloc (.cells #[.slice A0 ts.length c0, .slice A1 ks.length c1, .slice A2 fs.length c2, .int .i64 tn, .bool st] 35)).alloc (.cells #[.int .i64 wk] 2)).alloc (.cells #[.int .i64 id] 2)).alloc (.cells #[.slice none 0 0, .slice none 0 0, .slice none 0 0, .int .i64 0, .bool false] 35)).alloc (.cells #[.int .i64 0, .int .i64 0] 38) = W1 at M ⊢
 obtain ⟨tS, Aa, Ai, Ae, Al⟩ := M.f2 0 rfl
 obtain ⟨tR, Ad, An, Af, Ah, Ab, Ak, Ag, Aj, Ac, Am⟩ := M.f5 1 rfl
 obtain ⟨tVid, qVid0, fVid0⟩ := M.f1 2 rfl
 obtain ⟨tVwk, qVwk0, fVwk0⟩ := M.f1 3 rfl
 obtain ⟨tX, Bd, Ay, Bc, Bf, Av, Az, At, Bb, Bh, Ba⟩ := M.f5 4 rfl
 obtain ⟨tP, Aq, Au, Ao, Ax, Ap, Bg, Ar, Be, As, Aw⟩ := M.f5 5 rfl
 go_wp2_with fail
 have hC := HL.out _ (w.heap.size) (w.heap.size + 2) (w.heap.size + 3) M.below (fun j => M.cell 5 j rfl) (M.lt 5 rfl) (M.cell 3 0 rfl) (M.lt 3 rfl) (M.cell 2 0 rfl) (M.lt 2 rfl)
 refine Calls.mono (by with_reducible exact hC) ?_
 clear hC
 rintro r W2 ⟨B0, B1, B2, d0, d1, d2, rfl, g1⟩
 clear tS Aa Ai Ae Al tR Ad An Af Ah Ab Ak Ag Aj Ac Am tVid qVid0 fVid0 tVwk qVwk0 fVwk0 tX Bd Ay Bc Bf Av Az At Bb Bh Ba tP Aq Au Ao Ax Ap Bg Ar Be As Aw
 replace M := Sep.new M g1
 simp only [List.cons_append, List.nil_append] at M
 clear g1
 obtain ⟨tS, Aa, Ai, Ae, Al⟩ := M.f2 3 rfl
 obtain ⟨tR, Ad, An, Af, Ah, Ab, Ak, Ag, Aj, Ac, Am⟩ := M.f5 4 rfl
 go_wp2_with fail
 clear tS Aa Ai Ae Al tR Ad An Af Ah Ab Ak Ag Aj Ac Am
 have N := M.gset5 4 rfl (.slice B0 o.ts.length d0) (.slice B1 o.ks.length d1) (.slice B2 o.fs.length d2) (.int .i64 o.tn) (.bool o.st)
 clear M
 obtain ⟨W3, eW, M⟩ := N
 rw [eW]
 clear eW
 simp only [List.set_cons_zero, List.set_cons_succ] at M
 have N := M.gset2 3 rfl (.int .i64 o.rp) (.int .i64 o.ou)
 clear M
 obtain ⟨W4, eW, M⟩ := N
 rw [eW]
 clear eW
 simp only [List.set_cons_zero, List.set_cons_succ] at M
 obtain ⟨tS, Aa, Ae⟩ := M.q2 3 rfl
 obtain ⟨tR, Ad, Af, Ab, Ag, Ac⟩ := M.q5 4 rfl
 exact bodyPost_ret (by simp [results, Tryz.results20, go_sem, Ad, Af, Ab, Ag, Ac, Aa, Ae]) rfl ⟨B0, B1, B2, d0, d1, d2, rfl, M.take 3⟩
theorem joined_told (a b c d e : Int) (ts : List T7) (ks : List Int) (fs : List F2) (tn : Int) (st : Bool) (wk : Int) (id : Int) (hl : ts.length + ks.length + fs.length ≤ 1048576) :
 ∃ (us : List T7) (ks2 : List Int) (fs2 : List F2) (tn2 : Int) (st2 : Bool) (rp ou : Int), us.length + ks2.length + fs2.length ≤ 1048576 ∧
 ((rp ≠ 1 → rp ≠ 7 → poolB a b c d e ts ks fs tn = true → us = ts ∧ ks2 = ks ∧ fs2 = fs ∧ tn2 = tn ∧ st2 = st) ∧ (poolB a b c d e ts ks fs tn = true → btw wk 0 (a - 1) = true → ∀ (m : Nat) (x2 : T7), runM ts wk 0 = m → ts[m]? = some x2 → (id = m → rp = 8) ∧ (∀ (k : Nat) (x : T7), id = k → ts[k]? = some x → k ≠ m → (x.s = 5 → rp = 5) ∧ (x.s ≠ 5 → x.s ≠ 4 → tn < 1000000 → rp = 7 ∧ ou = m ∧ us = ts.set m (parkT x2 tn 1 k) ∧ ks2 = ks ∧ fs2 = fs ∧ tn2 = tn + 1 ∧ st2 = st ∧ poolB a b c d e us ks2 fs2 tn2 = true)))) ∧
 Hid (∀ (A0 A1 A2 : Option Addr) (c0 c1 c2 : Nat) (w : World), InPool w ts ks fs A0 A1 A2 → Calls Tryz.prog 27 #[.agg #[.int .i64 a, .int .i64 b, .int .i64 c, .int .i64 d, .int .i64 e], .agg #[.slice A0 ts.length c0, .slice A1 ks.length c1, .slice A2 fs.length c2, .int .i64 tn, .bool st], .int .i64 wk, .int .i64 id] w (GaveA us ks2 fs2 tn2 st2 rp ou w)) ∧
 Hid (∀ (A0 A1 A2 : Option Addr) (c0 c1 c2 : Nat) (w : World), Laid w → InPool w ts ks fs A0 A1 A2 → Calls Tryz.prog 20 #[.agg #[.int .i64 a, .int .i64 b, .int .i64 c, .int .i64 d, .int .i64 e], .agg #[.slice A0 ts.length c0, .slice A1 ks.length c1, .slice A2 fs.length c2, .int .i64 tn, .bool st], .int .i64 wk, .int .i64 id] w (GaveA us ks2 fs2 tn2 st2 rp ou w)) := by
 have ht : ts.length ≤ 1048576 := by omega
 have hk : ks.length ≤ 1048576 := by omega
 have hf : fs.length ≤ 1048576 := by omega
 cases hp : poolB a b c d e ts ks fs tn
 ·exact ⟨[], [], [], 0, false, 8, 0, by simp, ⟨(fun _ _ h => by cases h), (fun h => by cases h)⟩, hide (fun A0 A1 A2 c0 c1 c2 w h => (joined_may a b c d e ts ks fs A0 A1 A2 c0 c1 c2 tn st wk id w ht hk hf h _ rfl (by simp [mayB, hp])).mono (fun r w' hh => by rw [hp] at hh; exact hh)), hide (fun A0 A1 A2 c0 c1 c2 w hg h => gJoined_face a b c d e ts ks fs A0 A1 A2 c0 c1 c2 tn st wk id w ht hk hf h ⟨[], [], [], 0, false, 8, 0⟩ (fun V bP bwk bid hV hP lP hwk lwk hid lid => livedAs_bad a b c d e ts ks fs A0 A1 A2 c0 c1 c2 tn st wk 60 #[.pointer (some ⟨bP, 0, none⟩), .pointer (some ⟨bwk, 0, none⟩), .pointer (some ⟨bid, 0, none⟩)] V ht hk hf (h.below hV) hp))⟩
 have hpl := (poolB_parts hp).1
 have hT := (poolB_parts hp).2.1
 cases hw : btw wk 0 (a - 1)
 ·exact ⟨ts, ks, fs, tn, st, 8, 0, hl, ⟨fun _ _ _ => ⟨rfl, rfl, rfl, rfl, rfl⟩, (fun _ h => by cases h)⟩, hide (fun A0 A1 A2 c0 c1 c2 w h => (joined_may a b c d e ts ks fs A0 A1 A2 c0 c1 c2 tn st wk id w ht hk hf h _ rfl (by simp [mayB, workB, hp, hw])).mono (fun r w' hh => by rw [hp] at hh; exact hh)), hide (fun A0 A1 A2 c0 c1 c2 w hg h => gJoined_face a b c d e ts ks fs A0 A1 A2 c0 c1 c2 tn st wk id w ht hk hf h ⟨ts, ks, fs, tn, st, 8, 0⟩ (fun V bP bwk bid hV hP lP hwk lwk hid lid => livedAs_worker a b c d e ts ks fs A0 A1 A2 c0 c1 c2 tn st wk 60 #[.pointer (some ⟨bP, 0, none⟩), .pointer (some ⟨bwk, 0, none⟩), .pointer (some ⟨bid, 0, none⟩)] V ht hk hf (h.below hV) hp hw))⟩
 have hm : mayB a b c d e ts ks fs tn wk = true := by simp [mayB, workB, hp, hw, hpl]
 by_cases h0 : runM ts wk 0 < 0
 ·have hr := runM_none h0
  exact ⟨ts, ks, fs, tn, st, 2, 0, hl, ⟨fun _ _ _ => ⟨rfl, rfl, rfl, rfl, rfl⟩, fun _ _ m x2 h1 _ => by omega⟩, hide (fun A0 A1 A2 c0 c1 c2 w h => (joined_none a b c d e ts ks fs A0 A1 A2 c0 c1 c2 tn st wk id w ht hk hf h _ rfl h0 hm).mono (fun r w' hh => by rw [hp] at hh; exact hh)), hide (fun A0 A1 A2 c0 c1 c2 w hg h => gJoined_face a b c d e ts ks fs A0 A1 A2 c0 c1 c2 tn st wk id w ht hk hf h ⟨ts, ks, fs, tn, st, 2, 0⟩ (fun V bP bwk bid hV hP lP hwk lwk hid lid => livedAs_no a b c d e ts ks fs A0 A1 A2 c0 c1 c2 tn st wk 60 #[.pointer (some ⟨bP, 0, none⟩), .pointer (some ⟨bwk, 0, none⟩), .pointer (some ⟨bid, 0, none⟩)] (Go.Proofs.enters_of Tryz.func60 (by kernel_rfl) rfl) V ht hk hf (h.below hV) (hg.below hV) hp hw 2 (by omega) (by omega) (fun V2 g C0 C1 C2 e0 e1 e2 hV2 hM => joinedC a b c d e wk id bP bwk bid g V2 (fun j => (hV2.cell (p := ⟨bP, j, none⟩) lP).trans (hP j)) (Nat.lt_of_lt_of_le lP hV2.size) ((hV2.cell (p := ⟨bwk, 0, none⟩) lwk).trans hwk) (Nat.lt_of_lt_of_le lwk hV2.size) ((hV2.cell (p := ⟨bid, 0, none⟩) lid).trans hid) (Nat.lt_of_lt_of_le lid hV2.size) _ _ (join_none ts ks fs C0 C1 C2 e0 e1 e2 tn st g a b c d e wk id V2 ht hk hf hM hr))))⟩
 obtain ⟨m, hr⟩ : ∃ m : Nat, runM ts wk 0 = m := ⟨(runM ts wk 0).toNat, by omega⟩
 obtain ⟨⟨s2, l2, o2, wt2, on2, v2, t2⟩, ht2, hs2, _⟩ := runM_runs (Int.le_refl 0) (show runM ts wk 0 = 0 + (m : Int) by omega)
 simp only at hs2
 have hc2 : isInB ts m 2 = true := (isInB_of ht2 2).trans (by simp [hs2])
 have hm0 : (0 : Int) ≤ (m : Int) := by omega
 cases hh : btw id 0 ((ts.length : Int) - 1)
 ·exact ⟨ts, ks, fs, tn, st, 8, 0, hl, ⟨fun _ _ _ => ⟨rfl, rfl, rfl, rfl, rfl⟩, fun _ _ m9 x9 _ _ => ⟨fun _ => rfl, fun k x h1 h2 _ => by rw [h1, nat_task h2] at hh; cases hh⟩⟩, hide (fun A0 A1 A2 c0 c1 c2 w h => (joined_has a b c d e ts ks fs A0 A1 A2 c0 c1 c2 tn st wk id w ht hk hf h m hr hm0 hm hh).mono (fun r w' hh => by rw [hp] at hh; exact hh)), hide (fun A0 A1 A2 c0 c1 c2 w hg h => gJoined_face a b c d e ts ks fs A0 A1 A2 c0 c1 c2 tn st wk id w ht hk hf h ⟨ts, ks, fs, tn, st, 8, 0⟩ (fun V bP bwk bid hV hP lP hwk lwk hid lid => livedAs_no a b c d e ts ks fs A0 A1 A2 c0 c1 c2 tn st wk 60 #[.pointer (some ⟨bP, 0, none⟩), .pointer (some ⟨bwk, 0, none⟩), .pointer (some ⟨bid, 0, none⟩)] (Go.Proofs.enters_of Tryz.func60 (by kernel_rfl) rfl) V ht hk hf (h.below hV) (hg.below hV) hp hw 8 (by omega) (by omega) (fun V2 g C0 C1 C2 e0 e1 e2 hV2 hM => joinedC a b c d e wk id bP bwk bid g V2 (fun j => (hV2.cell (p := ⟨bP, j, none⟩) lP).trans (hP j)) (Nat.lt_of_lt_of_le lP hV2.size) ((hV2.cell (p := ⟨bwk, 0, none⟩) lwk).trans hwk) (Nat.lt_of_lt_of_le lwk hV2.size) ((hV2.cell (p := ⟨bid, 0, none⟩) lid).trans hid) (Nat.lt_of_lt_of_le lid hV2.size) _ _ (join_has ts ks fs C0 C1 C2 e0 e1 e2 tn st g a b c d e wk id V2 ht hk hf hM m hr hm0 hh))))⟩
 obtain ⟨k, s, l, o1, wt, on, v, t, rfl, hkl, hts⟩ := task_nat hh
 have i5 := isInB_of hts 5
 have i4 := isInB_of hts 4
 simp only at i5 i4
 by_cases hkm : k = m
 ·subst hkm
  exact ⟨ts, ks, fs, tn, st, 8, 0, hl, ⟨fun _ _ _ => ⟨rfl, rfl, rfl, rfl, rfl⟩, fun _ _ m9 x9 h1 _ => ⟨fun _ => rfl, fun k9 x h2 _ h3 => absurd (show k9 = m9 by omega) h3⟩⟩, hide (fun A0 A1 A2 c0 c1 c2 w h => (joined_self a b c d e ts ks fs A0 A1 A2 c0 c1 c2 tn st wk k w ht hk hf h k hr hm0 hm hh rfl).mono (fun r w' hh => by rw [hp] at hh; exact hh)), hide (fun A0 A1 A2 c0 c1 c2 w hg h => gJoined_face a b c d e ts ks fs A0 A1 A2 c0 c1 c2 tn st wk k w ht hk hf h ⟨ts, ks, fs, tn, st, 8, 0⟩ (fun V bP bwk bid hV hP lP hwk lwk hid lid => livedAs_no a b c d e ts ks fs A0 A1 A2 c0 c1 c2 tn st wk 60 #[.pointer (some ⟨bP, 0, none⟩), .pointer (some ⟨bwk, 0, none⟩), .pointer (some ⟨bid, 0, none⟩)] (Go.Proofs.enters_of Tryz.func60 (by kernel_rfl) rfl) V ht hk hf (h.below hV) (hg.below hV) hp hw 8 (by omega) (by omega) (fun V2 g C0 C1 C2 e0 e1 e2 hV2 hM => joinedC a b c d e wk k bP bwk bid g V2 (fun j => (hV2.cell (p := ⟨bP, j, none⟩) lP).trans (hP j)) (Nat.lt_of_lt_of_le lP hV2.size) ((hV2.cell (p := ⟨bwk, 0, none⟩) lwk).trans hwk) (Nat.lt_of_lt_of_le lwk hV2.size) ((hV2.cell (p := ⟨bid, 0, none⟩) lid).trans hid) (Nat.lt_of_lt_of_le lid hV2.size) _ _ (join_self ts ks fs C0 C1 C2 e0 e1 e2 tn st g a b c d e wk k V2 ht hk hf hM hr hm0 hh))))⟩
 have hne : ¬ (k : Int) = (m : Int) := by omega
 by_cases h5 : s = 5
 ·exact ⟨ts, ks, fs, tn, st, 5, 0, hl, ⟨fun _ _ _ => ⟨rfl, rfl, rfl, rfl, rfl⟩, fun _ _ m9 x9 h1 _ => ⟨fun h2 => absurd (show k = m by omega) hkm, fun k9 x h2 h3 _ => ⟨fun _ => rfl, fun h4 => absurd (by obtain rfl : k9 = k := (by omega); rw [hts] at h3; injection h3 with h3; subst h3; exact h5) h4⟩⟩⟩, hide (fun A0 A1 A2 c0 c1 c2 w h => (joined_gone a b c d e ts ks fs A0 A1 A2 c0 c1 c2 tn st wk k w ht hk hf h k s l o1 wt on v t rfl hts h5 m hr hm0 hne hm hh).mono (fun r w' hh => by rw [hp] at hh; exact hh)), hide (fun A0 A1 A2 c0 c1 c2 w hg h => gJoined_face a b c d e ts ks fs A0 A1 A2 c0 c1 c2 tn st wk k w ht hk hf h ⟨ts, ks, fs, tn, st, 5, 0⟩ (fun V bP bwk bid hV hP lP hwk lwk hid lid => livedAs_no a b c d e ts ks fs A0 A1 A2 c0 c1 c2 tn st wk 60 #[.pointer (some ⟨bP, 0, none⟩), .pointer (some ⟨bwk, 0, none⟩), .pointer (some ⟨bid, 0, none⟩)] (Go.Proofs.enters_of Tryz.func60 (by kernel_rfl) rfl) V ht hk hf (h.below hV) (hg.below hV) hp hw 5 (by omega) (by omega) (fun V2 g C0 C1 C2 e0 e1 e2 hV2 hM => joinedC a b c d e wk k bP bwk bid g V2 (fun j => (hV2.cell (p := ⟨bP, j, none⟩) lP).trans (hP j)) (Nat.lt_of_lt_of_le lP hV2.size) ((hV2.cell (p := ⟨bwk, 0, none⟩) lwk).trans hwk) (Nat.lt_of_lt_of_le lwk hV2.size) ((hV2.cell (p := ⟨bid, 0, none⟩) lid).trans hid) (Nat.lt_of_lt_of_le lid hV2.size) _ _ (join_gone ts ks fs C0 C1 C2 e0 e1 e2 tn st g a b c d e wk k V2 ht hk hf hM m hr hm0 hh hne (i5.trans (by simp [h5]))))))⟩
 by_cases h4 : s = 4
 ·exact ⟨ts, ks, fs, tn, st, 1, v, hl, ⟨fun h => absurd rfl h, fun _ _ m9 x9 h1 _ => ⟨fun h2 => absurd (show k = m by omega) hkm, fun k9 x h2 h3 _ => by obtain rfl : k9 = k := (by omega); rw [hts] at h3; injection h3 with h3; subst h3; exact ⟨fun h => absurd h h5, fun _ h => absurd h4 h⟩⟩⟩, hide (fun A0 A1 A2 c0 c1 c2 w h => (joined_done a b c d e ts ks fs A0 A1 A2 c0 c1 c2 tn st wk k w ht hk hf h k s l o1 wt on v t rfl hts h4 m hr hm0 hne hm hh).mono (fun r w' hh => by exact hh)), hide (fun A0 A1 A2 c0 c1 c2 w hg h => gJoined_face a b c d e ts ks fs A0 A1 A2 c0 c1 c2 tn st wk k w ht hk hf h ⟨ts, ks, fs, tn, st, 1, v⟩ (fun V bP bwk bid hV hP lP hwk lwk hid lid => livedAs_yes a b c d e ts ks fs A0 A1 A2 c0 c1 c2 tn st wk 60 #[.pointer (some ⟨bP, 0, none⟩), .pointer (some ⟨bwk, 0, none⟩), .pointer (some ⟨bid, 0, none⟩)] (Go.Proofs.enters_of Tryz.func60 (by kernel_rfl) rfl) V ht hk hf (h.below hV) (hg.below hV) hp hw ⟨ts, ks, fs, tn, st, 1, v⟩ (.inl rfl) (fun V2 g C0 C1 C2 e0 e1 e2 hV2 hM => joinedC a b c d e wk k bP bwk bid g V2 (fun j => (hV2.cell (p := ⟨bP, j, none⟩) lP).trans (hP j)) (Nat.lt_of_lt_of_le lP hV2.size) ((hV2.cell (p := ⟨bwk, 0, none⟩) lwk).trans hwk) (Nat.lt_of_lt_of_le lwk hV2.size) ((hV2.cell (p := ⟨bid, 0, none⟩) lid).trans hid) (Nat.lt_of_lt_of_le lid hV2.size) _ _ (join_done ts ks fs C0 C1 C2 e0 e1 e2 tn st g a b c d e wk k s l o1 wt on v t hts V2 ht hk hf hM m hr hm0 hh hne (i5.trans (by simp [h5])) (i4.trans (by simp [h4]))))))⟩
 have hwt : waitB b d e 3 1 k = true := by
  have h1 := (pool_len hp).1
  simp [waitB, cnt, btw]
  omega
 have hwo : waitsOk ts.length m 1 k = true := by
  simp [waitsOk]
  omega
 by_cases t1 : tn < 1000000
 ·have hz := parkP_right hp ht2 t1 hwt hwo
  exact ⟨ts.set m (parkT ⟨s2, l2, o2, wt2, on2, v2, t2⟩ tn 1 k), ks, fs, tn + 1, st, 7, m, by simpa using hl, ⟨fun _ h => absurd rfl h, fun _ _ m9 x9 h1 h9 => by
   obtain rfl : m9 = m := (by omega)
   rw [ht2] at h9
   injection h9 with h9
   subst h9
   exact ⟨fun h2 => absurd (show k = m9 by omega) hkm, fun k9 x h2 h3 _ => by obtain rfl : k9 = k := (by omega); rw [hts] at h3; injection h3 with h3; subst h3; exact ⟨fun h => absurd h h5, fun _ _ _ => ⟨rfl, rfl, rfl, rfl, rfl, rfl, rfl, hz⟩⟩⟩⟩, hide (fun A0 A1 A2 c0 c1 c2 w h => (joined_park a b c d e ts ks fs A0 A1 A2 c0 c1 c2 tn st wk k w ht hk hf h k s l o1 wt on v t rfl hts h4 h5 m s2 l2 o2 wt2 on2 v2 t2 ht2 hr hne hkm hm hh).mono (fun r w' hh => by rw [hz] at hh; exact hh)), hide (fun A0 A1 A2 c0 c1 c2 w hg h => gJoined_face a b c d e ts ks fs A0 A1 A2 c0 c1 c2 tn st wk k w ht hk hf h ⟨ts.set m (parkT ⟨s2, l2, o2, wt2, on2, v2, t2⟩ tn 1 k), ks, fs, tn + 1, st, 7, m⟩ (fun V bP bwk bid hV hP lP hwk lwk hid lid => livedAs_yes a b c d e ts ks fs A0 A1 A2 c0 c1 c2 tn st wk 60 #[.pointer (some ⟨bP, 0, none⟩), .pointer (some ⟨bwk, 0, none⟩), .pointer (some ⟨bid, 0, none⟩)] (Go.Proofs.enters_of Tryz.func60 (by kernel_rfl) rfl) V ht hk hf (h.below hV) (hg.below hV) hp hw ⟨ts.set m (parkT ⟨s2, l2, o2, wt2, on2, v2, t2⟩ tn 1 k), ks, fs, tn + 1, st, 7, m⟩ (.inr rfl) (fun V2 g C0 C1 C2 e0 e1 e2 hV2 hM => joinedC a b c d e wk k bP bwk bid g V2 (fun j => (hV2.cell (p := ⟨bP, j, none⟩) lP).trans (hP j)) (Nat.lt_of_lt_of_le lP hV2.size) ((hV2.cell (p := ⟨bwk, 0, none⟩) lwk).trans hwk) (Nat.lt_of_lt_of_le lwk hV2.size) ((hV2.cell (p := ⟨bid, 0, none⟩) lid).trans hid) (Nat.lt_of_lt_of_le lid hV2.size) _ _ (join_park ts ks fs C0 C1 C2 e0 e1 e2 tn st g a b c d e wk k m s2 l2 o2 wt2 on2 v2 t2 V2 ht hk hf hM hT.1 hT.2 hr ht2 hc2 hh hne (i5.trans (by simp [h5])) (i4.trans (by simp [h4])) hz))))⟩
 ·have hz : poolB a b c d e (ts.set m (parkT ⟨s2, l2, o2, wt2, on2, v2, t2⟩ tn 1 k)) ks fs (tn + 1) = false := turn_over (by omega)
  exact ⟨ts, ks, fs, tn, st, 4, 0, hl, ⟨fun _ _ _ => ⟨rfl, rfl, rfl, rfl, rfl⟩, fun _ _ m9 x9 h1 _ => ⟨fun h2 => absurd (show k = m by omega) hkm, fun k9 x h2 h3 _ => by obtain rfl : k9 = k := (by omega); rw [hts] at h3; injection h3 with h3; subst h3; exact ⟨fun h => absurd h h5, fun _ _ h => absurd h t1⟩⟩⟩, hide (fun A0 A1 A2 c0 c1 c2 w h => (joined_park a b c d e ts ks fs A0 A1 A2 c0 c1 c2 tn st wk k w ht hk hf h k s l o1 wt on v t rfl hts h4 h5 m s2 l2 o2 wt2 on2 v2 t2 ht2 hr hne hkm hm hh).mono (fun r w' hh => by rw [hz] at hh; exact hh)), hide (fun A0 A1 A2 c0 c1 c2 w hg h => gJoined_face a b c d e ts ks fs A0 A1 A2 c0 c1 c2 tn st wk k w ht hk hf h ⟨ts, ks, fs, tn, st, 4, 0⟩ (fun V bP bwk bid hV hP lP hwk lwk hid lid => livedAs_no a b c d e ts ks fs A0 A1 A2 c0 c1 c2 tn st wk 60 #[.pointer (some ⟨bP, 0, none⟩), .pointer (some ⟨bwk, 0, none⟩), .pointer (some ⟨bid, 0, none⟩)] (Go.Proofs.enters_of Tryz.func60 (by kernel_rfl) rfl) V ht hk hf (h.below hV) (hg.below hV) hp hw 4 (by omega) (by omega) (fun V2 g C0 C1 C2 e0 e1 e2 hV2 hM => joinedC a b c d e wk k bP bwk bid g V2 (fun j => (hV2.cell (p := ⟨bP, j, none⟩) lP).trans (hP j)) (Nat.lt_of_lt_of_le lP hV2.size) ((hV2.cell (p := ⟨bwk, 0, none⟩) lwk).trans hwk) (Nat.lt_of_lt_of_le lwk hV2.size) ((hV2.cell (p := ⟨bid, 0, none⟩) lid).trans hid) (Nat.lt_of_lt_of_le lid hV2.size) _ _ (join_full ts ks fs C0 C1 C2 e0 e1 e2 tn st g a b c d e wk k m s2 l2 o2 wt2 on2 v2 t2 V2 ht hk hf hM hT.1 hT.2 hr ht2 hc2 hh hne (i5.trans (by simp [h5])) (i4.trans (by simp [h4])) hz))))⟩
end Go.Proofs.YtfkdfkoigojciaaGreatDoor
