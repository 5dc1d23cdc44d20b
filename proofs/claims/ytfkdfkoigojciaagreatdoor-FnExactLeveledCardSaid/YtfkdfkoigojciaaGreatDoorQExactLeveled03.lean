/- The exact law of Leveled: whatever the plan, the pool and the numbers, true; what was in memory stays as it was. The variable errors.errorType as it is laid. -/
import Derived.Test.YtfkdfkoigojciaaGreatDoorQExactLeveled02
import Derived.Test.YtfkdfkoigojciaaGreatDoorQB15
import Derived.Test.YtfkdfkoigojciaaGreatDoorQB07
import Derived.Deep.RegionHeld3
import Derived.Deep.DeepCutAuto

namespace Go.Proofs.YtfkdfkoigojciaaGreatDoor
open Go.RowKit
set_option linter.unusedVariables false
set_option maxRecDepth 100000
theorem heldPool_x (n0 n1 n2 : Nat) (A0 A1 A2 : Option Addr) (c0 c1 c2 : Nat) (tn : Int) (st : Bool) (q : Int) (w : World) (hlen : n0 + n1 + n2 ≤ 1048576) (hq0 : 0 ≤ q) (hq1 : q ≤ 10) (h : InPool w (markT q n0) (markK (q + 7 * n0) n1) (markF (q + 7 * n0 + n1) n2) A0 A1 A2) :
 Calls Tryz.prog 46 #[.agg #[.slice A0 n0 c0, .slice A1 n1 c1, .slice A2 n2 c2, .int .i64 tn, .bool st], .int .i64 q] w fun r w' => r = .returned (.int .i64 (q + 7 * n0 + n1 + 2 * n2)) ∧ Below w.heap.size w w' := heldPool_any n0 n1 n2 A0 A1 A2 c0 c1 c2 tn st q w hlen hq0 hq1 h
set_option maxHeartbeats 400000 in
theorem eqAnswer_same (rp ou : Int) (w : World) :
 Calls Tryz.prog 44 #[.agg #[.int .i64 rp, .int .i64 ou], .agg #[.int .i64 rp, .int .i64 ou]] w fun r w' => r = .returned (.bool true) ∧ Below w.heap.size w w' := by
 go_enter Tryz.func44, Tryz.ntmps44
 go_wp2
 go_ret
 exact ⟨rfl, by go_grown⟩
set_option maxHeartbeats 1600000 in
theorem xLeveled_any (a b c d e : Int) (ts : List T7) (ks : List Int) (fs : List F2) (A0 A1 A2 : Option Addr) (c0 c1 c2 : Nat) (tn : Int) (st : Bool) (wk : Int) (id : Int) (lv : Int) (w : World) (h0 : ts.length ≤ 9223372036854775807) (h1 : ks.length ≤ 9223372036854775807) (h2 : fs.length ≤ 9223372036854775807) (h : InPool w ts ks fs A0 A1 A2) (hg : Laid w) :
 Calls Tryz.prog 8 #[.agg #[.int .i64 a, .int .i64 b, .int .i64 c, .int .i64 d, .int .i64 e], .agg #[.slice A0 ts.length c0, .slice A1 ks.length c1, .slice A2 fs.length c2, .int .i64 tn, .bool st], .int .i64 wk, .int .i64 id, .int .i64 lv] w fun r w' => r = .returned (.bool true) ∧ Below w.heap.size w w' := by
 have H := hide h
 have HG := hide hg
 clear h hg
 by_cases hT : ts.length + ks.length + fs.length ≤ 1048576
 ·obtain ⟨us, ks2, fs2, tn2, st2, rp, ou, hLl, _, hS, hI⟩ := leveled_told a b c d e ts ks fs tn st wk id lv hT
  go_enter Tryz.func8, Tryz.ntmps8
  go_wp2_with fail
  generalize hW : (w.alloc _).alloc _ = W1
  have M := Sep.e2 hW
  clear hW
  obtain ⟨tX, Ab, Ad, Ac, Ae, Aa⟩ := M.q5 0 rfl
  obtain ⟨tP, Af, Aj, Ai, Ag, Ah⟩ := M.q5 1 rfl
  go_wp2_with fail
  go_call (szPool_any A0 A1 A2 ts.length c0 ks.length c1 fs.length c2 tn st _ h0 h1 h2) as r W2 ⟨rfl, g1⟩
  clear tX Ab Ad Ac Ae Aa tP Af Aj Ai Ag Ah
  replace M := M.call g1
  clear g1
  rw [szPoolM_pos' hT]
  obtain ⟨tX, Ab, Ad, Ac, Ae, Aa⟩ := M.q5 0 rfl
  obtain ⟨tP, Af, Aj, Ai, Ag, Ah⟩ := M.q5 1 rfl
  go_wp2_with fail
  clear tX Ab Ad Ac Ae Aa tP Af Aj Ai Ag Ah
  go_cut [12, 13] (fun p' z' wc => ∃ (gW0 gW0A : Nat) (RA0 RA1 RA2 : Option Addr) (ra0 ra1 ra2 : Nat), p' = .pointer (some ⟨gW0, 0, none⟩) ∧ z' = .pointer (some ⟨gW0A, 0, none⟩) ∧ Sep [] w wc [.blk (gW0) 35 #[.slice RA0 us.length ra0, .slice RA1 ks2.length ra1, .slice RA2 fs2.length ra2, .int .i64 tn2, .bool st2], .blk (gW0A) 38 #[.int .i64 rp, .int .i64 ou], rT us.length RA0 ra0 us, rK ks2.length RA1 ra1 ks2, rF fs2.length RA2 ra2 fs2, .blk (w.heap.size + 1) 59 #[.slice A0 ts.length c0, .slice A1 ks.length c1, .slice A2 fs.length c2, .int .i64 tn, .bool st], .blk (w.heap.size) 55 #[.int .i64 a, .int .i64 b, .int .i64 c, .int .i64 d, .int .i64 e]])
  case first =>
   refine wp_region_T (S := (fun w' => w'.cell? ⟨w.heap.size, 0, none⟩ = some (.int .i64 a) ∧ w'.cell? ⟨w.heap.size, 1, none⟩ = some (.int .i64 b) ∧ w'.cell? ⟨w.heap.size, 2, none⟩ = some (.int .i64 c) ∧ w'.cell? ⟨w.heap.size, 3, none⟩ = some (.int .i64 d) ∧ w'.cell? ⟨w.heap.size, 4, none⟩ = some (.int .i64 e) ∧ w'.cell? ⟨w.heap.size + 1, 0, none⟩ = some (.slice A0 ts.length c0) ∧ w'.cell? ⟨w.heap.size + 1, 1, none⟩ = some (.slice A1 ks.length c1) ∧ w'.cell? ⟨w.heap.size + 1, 2, none⟩ = some (.slice A2 fs.length c2) ∧ w'.cell? ⟨w.heap.size + 1, 3, none⟩ = some (.int .i64 tn) ∧ w'.cell? ⟨w.heap.size + 1, 4, none⟩ = some (.bool st))) (ks := [13, 14]) (by kernel_rfl) ⟨M.cell 1 0 rfl, M.cell 1 1 rfl, M.cell 1 2 rfl, M.cell 1 3 rfl, M.cell 1 4 rfl, M.cell 0 0 rfl, M.cell 0 1 rfl, M.cell 0 2 rfl, M.cell 0 3 rfl, M.cell 0 4 rfl⟩ (fun hHeld => ?_)
   replace M := M.drew
   generalize W2.drew = W3 at M hHeld ⊢
   refine tkL 0 ?v0u25 rfl ?hy0u25 hHeld ?_
   case hy0u25 => (intro w hSw; (try dsimp only at hSw); go_split_ands; go_simp; all_goals with_reducible rfl)
   try simp only [Act.put, List.setIfInBounds_toArray, List.set_cons_zero, List.set_cons_succ]
   refine tkL 2 ?v2u26 rfl ?hy2u26 hHeld ?_
   case hy2u26 => (intro w hSw; (try dsimp only at hSw); go_split_ands; go_simp; all_goals with_reducible rfl)
   try simp only [Act.put, List.setIfInBounds_toArray, List.set_cons_zero, List.set_cons_succ]
   refine tkY 4 ?v4u27 rfl ?hy4u27 (fun _ => hHeld) ?_
   case hy4u27 => (intro w; go_simp; all_goals with_reducible rfl)
   try simp only [Act.put, List.setIfInBounds_toArray, List.set_cons_zero, List.set_cons_succ]
   refine tkY 5 ?v5u28 rfl ?hy5u28 (fun _ => hHeld) ?_
   case hy5u28 => (intro w; go_simp; all_goals with_reducible rfl)
   try simp only [Act.put, List.setIfInBounds_toArray, List.set_cons_zero, List.set_cons_succ]
   refine tkY 6 ?v6u29 rfl ?hy6u29 (fun _ => hHeld) ?_
   case hy6u29 => (intro w; go_simp; all_goals with_reducible rfl)
   try simp only [Act.put, List.setIfInBounds_toArray, List.set_cons_zero, List.set_cons_succ]
   clear hHeld
   refine wpA_startH (q := ⟨11, 12, 12, 13, 35, 38, #[.slice none 0 0, .slice none 0 0, .slice none 0 0, .int .i64 0, .bool false], #[.int .i64 0, .int .i64 0]⟩) (n := 8) (by kernel_rfl) (by rfl) M ⟨by decide, by decide, ⟨_, rfl, rfl, rfl, ?mk1z5⟩, ⟨_, rfl, rfl, rfl, ?mk2z5⟩⟩ (fun HM => ?_)
   case mk1z5 => (intro aa W; go_simp)
   case mk2z5 => (intro aa W; go_simp)
   clear M
   refine wpA_call HM (c := 1) (d := 29) (fun v new => v = .agg #[.int .i64 a, .int .i64 b, .int .i64 c, .int .i64 d, .int .i64 e] ∧ new = []) rfl rfl rfl (by decide) (by decide) (by decide) (by decide) (by intro b1 b2; cases b1 <;> cases b2 <;> kernel_rfl) (fun V e' hM => (fun N => ⟨N.cell 1 0 rfl, N.cell 1 1 rfl, N.cell 1 2 rfl, N.cell 1 3 rfl, N.cell 1 4 rfl, N.cell 0 0 rfl, N.cell 0 1 rfl, N.cell 0 2 rfl, N.cell 0 3 rfl, N.cell 0 4 rfl⟩) (hM.sub (List.sublist_append_right _ _))) ?hx1z5 (fun V hM => (toPlan_any a b c d e V).mono (fun r V' ⟨hr, hb⟩ => ⟨_, [], hr, Sep.of_below hb, rfl, rfl⟩)) ?_
   case hx1z5 => (intro x1 x2 W; simp only [put2, List.setIfInBounds_toArray, List.set_cons_zero, List.set_cons_succ]; go_simp)
   rintro v new ⟨rfl, rfl⟩
   simp only [Act.put, List.setIfInBounds_toArray, List.set_cons_zero, List.set_cons_succ]
   simp only [List.nil_append]
   refine wpA_call HM (c := 3) (d := 31) (fun v new => ∃ (B0 B1 B2 : Option Addr) (b0 b1 b2 : Nat), v = .agg #[.slice B0 ts.length b0, .slice B1 ks.length b1, .slice B2 fs.length b2, .int .i64 tn, .bool st] ∧ new = [rT ts.length B0 b0 ts, rK ks.length B1 b1 ks, rF fs.length B2 b2 fs]) rfl rfl rfl (by decide) (by decide) (by decide) (by decide) (by intro b1 b2; cases b1 <;> cases b2 <;> kernel_rfl) (fun V e' hM => (fun N => ⟨N.cell 1 0 rfl, N.cell 1 1 rfl, N.cell 1 2 rfl, N.cell 1 3 rfl, N.cell 1 4 rfl, N.cell 0 0 rfl, N.cell 0 1 rfl, N.cell 0 2 rfl, N.cell 0 3 rfl, N.cell 0 4 rfl⟩) (hM.sub (List.sublist_append_right _ _))) ?hx3z5 (fun V hM => (toPool_s ts ks fs A0 A1 A2 c0 c1 c2 tn st V hT (H.out.below hM.below)).mono (fun r V' ⟨B0, B1, B2, b0, b1, b2, hr, hs⟩ => ⟨_, _, hr, hs, B0, B1, B2, b0, b1, b2, rfl, rfl⟩)) ?_
   case hx3z5 => (intro x1 x2 W; simp only [put2, List.setIfInBounds_toArray, List.set_cons_zero, List.set_cons_succ]; go_simp)
   rintro v new ⟨B0, B1, B2, b0, b1, b2, rfl, rfl⟩
   simp only [Act.put, List.setIfInBounds_toArray, List.set_cons_zero, List.set_cons_succ]
   simp only [List.cons_append, List.nil_append]
   refine wpA_call HM (c := 7) (d := 35) (fun v new => ∃ (B0 B1 B2 : Option Addr) (b0 b1 b2 : Nat), v = .tuple #[.agg #[.slice B0 us.length b0, .slice B1 ks2.length b1, .slice B2 fs2.length b2, .int .i64 tn2, .bool st2], .agg #[.int .i64 rp, .int .i64 ou]] ∧ new = [rT us.length B0 b0 us, rK ks2.length B1 b1 ks2, rF fs2.length B2 b2 fs2]) rfl rfl rfl (by decide) (by decide) (by decide) (by decide) (by intro b1 b2; cases b1 <;> cases b2 <;> kernel_rfl) (fun V e' hM => (fun N => ⟨N.cell 4 0 rfl, N.cell 4 1 rfl, N.cell 4 2 rfl, N.cell 4 3 rfl, N.cell 4 4 rfl, N.cell 3 0 rfl, N.cell 3 1 rfl, N.cell 3 2 rfl, N.cell 3 3 rfl, N.cell 3 4 rfl⟩) (hM.sub (List.sublist_append_right _ _))) ?hx7z5 (fun V hM => (hS.out B0 B1 B2 b0 b1 b2 V ⟨hM.rowS 0 rfl, hM.rowS 1 rfl, hM.rowS 2 rfl⟩).mono (fun r V' ⟨B0, B1, B2, b0, b1, b2, hr, hs⟩ => ⟨_, _, hr, hs, B0, B1, B2, b0, b1, b2, rfl, rfl⟩)) ?_
   case hx7z5 => (intro x1 x2 W; simp only [put2, List.setIfInBounds_toArray, List.set_cons_zero, List.set_cons_succ]; go_simp)
   rintro v new ⟨RA0, RA1, RA2, ra0, ra1, ra2, rfl, rfl⟩
   simp only [Act.put, List.setIfInBounds_toArray, List.set_cons_zero, List.set_cons_succ]
   simp only [List.cons_append, List.nil_append]
   refine wpA_take (c := 8) (d := 27) (v := ?v8z5) rfl rfl rfl (by decide) (by decide) (by decide) (by decide) (by kernel_rfl) (by intro b1 b2; cases b1 <;> cases b2 <;> kernel_rfl) (by intro b1 b2; cases b1 <;> cases b2 <;> kernel_rfl) (by kernel_rfl) (fun _ _ _ h => h) (fun V e' hM => (fun N => ⟨N.cell 7 0 rfl, N.cell 7 1 rfl, N.cell 7 2 rfl, N.cell 7 3 rfl, N.cell 7 4 rfl, N.cell 6 0 rfl, N.cell 6 1 rfl, N.cell 6 2 rfl, N.cell 6 3 rfl, N.cell 6 4 rfl⟩) (hM.sub (List.sublist_append_right _ _))) ?hx8z5 ?n8z5
   case hx8z5 => (intro x1 x2 W; simp only [put2, List.setIfInBounds_toArray, List.set_cons_zero, List.set_cons_succ]; go_simp; all_goals with_reducible rfl)
   simp only [Act.put, List.setIfInBounds_toArray, List.set_cons_zero, List.set_cons_succ]
   refine wpA_take (c := 9) (d := 36) (v := ?v9z5) rfl rfl rfl (by decide) (by decide) (by decide) (by decide) (by kernel_rfl) (by intro b1 b2; cases b1 <;> cases b2 <;> kernel_rfl) (by intro b1 b2; cases b1 <;> cases b2 <;> kernel_rfl) (by kernel_rfl) (fun _ _ _ h => h) (fun V e' hM => (fun N => ⟨N.cell 7 0 rfl, N.cell 7 1 rfl, N.cell 7 2 rfl, N.cell 7 3 rfl, N.cell 7 4 rfl, N.cell 6 0 rfl, N.cell 6 1 rfl, N.cell 6 2 rfl, N.cell 6 3 rfl, N.cell 6 4 rfl⟩) (hM.sub (List.sublist_append_right _ _))) ?hx9z5 ?n9z5
   case hx9z5 => (intro x1 x2 W; simp only [put2, List.setIfInBounds_toArray, List.set_cons_zero, List.set_cons_succ]; go_simp; all_goals with_reducible rfl)
   simp only [Act.put, List.setIfInBounds_toArray, List.set_cons_zero, List.set_cons_succ]
   refine wpA_take (c := 10) (d := 37) (v := ?v10z5) rfl rfl rfl (by decide) (by decide) (by decide) (by decide) (by kernel_rfl) (by intro b1 b2; cases b1 <;> cases b2 <;> kernel_rfl) (by intro b1 b2; cases b1 <;> cases b2 <;> kernel_rfl) (by kernel_rfl) (fun _ _ _ h => h) (fun V e' hM => (fun N => ⟨N.cell 7 0 rfl, N.cell 7 1 rfl, N.cell 7 2 rfl, N.cell 7 3 rfl, N.cell 7 4 rfl, N.cell 6 0 rfl, N.cell 6 1 rfl, N.cell 6 2 rfl, N.cell 6 3 rfl, N.cell 6 4 rfl⟩) (hM.sub (List.sublist_append_right _ _))) ?hx10z5 ?n10z5
   case hx10z5 => (intro x1 x2 W; simp only [put2, List.setIfInBounds_toArray, List.set_cons_zero, List.set_cons_succ]; go_simp; all_goals with_reducible rfl)
   simp only [Act.put, List.setIfInBounds_toArray, List.set_cons_zero, List.set_cons_succ]
   refine wpA_end HM (by intro b1 b2 hb; cases b1 <;> cases b2 <;> first | (cases hb; done) | kernel_rfl) (fun V e' hM => (fun N => ⟨N.cell 7 0 rfl, N.cell 7 1 rfl, N.cell 7 2 rfl, N.cell 7 3 rfl, N.cell 7 4 rfl, N.cell 6 0 rfl, N.cell 6 1 rfl, N.cell 6 2 rfl, N.cell 6 3 rfl, N.cell 6 4 rfl⟩) (hM.sub (List.sublist_append_right _ _))) ?_
   intro gg1 gg2 W4 M
   clear HM
   simp only [put2, List.setIfInBounds_toArray, List.set_cons_zero, List.set_cons_succ]
   obtain ⟨Ak, qW00, fW00, qW01, fW01, qW02, fW02, qW03, fW03, qW04, fW04⟩ := M.f5 0 rfl
   refine wpAnyT_oneL (i := 13) rfl (by kernel_rfl) (by kernel_rfl) (fun K hK => ?_)
   go_simp
   refine hK.out _ _ ?_
   clear hK K
   try simp only [Act.put, List.setIfInBounds_toArray, List.set_cons_zero, List.set_cons_succ]
   clear Ak qW00 fW00 qW01 fW01 qW02 fW02 qW03 fW03 qW04 fW04
   have N := M.gset5 0 rfl (.slice RA0 us.length ra0) (.slice RA1 ks2.length ra1) (.slice RA2 fs2.length ra2) (.int .i64 tn2) (.bool st2)
   clear M
   obtain ⟨W5, eW, M⟩ := N
   rw [eW]
   clear eW
   simp only [List.set_cons_zero] at M
   obtain ⟨tW0A, qW0A0, fW0A0, qW0A1, fW0A1⟩ := M.f2 1 rfl
   refine wpAnyT_oneL (i := 14) rfl (by kernel_rfl) (by kernel_rfl) (fun K hK => ?_)
   go_simp
   refine hK.out _ _ ?_
   clear hK K
   try simp only [Act.put, List.setIfInBounds_toArray, List.set_cons_zero, List.set_cons_succ]
   clear tW0A qW0A0 fW0A0 qW0A1 fW0A1
   have N := M.gset2 1 rfl (.int .i64 rp) (.int .i64 ou)
   clear M
   obtain ⟨W6, eW, M⟩ := N
   rw [eW]
   clear eW
   simp only [List.set_cons_zero, List.set_cons_succ] at M
   refine wpAnyT_done (by kernel_rfl) ?_ _
   replace M : Sep [] w W6 [.blk (gg1) 35 #[.slice RA0 us.length ra0, .slice RA1 ks2.length ra1, .slice RA2 fs2.length ra2, .int .i64 tn2, .bool st2], .blk (gg2) 38 #[.int .i64 rp, .int .i64 ou], rT us.length RA0 ra0 us, rK ks2.length RA1 ra1 ks2, rF fs2.length RA2 ra2 fs2, .blk (w.heap.size + 1) 59 #[.slice A0 ts.length c0, .slice A1 ks.length c1, .slice A2 fs.length c2, .int .i64 tn, .bool st], .blk (w.heap.size) 55 #[.int .i64 a, .int .i64 b, .int .i64 c, .int .i64 d, .int .i64 e]] := M.sub ((List.Sublist.slnil) |>.cons_cons _ |>.cons_cons _ |>.cons _ |>.cons _ |>.cons _ |>.cons_cons _ |>.cons_cons _ |>.cons_cons _ |>.cons_cons _ |>.cons_cons _)
   go_wp2_with fail
   go_meet
   exact ⟨_, _, _, _, _, _, _, _, rfl, rfl, M⟩
  case rest =>
   clear M
   obtain ⟨gW0, gW0A, RA0, RA1, RA2, ra0, ra1, ra2, rfl, rfl, M⟩ := hcut
   rename World => W7
   obtain ⟨Ak, qW00, qW01, qW02, qW03, qW04⟩ := M.q5 0 rfl
   obtain ⟨tW0A, qW0A0, qW0A1⟩ := M.q2 1 rfl
   obtain ⟨tX, Ab, Ad, Ac, Ae, Aa⟩ := M.q5 5 rfl
   obtain ⟨tP, Af, Aj, Ai, Ag, Ah⟩ := M.q5 6 rfl
   go_wp2_with fail
   go_call (toPool_s ts ks fs A0 A1 A2 c0 c1 c2 tn st _ hT (H.out.below M.below)) as r W8 ⟨C0, C1, C2, e0, e1, e2, rfl, g1⟩
   clear Ak qW00 qW01 qW02 qW03 qW04 tW0A qW0A0 qW0A1 tX Ab Ad Ac Ae Aa tP Af Aj Ai Ag Ah
   replace M := Sep.new M g1
   simp only [List.cons_append, List.nil_append] at M
   clear g1
   obtain ⟨Ak, qW00, qW01, qW02, qW03, qW04⟩ := M.q5 3 rfl
   obtain ⟨tW0A, qW0A0, qW0A1⟩ := M.q2 4 rfl
   obtain ⟨tX, Ab, Ad, Ac, Ae, Aa⟩ := M.q5 8 rfl
   obtain ⟨tP, Af, Aj, Ai, Ag, Ah⟩ := M.q5 9 rfl
   go_wp2_with fail
   clear Ak qW00 qW01 qW02 qW03 qW04 tW0A qW0A0 qW0A1 tX Ab Ad Ac Ae Aa tP Af Aj Ai Ag Ah
   have N := M.galloc 35 #[.slice C0 ts.length e0, .slice C1 ks.length e1, .slice C2 fs.length e2, .int .i64 tn, .bool st]
   clear M
   obtain ⟨W9, eW, M⟩ := N
   rw [eW]
   clear eW
   obtain ⟨Al, qY00, qY01, qY02, qY03, qY04⟩ := M.q5 0 rfl
   obtain ⟨Ak, qW00, qW01, qW02, qW03, qW04⟩ := M.q5 4 rfl
   obtain ⟨tW0A, qW0A0, qW0A1⟩ := M.q2 5 rfl
   obtain ⟨tX, Ab, Ad, Ac, Ae, Aa⟩ := M.q5 9 rfl
   obtain ⟨tP, Af, Aj, Ai, Ag, Ah⟩ := M.q5 10 rfl
   go_wp2_with fail
   clear Al qY00 qY01 qY02 qY03 qY04 Ak qW00 qW01 qW02 qW03 qW04 tW0A qW0A0 qW0A1 tX Ab Ad Ac Ae Aa tP Af Aj Ai Ag Ah
   go_cut [15, 16] (fun p' z' wc => ∃ (gG0 gG0A : Nat) (SA0 SA1 SA2 : Option Addr) (sa0 sa1 sa2 : Nat), p' = .pointer (some ⟨gG0, 0, none⟩) ∧ z' = .pointer (some ⟨gG0A, 0, none⟩) ∧ Sep [] w wc [.blk (gG0) 35 #[.slice SA0 us.length sa0, .slice SA1 ks2.length sa1, .slice SA2 fs2.length sa2, .int .i64 tn2, .bool st2], .blk (gG0A) 38 #[.int .i64 rp, .int .i64 ou], rT us.length SA0 sa0 us, rK ks2.length SA1 sa1 ks2, rF fs2.length SA2 sa2 fs2, .blk (W8.heap.size) 35 #[.slice C0 ts.length e0, .slice C1 ks.length e1, .slice C2 fs.length e2, .int .i64 tn, .bool st], rT ts.length C0 e0 ts, rK ks.length C1 e1 ks, rF fs.length C2 e2 fs, .blk (gW0) 35 #[.slice RA0 us.length ra0, .slice RA1 ks2.length ra1, .slice RA2 fs2.length ra2, .int .i64 tn2, .bool st2], .blk (gW0A) 38 #[.int .i64 rp, .int .i64 ou], rT us.length RA0 ra0 us, rK ks2.length RA1 ra1 ks2, rF fs2.length RA2 ra2 fs2, .blk (w.heap.size + 1) 59 #[.slice A0 ts.length c0, .slice A1 ks.length c1, .slice A2 fs.length c2, .int .i64 tn, .bool st], .blk (w.heap.size) 55 #[.int .i64 a, .int .i64 b, .int .i64 c, .int .i64 d, .int .i64 e]])
   case first =>
    refine wp_region_T (S := (fun w' => w'.cell? ⟨w.heap.size, 0, none⟩ = some (.int .i64 a) ∧ w'.cell? ⟨w.heap.size, 1, none⟩ = some (.int .i64 b) ∧ w'.cell? ⟨w.heap.size, 2, none⟩ = some (.int .i64 c) ∧ w'.cell? ⟨w.heap.size, 3, none⟩ = some (.int .i64 d) ∧ w'.cell? ⟨w.heap.size, 4, none⟩ = some (.int .i64 e) ∧ w'.cell? ⟨W8.heap.size, 0, none⟩ = some (.slice C0 ts.length e0) ∧ w'.cell? ⟨W8.heap.size, 1, none⟩ = some (.slice C1 ks.length e1) ∧ w'.cell? ⟨W8.heap.size, 2, none⟩ = some (.slice C2 fs.length e2) ∧ w'.cell? ⟨W8.heap.size, 3, none⟩ = some (.int .i64 tn) ∧ w'.cell? ⟨W8.heap.size, 4, none⟩ = some (.bool st))) (ks := [12, 13]) (by kernel_rfl) ⟨M.cell 10 0 rfl, M.cell 10 1 rfl, M.cell 10 2 rfl, M.cell 10 3 rfl, M.cell 10 4 rfl, M.cell 0 0 rfl, M.cell 0 1 rfl, M.cell 0 2 rfl, M.cell 0 3 rfl, M.cell 0 4 rfl⟩ (fun hHeld => ?_)
    replace M := M.drew
    generalize W9.drew = W10 at M hHeld ⊢
    refine tkL 0 ?v0u30 rfl ?hy0u30 hHeld ?_
    case hy0u30 => (intro w hSw; (try dsimp only at hSw); go_split_ands; go_simp; all_goals with_reducible rfl)
    try simp only [Act.put, List.setIfInBounds_toArray, List.set_cons_zero, List.set_cons_succ]
    refine tkL 2 ?v2u31 rfl ?hy2u31 hHeld ?_
    case hy2u31 => (intro w hSw; (try dsimp only at hSw); go_split_ands; go_simp; all_goals with_reducible rfl)
    try simp only [Act.put, List.setIfInBounds_toArray, List.set_cons_zero, List.set_cons_succ]
    refine tkY 3 ?v3u32 rfl ?hy3u32 (fun _ => hHeld) ?_
    case hy3u32 => (intro w; go_simp; all_goals with_reducible rfl)
    try simp only [Act.put, List.setIfInBounds_toArray, List.set_cons_zero, List.set_cons_succ]
    refine tkY 4 ?v4u33 rfl ?hy4u33 (fun _ => hHeld) ?_
    case hy4u33 => (intro w; go_simp; all_goals with_reducible rfl)
    try simp only [Act.put, List.setIfInBounds_toArray, List.set_cons_zero, List.set_cons_succ]
    refine tkY 5 ?v5u34 rfl ?hy5u34 (fun _ => hHeld) ?_
    case hy5u34 => (intro w; go_simp; all_goals with_reducible rfl)
    try simp only [Act.put, List.setIfInBounds_toArray, List.set_cons_zero, List.set_cons_succ]
    clear hHeld
    refine wpA_startH (q := ⟨10, 11, 15, 16, 35, 38, #[.slice none 0 0, .slice none 0 0, .slice none 0 0, .int .i64 0, .bool false], #[.int .i64 0, .int .i64 0]⟩) (n := 7) (by kernel_rfl) (by rfl) M ⟨by decide, by decide, ⟨_, rfl, rfl, rfl, ?mk1z7⟩, ⟨_, rfl, rfl, rfl, ?mk2z7⟩⟩ (fun HM => ?_)
    case mk1z7 => (intro aa W; go_simp)
    case mk2z7 => (intro aa W; go_simp)
    clear M
    refine wpA_call HM (c := 1) (d := 42) (fun v new => v = .agg #[.int .i64 a, .int .i64 b, .int .i64 c, .int .i64 d, .int .i64 e] ∧ new = []) rfl rfl rfl (by decide) (by decide) (by decide) (by decide) (by intro b1 b2; cases b1 <;> cases b2 <;> kernel_rfl) (fun V e' hM => (fun N => ⟨N.cell 10 0 rfl, N.cell 10 1 rfl, N.cell 10 2 rfl, N.cell 10 3 rfl, N.cell 10 4 rfl, N.cell 0 0 rfl, N.cell 0 1 rfl, N.cell 0 2 rfl, N.cell 0 3 rfl, N.cell 0 4 rfl⟩) (hM.sub (List.sublist_append_right _ _))) ?hx1z7 (fun V hM => (toPlan_any a b c d e V).mono (fun r V' ⟨hr, hb⟩ => ⟨_, [], hr, Sep.of_below hb, rfl, rfl⟩)) ?_
    case hx1z7 => (intro x1 x2 W; simp only [put2, List.setIfInBounds_toArray, List.set_cons_zero, List.set_cons_succ]; go_simp)
    rintro v new ⟨rfl, rfl⟩
    simp only [Act.put, List.setIfInBounds_toArray, List.set_cons_zero, List.set_cons_succ]
    simp only [List.nil_append]
    refine wpA_call HM (c := 6) (d := 47) (fun v new => ∃ (B0 B1 B2 : Option Addr) (b0 b1 b2 : Nat), v = .tuple #[.agg #[.slice B0 us.length b0, .slice B1 ks2.length b1, .slice B2 fs2.length b2, .int .i64 tn2, .bool st2], .agg #[.int .i64 rp, .int .i64 ou]] ∧ new = [rT us.length B0 b0 us, rK ks2.length B1 b1 ks2, rF fs2.length B2 b2 fs2]) rfl rfl rfl (by decide) (by decide) (by decide) (by decide) (by intro b1 b2; cases b1 <;> cases b2 <;> kernel_rfl) (fun V e' hM => (fun N => ⟨N.cell 10 0 rfl, N.cell 10 1 rfl, N.cell 10 2 rfl, N.cell 10 3 rfl, N.cell 10 4 rfl, N.cell 0 0 rfl, N.cell 0 1 rfl, N.cell 0 2 rfl, N.cell 0 3 rfl, N.cell 0 4 rfl⟩) (hM.sub (List.sublist_append_right _ _))) ?hx6z7 (fun V hM => (hI.out C0 C1 C2 e0 e1 e2 V (HG.out.below hM.below) ⟨hM.rowS 1 rfl, hM.rowS 2 rfl, hM.rowS 3 rfl⟩).mono (fun r V' ⟨B0, B1, B2, b0, b1, b2, hr, hs⟩ => ⟨_, _, hr, hs, B0, B1, B2, b0, b1, b2, rfl, rfl⟩)) ?_
    case hx6z7 => (intro x1 x2 W; simp only [put2, List.setIfInBounds_toArray, List.set_cons_zero, List.set_cons_succ]; go_simp)
    rintro v new ⟨SA0, SA1, SA2, sa0, sa1, sa2, rfl, rfl⟩
    simp only [Act.put, List.setIfInBounds_toArray, List.set_cons_zero, List.set_cons_succ]
    simp only [List.cons_append, List.nil_append]
    refine wpA_take (c := 7) (d := 40) (v := ?v7z7) rfl rfl rfl (by decide) (by decide) (by decide) (by decide) (by kernel_rfl) (by intro b1 b2; cases b1 <;> cases b2 <;> kernel_rfl) (by intro b1 b2; cases b1 <;> cases b2 <;> kernel_rfl) (by kernel_rfl) (fun _ _ _ h => h) (fun V e' hM => (fun N => ⟨N.cell 13 0 rfl, N.cell 13 1 rfl, N.cell 13 2 rfl, N.cell 13 3 rfl, N.cell 13 4 rfl, N.cell 3 0 rfl, N.cell 3 1 rfl, N.cell 3 2 rfl, N.cell 3 3 rfl, N.cell 3 4 rfl⟩) (hM.sub (List.sublist_append_right _ _))) ?hx7z7 ?n7z7
    case hx7z7 => (intro x1 x2 W; simp only [put2, List.setIfInBounds_toArray, List.set_cons_zero, List.set_cons_succ]; go_simp; all_goals with_reducible rfl)
    simp only [Act.put, List.setIfInBounds_toArray, List.set_cons_zero, List.set_cons_succ]
    refine wpA_take (c := 8) (d := 48) (v := ?v8z7) rfl rfl rfl (by decide) (by decide) (by decide) (by decide) (by kernel_rfl) (by intro b1 b2; cases b1 <;> cases b2 <;> kernel_rfl) (by intro b1 b2; cases b1 <;> cases b2 <;> kernel_rfl) (by kernel_rfl) (fun _ _ _ h => h) (fun V e' hM => (fun N => ⟨N.cell 13 0 rfl, N.cell 13 1 rfl, N.cell 13 2 rfl, N.cell 13 3 rfl, N.cell 13 4 rfl, N.cell 3 0 rfl, N.cell 3 1 rfl, N.cell 3 2 rfl, N.cell 3 3 rfl, N.cell 3 4 rfl⟩) (hM.sub (List.sublist_append_right _ _))) ?hx8z7 ?n8z7
    case hx8z7 => (intro x1 x2 W; simp only [put2, List.setIfInBounds_toArray, List.set_cons_zero, List.set_cons_succ]; go_simp; all_goals with_reducible rfl)
    simp only [Act.put, List.setIfInBounds_toArray, List.set_cons_zero, List.set_cons_succ]
    refine wpA_take (c := 9) (d := 49) (v := ?v9z7) rfl rfl rfl (by decide) (by decide) (by decide) (by decide) (by kernel_rfl) (by intro b1 b2; cases b1 <;> cases b2 <;> kernel_rfl) (by intro b1 b2; cases b1 <;> cases b2 <;> kernel_rfl) (by kernel_rfl) (fun _ _ _ h => h) (fun V e' hM => (fun N => ⟨N.cell 13 0 rfl, N.cell 13 1 rfl, N.cell 13 2 rfl, N.cell 13 3 rfl, N.cell 13 4 rfl, N.cell 3 0 rfl, N.cell 3 1 rfl, N.cell 3 2 rfl, N.cell 3 3 rfl, N.cell 3 4 rfl⟩) (hM.sub (List.sublist_append_right _ _))) ?hx9z7 ?n9z7
    case hx9z7 => (intro x1 x2 W; simp only [put2, List.setIfInBounds_toArray, List.set_cons_zero, List.set_cons_succ]; go_simp; all_goals with_reducible rfl)
    simp only [Act.put, List.setIfInBounds_toArray, List.set_cons_zero, List.set_cons_succ]
    refine wpA_end HM (by intro b1 b2 hb; cases b1 <;> cases b2 <;> first | (cases hb; done) | kernel_rfl) (fun V e' hM => (fun N => ⟨N.cell 13 0 rfl, N.cell 13 1 rfl, N.cell 13 2 rfl, N.cell 13 3 rfl, N.cell 13 4 rfl, N.cell 3 0 rfl, N.cell 3 1 rfl, N.cell 3 2 rfl, N.cell 3 3 rfl, N.cell 3 4 rfl⟩) (hM.sub (List.sublist_append_right _ _))) ?_
    intro gg1 gg2 W11 M
    clear HM
    simp only [put2, List.setIfInBounds_toArray, List.set_cons_zero, List.set_cons_succ]
    obtain ⟨Am, qG00, fG00, qG01, fG01, qG02, fG02, qG03, fG03, qG04, fG04⟩ := M.f5 0 rfl
    refine wpAnyT_oneL (i := 12) rfl (by kernel_rfl) (by kernel_rfl) (fun K hK => ?_)
    go_simp
    refine hK.out _ _ ?_
    clear hK K
    try simp only [Act.put, List.setIfInBounds_toArray, List.set_cons_zero, List.set_cons_succ]
    clear Am qG00 fG00 qG01 fG01 qG02 fG02 qG03 fG03 qG04 fG04
    have N := M.gset5 0 rfl (.slice SA0 us.length sa0) (.slice SA1 ks2.length sa1) (.slice SA2 fs2.length sa2) (.int .i64 tn2) (.bool st2)
    clear M
    obtain ⟨W12, eW, M⟩ := N
    rw [eW]
    clear eW
    simp only [List.set_cons_zero] at M
    obtain ⟨tG0A, qG0A0, fG0A0, qG0A1, fG0A1⟩ := M.f2 1 rfl
    refine wpAnyT_oneL (i := 13) rfl (by kernel_rfl) (by kernel_rfl) (fun K hK => ?_)
    go_simp
    refine hK.out _ _ ?_
    clear hK K
    try simp only [Act.put, List.setIfInBounds_toArray, List.set_cons_zero, List.set_cons_succ]
    clear tG0A qG0A0 fG0A0 qG0A1 fG0A1
    have N := M.gset2 1 rfl (.int .i64 rp) (.int .i64 ou)
    clear M
    obtain ⟨W13, eW, M⟩ := N
    rw [eW]
    clear eW
    simp only [List.set_cons_zero, List.set_cons_succ] at M
    refine wpAnyT_done (by kernel_rfl) ?_ _
    go_wp2_with fail
    go_meet
    exact ⟨_, _, _, _, _, _, _, _, rfl, rfl, M⟩
   case rest =>
    clear M
    obtain ⟨gG0, gG0A, SA0, SA1, SA2, sa0, sa1, sa2, rfl, rfl, M⟩ := hcut
    rename World => W14
    obtain ⟨Am, qG00, qG01, qG02, qG03, qG04⟩ := M.q5 0 rfl
    obtain ⟨tG0A, qG0A0, qG0A1⟩ := M.q2 1 rfl
    obtain ⟨Al, qY00, qY01, qY02, qY03, qY04⟩ := M.q5 5 rfl
    obtain ⟨Ak, qW00, qW01, qW02, qW03, qW04⟩ := M.q5 9 rfl
    obtain ⟨tW0A, qW0A0, qW0A1⟩ := M.q2 10 rfl
    obtain ⟨tX, Ab, Ad, Ac, Ae, Aa⟩ := M.q5 14 rfl
    obtain ⟨tP, Af, Aj, Ai, Ag, Ah⟩ := M.q5 15 rfl
    go_wp2_with fail
    go_call (eqPool_same us ks2 fs2 SA0 SA1 SA2 sa0 sa1 sa2 tn2 st2 RA0 RA1 RA2 ra0 ra1 ra2 _ hLl ⟨M.rowS 2 rfl, M.rowS 3 rfl, M.rowS 4 rfl⟩ ⟨M.rowS 11 rfl, M.rowS 12 rfl, M.rowS 13 rfl⟩) as r W15 ⟨rfl, g1⟩
    clear Am qG00 qG01 qG02 qG03 qG04 tG0A qG0A0 qG0A1 Al qY00 qY01 qY02 qY03 qY04 Ak qW00 qW01 qW02 qW03 qW04 tW0A qW0A0 qW0A1 tX Ab Ad Ac Ae Aa tP Af Aj Ai Ag Ah
    replace M := M.call g1
    clear g1
    obtain ⟨Am, qG00, qG01, qG02, qG03, qG04⟩ := M.q5 0 rfl
    obtain ⟨tG0A, qG0A0, qG0A1⟩ := M.q2 1 rfl
    obtain ⟨Al, qY00, qY01, qY02, qY03, qY04⟩ := M.q5 5 rfl
    obtain ⟨Ak, qW00, qW01, qW02, qW03, qW04⟩ := M.q5 9 rfl
    obtain ⟨tW0A, qW0A0, qW0A1⟩ := M.q2 10 rfl
    obtain ⟨tX, Ab, Ad, Ac, Ae, Aa⟩ := M.q5 14 rfl
    obtain ⟨tP, Af, Aj, Ai, Ag, Ah⟩ := M.q5 15 rfl
    go_wp2_with fail
    go_call (eqAnswer_same rp ou _) as r W16 ⟨rfl, g1⟩
    clear Am qG00 qG01 qG02 qG03 qG04 tG0A qG0A0 qG0A1 Al qY00 qY01 qY02 qY03 qY04 Ak qW00 qW01 qW02 qW03 qW04 tW0A qW0A0 qW0A1 tX Ab Ad Ac Ae Aa tP Af Aj Ai Ag Ah
    replace M := M.call g1
    clear g1
    obtain ⟨Am, qG00, qG01, qG02, qG03, qG04⟩ := M.q5 0 rfl
    obtain ⟨tG0A, qG0A0, qG0A1⟩ := M.q2 1 rfl
    obtain ⟨Al, qY00, qY01, qY02, qY03, qY04⟩ := M.q5 5 rfl
    obtain ⟨Ak, qW00, qW01, qW02, qW03, qW04⟩ := M.q5 9 rfl
    obtain ⟨tW0A, qW0A0, qW0A1⟩ := M.q2 10 rfl
    obtain ⟨tX, Ab, Ad, Ac, Ae, Aa⟩ := M.q5 14 rfl
    obtain ⟨tP, Af, Aj, Ai, Ag, Ah⟩ := M.q5 15 rfl
    go_wp2_with fail
    clear Am qG00 qG01 qG02 qG03 qG04 tG0A qG0A0 qG0A1 Al qY00 qY01 qY02 qY03 qY04 Ak qW00 qW01 qW02 qW03 qW04 tW0A qW0A0 qW0A1 tX Ab Ad Ac Ae Aa tP Af Aj Ai Ag Ah
    obtain ⟨Al, qY00, qY01, qY02, qY03, qY04⟩ := M.q5 5 rfl
    obtain ⟨tX, Ab, Ad, Ac, Ae, Aa⟩ := M.q5 14 rfl
    have HH := hide (⟨H.out.below M.below, ⟨M.rowS 6 rfl, M.rowS 7 rfl, M.rowS 8 rfl⟩, M⟩ : InPool W16 ts ks fs A0 A1 A2 ∧ InPool W16 ts ks fs C0 C1 C2 ∧ Sep [] w W16 [.blk (gG0) 35 #[.slice SA0 us.length sa0, .slice SA1 ks2.length sa1, .slice SA2 fs2.length sa2, .int .i64 tn2, .bool st2], .blk (gG0A) 38 #[.int .i64 rp, .int .i64 ou], rT us.length SA0 sa0 us, rK ks2.length SA1 sa1 ks2, rF fs2.length SA2 sa2 fs2, .blk (W8.heap.size) 35 #[.slice C0 ts.length e0, .slice C1 ks.length e1, .slice C2 fs.length e2, .int .i64 tn, .bool st], rT ts.length C0 e0 ts, rK ks.length C1 e1 ks, rF fs.length C2 e2 fs, .blk (gW0) 35 #[.slice RA0 us.length ra0, .slice RA1 ks2.length ra1, .slice RA2 fs2.length ra2, .int .i64 tn2, .bool st2], .blk (gW0A) 38 #[.int .i64 rp, .int .i64 ou], rT us.length RA0 ra0 us, rK ks2.length RA1 ra1 ks2, rF fs2.length RA2 ra2 fs2, .blk (w.heap.size + 1) 59 #[.slice A0 ts.length c0, .slice A1 ks.length c1, .slice A2 fs.length c2, .int .i64 tn, .bool st], .blk (w.heap.size) 55 #[.int .i64 a, .int .i64 b, .int .i64 c, .int .i64 d, .int .i64 e]])
    clear M
    go_region_held3 (fun w' => Below (World.heap W16).size W16 w' ∧ ∀ b o, b < (World.heap W16).size → w'.cell? ⟨b, o, none⟩ = World.cell? W16 ⟨b, o, none⟩) (first | exact keep0' _ | exact keepS' (by assumption) (by assumption)) (first | (go_at_call 42; refine (toPool_any ts ks fs A0 A1 A2 c0 c1 c2 tn st _ hT (inS HH.out.1 (by assumption))).mono ?_; rintro r w4 ⟨D0, D1, D2, f0, f1, f2, rfl, own4, hb4⟩) | (go_at_call 43; refine (eqPool_same ts ks fs C0 C1 C2 e0 e1 e2 tn st D0 D1 D2 f0 f1 f2 _ hT (inS HH.out.2.1 (by assumption)) own4.reads).mono ?_; rintro r w5 ⟨rfl, hb5⟩))
    have M := HH.out.2.2.call (keptB (by assumption))
    clear HH Al qY00 qY01 qY02 qY03 qY04 tX Ab Ad Ac Ae Aa
    clear own4 hb4 hb5
    obtain ⟨Am, qG00, qG01, qG02, qG03, qG04⟩ := M.q5 0 rfl
    obtain ⟨tG0A, qG0A0, qG0A1⟩ := M.q2 1 rfl
    obtain ⟨Al, qY00, qY01, qY02, qY03, qY04⟩ := M.q5 5 rfl
    obtain ⟨Ak, qW00, qW01, qW02, qW03, qW04⟩ := M.q5 9 rfl
    obtain ⟨tW0A, qW0A0, qW0A1⟩ := M.q2 10 rfl
    obtain ⟨tX, Ab, Ad, Ac, Ae, Aa⟩ := M.q5 14 rfl
    obtain ⟨tP, Af, Aj, Ai, Ag, Ah⟩ := M.q5 15 rfl
    go_wp2_with fail
    replace M := M.front 8 rfl
    simp only [List.eraseIdx_cons_succ, List.eraseIdx_cons_zero] at M
    replace M := M.front 8 rfl
    simp only [List.eraseIdx_cons_succ, List.eraseIdx_cons_zero] at M
    replace M := M.front 8 rfl
    simp only [List.eraseIdx_cons_succ, List.eraseIdx_cons_zero] at M
    go_call (markPool_s ts ks fs C0 C1 C2 e0 e1 e2 tn st 1 _ hT (by omega) (by omega) (Sep.same (ps := [rT ts.length C0 e0 ts, rK ks.length C1 e1 ks, rF fs.length C2 e2 fs]) (rs := [.blk (gG0) 35 #[.slice SA0 us.length sa0, .slice SA1 ks2.length sa1, .slice SA2 fs2.length sa2, .int .i64 tn2, .bool st2], .blk (gG0A) 38 #[.int .i64 rp, .int .i64 ou], rT us.length SA0 sa0 us, rK ks2.length SA1 sa1 ks2, rF fs2.length SA2 sa2 fs2, .blk (W8.heap.size) 35 #[.slice C0 ts.length e0, .slice C1 ks.length e1, .slice C2 fs.length e2, .int .i64 tn, .bool st], .blk (gW0) 35 #[.slice RA0 us.length ra0, .slice RA1 ks2.length ra1, .slice RA2 fs2.length ra2, .int .i64 tn2, .bool st2], .blk (gW0A) 38 #[.int .i64 rp, .int .i64 ou], rT us.length RA0 ra0 us, rK ks2.length RA1 ra1 ks2, rF fs2.length RA2 ra2 fs2, .blk (w.heap.size + 1) 59 #[.slice A0 ts.length c0, .slice A1 ks.length c1, .slice A2 fs.length c2, .int .i64 tn, .bool st], .blk (w.heap.size) 55 #[.int .i64 a, .int .i64 b, .int .i64 c, .int .i64 d, .int .i64 e]]) M (Below.refl _ _))) as r W17 ⟨rfl, g1⟩
    clear Am qG00 qG01 qG02 qG03 qG04 tG0A qG0A0 qG0A1 Al qY00 qY01 qY02 qY03 qY04 Ak qW00 qW01 qW02 qW03 qW04 tW0A qW0A0 qW0A1 tX Ab Ad Ac Ae Aa tP Af Aj Ai Ag Ah
    replace M := Sep.comp (ps := [rT ts.length C0 e0 ts, rK ks.length C1 e1 ks, rF fs.length C2 e2 fs]) M g1
    simp only [List.cons_append, List.nil_append] at M
    clear g1
    have hk1 : ¬ (1 + 7 * (ts.length : Int) + ks.length + 2 * fs.length < 0) := by omega
    obtain ⟨Am, qG00, qG01, qG02, qG03, qG04⟩ := M.q5 3 rfl
    obtain ⟨tG0A, qG0A0, qG0A1⟩ := M.q2 4 rfl
    obtain ⟨Al, qY00, qY01, qY02, qY03, qY04⟩ := M.q5 8 rfl
    obtain ⟨Ak, qW00, qW01, qW02, qW03, qW04⟩ := M.q5 9 rfl
    obtain ⟨tW0A, qW0A0, qW0A1⟩ := M.q2 10 rfl
    obtain ⟨tX, Ab, Ad, Ac, Ae, Aa⟩ := M.q5 14 rfl
    obtain ⟨tP, Af, Aj, Ai, Ag, Ah⟩ := M.q5 15 rfl
    go_wp2_with fail
    go_call (eqPool_same us ks2 fs2 SA0 SA1 SA2 sa0 sa1 sa2 tn2 st2 RA0 RA1 RA2 ra0 ra1 ra2 _ hLl ⟨M.rowS 5 rfl, M.rowS 6 rfl, M.rowS 7 rfl⟩ ⟨M.rowS 11 rfl, M.rowS 12 rfl, M.rowS 13 rfl⟩) as r W18 ⟨rfl, g1⟩
    clear Am qG00 qG01 qG02 qG03 qG04 tG0A qG0A0 qG0A1 Al qY00 qY01 qY02 qY03 qY04 Ak qW00 qW01 qW02 qW03 qW04 tW0A qW0A0 qW0A1 tX Ab Ad Ac Ae Aa tP Af Aj Ai Ag Ah
    replace M := M.call g1
    clear g1
    obtain ⟨Am, qG00, qG01, qG02, qG03, qG04⟩ := M.q5 3 rfl
    obtain ⟨tG0A, qG0A0, qG0A1⟩ := M.q2 4 rfl
    obtain ⟨Al, qY00, qY01, qY02, qY03, qY04⟩ := M.q5 8 rfl
    obtain ⟨Ak, qW00, qW01, qW02, qW03, qW04⟩ := M.q5 9 rfl
    obtain ⟨tW0A, qW0A0, qW0A1⟩ := M.q2 10 rfl
    obtain ⟨tX, Ab, Ad, Ac, Ae, Aa⟩ := M.q5 14 rfl
    obtain ⟨tP, Af, Aj, Ai, Ag, Ah⟩ := M.q5 15 rfl
    go_wp2_with fail
    go_call (eqAnswer_same rp ou _) as r W19 ⟨rfl, g1⟩
    clear Am qG00 qG01 qG02 qG03 qG04 tG0A qG0A0 qG0A1 Al qY00 qY01 qY02 qY03 qY04 Ak qW00 qW01 qW02 qW03 qW04 tW0A qW0A0 qW0A1 tX Ab Ad Ac Ae Aa tP Af Aj Ai Ag Ah
    replace M := M.call g1
    clear g1
    obtain ⟨Am, qG00, qG01, qG02, qG03, qG04⟩ := M.q5 3 rfl
    obtain ⟨tG0A, qG0A0, qG0A1⟩ := M.q2 4 rfl
    obtain ⟨Al, qY00, qY01, qY02, qY03, qY04⟩ := M.q5 8 rfl
    obtain ⟨Ak, qW00, qW01, qW02, qW03, qW04⟩ := M.q5 9 rfl
    obtain ⟨tW0A, qW0A0, qW0A1⟩ := M.q2 10 rfl
    obtain ⟨tX, Ab, Ad, Ac, Ae, Aa⟩ := M.q5 14 rfl
    obtain ⟨tP, Af, Aj, Ai, Ag, Ah⟩ := M.q5 15 rfl
    go_wp2_with fail
    replace M := M.front 7 rfl
    simp only [List.eraseIdx_cons_succ, List.eraseIdx_cons_zero] at M
    replace M := M.front 7 rfl
    simp only [List.eraseIdx_cons_succ, List.eraseIdx_cons_zero] at M
    replace M := M.front 7 rfl
    simp only [List.eraseIdx_cons_succ, List.eraseIdx_cons_zero] at M
    go_call (markPool_s us ks2 fs2 SA0 SA1 SA2 sa0 sa1 sa2 tn2 st2 1 _ hLl (by omega) (by omega) (Sep.same (ps := [rT us.length SA0 sa0 us, rK ks2.length SA1 sa1 ks2, rF fs2.length SA2 sa2 fs2]) (rs := [rT ts.length C0 e0 (markT 1 ts.length), rK ks.length C1 e1 (markK (1 + 7 * ts.length) ks.length), rF fs.length C2 e2 (markF (1 + 7 * ts.length + ks.length) fs.length), .blk (gG0) 35 #[.slice SA0 us.length sa0, .slice SA1 ks2.length sa1, .slice SA2 fs2.length sa2, .int .i64 tn2, .bool st2], .blk (gG0A) 38 #[.int .i64 rp, .int .i64 ou], .blk (W8.heap.size) 35 #[.slice C0 ts.length e0, .slice C1 ks.length e1, .slice C2 fs.length e2, .int .i64 tn, .bool st], .blk (gW0) 35 #[.slice RA0 us.length ra0, .slice RA1 ks2.length ra1, .slice RA2 fs2.length ra2, .int .i64 tn2, .bool st2], .blk (gW0A) 38 #[.int .i64 rp, .int .i64 ou], rT us.length RA0 ra0 us, rK ks2.length RA1 ra1 ks2, rF fs2.length RA2 ra2 fs2, .blk (w.heap.size + 1) 59 #[.slice A0 ts.length c0, .slice A1 ks.length c1, .slice A2 fs.length c2, .int .i64 tn, .bool st], .blk (w.heap.size) 55 #[.int .i64 a, .int .i64 b, .int .i64 c, .int .i64 d, .int .i64 e]]) M (Below.refl _ _))) as r W20 ⟨rfl, g1⟩
    clear Am qG00 qG01 qG02 qG03 qG04 tG0A qG0A0 qG0A1 Al qY00 qY01 qY02 qY03 qY04 Ak qW00 qW01 qW02 qW03 qW04 tW0A qW0A0 qW0A1 tX Ab Ad Ac Ae Aa tP Af Aj Ai Ag Ah
    replace M := Sep.comp (ps := [rT us.length SA0 sa0 us, rK ks2.length SA1 sa1 ks2, rF fs2.length SA2 sa2 fs2]) M g1
    simp only [List.cons_append, List.nil_append] at M
    clear g1
    have hk2 : ¬ (1 + 7 * (us.length : Int) + ks2.length + 2 * fs2.length < 0) := by omega
    obtain ⟨Am, qG00, qG01, qG02, qG03, qG04⟩ := M.q5 6 rfl
    obtain ⟨tG0A, qG0A0, qG0A1⟩ := M.q2 7 rfl
    obtain ⟨Al, qY00, qY01, qY02, qY03, qY04⟩ := M.q5 8 rfl
    obtain ⟨Ak, qW00, qW01, qW02, qW03, qW04⟩ := M.q5 9 rfl
    obtain ⟨tW0A, qW0A0, qW0A1⟩ := M.q2 10 rfl
    obtain ⟨tX, Ab, Ad, Ac, Ae, Aa⟩ := M.q5 14 rfl
    obtain ⟨tP, Af, Aj, Ai, Ag, Ah⟩ := M.q5 15 rfl
    go_wp2_with fail
    go_call (heldPool_x us.length ks2.length fs2.length SA0 SA1 SA2 sa0 sa1 sa2 tn2 st2 1 _ hLl (by omega) (by omega) ⟨M.rowS 0 rfl, M.rowS 1 rfl, M.rowS 2 rfl⟩) as r W21 ⟨rfl, g1⟩
    clear Am qG00 qG01 qG02 qG03 qG04 tG0A qG0A0 qG0A1 Al qY00 qY01 qY02 qY03 qY04 Ak qW00 qW01 qW02 qW03 qW04 tW0A qW0A0 qW0A1 tX Ab Ad Ac Ae Aa tP Af Aj Ai Ag Ah
    replace M := M.call g1
    clear g1
    obtain ⟨Am, qG00, qG01, qG02, qG03, qG04⟩ := M.q5 6 rfl
    obtain ⟨tG0A, qG0A0, qG0A1⟩ := M.q2 7 rfl
    obtain ⟨Al, qY00, qY01, qY02, qY03, qY04⟩ := M.q5 8 rfl
    obtain ⟨Ak, qW00, qW01, qW02, qW03, qW04⟩ := M.q5 9 rfl
    obtain ⟨tW0A, qW0A0, qW0A1⟩ := M.q2 10 rfl
    obtain ⟨tX, Ab, Ad, Ac, Ae, Aa⟩ := M.q5 14 rfl
    obtain ⟨tP, Af, Aj, Ai, Ag, Ah⟩ := M.q5 15 rfl
    go_wp2_with fail
    clear Am qG00 qG01 qG02 qG03 qG04 tG0A qG0A0 qG0A1 Al qY00 qY01 qY02 qY03 qY04 Ak qW00 qW01 qW02 qW03 qW04 tW0A qW0A0 qW0A1 tX Ab Ad Ac Ae Aa tP Af Aj Ai Ag Ah
    go_cut [20, 21] (fun p' z' wc => ∃ (gH0 gH0A : Nat) (TA0 TA1 TA2 : Option Addr) (ta0 ta1 ta2 : Nat), p' = .pointer (some ⟨gH0, 0, none⟩) ∧ z' = .pointer (some ⟨gH0A, 0, none⟩) ∧ Sep [] w wc [.blk (gH0) 35 #[.slice TA0 us.length ta0, .slice TA1 ks2.length ta1, .slice TA2 fs2.length ta2, .int .i64 tn2, .bool st2], .blk (gH0A) 38 #[.int .i64 rp, .int .i64 ou], rT us.length TA0 ta0 us, rK ks2.length TA1 ta1 ks2, rF fs2.length TA2 ta2 fs2, rT us.length SA0 sa0 (markT 1 us.length), rK ks2.length SA1 sa1 (markK (1 + 7 * us.length) ks2.length), rF fs2.length SA2 sa2 (markF (1 + 7 * us.length + ks2.length) fs2.length), rT ts.length C0 e0 (markT 1 ts.length), rK ks.length C1 e1 (markK (1 + 7 * ts.length) ks.length), rF fs.length C2 e2 (markF (1 + 7 * ts.length + ks.length) fs.length), .blk (gG0) 35 #[.slice SA0 us.length sa0, .slice SA1 ks2.length sa1, .slice SA2 fs2.length sa2, .int .i64 tn2, .bool st2], .blk (gG0A) 38 #[.int .i64 rp, .int .i64 ou], .blk (W8.heap.size) 35 #[.slice C0 ts.length e0, .slice C1 ks.length e1, .slice C2 fs.length e2, .int .i64 tn, .bool st], .blk (gW0) 35 #[.slice RA0 us.length ra0, .slice RA1 ks2.length ra1, .slice RA2 fs2.length ra2, .int .i64 tn2, .bool st2], .blk (gW0A) 38 #[.int .i64 rp, .int .i64 ou], rT us.length RA0 ra0 us, rK ks2.length RA1 ra1 ks2, rF fs2.length RA2 ra2 fs2, .blk (w.heap.size + 1) 59 #[.slice A0 ts.length c0, .slice A1 ks.length c1, .slice A2 fs.length c2, .int .i64 tn, .bool st], .blk (w.heap.size) 55 #[.int .i64 a, .int .i64 b, .int .i64 c, .int .i64 d, .int .i64 e]])
    case first =>
     refine wp_region_T (S := (fun w' => w'.cell? ⟨w.heap.size, 0, none⟩ = some (.int .i64 a) ∧ w'.cell? ⟨w.heap.size, 1, none⟩ = some (.int .i64 b) ∧ w'.cell? ⟨w.heap.size, 2, none⟩ = some (.int .i64 c) ∧ w'.cell? ⟨w.heap.size, 3, none⟩ = some (.int .i64 d) ∧ w'.cell? ⟨w.heap.size, 4, none⟩ = some (.int .i64 e) ∧ w'.cell? ⟨w.heap.size + 1, 0, none⟩ = some (.slice A0 ts.length c0) ∧ w'.cell? ⟨w.heap.size + 1, 1, none⟩ = some (.slice A1 ks.length c1) ∧ w'.cell? ⟨w.heap.size + 1, 2, none⟩ = some (.slice A2 fs.length c2) ∧ w'.cell? ⟨w.heap.size + 1, 3, none⟩ = some (.int .i64 tn) ∧ w'.cell? ⟨w.heap.size + 1, 4, none⟩ = some (.bool st))) (ks := [13, 14]) (by kernel_rfl) ⟨M.cell 15 0 rfl, M.cell 15 1 rfl, M.cell 15 2 rfl, M.cell 15 3 rfl, M.cell 15 4 rfl, M.cell 14 0 rfl, M.cell 14 1 rfl, M.cell 14 2 rfl, M.cell 14 3 rfl, M.cell 14 4 rfl⟩ (fun hHeld => ?_)
     replace M := M.drew
     generalize W21.drew = W22 at M hHeld ⊢
     refine tkL 0 ?v0u35 rfl ?hy0u35 hHeld ?_
     case hy0u35 => (intro w hSw; (try dsimp only at hSw); go_split_ands; go_simp; all_goals with_reducible rfl)
     try simp only [Act.put, List.setIfInBounds_toArray, List.set_cons_zero, List.set_cons_succ]
     refine tkL 2 ?v2u36 rfl ?hy2u36 hHeld ?_
     case hy2u36 => (intro w hSw; (try dsimp only at hSw); go_split_ands; go_simp; all_goals with_reducible rfl)
     try simp only [Act.put, List.setIfInBounds_toArray, List.set_cons_zero, List.set_cons_succ]
     refine tkY 4 ?v4u37 rfl ?hy4u37 (fun _ => hHeld) ?_
     case hy4u37 => (intro w; go_simp; all_goals with_reducible rfl)
     try simp only [Act.put, List.setIfInBounds_toArray, List.set_cons_zero, List.set_cons_succ]
     refine tkY 5 ?v5u38 rfl ?hy5u38 (fun _ => hHeld) ?_
     case hy5u38 => (intro w; go_simp; all_goals with_reducible rfl)
     try simp only [Act.put, List.setIfInBounds_toArray, List.set_cons_zero, List.set_cons_succ]
     refine tkY 6 ?v6u39 rfl ?hy6u39 (fun _ => hHeld) ?_
     case hy6u39 => (intro w; go_simp; all_goals with_reducible rfl)
     try simp only [Act.put, List.setIfInBounds_toArray, List.set_cons_zero, List.set_cons_succ]
     clear hHeld
     refine wpA_startH (q := ⟨11, 12, 20, 21, 35, 38, #[.slice none 0 0, .slice none 0 0, .slice none 0 0, .int .i64 0, .bool false], #[.int .i64 0, .int .i64 0]⟩) (n := 8) (by kernel_rfl) (by rfl) M ⟨by decide, by decide, ⟨_, rfl, rfl, rfl, ?mk1z24⟩, ⟨_, rfl, rfl, rfl, ?mk2z24⟩⟩ (fun HM => ?_)
     case mk1z24 => (intro aa W; go_simp)
     case mk2z24 => (intro aa W; go_simp)
     clear M
     refine wpA_call HM (c := 1) (d := 95) (fun v new => v = .agg #[.int .i64 a, .int .i64 b, .int .i64 c, .int .i64 d, .int .i64 e] ∧ new = []) rfl rfl rfl (by decide) (by decide) (by decide) (by decide) (by intro b1 b2; cases b1 <;> cases b2 <;> kernel_rfl) (fun V e' hM => (fun N => ⟨N.cell 15 0 rfl, N.cell 15 1 rfl, N.cell 15 2 rfl, N.cell 15 3 rfl, N.cell 15 4 rfl, N.cell 14 0 rfl, N.cell 14 1 rfl, N.cell 14 2 rfl, N.cell 14 3 rfl, N.cell 14 4 rfl⟩) (hM.sub (List.sublist_append_right _ _))) ?hx1z24 (fun V hM => (toPlan_any a b c d e V).mono (fun r V' ⟨hr, hb⟩ => ⟨_, [], hr, Sep.of_below hb, rfl, rfl⟩)) ?_
     case hx1z24 => (intro x1 x2 W; simp only [put2, List.setIfInBounds_toArray, List.set_cons_zero, List.set_cons_succ]; go_simp)
     rintro v new ⟨rfl, rfl⟩
     simp only [Act.put, List.setIfInBounds_toArray, List.set_cons_zero, List.set_cons_succ]
     simp only [List.nil_append]
     refine wpA_call HM (c := 3) (d := 97) (fun v new => ∃ (B0 B1 B2 : Option Addr) (b0 b1 b2 : Nat), v = .agg #[.slice B0 ts.length b0, .slice B1 ks.length b1, .slice B2 fs.length b2, .int .i64 tn, .bool st] ∧ new = [rT ts.length B0 b0 ts, rK ks.length B1 b1 ks, rF fs.length B2 b2 fs]) rfl rfl rfl (by decide) (by decide) (by decide) (by decide) (by intro b1 b2; cases b1 <;> cases b2 <;> kernel_rfl) (fun V e' hM => (fun N => ⟨N.cell 15 0 rfl, N.cell 15 1 rfl, N.cell 15 2 rfl, N.cell 15 3 rfl, N.cell 15 4 rfl, N.cell 14 0 rfl, N.cell 14 1 rfl, N.cell 14 2 rfl, N.cell 14 3 rfl, N.cell 14 4 rfl⟩) (hM.sub (List.sublist_append_right _ _))) ?hx3z24 (fun V hM => (toPool_s ts ks fs A0 A1 A2 c0 c1 c2 tn st V hT (H.out.below hM.below)).mono (fun r V' ⟨B0, B1, B2, b0, b1, b2, hr, hs⟩ => ⟨_, _, hr, hs, B0, B1, B2, b0, b1, b2, rfl, rfl⟩)) ?_
     case hx3z24 => (intro x1 x2 W; simp only [put2, List.setIfInBounds_toArray, List.set_cons_zero, List.set_cons_succ]; go_simp)
     rintro v new ⟨E0, E1, E2, j0, j1, j2, rfl, rfl⟩
     simp only [Act.put, List.setIfInBounds_toArray, List.set_cons_zero, List.set_cons_succ]
     simp only [List.cons_append, List.nil_append]
     refine wpA_call HM (c := 7) (d := 101) (fun v new => ∃ (B0 B1 B2 : Option Addr) (b0 b1 b2 : Nat), v = .tuple #[.agg #[.slice B0 us.length b0, .slice B1 ks2.length b1, .slice B2 fs2.length b2, .int .i64 tn2, .bool st2], .agg #[.int .i64 rp, .int .i64 ou]] ∧ new = [rT us.length B0 b0 us, rK ks2.length B1 b1 ks2, rF fs2.length B2 b2 fs2]) rfl rfl rfl (by decide) (by decide) (by decide) (by decide) (by intro b1 b2; cases b1 <;> cases b2 <;> kernel_rfl) (fun V e' hM => (fun N => ⟨N.cell 18 0 rfl, N.cell 18 1 rfl, N.cell 18 2 rfl, N.cell 18 3 rfl, N.cell 18 4 rfl, N.cell 17 0 rfl, N.cell 17 1 rfl, N.cell 17 2 rfl, N.cell 17 3 rfl, N.cell 17 4 rfl⟩) (hM.sub (List.sublist_append_right _ _))) ?hx7z24 (fun V hM => (hI.out E0 E1 E2 j0 j1 j2 V (HG.out.below hM.below) ⟨hM.rowS 0 rfl, hM.rowS 1 rfl, hM.rowS 2 rfl⟩).mono (fun r V' ⟨B0, B1, B2, b0, b1, b2, hr, hs⟩ => ⟨_, _, hr, hs, B0, B1, B2, b0, b1, b2, rfl, rfl⟩)) ?_
     case hx7z24 => (intro x1 x2 W; simp only [put2, List.setIfInBounds_toArray, List.set_cons_zero, List.set_cons_succ]; go_simp)
     rintro v new ⟨TA0, TA1, TA2, ta0, ta1, ta2, rfl, rfl⟩
     simp only [Act.put, List.setIfInBounds_toArray, List.set_cons_zero, List.set_cons_succ]
     simp only [List.cons_append, List.nil_append]
     refine wpA_take (c := 8) (d := 93) (v := ?v8z24) rfl rfl rfl (by decide) (by decide) (by decide) (by decide) (by kernel_rfl) (by intro b1 b2; cases b1 <;> cases b2 <;> kernel_rfl) (by intro b1 b2; cases b1 <;> cases b2 <;> kernel_rfl) (by kernel_rfl) (fun _ _ _ h => h) (fun V e' hM => (fun N => ⟨N.cell 21 0 rfl, N.cell 21 1 rfl, N.cell 21 2 rfl, N.cell 21 3 rfl, N.cell 21 4 rfl, N.cell 20 0 rfl, N.cell 20 1 rfl, N.cell 20 2 rfl, N.cell 20 3 rfl, N.cell 20 4 rfl⟩) (hM.sub (List.sublist_append_right _ _))) ?hx8z24 ?n8z24
     case hx8z24 => (intro x1 x2 W; simp only [put2, List.setIfInBounds_toArray, List.set_cons_zero, List.set_cons_succ]; go_simp; all_goals with_reducible rfl)
     simp only [Act.put, List.setIfInBounds_toArray, List.set_cons_zero, List.set_cons_succ]
     refine wpA_take (c := 9) (d := 102) (v := ?v9z24) rfl rfl rfl (by decide) (by decide) (by decide) (by decide) (by kernel_rfl) (by intro b1 b2; cases b1 <;> cases b2 <;> kernel_rfl) (by intro b1 b2; cases b1 <;> cases b2 <;> kernel_rfl) (by kernel_rfl) (fun _ _ _ h => h) (fun V e' hM => (fun N => ⟨N.cell 21 0 rfl, N.cell 21 1 rfl, N.cell 21 2 rfl, N.cell 21 3 rfl, N.cell 21 4 rfl, N.cell 20 0 rfl, N.cell 20 1 rfl, N.cell 20 2 rfl, N.cell 20 3 rfl, N.cell 20 4 rfl⟩) (hM.sub (List.sublist_append_right _ _))) ?hx9z24 ?n9z24
     case hx9z24 => (intro x1 x2 W; simp only [put2, List.setIfInBounds_toArray, List.set_cons_zero, List.set_cons_succ]; go_simp; all_goals with_reducible rfl)
     simp only [Act.put, List.setIfInBounds_toArray, List.set_cons_zero, List.set_cons_succ]
     refine wpA_take (c := 10) (d := 103) (v := ?v10z24) rfl rfl rfl (by decide) (by decide) (by decide) (by decide) (by kernel_rfl) (by intro b1 b2; cases b1 <;> cases b2 <;> kernel_rfl) (by intro b1 b2; cases b1 <;> cases b2 <;> kernel_rfl) (by kernel_rfl) (fun _ _ _ h => h) (fun V e' hM => (fun N => ⟨N.cell 21 0 rfl, N.cell 21 1 rfl, N.cell 21 2 rfl, N.cell 21 3 rfl, N.cell 21 4 rfl, N.cell 20 0 rfl, N.cell 20 1 rfl, N.cell 20 2 rfl, N.cell 20 3 rfl, N.cell 20 4 rfl⟩) (hM.sub (List.sublist_append_right _ _))) ?hx10z24 ?n10z24
     case hx10z24 => (intro x1 x2 W; simp only [put2, List.setIfInBounds_toArray, List.set_cons_zero, List.set_cons_succ]; go_simp; all_goals with_reducible rfl)
     simp only [Act.put, List.setIfInBounds_toArray, List.set_cons_zero, List.set_cons_succ]
     refine wpA_end HM (by intro b1 b2 hb; cases b1 <;> cases b2 <;> first | (cases hb; done) | kernel_rfl) (fun V e' hM => (fun N => ⟨N.cell 21 0 rfl, N.cell 21 1 rfl, N.cell 21 2 rfl, N.cell 21 3 rfl, N.cell 21 4 rfl, N.cell 20 0 rfl, N.cell 20 1 rfl, N.cell 20 2 rfl, N.cell 20 3 rfl, N.cell 20 4 rfl⟩) (hM.sub (List.sublist_append_right _ _))) ?_
     intro gg1 gg2 W23 M
     clear HM
     simp only [put2, List.setIfInBounds_toArray, List.set_cons_zero, List.set_cons_succ]
     obtain ⟨An, qH00, fH00, qH01, fH01, qH02, fH02, qH03, fH03, qH04, fH04⟩ := M.f5 0 rfl
     refine wpAnyT_oneL (i := 13) rfl (by kernel_rfl) (by kernel_rfl) (fun K hK => ?_)
     go_simp
     refine hK.out _ _ ?_
     clear hK K
     try simp only [Act.put, List.setIfInBounds_toArray, List.set_cons_zero, List.set_cons_succ]
     clear An qH00 fH00 qH01 fH01 qH02 fH02 qH03 fH03 qH04 fH04
     have N := M.gset5 0 rfl (.slice TA0 us.length ta0) (.slice TA1 ks2.length ta1) (.slice TA2 fs2.length ta2) (.int .i64 tn2) (.bool st2)
     clear M
     obtain ⟨W24, eW, M⟩ := N
     rw [eW]
     clear eW
     simp only [List.set_cons_zero] at M
     obtain ⟨tH0A, qH0A0, fH0A0, qH0A1, fH0A1⟩ := M.f2 1 rfl
     refine wpAnyT_oneL (i := 14) rfl (by kernel_rfl) (by kernel_rfl) (fun K hK => ?_)
     go_simp
     refine hK.out _ _ ?_
     clear hK K
     try simp only [Act.put, List.setIfInBounds_toArray, List.set_cons_zero, List.set_cons_succ]
     clear tH0A qH0A0 fH0A0 qH0A1 fH0A1
     have N := M.gset2 1 rfl (.int .i64 rp) (.int .i64 ou)
     clear M
     obtain ⟨W25, eW, M⟩ := N
     rw [eW]
     clear eW
     simp only [List.set_cons_zero, List.set_cons_succ] at M
     refine wpAnyT_done (by kernel_rfl) ?_ _
     replace M : Sep [] w W25 [.blk (gg1) 35 #[.slice TA0 us.length ta0, .slice TA1 ks2.length ta1, .slice TA2 fs2.length ta2, .int .i64 tn2, .bool st2], .blk (gg2) 38 #[.int .i64 rp, .int .i64 ou], rT us.length TA0 ta0 us, rK ks2.length TA1 ta1 ks2, rF fs2.length TA2 ta2 fs2, rT us.length SA0 sa0 (markT 1 us.length), rK ks2.length SA1 sa1 (markK (1 + 7 * us.length) ks2.length), rF fs2.length SA2 sa2 (markF (1 + 7 * us.length + ks2.length) fs2.length), rT ts.length C0 e0 (markT 1 ts.length), rK ks.length C1 e1 (markK (1 + 7 * ts.length) ks.length), rF fs.length C2 e2 (markF (1 + 7 * ts.length + ks.length) fs.length), .blk (gG0) 35 #[.slice SA0 us.length sa0, .slice SA1 ks2.length sa1, .slice SA2 fs2.length sa2, .int .i64 tn2, .bool st2], .blk (gG0A) 38 #[.int .i64 rp, .int .i64 ou], .blk (W8.heap.size) 35 #[.slice C0 ts.length e0, .slice C1 ks.length e1, .slice C2 fs.length e2, .int .i64 tn, .bool st], .blk (gW0) 35 #[.slice RA0 us.length ra0, .slice RA1 ks2.length ra1, .slice RA2 fs2.length ra2, .int .i64 tn2, .bool st2], .blk (gW0A) 38 #[.int .i64 rp, .int .i64 ou], rT us.length RA0 ra0 us, rK ks2.length RA1 ra1 ks2, rF fs2.length RA2 ra2 fs2, .blk (w.heap.size + 1) 59 #[.slice A0 ts.length c0, .slice A1 ks.length c1, .slice A2 fs.length c2, .int .i64 tn, .bool st], .blk (w.heap.size) 55 #[.int .i64 a, .int .i64 b, .int .i64 c, .int .i64 d, .int .i64 e]] := M.sub ((List.Sublist.slnil) |>.cons_cons _ |>.cons_cons _ |>.cons_cons _ |>.cons_cons _ |>.cons_cons _ |>.cons_cons _ |>.cons_cons _ |>.cons_cons _ |>.cons_cons _ |>.cons_cons _ |>.cons_cons _ |>.cons_cons _ |>.cons_cons _ |>.cons_cons _ |>.cons_cons _ |>.cons_cons _ |>.cons _ |>.cons _ |>.cons _ |>.cons_cons _ |>.cons_cons _ |>.cons_cons _ |>.cons_cons _ |>.cons_cons _)
     go_wp2_with fail
     go_meet
     exact ⟨_, _, _, _, _, _, _, _, rfl, rfl, M⟩
    case rest =>
     clear M
     obtain ⟨gH0, gH0A, TA0, TA1, TA2, ta0, ta1, ta2, rfl, rfl, M⟩ := hcut
     rename World => W26
     obtain ⟨An, qH00, qH01, qH02, qH03, qH04⟩ := M.q5 0 rfl
     obtain ⟨tH0A, qH0A0, qH0A1⟩ := M.q2 1 rfl
     obtain ⟨Am, qG00, qG01, qG02, qG03, qG04⟩ := M.q5 11 rfl
     obtain ⟨tG0A, qG0A0, qG0A1⟩ := M.q2 12 rfl
     obtain ⟨Al, qY00, qY01, qY02, qY03, qY04⟩ := M.q5 13 rfl
     obtain ⟨Ak, qW00, qW01, qW02, qW03, qW04⟩ := M.q5 14 rfl
     obtain ⟨tW0A, qW0A0, qW0A1⟩ := M.q2 15 rfl
     obtain ⟨tX, Ab, Ad, Ac, Ae, Aa⟩ := M.q5 19 rfl
     obtain ⟨tP, Af, Aj, Ai, Ag, Ah⟩ := M.q5 20 rfl
     go_wp2_with fail
     go_call (eqPool_same us ks2 fs2 TA0 TA1 TA2 ta0 ta1 ta2 tn2 st2 RA0 RA1 RA2 ra0 ra1 ra2 _ hLl ⟨M.rowS 2 rfl, M.rowS 3 rfl, M.rowS 4 rfl⟩ ⟨M.rowS 16 rfl, M.rowS 17 rfl, M.rowS 18 rfl⟩) as r W27 ⟨rfl, g1⟩
     clear An qH00 qH01 qH02 qH03 qH04 tH0A qH0A0 qH0A1 Am qG00 qG01 qG02 qG03 qG04 tG0A qG0A0 qG0A1 Al qY00 qY01 qY02 qY03 qY04 Ak qW00 qW01 qW02 qW03 qW04 tW0A qW0A0 qW0A1 tX Ab Ad Ac Ae Aa tP Af Aj Ai Ag Ah
     replace M := M.call g1
     clear g1
     obtain ⟨An, qH00, qH01, qH02, qH03, qH04⟩ := M.q5 0 rfl
     obtain ⟨tH0A, qH0A0, qH0A1⟩ := M.q2 1 rfl
     obtain ⟨Am, qG00, qG01, qG02, qG03, qG04⟩ := M.q5 11 rfl
     obtain ⟨tG0A, qG0A0, qG0A1⟩ := M.q2 12 rfl
     obtain ⟨Al, qY00, qY01, qY02, qY03, qY04⟩ := M.q5 13 rfl
     obtain ⟨Ak, qW00, qW01, qW02, qW03, qW04⟩ := M.q5 14 rfl
     obtain ⟨tW0A, qW0A0, qW0A1⟩ := M.q2 15 rfl
     obtain ⟨tX, Ab, Ad, Ac, Ae, Aa⟩ := M.q5 19 rfl
     obtain ⟨tP, Af, Aj, Ai, Ag, Ah⟩ := M.q5 20 rfl
     go_wp2_with fail
     go_call (eqAnswer_same rp ou _) as r W28 ⟨rfl, g1⟩
     clear An qH00 qH01 qH02 qH03 qH04 tH0A qH0A0 qH0A1 Am qG00 qG01 qG02 qG03 qG04 tG0A qG0A0 qG0A1 Al qY00 qY01 qY02 qY03 qY04 Ak qW00 qW01 qW02 qW03 qW04 tW0A qW0A0 qW0A1 tX Ab Ad Ac Ae Aa tP Af Aj Ai Ag Ah
     replace M := M.call g1
     clear g1
     obtain ⟨An, qH00, qH01, qH02, qH03, qH04⟩ := M.q5 0 rfl
     obtain ⟨tH0A, qH0A0, qH0A1⟩ := M.q2 1 rfl
     obtain ⟨Am, qG00, qG01, qG02, qG03, qG04⟩ := M.q5 11 rfl
     obtain ⟨tG0A, qG0A0, qG0A1⟩ := M.q2 12 rfl
     obtain ⟨Al, qY00, qY01, qY02, qY03, qY04⟩ := M.q5 13 rfl
     obtain ⟨Ak, qW00, qW01, qW02, qW03, qW04⟩ := M.q5 14 rfl
     obtain ⟨tW0A, qW0A0, qW0A1⟩ := M.q2 15 rfl
     obtain ⟨tX, Ab, Ad, Ac, Ae, Aa⟩ := M.q5 19 rfl
     obtain ⟨tP, Af, Aj, Ai, Ag, Ah⟩ := M.q5 20 rfl
     go_wp2_with fail
     go_call (heldPool_x us.length ks2.length fs2.length SA0 SA1 SA2 sa0 sa1 sa2 tn2 st2 1 _ hLl (by omega) (by omega) ⟨M.rowS 5 rfl, M.rowS 6 rfl, M.rowS 7 rfl⟩) as r W29 ⟨rfl, g1⟩
     clear An qH00 qH01 qH02 qH03 qH04 tH0A qH0A0 qH0A1 Am qG00 qG01 qG02 qG03 qG04 tG0A qG0A0 qG0A1 Al qY00 qY01 qY02 qY03 qY04 Ak qW00 qW01 qW02 qW03 qW04 tW0A qW0A0 qW0A1 tX Ab Ad Ac Ae Aa tP Af Aj Ai Ag Ah
     replace M := M.call g1
     clear g1
     obtain ⟨An, qH00, qH01, qH02, qH03, qH04⟩ := M.q5 0 rfl
     obtain ⟨tH0A, qH0A0, qH0A1⟩ := M.q2 1 rfl
     obtain ⟨Am, qG00, qG01, qG02, qG03, qG04⟩ := M.q5 11 rfl
     obtain ⟨tG0A, qG0A0, qG0A1⟩ := M.q2 12 rfl
     obtain ⟨Al, qY00, qY01, qY02, qY03, qY04⟩ := M.q5 13 rfl
     obtain ⟨Ak, qW00, qW01, qW02, qW03, qW04⟩ := M.q5 14 rfl
     obtain ⟨tW0A, qW0A0, qW0A1⟩ := M.q2 15 rfl
     obtain ⟨tX, Ab, Ad, Ac, Ae, Aa⟩ := M.q5 19 rfl
     obtain ⟨tP, Af, Aj, Ai, Ag, Ah⟩ := M.q5 20 rfl
     go_wp2_with fail
     go_ret
     exact ⟨rfl, M.below⟩
 ·go_enter Tryz.func8, Tryz.ntmps8
  go_wp2_with fail
  generalize hW : (w.alloc _).alloc _ = W1
  have M := Sep.e2 hW
  clear hW
  obtain ⟨tX, Ab, Ad, Ac, Ae, Aa⟩ := M.q5 0 rfl
  obtain ⟨tP, Af, Aj, Ai, Ag, Ah⟩ := M.q5 1 rfl
  go_wp2_with fail
  go_call (szPool_any A0 A1 A2 ts.length c0 ks.length c1 fs.length c2 tn st _ h0 h1 h2) as r W2 ⟨rfl, g1⟩
  clear tX Ab Ad Ac Ae Aa tP Af Aj Ai Ag Ah
  replace M := M.call g1
  clear g1
  rw [szPoolM_neg' hT]
  obtain ⟨tX, Ab, Ad, Ac, Ae, Aa⟩ := M.q5 0 rfl
  obtain ⟨tP, Af, Aj, Ai, Ag, Ah⟩ := M.q5 1 rfl
  go_wp2_with fail
  go_ret
  exact ⟨rfl, M.below⟩
end Go.Proofs.YtfkdfkoigojciaaGreatDoor
