/- The exact law of WokenAll: whatever the plan, the pool and the numbers, true; what was in memory stays as it was. No condition. -/
import Derived.Test.YtfkdfkoigojciaaQExactWokenAll02
import Derived.Test.YtfkdfkoigojciaaQB09
import Derived.Test.YtfkdfkoigojciaaQB13
import Derived.Deep.RegionHeld3
import Derived.Deep.DeepCutAuto

namespace Go.Proofs.Ytfkdfkoigojciaa
open Go.RowKit
set_option linter.unusedVariables false
theorem heldPool_w (n0 n1 n2 : Nat) (A0 A1 A2 : Option Addr) (c0 c1 c2 : Nat) (tn : Int) (st : Bool) (q : Int) (w : World) (hlen : n0 + n1 + n2 ≤ 1048576) (hq0 : 0 ≤ q) (hq1 : q ≤ 10) (h : InPool w (markT q n0) (markK (q + 7 * n0) n1) (markF (q + 7 * n0 + n1) n2) A0 A1 A2) :
 Calls Try.prog 14 #[.agg #[.slice A0 n0 c0, .slice A1 n1 c1, .slice A2 n2 c2, .int .i64 tn, .bool st], .int .i64 q] w fun r w' => r = .returned (.int .i64 (q + 7 * n0 + n1 + 2 * n2)) ∧ Below w.heap.size w w' := heldPool_any n0 n1 n2 A0 A1 A2 c0 c1 c2 tn st q w hlen hq0 hq1 h
set_option maxRecDepth 100000 in
set_option maxHeartbeats 1600000 in
theorem xWokenAll_any (a b c d e : Int) (ts : List T7) (ks : List Int) (fs : List F2) (A0 A1 A2 : Option Addr) (c0 c1 c2 : Nat) (tn : Int) (st : Bool) (wa : Int) (oa : Int) (v0 : Int) (w : World) (h0 : ts.length ≤ 9223372036854775807) (h1 : ks.length ≤ 9223372036854775807) (h2 : fs.length ≤ 9223372036854775807) (h : InPool w ts ks fs A0 A1 A2) :
 Calls Try.prog 4 #[.agg #[.int .i64 a, .int .i64 b, .int .i64 c, .int .i64 d, .int .i64 e], .agg #[.slice A0 ts.length c0, .slice A1 ks.length c1, .slice A2 fs.length c2, .int .i64 tn, .bool st], .int .i64 wa, .int .i64 oa, .int .i64 v0] w fun r w' => r = .returned (.bool true) ∧ Below w.heap.size w w' := by
 have H := hide h
 clear h
 by_cases hT : ts.length + ks.length + fs.length ≤ 1048576
 ·obtain ⟨us, ks2, fs2, tn2, st2, z, hLl, hS, hI⟩ := wokenAll_both a b c d e ts ks fs tn st wa oa v0 hT
  go_enter Try.func4, Try.ntmps4
  go_wp2_with fail
  generalize hW : (w.alloc _).alloc _ = W1
  have M := Sep.e2 hW
  clear hW
  obtain ⟨tX, Ae, Ac, Ab, Ad, Aa⟩ := M.q5 0 rfl
  obtain ⟨tP, Ah, Ai, Aj, Ag, Ak⟩ := M.q5 1 rfl
  go_wp2_with fail
  go_call (szPool_any A0 A1 A2 ts.length c0 ks.length c1 fs.length c2 tn st _ h0 h1 h2) as r W2 ⟨rfl, g1⟩
  clear tX Ae Ac Ab Ad Aa tP Ah Ai Aj Ag Ak
  replace M := M.call g1
  clear g1
  rw [szPoolM_pos' hT]
  obtain ⟨tX, Ae, Ac, Ab, Ad, Aa⟩ := M.q5 0 rfl
  obtain ⟨tP, Ah, Ai, Aj, Ag, Ak⟩ := M.q5 1 rfl
  go_wp2_with fail
  clear tX Ae Ac Ab Ad Aa tP Ah Ai Aj Ag Ak
  go_cut [12, 13] (fun p' z' wc => ∃ (gW0 : Nat) (RA0 RA1 RA2 : Option Addr) (ra0 ra1 ra2 : Nat), p' = .pointer (some ⟨gW0, 0, none⟩) ∧ z' = .int .i64 z ∧ Sep [] w wc [.blk (gW0) 33 #[.slice RA0 us.length ra0, .slice RA1 ks2.length ra1, .slice RA2 fs2.length ra2, .int .i64 tn2, .bool st2], rT us.length RA0 ra0 us, rK ks2.length RA1 ra1 ks2, rF fs2.length RA2 ra2 fs2, .blk (w.heap.size + 1) 28 #[.slice A0 ts.length c0, .slice A1 ks.length c1, .slice A2 fs.length c2, .int .i64 tn, .bool st], .blk (w.heap.size) 23 #[.int .i64 a, .int .i64 b, .int .i64 c, .int .i64 d, .int .i64 e]])
  case first =>
   refine wp_region_T (S := (fun w' => w'.cell? ⟨w.heap.size, 0, none⟩ = some (.int .i64 a) ∧ w'.cell? ⟨w.heap.size, 1, none⟩ = some (.int .i64 b) ∧ w'.cell? ⟨w.heap.size, 2, none⟩ = some (.int .i64 c) ∧ w'.cell? ⟨w.heap.size, 3, none⟩ = some (.int .i64 d) ∧ w'.cell? ⟨w.heap.size, 4, none⟩ = some (.int .i64 e) ∧ w'.cell? ⟨w.heap.size + 1, 0, none⟩ = some (.slice A0 ts.length c0) ∧ w'.cell? ⟨w.heap.size + 1, 1, none⟩ = some (.slice A1 ks.length c1) ∧ w'.cell? ⟨w.heap.size + 1, 2, none⟩ = some (.slice A2 fs.length c2) ∧ w'.cell? ⟨w.heap.size + 1, 3, none⟩ = some (.int .i64 tn) ∧ w'.cell? ⟨w.heap.size + 1, 4, none⟩ = some (.bool st))) (ks := [12]) (by kernel_rfl) ⟨M.cell 1 0 rfl, M.cell 1 1 rfl, M.cell 1 2 rfl, M.cell 1 3 rfl, M.cell 1 4 rfl, M.cell 0 0 rfl, M.cell 0 1 rfl, M.cell 0 2 rfl, M.cell 0 3 rfl, M.cell 0 4 rfl⟩ (fun hHeld => ?_)
   replace M := M.drew
   generalize W2.drew = W3 at M hHeld ⊢
   refine tkL 0 ?v0u1 rfl ?hy0u1 hHeld ?_
   case hy0u1 => (intro w hSw; (try dsimp only at hSw); go_split_ands; go_simp; all_goals with_reducible rfl)
   try simp only [Act.put, List.setIfInBounds_toArray, List.set_cons_zero, List.set_cons_succ]
   refine tkL 2 ?v2u2 rfl ?hy2u2 hHeld ?_
   case hy2u2 => (intro w hSw; (try dsimp only at hSw); go_split_ands; go_simp; all_goals with_reducible rfl)
   try simp only [Act.put, List.setIfInBounds_toArray, List.set_cons_zero, List.set_cons_succ]
   refine tkY 4 ?v4u3 rfl ?hy4u3 (fun _ => hHeld) ?_
   case hy4u3 => (intro w; go_simp; all_goals with_reducible rfl)
   try simp only [Act.put, List.setIfInBounds_toArray, List.set_cons_zero, List.set_cons_succ]
   refine tkY 5 ?v5u4 rfl ?hy5u4 (fun _ => hHeld) ?_
   case hy5u4 => (intro w; go_simp; all_goals with_reducible rfl)
   try simp only [Act.put, List.setIfInBounds_toArray, List.set_cons_zero, List.set_cons_succ]
   refine tkY 6 ?v6u5 rfl ?hy6u5 (fun _ => hHeld) ?_
   case hy6u5 => (intro w; go_simp; all_goals with_reducible rfl)
   try simp only [Act.put, List.setIfInBounds_toArray, List.set_cons_zero, List.set_cons_succ]
   refine wpAnyT_ready (rs := [1, 11]) (by kernel_rfl) (by simp) ?_
   refine AllReadyT.consS (i := 1) rfl (fun K hK => ?_) (AllReadyT.consS (i := 11) rfl (fun K hK => ?_) AllReadyT.nil)
   ·go_simp
    refine Calls.mono (by with_reducible exact (toPlan_any a b c d e _)) ?_
    rintro r W4 ⟨rfl, g1⟩
    replace M := M.call g1
    clear g1 hHeld
    try clear hin
    go_wp2_with fail
    refine hK.out _ _ ?_ (fun hHeld => ?_)
    ·exact ⟨M.cell 1 0 rfl, M.cell 1 1 rfl, M.cell 1 2 rfl, M.cell 1 3 rfl, M.cell 1 4 rfl, M.cell 0 0 rfl, M.cell 0 1 rfl, M.cell 0 2 rfl, M.cell 0 3 rfl, M.cell 0 4 rfl⟩
    clear hK K
    try simp only [Act.put, List.setIfInBounds_toArray, List.set_cons_zero, List.set_cons_succ]
    refine wpAnyT_ready (rs := [3, 11]) (by kernel_rfl) (by simp) ?_
    refine AllReadyT.consS (i := 3) rfl (fun K hK => ?_) (AllReadyT.consS (i := 11) rfl (fun K hK => ?_) AllReadyT.nil)
    ·go_simp
     refine Calls.mono (by with_reducible exact (toPool_s ts ks fs A0 A1 A2 c0 c1 c2 tn st _ hT (H.out.below M.below))) ?_
     rintro r W5 ⟨B0, B1, B2, b0, b1, b2, rfl, g1⟩
     replace M : Sep [] w W5 [rT ts.length B0 b0 ts, rK ks.length B1 b1 ks, rF fs.length B2 b2 fs, .blk (w.heap.size + 1) 28 #[.slice A0 ts.length c0, .slice A1 ks.length c1, .slice A2 fs.length c2, .int .i64 tn, .bool st], .blk (w.heap.size) 23 #[.int .i64 a, .int .i64 b, .int .i64 c, .int .i64 d, .int .i64 e]] := Sep.comp (ps := []) (rs := [.blk (w.heap.size + 1) 28 #[.slice A0 ts.length c0, .slice A1 ks.length c1, .slice A2 fs.length c2, .int .i64 tn, .bool st], .blk (w.heap.size) 23 #[.int .i64 a, .int .i64 b, .int .i64 c, .int .i64 d, .int .i64 e]]) M g1
     clear g1 hHeld
     try clear hin
     go_wp2_with fail
     refine hK.out _ _ ?_ (fun hHeld => ?_)
     ·exact ⟨M.cell 4 0 rfl, M.cell 4 1 rfl, M.cell 4 2 rfl, M.cell 4 3 rfl, M.cell 4 4 rfl, M.cell 3 0 rfl, M.cell 3 1 rfl, M.cell 3 2 rfl, M.cell 3 3 rfl, M.cell 3 4 rfl⟩
     clear hK K
     try simp only [Act.put, List.setIfInBounds_toArray, List.set_cons_zero, List.set_cons_succ]
     refine wpAnyT_ready (rs := [7, 11]) (by kernel_rfl) (by simp) ?_
     refine AllReadyT.consS (i := 7) rfl (fun K hK => ?_) (AllReadyT.consS (i := 11) rfl (fun K hK => ?_) AllReadyT.nil)
     ·have hin : InPool W5 ts ks fs B0 B1 B2 := ⟨M.rowS 0 rfl, M.rowS 1 rfl, M.rowS 2 rfl⟩
      go_simp
      refine Calls.mono (by with_reducible exact (hS.out B0 B1 B2 b0 b1 b2 _ hin)) ?_
      rintro r W6 ⟨RA0, RA1, RA2, ra0, ra1, ra2, rfl, g1⟩
      replace M : Sep [] w W6 [rT us.length RA0 ra0 us, rK ks2.length RA1 ra1 ks2, rF fs2.length RA2 ra2 fs2, rT ts.length B0 b0 ts, rK ks.length B1 b1 ks, rF fs.length B2 b2 fs, .blk (w.heap.size + 1) 28 #[.slice A0 ts.length c0, .slice A1 ks.length c1, .slice A2 fs.length c2, .int .i64 tn, .bool st], .blk (w.heap.size) 23 #[.int .i64 a, .int .i64 b, .int .i64 c, .int .i64 d, .int .i64 e]] := Sep.comp (ps := []) (rs := [rT ts.length B0 b0 ts, rK ks.length B1 b1 ks, rF fs.length B2 b2 fs, .blk (w.heap.size + 1) 28 #[.slice A0 ts.length c0, .slice A1 ks.length c1, .slice A2 fs.length c2, .int .i64 tn, .bool st], .blk (w.heap.size) 23 #[.int .i64 a, .int .i64 b, .int .i64 c, .int .i64 d, .int .i64 e]]) M g1
      clear g1 hHeld
      try clear hin
      go_wp2_with fail
      refine hK.out _ _ ?_ (fun hHeld => ?_)
      ·exact ⟨M.cell 7 0 rfl, M.cell 7 1 rfl, M.cell 7 2 rfl, M.cell 7 3 rfl, M.cell 7 4 rfl, M.cell 6 0 rfl, M.cell 6 1 rfl, M.cell 6 2 rfl, M.cell 6 3 rfl, M.cell 6 4 rfl⟩
      clear hK K
      try simp only [Act.put, List.setIfInBounds_toArray, List.set_cons_zero, List.set_cons_succ]
      refine tkY 8 ?v8u6 rfl ?hy8u6 (fun _ => hHeld) ?_
      case hy8u6 => (intro w; go_simp; all_goals with_reducible rfl)
      try simp only [Act.put, List.setIfInBounds_toArray, List.set_cons_zero, List.set_cons_succ]
      refine tkY 9 ?v9u7 rfl ?hy9u7 (fun _ => hHeld) ?_
      case hy9u7 => (intro w; go_simp; all_goals with_reducible rfl)
      try simp only [Act.put, List.setIfInBounds_toArray, List.set_cons_zero, List.set_cons_succ]
      refine tkY 10 ?v10u8 rfl ?hy10u8 (fun _ => hHeld) ?_
      case hy10u8 => (intro w; go_simp; all_goals with_reducible rfl)
      try simp only [Act.put, List.setIfInBounds_toArray, List.set_cons_zero, List.set_cons_succ]
      refine wpAnyT_callL (i := 11) rfl (by kernel_rfl) (fun K hK => ?_)
      go_simp
      replace M : Sep [] w (W6.alloc (.cells #[.slice none 0 0, .slice none 0 0, .slice none 0 0, .int .i64 0, .bool false] 33)) [.blk (W6.heap.size) 33 #[.slice none 0 0, .slice none 0 0, .slice none 0 0, .int .i64 0, .bool false], rT us.length RA0 ra0 us, rK ks2.length RA1 ra1 ks2, rF fs2.length RA2 ra2 fs2, rT ts.length B0 b0 ts, rK ks.length B1 b1 ks, rF fs.length B2 b2 fs, .blk (w.heap.size + 1) 28 #[.slice A0 ts.length c0, .slice A1 ks.length c1, .slice A2 fs.length c2, .int .i64 tn, .bool st], .blk (w.heap.size) 23 #[.int .i64 a, .int .i64 b, .int .i64 c, .int .i64 d, .int .i64 e]] := M.allocN 33 #[.slice none 0 0, .slice none 0 0, .slice none 0 0, .int .i64 0, .bool false]
      generalize W6.alloc (.cells #[.slice none 0 0, .slice none 0 0, .slice none 0 0, .int .i64 0, .bool false] 33) = W7 at M ⊢
      clear hHeld
      refine hK.out _ _ ?_ (fun hHeld => ?_)
      ·exact ⟨M.cell 8 0 rfl, M.cell 8 1 rfl, M.cell 8 2 rfl, M.cell 8 3 rfl, M.cell 8 4 rfl, M.cell 7 0 rfl, M.cell 7 1 rfl, M.cell 7 2 rfl, M.cell 7 3 rfl, M.cell 7 4 rfl⟩
      clear hK K
      try simp only [Act.put, List.setIfInBounds_toArray, List.set_cons_zero, List.set_cons_succ]
      obtain ⟨Af, qW00, fW00, qW01, fW01, qW02, fW02, qW03, fW03, qW04, fW04⟩ := M.f5 0 rfl
      refine wpAnyT_oneL (i := 12) rfl (by kernel_rfl) (by kernel_rfl) (fun K hK => ?_)
      go_simp
      refine hK.out _ _ ?_
      clear hK K
      try simp only [Act.put, List.setIfInBounds_toArray, List.set_cons_zero, List.set_cons_succ]
      clear Af qW00 fW00 qW01 fW01 qW02 fW02 qW03 fW03 qW04 fW04
      have N := M.gset5 0 rfl (.slice RA0 us.length ra0) (.slice RA1 ks2.length ra1) (.slice RA2 fs2.length ra2) (.int .i64 tn2) (.bool st2)
      clear M
      obtain ⟨W8, eW, M⟩ := N
      rw [eW]
      clear eW
      simp only [List.set_cons_zero] at M
      refine tkZ 13 ?v13u9 rfl ?hy13u9 ?_
      case hy13u9 => (intro w; go_simp; all_goals with_reducible rfl)
      try simp only [Act.put, List.setIfInBounds_toArray, List.set_cons_zero, List.set_cons_succ]
      refine wpAnyT_done (by kernel_rfl) ?_ _
      replace M := M.front 3 rfl
      simp only [List.eraseIdx_cons_succ, List.eraseIdx_cons_zero] at M
      replace M := M.front 3 rfl
      simp only [List.eraseIdx_cons_succ, List.eraseIdx_cons_zero] at M
      replace M := M.front 3 rfl
      simp only [List.eraseIdx_cons_succ, List.eraseIdx_cons_zero] at M
      replace M := M.front 3 rfl
      simp only [List.eraseIdx_cons_succ, List.eraseIdx_cons_zero] at M
      replace M : Sep [] w W8 [.blk (W6.heap.size) 33 #[.slice RA0 us.length ra0, .slice RA1 ks2.length ra1, .slice RA2 fs2.length ra2, .int .i64 tn2, .bool st2], rT us.length RA0 ra0 us, rK ks2.length RA1 ra1 ks2, rF fs2.length RA2 ra2 fs2, .blk (w.heap.size + 1) 28 #[.slice A0 ts.length c0, .slice A1 ks.length c1, .slice A2 fs.length c2, .int .i64 tn, .bool st], .blk (w.heap.size) 23 #[.int .i64 a, .int .i64 b, .int .i64 c, .int .i64 d, .int .i64 e]] := M.sub ((List.Sublist.slnil) |>.cons_cons _ |>.cons_cons _ |>.cons _ |>.cons _ |>.cons _ |>.cons_cons _ |>.cons_cons _ |>.cons_cons _ |>.cons_cons _)
      go_wp2_with fail
      go_meet
      exact ⟨_, _, _, _, _, _, _, rfl, rfl, M⟩
     ·go_simp
      replace M : Sep [] w (W5.alloc (.cells #[.slice none 0 0, .slice none 0 0, .slice none 0 0, .int .i64 0, .bool false] 33)) [.blk (W5.heap.size) 33 #[.slice none 0 0, .slice none 0 0, .slice none 0 0, .int .i64 0, .bool false], rT ts.length B0 b0 ts, rK ks.length B1 b1 ks, rF fs.length B2 b2 fs, .blk (w.heap.size + 1) 28 #[.slice A0 ts.length c0, .slice A1 ks.length c1, .slice A2 fs.length c2, .int .i64 tn, .bool st], .blk (w.heap.size) 23 #[.int .i64 a, .int .i64 b, .int .i64 c, .int .i64 d, .int .i64 e]] := M.allocN 33 #[.slice none 0 0, .slice none 0 0, .slice none 0 0, .int .i64 0, .bool false]
      generalize W5.alloc (.cells #[.slice none 0 0, .slice none 0 0, .slice none 0 0, .int .i64 0, .bool false] 33) = W9 at M ⊢
      clear hHeld
      refine hK.out _ _ ?_ (fun hHeld => ?_)
      ·exact ⟨M.cell 5 0 rfl, M.cell 5 1 rfl, M.cell 5 2 rfl, M.cell 5 3 rfl, M.cell 5 4 rfl, M.cell 4 0 rfl, M.cell 4 1 rfl, M.cell 4 2 rfl, M.cell 4 3 rfl, M.cell 4 4 rfl⟩
      clear hK K
      try simp only [Act.put, List.setIfInBounds_toArray, List.set_cons_zero, List.set_cons_succ]
      refine wpAnyT_callL (i := 7) rfl (by kernel_rfl) (fun K hK => ?_)
      have hin : InPool W9 ts ks fs B0 B1 B2 := ⟨M.rowS 1 rfl, M.rowS 2 rfl, M.rowS 3 rfl⟩
      go_simp
      refine Calls.mono (by with_reducible exact (hS.out B0 B1 B2 b0 b1 b2 _ hin)) ?_
      rintro r W10 ⟨RA0, RA1, RA2, ra0, ra1, ra2, rfl, g1⟩
      replace M : Sep [] w W10 [rT us.length RA0 ra0 us, rK ks2.length RA1 ra1 ks2, rF fs2.length RA2 ra2 fs2, .blk (W5.heap.size) 33 #[.slice none 0 0, .slice none 0 0, .slice none 0 0, .int .i64 0, .bool false], rT ts.length B0 b0 ts, rK ks.length B1 b1 ks, rF fs.length B2 b2 fs, .blk (w.heap.size + 1) 28 #[.slice A0 ts.length c0, .slice A1 ks.length c1, .slice A2 fs.length c2, .int .i64 tn, .bool st], .blk (w.heap.size) 23 #[.int .i64 a, .int .i64 b, .int .i64 c, .int .i64 d, .int .i64 e]] := Sep.comp (ps := []) (rs := [.blk (W5.heap.size) 33 #[.slice none 0 0, .slice none 0 0, .slice none 0 0, .int .i64 0, .bool false], rT ts.length B0 b0 ts, rK ks.length B1 b1 ks, rF fs.length B2 b2 fs, .blk (w.heap.size + 1) 28 #[.slice A0 ts.length c0, .slice A1 ks.length c1, .slice A2 fs.length c2, .int .i64 tn, .bool st], .blk (w.heap.size) 23 #[.int .i64 a, .int .i64 b, .int .i64 c, .int .i64 d, .int .i64 e]]) M g1
      clear g1 hHeld
      try clear hin
      go_wp2_with fail
      refine hK.out _ _ ?_ (fun hHeld => ?_)
      ·exact ⟨M.cell 8 0 rfl, M.cell 8 1 rfl, M.cell 8 2 rfl, M.cell 8 3 rfl, M.cell 8 4 rfl, M.cell 7 0 rfl, M.cell 7 1 rfl, M.cell 7 2 rfl, M.cell 7 3 rfl, M.cell 7 4 rfl⟩
      clear hK K
      try simp only [Act.put, List.setIfInBounds_toArray, List.set_cons_zero, List.set_cons_succ]
      refine tkY 8 ?v8u10 rfl ?hy8u10 (fun _ => hHeld) ?_
      case hy8u10 => (intro w; go_simp; all_goals with_reducible rfl)
      try simp only [Act.put, List.setIfInBounds_toArray, List.set_cons_zero, List.set_cons_succ]
      refine tkY 9 ?v9u11 rfl ?hy9u11 (fun _ => hHeld) ?_
      case hy9u11 => (intro w; go_simp; all_goals with_reducible rfl)
      try simp only [Act.put, List.setIfInBounds_toArray, List.set_cons_zero, List.set_cons_succ]
      refine tkY 10 ?v10u12 rfl ?hy10u12 (fun _ => hHeld) ?_
      case hy10u12 => (intro w; go_simp; all_goals with_reducible rfl)
      try simp only [Act.put, List.setIfInBounds_toArray, List.set_cons_zero, List.set_cons_succ]
      obtain ⟨Af, qW00, fW00, qW01, fW01, qW02, fW02, qW03, fW03, qW04, fW04⟩ := M.f5 3 rfl
      refine wpAnyT_oneL (i := 12) rfl (by kernel_rfl) (by kernel_rfl) (fun K hK => ?_)
      go_simp
      refine hK.out _ _ ?_
      clear hK K
      try simp only [Act.put, List.setIfInBounds_toArray, List.set_cons_zero, List.set_cons_succ]
      clear Af qW00 fW00 qW01 fW01 qW02 fW02 qW03 fW03 qW04 fW04
      have N := M.gset5 3 rfl (.slice RA0 us.length ra0) (.slice RA1 ks2.length ra1) (.slice RA2 fs2.length ra2) (.int .i64 tn2) (.bool st2)
      clear M
      obtain ⟨W11, eW, M⟩ := N
      rw [eW]
      clear eW
      simp only [List.set_cons_zero, List.set_cons_succ] at M
      refine tkZ 13 ?v13u13 rfl ?hy13u13 ?_
      case hy13u13 => (intro w; go_simp; all_goals with_reducible rfl)
      try simp only [Act.put, List.setIfInBounds_toArray, List.set_cons_zero, List.set_cons_succ]
      refine wpAnyT_done (by kernel_rfl) ?_ _
      replace M := M.front 2 rfl
      simp only [List.eraseIdx_cons_succ, List.eraseIdx_cons_zero] at M
      replace M := M.front 2 rfl
      simp only [List.eraseIdx_cons_succ, List.eraseIdx_cons_zero] at M
      replace M := M.front 2 rfl
      simp only [List.eraseIdx_cons_succ, List.eraseIdx_cons_zero] at M
      replace M := M.front 3 rfl
      simp only [List.eraseIdx_cons_succ, List.eraseIdx_cons_zero] at M
      replace M : Sep [] w W11 [.blk (W5.heap.size) 33 #[.slice RA0 us.length ra0, .slice RA1 ks2.length ra1, .slice RA2 fs2.length ra2, .int .i64 tn2, .bool st2], rT us.length RA0 ra0 us, rK ks2.length RA1 ra1 ks2, rF fs2.length RA2 ra2 fs2, .blk (w.heap.size + 1) 28 #[.slice A0 ts.length c0, .slice A1 ks.length c1, .slice A2 fs.length c2, .int .i64 tn, .bool st], .blk (w.heap.size) 23 #[.int .i64 a, .int .i64 b, .int .i64 c, .int .i64 d, .int .i64 e]] := M.sub ((List.Sublist.slnil) |>.cons_cons _ |>.cons_cons _ |>.cons _ |>.cons _ |>.cons _ |>.cons_cons _ |>.cons_cons _ |>.cons_cons _ |>.cons_cons _)
      go_wp2_with fail
      go_meet
      exact ⟨_, _, _, _, _, _, _, rfl, rfl, M⟩
    ·go_simp
     replace M : Sep [] w (W4.alloc (.cells #[.slice none 0 0, .slice none 0 0, .slice none 0 0, .int .i64 0, .bool false] 33)) [.blk (W4.heap.size) 33 #[.slice none 0 0, .slice none 0 0, .slice none 0 0, .int .i64 0, .bool false], .blk (w.heap.size + 1) 28 #[.slice A0 ts.length c0, .slice A1 ks.length c1, .slice A2 fs.length c2, .int .i64 tn, .bool st], .blk (w.heap.size) 23 #[.int .i64 a, .int .i64 b, .int .i64 c, .int .i64 d, .int .i64 e]] := M.allocN 33 #[.slice none 0 0, .slice none 0 0, .slice none 0 0, .int .i64 0, .bool false]
     generalize W4.alloc (.cells #[.slice none 0 0, .slice none 0 0, .slice none 0 0, .int .i64 0, .bool false] 33) = W12 at M ⊢
     clear hHeld
     refine hK.out _ _ ?_ (fun hHeld => ?_)
     ·exact ⟨M.cell 2 0 rfl, M.cell 2 1 rfl, M.cell 2 2 rfl, M.cell 2 3 rfl, M.cell 2 4 rfl, M.cell 1 0 rfl, M.cell 1 1 rfl, M.cell 1 2 rfl, M.cell 1 3 rfl, M.cell 1 4 rfl⟩
     clear hK K
     try simp only [Act.put, List.setIfInBounds_toArray, List.set_cons_zero, List.set_cons_succ]
     refine wpAnyT_callL (i := 3) rfl (by kernel_rfl) (fun K hK => ?_)
     go_simp
     refine Calls.mono (by with_reducible exact (toPool_s ts ks fs A0 A1 A2 c0 c1 c2 tn st _ hT (H.out.below M.below))) ?_
     rintro r W13 ⟨B0, B1, B2, b0, b1, b2, rfl, g1⟩
     replace M : Sep [] w W13 [rT ts.length B0 b0 ts, rK ks.length B1 b1 ks, rF fs.length B2 b2 fs, .blk (W4.heap.size) 33 #[.slice none 0 0, .slice none 0 0, .slice none 0 0, .int .i64 0, .bool false], .blk (w.heap.size + 1) 28 #[.slice A0 ts.length c0, .slice A1 ks.length c1, .slice A2 fs.length c2, .int .i64 tn, .bool st], .blk (w.heap.size) 23 #[.int .i64 a, .int .i64 b, .int .i64 c, .int .i64 d, .int .i64 e]] := Sep.comp (ps := []) (rs := [.blk (W4.heap.size) 33 #[.slice none 0 0, .slice none 0 0, .slice none 0 0, .int .i64 0, .bool false], .blk (w.heap.size + 1) 28 #[.slice A0 ts.length c0, .slice A1 ks.length c1, .slice A2 fs.length c2, .int .i64 tn, .bool st], .blk (w.heap.size) 23 #[.int .i64 a, .int .i64 b, .int .i64 c, .int .i64 d, .int .i64 e]]) M g1
     clear g1 hHeld
     try clear hin
     go_wp2_with fail
     refine hK.out _ _ ?_ (fun hHeld => ?_)
     ·exact ⟨M.cell 5 0 rfl, M.cell 5 1 rfl, M.cell 5 2 rfl, M.cell 5 3 rfl, M.cell 5 4 rfl, M.cell 4 0 rfl, M.cell 4 1 rfl, M.cell 4 2 rfl, M.cell 4 3 rfl, M.cell 4 4 rfl⟩
     clear hK K
     try simp only [Act.put, List.setIfInBounds_toArray, List.set_cons_zero, List.set_cons_succ]
     refine wpAnyT_callL (i := 7) rfl (by kernel_rfl) (fun K hK => ?_)
     have hin : InPool W13 ts ks fs B0 B1 B2 := ⟨M.rowS 0 rfl, M.rowS 1 rfl, M.rowS 2 rfl⟩
     go_simp
     refine Calls.mono (by with_reducible exact (hS.out B0 B1 B2 b0 b1 b2 _ hin)) ?_
     rintro r W14 ⟨RA0, RA1, RA2, ra0, ra1, ra2, rfl, g1⟩
     replace M : Sep [] w W14 [rT us.length RA0 ra0 us, rK ks2.length RA1 ra1 ks2, rF fs2.length RA2 ra2 fs2, rT ts.length B0 b0 ts, rK ks.length B1 b1 ks, rF fs.length B2 b2 fs, .blk (W4.heap.size) 33 #[.slice none 0 0, .slice none 0 0, .slice none 0 0, .int .i64 0, .bool false], .blk (w.heap.size + 1) 28 #[.slice A0 ts.length c0, .slice A1 ks.length c1, .slice A2 fs.length c2, .int .i64 tn, .bool st], .blk (w.heap.size) 23 #[.int .i64 a, .int .i64 b, .int .i64 c, .int .i64 d, .int .i64 e]] := Sep.comp (ps := []) (rs := [rT ts.length B0 b0 ts, rK ks.length B1 b1 ks, rF fs.length B2 b2 fs, .blk (W4.heap.size) 33 #[.slice none 0 0, .slice none 0 0, .slice none 0 0, .int .i64 0, .bool false], .blk (w.heap.size + 1) 28 #[.slice A0 ts.length c0, .slice A1 ks.length c1, .slice A2 fs.length c2, .int .i64 tn, .bool st], .blk (w.heap.size) 23 #[.int .i64 a, .int .i64 b, .int .i64 c, .int .i64 d, .int .i64 e]]) M g1
     clear g1 hHeld
     try clear hin
     go_wp2_with fail
     refine hK.out _ _ ?_ (fun hHeld => ?_)
     ·exact ⟨M.cell 8 0 rfl, M.cell 8 1 rfl, M.cell 8 2 rfl, M.cell 8 3 rfl, M.cell 8 4 rfl, M.cell 7 0 rfl, M.cell 7 1 rfl, M.cell 7 2 rfl, M.cell 7 3 rfl, M.cell 7 4 rfl⟩
     clear hK K
     try simp only [Act.put, List.setIfInBounds_toArray, List.set_cons_zero, List.set_cons_succ]
     refine tkY 8 ?v8u14 rfl ?hy8u14 (fun _ => hHeld) ?_
     case hy8u14 => (intro w; go_simp; all_goals with_reducible rfl)
     try simp only [Act.put, List.setIfInBounds_toArray, List.set_cons_zero, List.set_cons_succ]
     refine tkY 9 ?v9u15 rfl ?hy9u15 (fun _ => hHeld) ?_
     case hy9u15 => (intro w; go_simp; all_goals with_reducible rfl)
     try simp only [Act.put, List.setIfInBounds_toArray, List.set_cons_zero, List.set_cons_succ]
     refine tkY 10 ?v10u16 rfl ?hy10u16 (fun _ => hHeld) ?_
     case hy10u16 => (intro w; go_simp; all_goals with_reducible rfl)
     try simp only [Act.put, List.setIfInBounds_toArray, List.set_cons_zero, List.set_cons_succ]
     obtain ⟨Af, qW00, fW00, qW01, fW01, qW02, fW02, qW03, fW03, qW04, fW04⟩ := M.f5 6 rfl
     refine wpAnyT_oneL (i := 12) rfl (by kernel_rfl) (by kernel_rfl) (fun K hK => ?_)
     go_simp
     refine hK.out _ _ ?_
     clear hK K
     try simp only [Act.put, List.setIfInBounds_toArray, List.set_cons_zero, List.set_cons_succ]
     clear Af qW00 fW00 qW01 fW01 qW02 fW02 qW03 fW03 qW04 fW04
     have N := M.gset5 6 rfl (.slice RA0 us.length ra0) (.slice RA1 ks2.length ra1) (.slice RA2 fs2.length ra2) (.int .i64 tn2) (.bool st2)
     clear M
     obtain ⟨W15, eW, M⟩ := N
     rw [eW]
     clear eW
     simp only [List.set_cons_zero, List.set_cons_succ] at M
     refine tkZ 13 ?v13u17 rfl ?hy13u17 ?_
     case hy13u17 => (intro w; go_simp; all_goals with_reducible rfl)
     try simp only [Act.put, List.setIfInBounds_toArray, List.set_cons_zero, List.set_cons_succ]
     refine wpAnyT_done (by kernel_rfl) ?_ _
     replace M := M.front 2 rfl
     simp only [List.eraseIdx_cons_succ, List.eraseIdx_cons_zero] at M
     replace M := M.front 2 rfl
     simp only [List.eraseIdx_cons_succ, List.eraseIdx_cons_zero] at M
     replace M := M.front 2 rfl
     simp only [List.eraseIdx_cons_succ, List.eraseIdx_cons_zero] at M
     replace M := M.front 6 rfl
     simp only [List.eraseIdx_cons_succ, List.eraseIdx_cons_zero] at M
     replace M : Sep [] w W15 [.blk (W4.heap.size) 33 #[.slice RA0 us.length ra0, .slice RA1 ks2.length ra1, .slice RA2 fs2.length ra2, .int .i64 tn2, .bool st2], rT us.length RA0 ra0 us, rK ks2.length RA1 ra1 ks2, rF fs2.length RA2 ra2 fs2, .blk (w.heap.size + 1) 28 #[.slice A0 ts.length c0, .slice A1 ks.length c1, .slice A2 fs.length c2, .int .i64 tn, .bool st], .blk (w.heap.size) 23 #[.int .i64 a, .int .i64 b, .int .i64 c, .int .i64 d, .int .i64 e]] := M.sub ((List.Sublist.slnil) |>.cons_cons _ |>.cons_cons _ |>.cons _ |>.cons _ |>.cons _ |>.cons_cons _ |>.cons_cons _ |>.cons_cons _ |>.cons_cons _)
     go_wp2_with fail
     go_meet
     exact ⟨_, _, _, _, _, _, _, rfl, rfl, M⟩
   ·go_simp
    replace M : Sep [] w (W3.alloc (.cells #[.slice none 0 0, .slice none 0 0, .slice none 0 0, .int .i64 0, .bool false] 33)) [.blk (W3.heap.size) 33 #[.slice none 0 0, .slice none 0 0, .slice none 0 0, .int .i64 0, .bool false], .blk (w.heap.size + 1) 28 #[.slice A0 ts.length c0, .slice A1 ks.length c1, .slice A2 fs.length c2, .int .i64 tn, .bool st], .blk (w.heap.size) 23 #[.int .i64 a, .int .i64 b, .int .i64 c, .int .i64 d, .int .i64 e]] := M.allocN 33 #[.slice none 0 0, .slice none 0 0, .slice none 0 0, .int .i64 0, .bool false]
    generalize W3.alloc (.cells #[.slice none 0 0, .slice none 0 0, .slice none 0 0, .int .i64 0, .bool false] 33) = W16 at M ⊢
    clear hHeld
    refine hK.out _ _ ?_ (fun hHeld => ?_)
    ·exact ⟨M.cell 2 0 rfl, M.cell 2 1 rfl, M.cell 2 2 rfl, M.cell 2 3 rfl, M.cell 2 4 rfl, M.cell 1 0 rfl, M.cell 1 1 rfl, M.cell 1 2 rfl, M.cell 1 3 rfl, M.cell 1 4 rfl⟩
    clear hK K
    try simp only [Act.put, List.setIfInBounds_toArray, List.set_cons_zero, List.set_cons_succ]
    refine wpAnyT_callL (i := 1) rfl (by kernel_rfl) (fun K hK => ?_)
    go_simp
    refine Calls.mono (by with_reducible exact (toPlan_any a b c d e _)) ?_
    rintro r W17 ⟨rfl, g1⟩
    replace M := M.call g1
    clear g1 hHeld
    try clear hin
    go_wp2_with fail
    refine hK.out _ _ ?_ (fun hHeld => ?_)
    ·exact ⟨M.cell 2 0 rfl, M.cell 2 1 rfl, M.cell 2 2 rfl, M.cell 2 3 rfl, M.cell 2 4 rfl, M.cell 1 0 rfl, M.cell 1 1 rfl, M.cell 1 2 rfl, M.cell 1 3 rfl, M.cell 1 4 rfl⟩
    clear hK K
    try simp only [Act.put, List.setIfInBounds_toArray, List.set_cons_zero, List.set_cons_succ]
    refine wpAnyT_callL (i := 3) rfl (by kernel_rfl) (fun K hK => ?_)
    go_simp
    refine Calls.mono (by with_reducible exact (toPool_s ts ks fs A0 A1 A2 c0 c1 c2 tn st _ hT (H.out.below M.below))) ?_
    rintro r W18 ⟨B0, B1, B2, b0, b1, b2, rfl, g1⟩
    replace M : Sep [] w W18 [rT ts.length B0 b0 ts, rK ks.length B1 b1 ks, rF fs.length B2 b2 fs, .blk (W3.heap.size) 33 #[.slice none 0 0, .slice none 0 0, .slice none 0 0, .int .i64 0, .bool false], .blk (w.heap.size + 1) 28 #[.slice A0 ts.length c0, .slice A1 ks.length c1, .slice A2 fs.length c2, .int .i64 tn, .bool st], .blk (w.heap.size) 23 #[.int .i64 a, .int .i64 b, .int .i64 c, .int .i64 d, .int .i64 e]] := Sep.comp (ps := []) (rs := [.blk (W3.heap.size) 33 #[.slice none 0 0, .slice none 0 0, .slice none 0 0, .int .i64 0, .bool false], .blk (w.heap.size + 1) 28 #[.slice A0 ts.length c0, .slice A1 ks.length c1, .slice A2 fs.length c2, .int .i64 tn, .bool st], .blk (w.heap.size) 23 #[.int .i64 a, .int .i64 b, .int .i64 c, .int .i64 d, .int .i64 e]]) M g1
    clear g1 hHeld
    try clear hin
    go_wp2_with fail
    refine hK.out _ _ ?_ (fun hHeld => ?_)
    ·exact ⟨M.cell 5 0 rfl, M.cell 5 1 rfl, M.cell 5 2 rfl, M.cell 5 3 rfl, M.cell 5 4 rfl, M.cell 4 0 rfl, M.cell 4 1 rfl, M.cell 4 2 rfl, M.cell 4 3 rfl, M.cell 4 4 rfl⟩
    clear hK K
    try simp only [Act.put, List.setIfInBounds_toArray, List.set_cons_zero, List.set_cons_succ]
    refine wpAnyT_callL (i := 7) rfl (by kernel_rfl) (fun K hK => ?_)
    have hin : InPool W18 ts ks fs B0 B1 B2 := ⟨M.rowS 0 rfl, M.rowS 1 rfl, M.rowS 2 rfl⟩
    go_simp
    refine Calls.mono (by with_reducible exact (hS.out B0 B1 B2 b0 b1 b2 _ hin)) ?_
    rintro r W19 ⟨RA0, RA1, RA2, ra0, ra1, ra2, rfl, g1⟩
    replace M : Sep [] w W19 [rT us.length RA0 ra0 us, rK ks2.length RA1 ra1 ks2, rF fs2.length RA2 ra2 fs2, rT ts.length B0 b0 ts, rK ks.length B1 b1 ks, rF fs.length B2 b2 fs, .blk (W3.heap.size) 33 #[.slice none 0 0, .slice none 0 0, .slice none 0 0, .int .i64 0, .bool false], .blk (w.heap.size + 1) 28 #[.slice A0 ts.length c0, .slice A1 ks.length c1, .slice A2 fs.length c2, .int .i64 tn, .bool st], .blk (w.heap.size) 23 #[.int .i64 a, .int .i64 b, .int .i64 c, .int .i64 d, .int .i64 e]] := Sep.comp (ps := []) (rs := [rT ts.length B0 b0 ts, rK ks.length B1 b1 ks, rF fs.length B2 b2 fs, .blk (W3.heap.size) 33 #[.slice none 0 0, .slice none 0 0, .slice none 0 0, .int .i64 0, .bool false], .blk (w.heap.size + 1) 28 #[.slice A0 ts.length c0, .slice A1 ks.length c1, .slice A2 fs.length c2, .int .i64 tn, .bool st], .blk (w.heap.size) 23 #[.int .i64 a, .int .i64 b, .int .i64 c, .int .i64 d, .int .i64 e]]) M g1
    clear g1 hHeld
    try clear hin
    go_wp2_with fail
    refine hK.out _ _ ?_ (fun hHeld => ?_)
    ·exact ⟨M.cell 8 0 rfl, M.cell 8 1 rfl, M.cell 8 2 rfl, M.cell 8 3 rfl, M.cell 8 4 rfl, M.cell 7 0 rfl, M.cell 7 1 rfl, M.cell 7 2 rfl, M.cell 7 3 rfl, M.cell 7 4 rfl⟩
    clear hK K
    try simp only [Act.put, List.setIfInBounds_toArray, List.set_cons_zero, List.set_cons_succ]
    refine tkY 8 ?v8u18 rfl ?hy8u18 (fun _ => hHeld) ?_
    case hy8u18 => (intro w; go_simp; all_goals with_reducible rfl)
    try simp only [Act.put, List.setIfInBounds_toArray, List.set_cons_zero, List.set_cons_succ]
    refine tkY 9 ?v9u19 rfl ?hy9u19 (fun _ => hHeld) ?_
    case hy9u19 => (intro w; go_simp; all_goals with_reducible rfl)
    try simp only [Act.put, List.setIfInBounds_toArray, List.set_cons_zero, List.set_cons_succ]
    refine tkY 10 ?v10u20 rfl ?hy10u20 (fun _ => hHeld) ?_
    case hy10u20 => (intro w; go_simp; all_goals with_reducible rfl)
    try simp only [Act.put, List.setIfInBounds_toArray, List.set_cons_zero, List.set_cons_succ]
    obtain ⟨Af, qW00, fW00, qW01, fW01, qW02, fW02, qW03, fW03, qW04, fW04⟩ := M.f5 6 rfl
    refine wpAnyT_oneL (i := 12) rfl (by kernel_rfl) (by kernel_rfl) (fun K hK => ?_)
    go_simp
    refine hK.out _ _ ?_
    clear hK K
    try simp only [Act.put, List.setIfInBounds_toArray, List.set_cons_zero, List.set_cons_succ]
    clear Af qW00 fW00 qW01 fW01 qW02 fW02 qW03 fW03 qW04 fW04
    have N := M.gset5 6 rfl (.slice RA0 us.length ra0) (.slice RA1 ks2.length ra1) (.slice RA2 fs2.length ra2) (.int .i64 tn2) (.bool st2)
    clear M
    obtain ⟨W20, eW, M⟩ := N
    rw [eW]
    clear eW
    simp only [List.set_cons_zero, List.set_cons_succ] at M
    refine tkZ 13 ?v13u21 rfl ?hy13u21 ?_
    case hy13u21 => (intro w; go_simp; all_goals with_reducible rfl)
    try simp only [Act.put, List.setIfInBounds_toArray, List.set_cons_zero, List.set_cons_succ]
    refine wpAnyT_done (by kernel_rfl) ?_ _
    replace M := M.front 2 rfl
    simp only [List.eraseIdx_cons_succ, List.eraseIdx_cons_zero] at M
    replace M := M.front 2 rfl
    simp only [List.eraseIdx_cons_succ, List.eraseIdx_cons_zero] at M
    replace M := M.front 2 rfl
    simp only [List.eraseIdx_cons_succ, List.eraseIdx_cons_zero] at M
    replace M := M.front 6 rfl
    simp only [List.eraseIdx_cons_succ, List.eraseIdx_cons_zero] at M
    replace M : Sep [] w W20 [.blk (W3.heap.size) 33 #[.slice RA0 us.length ra0, .slice RA1 ks2.length ra1, .slice RA2 fs2.length ra2, .int .i64 tn2, .bool st2], rT us.length RA0 ra0 us, rK ks2.length RA1 ra1 ks2, rF fs2.length RA2 ra2 fs2, .blk (w.heap.size + 1) 28 #[.slice A0 ts.length c0, .slice A1 ks.length c1, .slice A2 fs.length c2, .int .i64 tn, .bool st], .blk (w.heap.size) 23 #[.int .i64 a, .int .i64 b, .int .i64 c, .int .i64 d, .int .i64 e]] := M.sub ((List.Sublist.slnil) |>.cons_cons _ |>.cons_cons _ |>.cons _ |>.cons _ |>.cons _ |>.cons_cons _ |>.cons_cons _ |>.cons_cons _ |>.cons_cons _)
    go_wp2_with fail
    go_meet
    exact ⟨_, _, _, _, _, _, _, rfl, rfl, M⟩
  case rest =>
   clear M
   obtain ⟨gW0, RA0, RA1, RA2, ra0, ra1, ra2, rfl, rfl, M⟩ := hcut
   rename World => W21
   obtain ⟨Af, qW00, qW01, qW02, qW03, qW04⟩ := M.q5 0 rfl
   obtain ⟨tX, Ae, Ac, Ab, Ad, Aa⟩ := M.q5 4 rfl
   obtain ⟨tP, Ah, Ai, Aj, Ag, Ak⟩ := M.q5 5 rfl
   go_wp2_with fail
   go_call (toPool_s ts ks fs A0 A1 A2 c0 c1 c2 tn st _ hT (H.out.below M.below)) as r W22 ⟨C0, C1, C2, e0, e1, e2, rfl, g1⟩
   clear Af qW00 qW01 qW02 qW03 qW04 tX Ae Ac Ab Ad Aa tP Ah Ai Aj Ag Ak
   replace M := Sep.new M g1
   simp only [List.cons_append, List.nil_append] at M
   clear g1
   obtain ⟨Af, qW00, qW01, qW02, qW03, qW04⟩ := M.q5 3 rfl
   obtain ⟨tX, Ae, Ac, Ab, Ad, Aa⟩ := M.q5 7 rfl
   obtain ⟨tP, Ah, Ai, Aj, Ag, Ak⟩ := M.q5 8 rfl
   go_wp2_with fail
   clear Af qW00 qW01 qW02 qW03 qW04 tX Ae Ac Ab Ad Aa tP Ah Ai Aj Ag Ak
   have N := M.galloc 33 #[.slice C0 ts.length e0, .slice C1 ks.length e1, .slice C2 fs.length e2, .int .i64 tn, .bool st]
   clear M
   obtain ⟨W23, eW, M⟩ := N
   rw [eW]
   clear eW
   obtain ⟨Am, qY00, qY01, qY02, qY03, qY04⟩ := M.q5 0 rfl
   obtain ⟨Af, qW00, qW01, qW02, qW03, qW04⟩ := M.q5 4 rfl
   obtain ⟨tX, Ae, Ac, Ab, Ad, Aa⟩ := M.q5 8 rfl
   obtain ⟨tP, Ah, Ai, Aj, Ag, Ak⟩ := M.q5 9 rfl
   go_wp2_with fail
   clear Am qY00 qY01 qY02 qY03 qY04 Af qW00 qW01 qW02 qW03 qW04 tX Ae Ac Ab Ad Aa tP Ah Ai Aj Ag Ak
   go_cut [15, 16] (fun p' z' wc => ∃ (gG0 : Nat) (SA0 SA1 SA2 : Option Addr) (sa0 sa1 sa2 : Nat), p' = .pointer (some ⟨gG0, 0, none⟩) ∧ z' = .int .i64 z ∧ Sep [] w wc [.blk (gG0) 33 #[.slice SA0 us.length sa0, .slice SA1 ks2.length sa1, .slice SA2 fs2.length sa2, .int .i64 tn2, .bool st2], rT us.length SA0 sa0 us, rK ks2.length SA1 sa1 ks2, rF fs2.length SA2 sa2 fs2, .blk (W22.heap.size) 33 #[.slice C0 ts.length e0, .slice C1 ks.length e1, .slice C2 fs.length e2, .int .i64 tn, .bool st], rT ts.length C0 e0 ts, rK ks.length C1 e1 ks, rF fs.length C2 e2 fs, .blk (gW0) 33 #[.slice RA0 us.length ra0, .slice RA1 ks2.length ra1, .slice RA2 fs2.length ra2, .int .i64 tn2, .bool st2], rT us.length RA0 ra0 us, rK ks2.length RA1 ra1 ks2, rF fs2.length RA2 ra2 fs2, .blk (w.heap.size + 1) 28 #[.slice A0 ts.length c0, .slice A1 ks.length c1, .slice A2 fs.length c2, .int .i64 tn, .bool st], .blk (w.heap.size) 23 #[.int .i64 a, .int .i64 b, .int .i64 c, .int .i64 d, .int .i64 e]])
   case first =>
    refine wp_region_T (S := (fun w' => w'.cell? ⟨w.heap.size, 0, none⟩ = some (.int .i64 a) ∧ w'.cell? ⟨w.heap.size, 1, none⟩ = some (.int .i64 b) ∧ w'.cell? ⟨w.heap.size, 2, none⟩ = some (.int .i64 c) ∧ w'.cell? ⟨w.heap.size, 3, none⟩ = some (.int .i64 d) ∧ w'.cell? ⟨w.heap.size, 4, none⟩ = some (.int .i64 e) ∧ w'.cell? ⟨W22.heap.size, 0, none⟩ = some (.slice C0 ts.length e0) ∧ w'.cell? ⟨W22.heap.size, 1, none⟩ = some (.slice C1 ks.length e1) ∧ w'.cell? ⟨W22.heap.size, 2, none⟩ = some (.slice C2 fs.length e2) ∧ w'.cell? ⟨W22.heap.size, 3, none⟩ = some (.int .i64 tn) ∧ w'.cell? ⟨W22.heap.size, 4, none⟩ = some (.bool st))) (ks := [11]) (by kernel_rfl) ⟨M.cell 9 0 rfl, M.cell 9 1 rfl, M.cell 9 2 rfl, M.cell 9 3 rfl, M.cell 9 4 rfl, M.cell 0 0 rfl, M.cell 0 1 rfl, M.cell 0 2 rfl, M.cell 0 3 rfl, M.cell 0 4 rfl⟩ (fun hHeld => ?_)
    replace M := M.drew
    generalize W23.drew = W24 at M hHeld ⊢
    refine tkL 0 ?v0u22 rfl ?hy0u22 hHeld ?_
    case hy0u22 => (intro w hSw; (try dsimp only at hSw); go_split_ands; go_simp; all_goals with_reducible rfl)
    try simp only [Act.put, List.setIfInBounds_toArray, List.set_cons_zero, List.set_cons_succ]
    refine tkL 2 ?v2u23 rfl ?hy2u23 hHeld ?_
    case hy2u23 => (intro w hSw; (try dsimp only at hSw); go_split_ands; go_simp; all_goals with_reducible rfl)
    try simp only [Act.put, List.setIfInBounds_toArray, List.set_cons_zero, List.set_cons_succ]
    refine tkY 3 ?v3u24 rfl ?hy3u24 (fun _ => hHeld) ?_
    case hy3u24 => (intro w; go_simp; all_goals with_reducible rfl)
    try simp only [Act.put, List.setIfInBounds_toArray, List.set_cons_zero, List.set_cons_succ]
    refine tkY 4 ?v4u25 rfl ?hy4u25 (fun _ => hHeld) ?_
    case hy4u25 => (intro w; go_simp; all_goals with_reducible rfl)
    try simp only [Act.put, List.setIfInBounds_toArray, List.set_cons_zero, List.set_cons_succ]
    refine tkY 5 ?v5u26 rfl ?hy5u26 (fun _ => hHeld) ?_
    case hy5u26 => (intro w; go_simp; all_goals with_reducible rfl)
    try simp only [Act.put, List.setIfInBounds_toArray, List.set_cons_zero, List.set_cons_succ]
    refine wpAnyT_ready (rs := [1, 10]) (by kernel_rfl) (by simp) ?_
    refine AllReadyT.consS (i := 1) rfl (fun K hK => ?_) (AllReadyT.consS (i := 10) rfl (fun K hK => ?_) AllReadyT.nil)
    ·go_simp
     refine Calls.mono (by with_reducible exact (toPlan_any a b c d e _)) ?_
     rintro r W25 ⟨rfl, g1⟩
     replace M := M.call g1
     clear g1 hHeld
     try clear hin
     go_wp2_with fail
     refine hK.out _ _ ?_ (fun hHeld => ?_)
     ·exact ⟨M.cell 9 0 rfl, M.cell 9 1 rfl, M.cell 9 2 rfl, M.cell 9 3 rfl, M.cell 9 4 rfl, M.cell 0 0 rfl, M.cell 0 1 rfl, M.cell 0 2 rfl, M.cell 0 3 rfl, M.cell 0 4 rfl⟩
     clear hK K
     try simp only [Act.put, List.setIfInBounds_toArray, List.set_cons_zero, List.set_cons_succ]
     refine wpAnyT_ready (rs := [6, 10]) (by kernel_rfl) (by simp) ?_
     refine AllReadyT.consS (i := 6) rfl (fun K hK => ?_) (AllReadyT.consS (i := 10) rfl (fun K hK => ?_) AllReadyT.nil)
     ·have hin : InPool W25 ts ks fs C0 C1 C2 := ⟨M.rowS 1 rfl, M.rowS 2 rfl, M.rowS 3 rfl⟩
      go_simp
      refine Calls.mono (by with_reducible exact (hI.out C0 C1 C2 e0 e1 e2 _ hin)) ?_
      rintro r W26 ⟨SA0, SA1, SA2, sa0, sa1, sa2, rfl, g1⟩
      replace M : Sep [] w W26 [rT us.length SA0 sa0 us, rK ks2.length SA1 sa1 ks2, rF fs2.length SA2 sa2 fs2, .blk (W22.heap.size) 33 #[.slice C0 ts.length e0, .slice C1 ks.length e1, .slice C2 fs.length e2, .int .i64 tn, .bool st], rT ts.length C0 e0 ts, rK ks.length C1 e1 ks, rF fs.length C2 e2 fs, .blk (gW0) 33 #[.slice RA0 us.length ra0, .slice RA1 ks2.length ra1, .slice RA2 fs2.length ra2, .int .i64 tn2, .bool st2], rT us.length RA0 ra0 us, rK ks2.length RA1 ra1 ks2, rF fs2.length RA2 ra2 fs2, .blk (w.heap.size + 1) 28 #[.slice A0 ts.length c0, .slice A1 ks.length c1, .slice A2 fs.length c2, .int .i64 tn, .bool st], .blk (w.heap.size) 23 #[.int .i64 a, .int .i64 b, .int .i64 c, .int .i64 d, .int .i64 e]] := Sep.comp (ps := []) (rs := [.blk (W22.heap.size) 33 #[.slice C0 ts.length e0, .slice C1 ks.length e1, .slice C2 fs.length e2, .int .i64 tn, .bool st], rT ts.length C0 e0 ts, rK ks.length C1 e1 ks, rF fs.length C2 e2 fs, .blk (gW0) 33 #[.slice RA0 us.length ra0, .slice RA1 ks2.length ra1, .slice RA2 fs2.length ra2, .int .i64 tn2, .bool st2], rT us.length RA0 ra0 us, rK ks2.length RA1 ra1 ks2, rF fs2.length RA2 ra2 fs2, .blk (w.heap.size + 1) 28 #[.slice A0 ts.length c0, .slice A1 ks.length c1, .slice A2 fs.length c2, .int .i64 tn, .bool st], .blk (w.heap.size) 23 #[.int .i64 a, .int .i64 b, .int .i64 c, .int .i64 d, .int .i64 e]]) M g1
      clear g1 hHeld
      try clear hin
      go_wp2_with fail
      refine hK.out _ _ ?_ (fun hHeld => ?_)
      ·exact ⟨M.cell 12 0 rfl, M.cell 12 1 rfl, M.cell 12 2 rfl, M.cell 12 3 rfl, M.cell 12 4 rfl, M.cell 3 0 rfl, M.cell 3 1 rfl, M.cell 3 2 rfl, M.cell 3 3 rfl, M.cell 3 4 rfl⟩
      clear hK K
      try simp only [Act.put, List.setIfInBounds_toArray, List.set_cons_zero, List.set_cons_succ]
      refine tkY 7 ?v7u27 rfl ?hy7u27 (fun _ => hHeld) ?_
      case hy7u27 => (intro w; go_simp; all_goals with_reducible rfl)
      try simp only [Act.put, List.setIfInBounds_toArray, List.set_cons_zero, List.set_cons_succ]
      refine tkY 8 ?v8u28 rfl ?hy8u28 (fun _ => hHeld) ?_
      case hy8u28 => (intro w; go_simp; all_goals with_reducible rfl)
      try simp only [Act.put, List.setIfInBounds_toArray, List.set_cons_zero, List.set_cons_succ]
      refine tkY 9 ?v9u29 rfl ?hy9u29 (fun _ => hHeld) ?_
      case hy9u29 => (intro w; go_simp; all_goals with_reducible rfl)
      try simp only [Act.put, List.setIfInBounds_toArray, List.set_cons_zero, List.set_cons_succ]
      refine wpAnyT_callL (i := 10) rfl (by kernel_rfl) (fun K hK => ?_)
      go_simp
      replace M : Sep [] w (W26.alloc (.cells #[.slice none 0 0, .slice none 0 0, .slice none 0 0, .int .i64 0, .bool false] 33)) [.blk (W26.heap.size) 33 #[.slice none 0 0, .slice none 0 0, .slice none 0 0, .int .i64 0, .bool false], rT us.length SA0 sa0 us, rK ks2.length SA1 sa1 ks2, rF fs2.length SA2 sa2 fs2, .blk (W22.heap.size) 33 #[.slice C0 ts.length e0, .slice C1 ks.length e1, .slice C2 fs.length e2, .int .i64 tn, .bool st], rT ts.length C0 e0 ts, rK ks.length C1 e1 ks, rF fs.length C2 e2 fs, .blk (gW0) 33 #[.slice RA0 us.length ra0, .slice RA1 ks2.length ra1, .slice RA2 fs2.length ra2, .int .i64 tn2, .bool st2], rT us.length RA0 ra0 us, rK ks2.length RA1 ra1 ks2, rF fs2.length RA2 ra2 fs2, .blk (w.heap.size + 1) 28 #[.slice A0 ts.length c0, .slice A1 ks.length c1, .slice A2 fs.length c2, .int .i64 tn, .bool st], .blk (w.heap.size) 23 #[.int .i64 a, .int .i64 b, .int .i64 c, .int .i64 d, .int .i64 e]] := M.allocN 33 #[.slice none 0 0, .slice none 0 0, .slice none 0 0, .int .i64 0, .bool false]
      generalize W26.alloc (.cells #[.slice none 0 0, .slice none 0 0, .slice none 0 0, .int .i64 0, .bool false] 33) = W27 at M ⊢
      clear hHeld
      refine hK.out _ _ ?_ (fun hHeld => ?_)
      ·exact ⟨M.cell 13 0 rfl, M.cell 13 1 rfl, M.cell 13 2 rfl, M.cell 13 3 rfl, M.cell 13 4 rfl, M.cell 4 0 rfl, M.cell 4 1 rfl, M.cell 4 2 rfl, M.cell 4 3 rfl, M.cell 4 4 rfl⟩
      clear hK K
      try simp only [Act.put, List.setIfInBounds_toArray, List.set_cons_zero, List.set_cons_succ]
      obtain ⟨Al, qG00, fG00, qG01, fG01, qG02, fG02, qG03, fG03, qG04, fG04⟩ := M.f5 0 rfl
      refine wpAnyT_oneL (i := 11) rfl (by kernel_rfl) (by kernel_rfl) (fun K hK => ?_)
      go_simp
      refine hK.out _ _ ?_
      clear hK K
      try simp only [Act.put, List.setIfInBounds_toArray, List.set_cons_zero, List.set_cons_succ]
      clear Al qG00 fG00 qG01 fG01 qG02 fG02 qG03 fG03 qG04 fG04
      have N := M.gset5 0 rfl (.slice SA0 us.length sa0) (.slice SA1 ks2.length sa1) (.slice SA2 fs2.length sa2) (.int .i64 tn2) (.bool st2)
      clear M
      obtain ⟨W28, eW, M⟩ := N
      rw [eW]
      clear eW
      simp only [List.set_cons_zero] at M
      refine tkZ 12 ?v12u30 rfl ?hy12u30 ?_
      case hy12u30 => (intro w; go_simp; all_goals with_reducible rfl)
      try simp only [Act.put, List.setIfInBounds_toArray, List.set_cons_zero, List.set_cons_succ]
      refine wpAnyT_done (by kernel_rfl) ?_ _
      replace M := M.front 3 rfl
      simp only [List.eraseIdx_cons_succ, List.eraseIdx_cons_zero] at M
      replace M := M.front 3 rfl
      simp only [List.eraseIdx_cons_succ, List.eraseIdx_cons_zero] at M
      replace M := M.front 3 rfl
      simp only [List.eraseIdx_cons_succ, List.eraseIdx_cons_zero] at M
      replace M := M.front 3 rfl
      simp only [List.eraseIdx_cons_succ, List.eraseIdx_cons_zero] at M
      go_wp2_with fail
      go_meet
      exact ⟨_, _, _, _, _, _, _, rfl, rfl, M⟩
     ·go_simp
      replace M : Sep [] w (W25.alloc (.cells #[.slice none 0 0, .slice none 0 0, .slice none 0 0, .int .i64 0, .bool false] 33)) [.blk (W25.heap.size) 33 #[.slice none 0 0, .slice none 0 0, .slice none 0 0, .int .i64 0, .bool false], .blk (W22.heap.size) 33 #[.slice C0 ts.length e0, .slice C1 ks.length e1, .slice C2 fs.length e2, .int .i64 tn, .bool st], rT ts.length C0 e0 ts, rK ks.length C1 e1 ks, rF fs.length C2 e2 fs, .blk (gW0) 33 #[.slice RA0 us.length ra0, .slice RA1 ks2.length ra1, .slice RA2 fs2.length ra2, .int .i64 tn2, .bool st2], rT us.length RA0 ra0 us, rK ks2.length RA1 ra1 ks2, rF fs2.length RA2 ra2 fs2, .blk (w.heap.size + 1) 28 #[.slice A0 ts.length c0, .slice A1 ks.length c1, .slice A2 fs.length c2, .int .i64 tn, .bool st], .blk (w.heap.size) 23 #[.int .i64 a, .int .i64 b, .int .i64 c, .int .i64 d, .int .i64 e]] := M.allocN 33 #[.slice none 0 0, .slice none 0 0, .slice none 0 0, .int .i64 0, .bool false]
      generalize W25.alloc (.cells #[.slice none 0 0, .slice none 0 0, .slice none 0 0, .int .i64 0, .bool false] 33) = W29 at M ⊢
      clear hHeld
      refine hK.out _ _ ?_ (fun hHeld => ?_)
      ·exact ⟨M.cell 10 0 rfl, M.cell 10 1 rfl, M.cell 10 2 rfl, M.cell 10 3 rfl, M.cell 10 4 rfl, M.cell 1 0 rfl, M.cell 1 1 rfl, M.cell 1 2 rfl, M.cell 1 3 rfl, M.cell 1 4 rfl⟩
      clear hK K
      try simp only [Act.put, List.setIfInBounds_toArray, List.set_cons_zero, List.set_cons_succ]
      refine wpAnyT_callL (i := 6) rfl (by kernel_rfl) (fun K hK => ?_)
      have hin : InPool W29 ts ks fs C0 C1 C2 := ⟨M.rowS 2 rfl, M.rowS 3 rfl, M.rowS 4 rfl⟩
      go_simp
      refine Calls.mono (by with_reducible exact (hI.out C0 C1 C2 e0 e1 e2 _ hin)) ?_
      rintro r W30 ⟨SA0, SA1, SA2, sa0, sa1, sa2, rfl, g1⟩
      replace M : Sep [] w W30 [rT us.length SA0 sa0 us, rK ks2.length SA1 sa1 ks2, rF fs2.length SA2 sa2 fs2, .blk (W25.heap.size) 33 #[.slice none 0 0, .slice none 0 0, .slice none 0 0, .int .i64 0, .bool false], .blk (W22.heap.size) 33 #[.slice C0 ts.length e0, .slice C1 ks.length e1, .slice C2 fs.length e2, .int .i64 tn, .bool st], rT ts.length C0 e0 ts, rK ks.length C1 e1 ks, rF fs.length C2 e2 fs, .blk (gW0) 33 #[.slice RA0 us.length ra0, .slice RA1 ks2.length ra1, .slice RA2 fs2.length ra2, .int .i64 tn2, .bool st2], rT us.length RA0 ra0 us, rK ks2.length RA1 ra1 ks2, rF fs2.length RA2 ra2 fs2, .blk (w.heap.size + 1) 28 #[.slice A0 ts.length c0, .slice A1 ks.length c1, .slice A2 fs.length c2, .int .i64 tn, .bool st], .blk (w.heap.size) 23 #[.int .i64 a, .int .i64 b, .int .i64 c, .int .i64 d, .int .i64 e]] := Sep.comp (ps := []) (rs := [.blk (W25.heap.size) 33 #[.slice none 0 0, .slice none 0 0, .slice none 0 0, .int .i64 0, .bool false], .blk (W22.heap.size) 33 #[.slice C0 ts.length e0, .slice C1 ks.length e1, .slice C2 fs.length e2, .int .i64 tn, .bool st], rT ts.length C0 e0 ts, rK ks.length C1 e1 ks, rF fs.length C2 e2 fs, .blk (gW0) 33 #[.slice RA0 us.length ra0, .slice RA1 ks2.length ra1, .slice RA2 fs2.length ra2, .int .i64 tn2, .bool st2], rT us.length RA0 ra0 us, rK ks2.length RA1 ra1 ks2, rF fs2.length RA2 ra2 fs2, .blk (w.heap.size + 1) 28 #[.slice A0 ts.length c0, .slice A1 ks.length c1, .slice A2 fs.length c2, .int .i64 tn, .bool st], .blk (w.heap.size) 23 #[.int .i64 a, .int .i64 b, .int .i64 c, .int .i64 d, .int .i64 e]]) M g1
      clear g1 hHeld
      try clear hin
      go_wp2_with fail
      refine hK.out _ _ ?_ (fun hHeld => ?_)
      ·exact ⟨M.cell 13 0 rfl, M.cell 13 1 rfl, M.cell 13 2 rfl, M.cell 13 3 rfl, M.cell 13 4 rfl, M.cell 4 0 rfl, M.cell 4 1 rfl, M.cell 4 2 rfl, M.cell 4 3 rfl, M.cell 4 4 rfl⟩
      clear hK K
      try simp only [Act.put, List.setIfInBounds_toArray, List.set_cons_zero, List.set_cons_succ]
      refine tkY 7 ?v7u31 rfl ?hy7u31 (fun _ => hHeld) ?_
      case hy7u31 => (intro w; go_simp; all_goals with_reducible rfl)
      try simp only [Act.put, List.setIfInBounds_toArray, List.set_cons_zero, List.set_cons_succ]
      refine tkY 8 ?v8u32 rfl ?hy8u32 (fun _ => hHeld) ?_
      case hy8u32 => (intro w; go_simp; all_goals with_reducible rfl)
      try simp only [Act.put, List.setIfInBounds_toArray, List.set_cons_zero, List.set_cons_succ]
      refine tkY 9 ?v9u33 rfl ?hy9u33 (fun _ => hHeld) ?_
      case hy9u33 => (intro w; go_simp; all_goals with_reducible rfl)
      try simp only [Act.put, List.setIfInBounds_toArray, List.set_cons_zero, List.set_cons_succ]
      obtain ⟨Al, qG00, fG00, qG01, fG01, qG02, fG02, qG03, fG03, qG04, fG04⟩ := M.f5 3 rfl
      refine wpAnyT_oneL (i := 11) rfl (by kernel_rfl) (by kernel_rfl) (fun K hK => ?_)
      go_simp
      refine hK.out _ _ ?_
      clear hK K
      try simp only [Act.put, List.setIfInBounds_toArray, List.set_cons_zero, List.set_cons_succ]
      clear Al qG00 fG00 qG01 fG01 qG02 fG02 qG03 fG03 qG04 fG04
      have N := M.gset5 3 rfl (.slice SA0 us.length sa0) (.slice SA1 ks2.length sa1) (.slice SA2 fs2.length sa2) (.int .i64 tn2) (.bool st2)
      clear M
      obtain ⟨W31, eW, M⟩ := N
      rw [eW]
      clear eW
      simp only [List.set_cons_zero, List.set_cons_succ] at M
      refine tkZ 12 ?v12u34 rfl ?hy12u34 ?_
      case hy12u34 => (intro w; go_simp; all_goals with_reducible rfl)
      try simp only [Act.put, List.setIfInBounds_toArray, List.set_cons_zero, List.set_cons_succ]
      refine wpAnyT_done (by kernel_rfl) ?_ _
      replace M := M.front 2 rfl
      simp only [List.eraseIdx_cons_succ, List.eraseIdx_cons_zero] at M
      replace M := M.front 2 rfl
      simp only [List.eraseIdx_cons_succ, List.eraseIdx_cons_zero] at M
      replace M := M.front 2 rfl
      simp only [List.eraseIdx_cons_succ, List.eraseIdx_cons_zero] at M
      replace M := M.front 3 rfl
      simp only [List.eraseIdx_cons_succ, List.eraseIdx_cons_zero] at M
      go_wp2_with fail
      go_meet
      exact ⟨_, _, _, _, _, _, _, rfl, rfl, M⟩
    ·go_simp
     replace M : Sep [] w (W24.alloc (.cells #[.slice none 0 0, .slice none 0 0, .slice none 0 0, .int .i64 0, .bool false] 33)) [.blk (W24.heap.size) 33 #[.slice none 0 0, .slice none 0 0, .slice none 0 0, .int .i64 0, .bool false], .blk (W22.heap.size) 33 #[.slice C0 ts.length e0, .slice C1 ks.length e1, .slice C2 fs.length e2, .int .i64 tn, .bool st], rT ts.length C0 e0 ts, rK ks.length C1 e1 ks, rF fs.length C2 e2 fs, .blk (gW0) 33 #[.slice RA0 us.length ra0, .slice RA1 ks2.length ra1, .slice RA2 fs2.length ra2, .int .i64 tn2, .bool st2], rT us.length RA0 ra0 us, rK ks2.length RA1 ra1 ks2, rF fs2.length RA2 ra2 fs2, .blk (w.heap.size + 1) 28 #[.slice A0 ts.length c0, .slice A1 ks.length c1, .slice A2 fs.length c2, .int .i64 tn, .bool st], .blk (w.heap.size) 23 #[.int .i64 a, .int .i64 b, .int .i64 c, .int .i64 d, .int .i64 e]] := M.allocN 33 #[.slice none 0 0, .slice none 0 0, .slice none 0 0, .int .i64 0, .bool false]
     generalize W24.alloc (.cells #[.slice none 0 0, .slice none 0 0, .slice none 0 0, .int .i64 0, .bool false] 33) = W32 at M ⊢
     clear hHeld
     refine hK.out _ _ ?_ (fun hHeld => ?_)
     ·exact ⟨M.cell 10 0 rfl, M.cell 10 1 rfl, M.cell 10 2 rfl, M.cell 10 3 rfl, M.cell 10 4 rfl, M.cell 1 0 rfl, M.cell 1 1 rfl, M.cell 1 2 rfl, M.cell 1 3 rfl, M.cell 1 4 rfl⟩
     clear hK K
     try simp only [Act.put, List.setIfInBounds_toArray, List.set_cons_zero, List.set_cons_succ]
     refine wpAnyT_callL (i := 1) rfl (by kernel_rfl) (fun K hK => ?_)
     go_simp
     refine Calls.mono (by with_reducible exact (toPlan_any a b c d e _)) ?_
     rintro r W33 ⟨rfl, g1⟩
     replace M := M.call g1
     clear g1 hHeld
     try clear hin
     go_wp2_with fail
     refine hK.out _ _ ?_ (fun hHeld => ?_)
     ·exact ⟨M.cell 10 0 rfl, M.cell 10 1 rfl, M.cell 10 2 rfl, M.cell 10 3 rfl, M.cell 10 4 rfl, M.cell 1 0 rfl, M.cell 1 1 rfl, M.cell 1 2 rfl, M.cell 1 3 rfl, M.cell 1 4 rfl⟩
     clear hK K
     try simp only [Act.put, List.setIfInBounds_toArray, List.set_cons_zero, List.set_cons_succ]
     refine wpAnyT_callL (i := 6) rfl (by kernel_rfl) (fun K hK => ?_)
     have hin : InPool W33 ts ks fs C0 C1 C2 := ⟨M.rowS 2 rfl, M.rowS 3 rfl, M.rowS 4 rfl⟩
     go_simp
     refine Calls.mono (by with_reducible exact (hI.out C0 C1 C2 e0 e1 e2 _ hin)) ?_
     rintro r W34 ⟨SA0, SA1, SA2, sa0, sa1, sa2, rfl, g1⟩
     replace M : Sep [] w W34 [rT us.length SA0 sa0 us, rK ks2.length SA1 sa1 ks2, rF fs2.length SA2 sa2 fs2, .blk (W24.heap.size) 33 #[.slice none 0 0, .slice none 0 0, .slice none 0 0, .int .i64 0, .bool false], .blk (W22.heap.size) 33 #[.slice C0 ts.length e0, .slice C1 ks.length e1, .slice C2 fs.length e2, .int .i64 tn, .bool st], rT ts.length C0 e0 ts, rK ks.length C1 e1 ks, rF fs.length C2 e2 fs, .blk (gW0) 33 #[.slice RA0 us.length ra0, .slice RA1 ks2.length ra1, .slice RA2 fs2.length ra2, .int .i64 tn2, .bool st2], rT us.length RA0 ra0 us, rK ks2.length RA1 ra1 ks2, rF fs2.length RA2 ra2 fs2, .blk (w.heap.size + 1) 28 #[.slice A0 ts.length c0, .slice A1 ks.length c1, .slice A2 fs.length c2, .int .i64 tn, .bool st], .blk (w.heap.size) 23 #[.int .i64 a, .int .i64 b, .int .i64 c, .int .i64 d, .int .i64 e]] := Sep.comp (ps := []) (rs := [.blk (W24.heap.size) 33 #[.slice none 0 0, .slice none 0 0, .slice none 0 0, .int .i64 0, .bool false], .blk (W22.heap.size) 33 #[.slice C0 ts.length e0, .slice C1 ks.length e1, .slice C2 fs.length e2, .int .i64 tn, .bool st], rT ts.length C0 e0 ts, rK ks.length C1 e1 ks, rF fs.length C2 e2 fs, .blk (gW0) 33 #[.slice RA0 us.length ra0, .slice RA1 ks2.length ra1, .slice RA2 fs2.length ra2, .int .i64 tn2, .bool st2], rT us.length RA0 ra0 us, rK ks2.length RA1 ra1 ks2, rF fs2.length RA2 ra2 fs2, .blk (w.heap.size + 1) 28 #[.slice A0 ts.length c0, .slice A1 ks.length c1, .slice A2 fs.length c2, .int .i64 tn, .bool st], .blk (w.heap.size) 23 #[.int .i64 a, .int .i64 b, .int .i64 c, .int .i64 d, .int .i64 e]]) M g1
     clear g1 hHeld
     try clear hin
     go_wp2_with fail
     refine hK.out _ _ ?_ (fun hHeld => ?_)
     ·exact ⟨M.cell 13 0 rfl, M.cell 13 1 rfl, M.cell 13 2 rfl, M.cell 13 3 rfl, M.cell 13 4 rfl, M.cell 4 0 rfl, M.cell 4 1 rfl, M.cell 4 2 rfl, M.cell 4 3 rfl, M.cell 4 4 rfl⟩
     clear hK K
     try simp only [Act.put, List.setIfInBounds_toArray, List.set_cons_zero, List.set_cons_succ]
     refine tkY 7 ?v7u35 rfl ?hy7u35 (fun _ => hHeld) ?_
     case hy7u35 => (intro w; go_simp; all_goals with_reducible rfl)
     try simp only [Act.put, List.setIfInBounds_toArray, List.set_cons_zero, List.set_cons_succ]
     refine tkY 8 ?v8u36 rfl ?hy8u36 (fun _ => hHeld) ?_
     case hy8u36 => (intro w; go_simp; all_goals with_reducible rfl)
     try simp only [Act.put, List.setIfInBounds_toArray, List.set_cons_zero, List.set_cons_succ]
     refine tkY 9 ?v9u37 rfl ?hy9u37 (fun _ => hHeld) ?_
     case hy9u37 => (intro w; go_simp; all_goals with_reducible rfl)
     try simp only [Act.put, List.setIfInBounds_toArray, List.set_cons_zero, List.set_cons_succ]
     obtain ⟨Al, qG00, fG00, qG01, fG01, qG02, fG02, qG03, fG03, qG04, fG04⟩ := M.f5 3 rfl
     refine wpAnyT_oneL (i := 11) rfl (by kernel_rfl) (by kernel_rfl) (fun K hK => ?_)
     go_simp
     refine hK.out _ _ ?_
     clear hK K
     try simp only [Act.put, List.setIfInBounds_toArray, List.set_cons_zero, List.set_cons_succ]
     clear Al qG00 fG00 qG01 fG01 qG02 fG02 qG03 fG03 qG04 fG04
     have N := M.gset5 3 rfl (.slice SA0 us.length sa0) (.slice SA1 ks2.length sa1) (.slice SA2 fs2.length sa2) (.int .i64 tn2) (.bool st2)
     clear M
     obtain ⟨W35, eW, M⟩ := N
     rw [eW]
     clear eW
     simp only [List.set_cons_zero, List.set_cons_succ] at M
     refine tkZ 12 ?v12u38 rfl ?hy12u38 ?_
     case hy12u38 => (intro w; go_simp; all_goals with_reducible rfl)
     try simp only [Act.put, List.setIfInBounds_toArray, List.set_cons_zero, List.set_cons_succ]
     refine wpAnyT_done (by kernel_rfl) ?_ _
     replace M := M.front 2 rfl
     simp only [List.eraseIdx_cons_succ, List.eraseIdx_cons_zero] at M
     replace M := M.front 2 rfl
     simp only [List.eraseIdx_cons_succ, List.eraseIdx_cons_zero] at M
     replace M := M.front 2 rfl
     simp only [List.eraseIdx_cons_succ, List.eraseIdx_cons_zero] at M
     replace M := M.front 3 rfl
     simp only [List.eraseIdx_cons_succ, List.eraseIdx_cons_zero] at M
     go_wp2_with fail
     go_meet
     exact ⟨_, _, _, _, _, _, _, rfl, rfl, M⟩
   case rest =>
    clear M
    obtain ⟨gG0, SA0, SA1, SA2, sa0, sa1, sa2, rfl, rfl, M⟩ := hcut
    rename World => W36
    obtain ⟨Al, qG00, qG01, qG02, qG03, qG04⟩ := M.q5 0 rfl
    obtain ⟨Am, qY00, qY01, qY02, qY03, qY04⟩ := M.q5 4 rfl
    obtain ⟨Af, qW00, qW01, qW02, qW03, qW04⟩ := M.q5 8 rfl
    obtain ⟨tX, Ae, Ac, Ab, Ad, Aa⟩ := M.q5 12 rfl
    obtain ⟨tP, Ah, Ai, Aj, Ag, Ak⟩ := M.q5 13 rfl
    go_wp2_with fail
    go_call (eqPool_same us ks2 fs2 SA0 SA1 SA2 sa0 sa1 sa2 tn2 st2 RA0 RA1 RA2 ra0 ra1 ra2 _ hLl ⟨M.rowS 1 rfl, M.rowS 2 rfl, M.rowS 3 rfl⟩ ⟨M.rowS 9 rfl, M.rowS 10 rfl, M.rowS 11 rfl⟩) as r W37 ⟨rfl, g1⟩
    clear Al qG00 qG01 qG02 qG03 qG04 Am qY00 qY01 qY02 qY03 qY04 Af qW00 qW01 qW02 qW03 qW04 tX Ae Ac Ab Ad Aa tP Ah Ai Aj Ag Ak
    replace M := M.call g1
    clear g1
    obtain ⟨Al, qG00, qG01, qG02, qG03, qG04⟩ := M.q5 0 rfl
    obtain ⟨Am, qY00, qY01, qY02, qY03, qY04⟩ := M.q5 4 rfl
    obtain ⟨Af, qW00, qW01, qW02, qW03, qW04⟩ := M.q5 8 rfl
    obtain ⟨tX, Ae, Ac, Ab, Ad, Aa⟩ := M.q5 12 rfl
    obtain ⟨tP, Ah, Ai, Aj, Ag, Ak⟩ := M.q5 13 rfl
    go_wp2_with fail
    clear Al qG00 qG01 qG02 qG03 qG04 Am qY00 qY01 qY02 qY03 qY04 Af qW00 qW01 qW02 qW03 qW04 tX Ae Ac Ab Ad Aa tP Ah Ai Aj Ag Ak
    obtain ⟨Am, qY00, qY01, qY02, qY03, qY04⟩ := M.q5 4 rfl
    obtain ⟨tX, Ae, Ac, Ab, Ad, Aa⟩ := M.q5 12 rfl
    have HH := hide (⟨H.out.below M.below, ⟨M.rowS 5 rfl, M.rowS 6 rfl, M.rowS 7 rfl⟩, M⟩ : InPool W37 ts ks fs A0 A1 A2 ∧ InPool W37 ts ks fs C0 C1 C2 ∧ Sep [] w W37 [.blk (gG0) 33 #[.slice SA0 us.length sa0, .slice SA1 ks2.length sa1, .slice SA2 fs2.length sa2, .int .i64 tn2, .bool st2], rT us.length SA0 sa0 us, rK ks2.length SA1 sa1 ks2, rF fs2.length SA2 sa2 fs2, .blk (W22.heap.size) 33 #[.slice C0 ts.length e0, .slice C1 ks.length e1, .slice C2 fs.length e2, .int .i64 tn, .bool st], rT ts.length C0 e0 ts, rK ks.length C1 e1 ks, rF fs.length C2 e2 fs, .blk (gW0) 33 #[.slice RA0 us.length ra0, .slice RA1 ks2.length ra1, .slice RA2 fs2.length ra2, .int .i64 tn2, .bool st2], rT us.length RA0 ra0 us, rK ks2.length RA1 ra1 ks2, rF fs2.length RA2 ra2 fs2, .blk (w.heap.size + 1) 28 #[.slice A0 ts.length c0, .slice A1 ks.length c1, .slice A2 fs.length c2, .int .i64 tn, .bool st], .blk (w.heap.size) 23 #[.int .i64 a, .int .i64 b, .int .i64 c, .int .i64 d, .int .i64 e]])
    clear M
    go_region_held3 (fun w' => Below (World.heap W37).size W37 w' ∧ ∀ b o, b < (World.heap W37).size → w'.cell? ⟨b, o, none⟩ = World.cell? W37 ⟨b, o, none⟩) (first | exact keep0' _ | exact keepS' (by assumption) (by assumption)) (first | (go_at_call 10; refine (toPool_any ts ks fs A0 A1 A2 c0 c1 c2 tn st _ hT (inS HH.out.1 (by assumption))).mono ?_; rintro r w4 ⟨D0, D1, D2, f0, f1, f2, rfl, own4, hb4⟩) | (go_at_call 12; refine (eqPool_same ts ks fs C0 C1 C2 e0 e1 e2 tn st D0 D1 D2 f0 f1 f2 _ hT (inS HH.out.2.1 (by assumption)) own4.reads).mono ?_; rintro r w5 ⟨rfl, hb5⟩))
    have M := HH.out.2.2.call (keptB (by assumption))
    clear HH Am qY00 qY01 qY02 qY03 qY04 tX Ae Ac Ab Ad Aa
    clear own4 hb4 hb5
    obtain ⟨Al, qG00, qG01, qG02, qG03, qG04⟩ := M.q5 0 rfl
    obtain ⟨Am, qY00, qY01, qY02, qY03, qY04⟩ := M.q5 4 rfl
    obtain ⟨Af, qW00, qW01, qW02, qW03, qW04⟩ := M.q5 8 rfl
    obtain ⟨tX, Ae, Ac, Ab, Ad, Aa⟩ := M.q5 12 rfl
    obtain ⟨tP, Ah, Ai, Aj, Ag, Ak⟩ := M.q5 13 rfl
    go_wp2_with fail
    replace M := M.front 7 rfl
    simp only [List.eraseIdx_cons_succ, List.eraseIdx_cons_zero] at M
    replace M := M.front 7 rfl
    simp only [List.eraseIdx_cons_succ, List.eraseIdx_cons_zero] at M
    replace M := M.front 7 rfl
    simp only [List.eraseIdx_cons_succ, List.eraseIdx_cons_zero] at M
    go_call (markPool_s ts ks fs C0 C1 C2 e0 e1 e2 tn st 1 _ hT (by omega) (by omega) (Sep.same (ps := [rT ts.length C0 e0 ts, rK ks.length C1 e1 ks, rF fs.length C2 e2 fs]) (rs := [.blk (gG0) 33 #[.slice SA0 us.length sa0, .slice SA1 ks2.length sa1, .slice SA2 fs2.length sa2, .int .i64 tn2, .bool st2], rT us.length SA0 sa0 us, rK ks2.length SA1 sa1 ks2, rF fs2.length SA2 sa2 fs2, .blk (W22.heap.size) 33 #[.slice C0 ts.length e0, .slice C1 ks.length e1, .slice C2 fs.length e2, .int .i64 tn, .bool st], .blk (gW0) 33 #[.slice RA0 us.length ra0, .slice RA1 ks2.length ra1, .slice RA2 fs2.length ra2, .int .i64 tn2, .bool st2], rT us.length RA0 ra0 us, rK ks2.length RA1 ra1 ks2, rF fs2.length RA2 ra2 fs2, .blk (w.heap.size + 1) 28 #[.slice A0 ts.length c0, .slice A1 ks.length c1, .slice A2 fs.length c2, .int .i64 tn, .bool st], .blk (w.heap.size) 23 #[.int .i64 a, .int .i64 b, .int .i64 c, .int .i64 d, .int .i64 e]]) M (Below.refl _ _))) as r W38 ⟨rfl, g1⟩
    clear Al qG00 qG01 qG02 qG03 qG04 Am qY00 qY01 qY02 qY03 qY04 Af qW00 qW01 qW02 qW03 qW04 tX Ae Ac Ab Ad Aa tP Ah Ai Aj Ag Ak
    replace M := Sep.comp (ps := [rT ts.length C0 e0 ts, rK ks.length C1 e1 ks, rF fs.length C2 e2 fs]) M g1
    simp only [List.cons_append, List.nil_append] at M
    clear g1
    have hk1 : ¬ (1 + 7 * (ts.length : Int) + ks.length + 2 * fs.length < 0) := by omega
    obtain ⟨Al, qG00, qG01, qG02, qG03, qG04⟩ := M.q5 3 rfl
    obtain ⟨Am, qY00, qY01, qY02, qY03, qY04⟩ := M.q5 7 rfl
    obtain ⟨Af, qW00, qW01, qW02, qW03, qW04⟩ := M.q5 8 rfl
    obtain ⟨tX, Ae, Ac, Ab, Ad, Aa⟩ := M.q5 12 rfl
    obtain ⟨tP, Ah, Ai, Aj, Ag, Ak⟩ := M.q5 13 rfl
    go_wp2_with fail
    go_call (eqPool_same us ks2 fs2 SA0 SA1 SA2 sa0 sa1 sa2 tn2 st2 RA0 RA1 RA2 ra0 ra1 ra2 _ hLl ⟨M.rowS 4 rfl, M.rowS 5 rfl, M.rowS 6 rfl⟩ ⟨M.rowS 9 rfl, M.rowS 10 rfl, M.rowS 11 rfl⟩) as r W39 ⟨rfl, g1⟩
    clear Al qG00 qG01 qG02 qG03 qG04 Am qY00 qY01 qY02 qY03 qY04 Af qW00 qW01 qW02 qW03 qW04 tX Ae Ac Ab Ad Aa tP Ah Ai Aj Ag Ak
    replace M := M.call g1
    clear g1
    obtain ⟨Al, qG00, qG01, qG02, qG03, qG04⟩ := M.q5 3 rfl
    obtain ⟨Am, qY00, qY01, qY02, qY03, qY04⟩ := M.q5 7 rfl
    obtain ⟨Af, qW00, qW01, qW02, qW03, qW04⟩ := M.q5 8 rfl
    obtain ⟨tX, Ae, Ac, Ab, Ad, Aa⟩ := M.q5 12 rfl
    obtain ⟨tP, Ah, Ai, Aj, Ag, Ak⟩ := M.q5 13 rfl
    go_wp2_with fail
    replace M := M.front 6 rfl
    simp only [List.eraseIdx_cons_succ, List.eraseIdx_cons_zero] at M
    replace M := M.front 6 rfl
    simp only [List.eraseIdx_cons_succ, List.eraseIdx_cons_zero] at M
    replace M := M.front 6 rfl
    simp only [List.eraseIdx_cons_succ, List.eraseIdx_cons_zero] at M
    go_call (markPool_s us ks2 fs2 SA0 SA1 SA2 sa0 sa1 sa2 tn2 st2 1 _ hLl (by omega) (by omega) (Sep.same (ps := [rT us.length SA0 sa0 us, rK ks2.length SA1 sa1 ks2, rF fs2.length SA2 sa2 fs2]) (rs := [rT ts.length C0 e0 (markT 1 ts.length), rK ks.length C1 e1 (markK (1 + 7 * ts.length) ks.length), rF fs.length C2 e2 (markF (1 + 7 * ts.length + ks.length) fs.length), .blk (gG0) 33 #[.slice SA0 us.length sa0, .slice SA1 ks2.length sa1, .slice SA2 fs2.length sa2, .int .i64 tn2, .bool st2], .blk (W22.heap.size) 33 #[.slice C0 ts.length e0, .slice C1 ks.length e1, .slice C2 fs.length e2, .int .i64 tn, .bool st], .blk (gW0) 33 #[.slice RA0 us.length ra0, .slice RA1 ks2.length ra1, .slice RA2 fs2.length ra2, .int .i64 tn2, .bool st2], rT us.length RA0 ra0 us, rK ks2.length RA1 ra1 ks2, rF fs2.length RA2 ra2 fs2, .blk (w.heap.size + 1) 28 #[.slice A0 ts.length c0, .slice A1 ks.length c1, .slice A2 fs.length c2, .int .i64 tn, .bool st], .blk (w.heap.size) 23 #[.int .i64 a, .int .i64 b, .int .i64 c, .int .i64 d, .int .i64 e]]) M (Below.refl _ _))) as r W40 ⟨rfl, g1⟩
    clear Al qG00 qG01 qG02 qG03 qG04 Am qY00 qY01 qY02 qY03 qY04 Af qW00 qW01 qW02 qW03 qW04 tX Ae Ac Ab Ad Aa tP Ah Ai Aj Ag Ak
    replace M := Sep.comp (ps := [rT us.length SA0 sa0 us, rK ks2.length SA1 sa1 ks2, rF fs2.length SA2 sa2 fs2]) M g1
    simp only [List.cons_append, List.nil_append] at M
    clear g1
    have hk2 : ¬ (1 + 7 * (us.length : Int) + ks2.length + 2 * fs2.length < 0) := by omega
    obtain ⟨Al, qG00, qG01, qG02, qG03, qG04⟩ := M.q5 6 rfl
    obtain ⟨Am, qY00, qY01, qY02, qY03, qY04⟩ := M.q5 7 rfl
    obtain ⟨Af, qW00, qW01, qW02, qW03, qW04⟩ := M.q5 8 rfl
    obtain ⟨tX, Ae, Ac, Ab, Ad, Aa⟩ := M.q5 12 rfl
    obtain ⟨tP, Ah, Ai, Aj, Ag, Ak⟩ := M.q5 13 rfl
    go_wp2_with fail
    go_call (heldPool_w us.length ks2.length fs2.length SA0 SA1 SA2 sa0 sa1 sa2 tn2 st2 1 _ hLl (by omega) (by omega) ⟨M.rowS 0 rfl, M.rowS 1 rfl, M.rowS 2 rfl⟩) as r W41 ⟨rfl, g1⟩
    clear Al qG00 qG01 qG02 qG03 qG04 Am qY00 qY01 qY02 qY03 qY04 Af qW00 qW01 qW02 qW03 qW04 tX Ae Ac Ab Ad Aa tP Ah Ai Aj Ag Ak
    replace M := M.call g1
    clear g1
    obtain ⟨Al, qG00, qG01, qG02, qG03, qG04⟩ := M.q5 6 rfl
    obtain ⟨Am, qY00, qY01, qY02, qY03, qY04⟩ := M.q5 7 rfl
    obtain ⟨Af, qW00, qW01, qW02, qW03, qW04⟩ := M.q5 8 rfl
    obtain ⟨tX, Ae, Ac, Ab, Ad, Aa⟩ := M.q5 12 rfl
    obtain ⟨tP, Ah, Ai, Aj, Ag, Ak⟩ := M.q5 13 rfl
    go_wp2_with fail
    clear Al qG00 qG01 qG02 qG03 qG04 Am qY00 qY01 qY02 qY03 qY04 Af qW00 qW01 qW02 qW03 qW04 tX Ae Ac Ab Ad Aa tP Ah Ai Aj Ag Ak
    go_cut [20, 21] (fun p' z' wc => ∃ (gH0 : Nat) (TA0 TA1 TA2 : Option Addr) (ta0 ta1 ta2 : Nat), p' = .pointer (some ⟨gH0, 0, none⟩) ∧ z' = .int .i64 z ∧ Sep [] w wc [.blk (gH0) 33 #[.slice TA0 us.length ta0, .slice TA1 ks2.length ta1, .slice TA2 fs2.length ta2, .int .i64 tn2, .bool st2], rT us.length TA0 ta0 us, rK ks2.length TA1 ta1 ks2, rF fs2.length TA2 ta2 fs2, rT us.length SA0 sa0 (markT 1 us.length), rK ks2.length SA1 sa1 (markK (1 + 7 * us.length) ks2.length), rF fs2.length SA2 sa2 (markF (1 + 7 * us.length + ks2.length) fs2.length), rT ts.length C0 e0 (markT 1 ts.length), rK ks.length C1 e1 (markK (1 + 7 * ts.length) ks.length), rF fs.length C2 e2 (markF (1 + 7 * ts.length + ks.length) fs.length), .blk (gG0) 33 #[.slice SA0 us.length sa0, .slice SA1 ks2.length sa1, .slice SA2 fs2.length sa2, .int .i64 tn2, .bool st2], .blk (W22.heap.size) 33 #[.slice C0 ts.length e0, .slice C1 ks.length e1, .slice C2 fs.length e2, .int .i64 tn, .bool st], .blk (gW0) 33 #[.slice RA0 us.length ra0, .slice RA1 ks2.length ra1, .slice RA2 fs2.length ra2, .int .i64 tn2, .bool st2], rT us.length RA0 ra0 us, rK ks2.length RA1 ra1 ks2, rF fs2.length RA2 ra2 fs2, .blk (w.heap.size + 1) 28 #[.slice A0 ts.length c0, .slice A1 ks.length c1, .slice A2 fs.length c2, .int .i64 tn, .bool st], .blk (w.heap.size) 23 #[.int .i64 a, .int .i64 b, .int .i64 c, .int .i64 d, .int .i64 e]])
    case first =>
     refine wp_region_T (S := (fun w' => w'.cell? ⟨w.heap.size, 0, none⟩ = some (.int .i64 a) ∧ w'.cell? ⟨w.heap.size, 1, none⟩ = some (.int .i64 b) ∧ w'.cell? ⟨w.heap.size, 2, none⟩ = some (.int .i64 c) ∧ w'.cell? ⟨w.heap.size, 3, none⟩ = some (.int .i64 d) ∧ w'.cell? ⟨w.heap.size, 4, none⟩ = some (.int .i64 e) ∧ w'.cell? ⟨w.heap.size + 1, 0, none⟩ = some (.slice A0 ts.length c0) ∧ w'.cell? ⟨w.heap.size + 1, 1, none⟩ = some (.slice A1 ks.length c1) ∧ w'.cell? ⟨w.heap.size + 1, 2, none⟩ = some (.slice A2 fs.length c2) ∧ w'.cell? ⟨w.heap.size + 1, 3, none⟩ = some (.int .i64 tn) ∧ w'.cell? ⟨w.heap.size + 1, 4, none⟩ = some (.bool st))) (ks := [12]) (by kernel_rfl) ⟨M.cell 13 0 rfl, M.cell 13 1 rfl, M.cell 13 2 rfl, M.cell 13 3 rfl, M.cell 13 4 rfl, M.cell 12 0 rfl, M.cell 12 1 rfl, M.cell 12 2 rfl, M.cell 12 3 rfl, M.cell 12 4 rfl⟩ (fun hHeld => ?_)
     replace M := M.drew
     generalize W41.drew = W42 at M hHeld ⊢
     refine tkL 0 ?v0u39 rfl ?hy0u39 hHeld ?_
     case hy0u39 => (intro w hSw; (try dsimp only at hSw); go_split_ands; go_simp; all_goals with_reducible rfl)
     try simp only [Act.put, List.setIfInBounds_toArray, List.set_cons_zero, List.set_cons_succ]
     refine tkL 2 ?v2u40 rfl ?hy2u40 hHeld ?_
     case hy2u40 => (intro w hSw; (try dsimp only at hSw); go_split_ands; go_simp; all_goals with_reducible rfl)
     try simp only [Act.put, List.setIfInBounds_toArray, List.set_cons_zero, List.set_cons_succ]
     refine tkY 4 ?v4u41 rfl ?hy4u41 (fun _ => hHeld) ?_
     case hy4u41 => (intro w; go_simp; all_goals with_reducible rfl)
     try simp only [Act.put, List.setIfInBounds_toArray, List.set_cons_zero, List.set_cons_succ]
     refine tkY 5 ?v5u42 rfl ?hy5u42 (fun _ => hHeld) ?_
     case hy5u42 => (intro w; go_simp; all_goals with_reducible rfl)
     try simp only [Act.put, List.setIfInBounds_toArray, List.set_cons_zero, List.set_cons_succ]
     refine tkY 6 ?v6u43 rfl ?hy6u43 (fun _ => hHeld) ?_
     case hy6u43 => (intro w; go_simp; all_goals with_reducible rfl)
     try simp only [Act.put, List.setIfInBounds_toArray, List.set_cons_zero, List.set_cons_succ]
     refine wpAnyT_ready (rs := [1, 11]) (by kernel_rfl) (by simp) ?_
     refine AllReadyT.consS (i := 1) rfl (fun K hK => ?_) (AllReadyT.consS (i := 11) rfl (fun K hK => ?_) AllReadyT.nil)
     ·go_simp
      refine Calls.mono (by with_reducible exact (toPlan_any a b c d e _)) ?_
      rintro r W43 ⟨rfl, g1⟩
      replace M := M.call g1
      clear g1 hHeld
      try clear hin
      go_wp2_with fail
      refine hK.out _ _ ?_ (fun hHeld => ?_)
      ·exact ⟨M.cell 13 0 rfl, M.cell 13 1 rfl, M.cell 13 2 rfl, M.cell 13 3 rfl, M.cell 13 4 rfl, M.cell 12 0 rfl, M.cell 12 1 rfl, M.cell 12 2 rfl, M.cell 12 3 rfl, M.cell 12 4 rfl⟩
      clear hK K
      try simp only [Act.put, List.setIfInBounds_toArray, List.set_cons_zero, List.set_cons_succ]
      refine wpAnyT_ready (rs := [3, 11]) (by kernel_rfl) (by simp) ?_
      refine AllReadyT.consS (i := 3) rfl (fun K hK => ?_) (AllReadyT.consS (i := 11) rfl (fun K hK => ?_) AllReadyT.nil)
      ·go_simp
       refine Calls.mono (by with_reducible exact (toPool_s ts ks fs A0 A1 A2 c0 c1 c2 tn st _ hT (H.out.below M.below))) ?_
       rintro r W44 ⟨E0, E1, E2, j0, j1, j2, rfl, g1⟩
       replace M : Sep [] w W44 [rT ts.length E0 j0 ts, rK ks.length E1 j1 ks, rF fs.length E2 j2 fs, rT us.length SA0 sa0 (markT 1 us.length), rK ks2.length SA1 sa1 (markK (1 + 7 * us.length) ks2.length), rF fs2.length SA2 sa2 (markF (1 + 7 * us.length + ks2.length) fs2.length), rT ts.length C0 e0 (markT 1 ts.length), rK ks.length C1 e1 (markK (1 + 7 * ts.length) ks.length), rF fs.length C2 e2 (markF (1 + 7 * ts.length + ks.length) fs.length), .blk (gG0) 33 #[.slice SA0 us.length sa0, .slice SA1 ks2.length sa1, .slice SA2 fs2.length sa2, .int .i64 tn2, .bool st2], .blk (W22.heap.size) 33 #[.slice C0 ts.length e0, .slice C1 ks.length e1, .slice C2 fs.length e2, .int .i64 tn, .bool st], .blk (gW0) 33 #[.slice RA0 us.length ra0, .slice RA1 ks2.length ra1, .slice RA2 fs2.length ra2, .int .i64 tn2, .bool st2], rT us.length RA0 ra0 us, rK ks2.length RA1 ra1 ks2, rF fs2.length RA2 ra2 fs2, .blk (w.heap.size + 1) 28 #[.slice A0 ts.length c0, .slice A1 ks.length c1, .slice A2 fs.length c2, .int .i64 tn, .bool st], .blk (w.heap.size) 23 #[.int .i64 a, .int .i64 b, .int .i64 c, .int .i64 d, .int .i64 e]] := Sep.comp (ps := []) (rs := [rT us.length SA0 sa0 (markT 1 us.length), rK ks2.length SA1 sa1 (markK (1 + 7 * us.length) ks2.length), rF fs2.length SA2 sa2 (markF (1 + 7 * us.length + ks2.length) fs2.length), rT ts.length C0 e0 (markT 1 ts.length), rK ks.length C1 e1 (markK (1 + 7 * ts.length) ks.length), rF fs.length C2 e2 (markF (1 + 7 * ts.length + ks.length) fs.length), .blk (gG0) 33 #[.slice SA0 us.length sa0, .slice SA1 ks2.length sa1, .slice SA2 fs2.length sa2, .int .i64 tn2, .bool st2], .blk (W22.heap.size) 33 #[.slice C0 ts.length e0, .slice C1 ks.length e1, .slice C2 fs.length e2, .int .i64 tn, .bool st], .blk (gW0) 33 #[.slice RA0 us.length ra0, .slice RA1 ks2.length ra1, .slice RA2 fs2.length ra2, .int .i64 tn2, .bool st2], rT us.length RA0 ra0 us, rK ks2.length RA1 ra1 ks2, rF fs2.length RA2 ra2 fs2, .blk (w.heap.size + 1) 28 #[.slice A0 ts.length c0, .slice A1 ks.length c1, .slice A2 fs.length c2, .int .i64 tn, .bool st], .blk (w.heap.size) 23 #[.int .i64 a, .int .i64 b, .int .i64 c, .int .i64 d, .int .i64 e]]) M g1
       clear g1 hHeld
       try clear hin
       go_wp2_with fail
       refine hK.out _ _ ?_ (fun hHeld => ?_)
       ·exact ⟨M.cell 16 0 rfl, M.cell 16 1 rfl, M.cell 16 2 rfl, M.cell 16 3 rfl, M.cell 16 4 rfl, M.cell 15 0 rfl, M.cell 15 1 rfl, M.cell 15 2 rfl, M.cell 15 3 rfl, M.cell 15 4 rfl⟩
       clear hK K
       try simp only [Act.put, List.setIfInBounds_toArray, List.set_cons_zero, List.set_cons_succ]
       refine wpAnyT_ready (rs := [7, 11]) (by kernel_rfl) (by simp) ?_
       refine AllReadyT.consS (i := 7) rfl (fun K hK => ?_) (AllReadyT.consS (i := 11) rfl (fun K hK => ?_) AllReadyT.nil)
       ·have hin : InPool W44 ts ks fs E0 E1 E2 := ⟨M.rowS 0 rfl, M.rowS 1 rfl, M.rowS 2 rfl⟩
        go_simp
        refine Calls.mono (by with_reducible exact (hI.out E0 E1 E2 j0 j1 j2 _ hin)) ?_
        rintro r W45 ⟨TA0, TA1, TA2, ta0, ta1, ta2, rfl, g1⟩
        replace M : Sep [] w W45 [rT us.length TA0 ta0 us, rK ks2.length TA1 ta1 ks2, rF fs2.length TA2 ta2 fs2, rT ts.length E0 j0 ts, rK ks.length E1 j1 ks, rF fs.length E2 j2 fs, rT us.length SA0 sa0 (markT 1 us.length), rK ks2.length SA1 sa1 (markK (1 + 7 * us.length) ks2.length), rF fs2.length SA2 sa2 (markF (1 + 7 * us.length + ks2.length) fs2.length), rT ts.length C0 e0 (markT 1 ts.length), rK ks.length C1 e1 (markK (1 + 7 * ts.length) ks.length), rF fs.length C2 e2 (markF (1 + 7 * ts.length + ks.length) fs.length), .blk (gG0) 33 #[.slice SA0 us.length sa0, .slice SA1 ks2.length sa1, .slice SA2 fs2.length sa2, .int .i64 tn2, .bool st2], .blk (W22.heap.size) 33 #[.slice C0 ts.length e0, .slice C1 ks.length e1, .slice C2 fs.length e2, .int .i64 tn, .bool st], .blk (gW0) 33 #[.slice RA0 us.length ra0, .slice RA1 ks2.length ra1, .slice RA2 fs2.length ra2, .int .i64 tn2, .bool st2], rT us.length RA0 ra0 us, rK ks2.length RA1 ra1 ks2, rF fs2.length RA2 ra2 fs2, .blk (w.heap.size + 1) 28 #[.slice A0 ts.length c0, .slice A1 ks.length c1, .slice A2 fs.length c2, .int .i64 tn, .bool st], .blk (w.heap.size) 23 #[.int .i64 a, .int .i64 b, .int .i64 c, .int .i64 d, .int .i64 e]] := Sep.comp (ps := []) (rs := [rT ts.length E0 j0 ts, rK ks.length E1 j1 ks, rF fs.length E2 j2 fs, rT us.length SA0 sa0 (markT 1 us.length), rK ks2.length SA1 sa1 (markK (1 + 7 * us.length) ks2.length), rF fs2.length SA2 sa2 (markF (1 + 7 * us.length + ks2.length) fs2.length), rT ts.length C0 e0 (markT 1 ts.length), rK ks.length C1 e1 (markK (1 + 7 * ts.length) ks.length), rF fs.length C2 e2 (markF (1 + 7 * ts.length + ks.length) fs.length), .blk (gG0) 33 #[.slice SA0 us.length sa0, .slice SA1 ks2.length sa1, .slice SA2 fs2.length sa2, .int .i64 tn2, .bool st2], .blk (W22.heap.size) 33 #[.slice C0 ts.length e0, .slice C1 ks.length e1, .slice C2 fs.length e2, .int .i64 tn, .bool st], .blk (gW0) 33 #[.slice RA0 us.length ra0, .slice RA1 ks2.length ra1, .slice RA2 fs2.length ra2, .int .i64 tn2, .bool st2], rT us.length RA0 ra0 us, rK ks2.length RA1 ra1 ks2, rF fs2.length RA2 ra2 fs2, .blk (w.heap.size + 1) 28 #[.slice A0 ts.length c0, .slice A1 ks.length c1, .slice A2 fs.length c2, .int .i64 tn, .bool st], .blk (w.heap.size) 23 #[.int .i64 a, .int .i64 b, .int .i64 c, .int .i64 d, .int .i64 e]]) M g1
        clear g1 hHeld
        try clear hin
        go_wp2_with fail
        refine hK.out _ _ ?_ (fun hHeld => ?_)
        ·exact ⟨M.cell 19 0 rfl, M.cell 19 1 rfl, M.cell 19 2 rfl, M.cell 19 3 rfl, M.cell 19 4 rfl, M.cell 18 0 rfl, M.cell 18 1 rfl, M.cell 18 2 rfl, M.cell 18 3 rfl, M.cell 18 4 rfl⟩
        clear hK K
        try simp only [Act.put, List.setIfInBounds_toArray, List.set_cons_zero, List.set_cons_succ]
        refine tkY 8 ?v8u44 rfl ?hy8u44 (fun _ => hHeld) ?_
        case hy8u44 => (intro w; go_simp; all_goals with_reducible rfl)
        try simp only [Act.put, List.setIfInBounds_toArray, List.set_cons_zero, List.set_cons_succ]
        refine tkY 9 ?v9u45 rfl ?hy9u45 (fun _ => hHeld) ?_
        case hy9u45 => (intro w; go_simp; all_goals with_reducible rfl)
        try simp only [Act.put, List.setIfInBounds_toArray, List.set_cons_zero, List.set_cons_succ]
        refine tkY 10 ?v10u46 rfl ?hy10u46 (fun _ => hHeld) ?_
        case hy10u46 => (intro w; go_simp; all_goals with_reducible rfl)
        try simp only [Act.put, List.setIfInBounds_toArray, List.set_cons_zero, List.set_cons_succ]
        refine wpAnyT_callL (i := 11) rfl (by kernel_rfl) (fun K hK => ?_)
        go_simp
        replace M : Sep [] w (W45.alloc (.cells #[.slice none 0 0, .slice none 0 0, .slice none 0 0, .int .i64 0, .bool false] 33)) [.blk (W45.heap.size) 33 #[.slice none 0 0, .slice none 0 0, .slice none 0 0, .int .i64 0, .bool false], rT us.length TA0 ta0 us, rK ks2.length TA1 ta1 ks2, rF fs2.length TA2 ta2 fs2, rT ts.length E0 j0 ts, rK ks.length E1 j1 ks, rF fs.length E2 j2 fs, rT us.length SA0 sa0 (markT 1 us.length), rK ks2.length SA1 sa1 (markK (1 + 7 * us.length) ks2.length), rF fs2.length SA2 sa2 (markF (1 + 7 * us.length + ks2.length) fs2.length), rT ts.length C0 e0 (markT 1 ts.length), rK ks.length C1 e1 (markK (1 + 7 * ts.length) ks.length), rF fs.length C2 e2 (markF (1 + 7 * ts.length + ks.length) fs.length), .blk (gG0) 33 #[.slice SA0 us.length sa0, .slice SA1 ks2.length sa1, .slice SA2 fs2.length sa2, .int .i64 tn2, .bool st2], .blk (W22.heap.size) 33 #[.slice C0 ts.length e0, .slice C1 ks.length e1, .slice C2 fs.length e2, .int .i64 tn, .bool st], .blk (gW0) 33 #[.slice RA0 us.length ra0, .slice RA1 ks2.length ra1, .slice RA2 fs2.length ra2, .int .i64 tn2, .bool st2], rT us.length RA0 ra0 us, rK ks2.length RA1 ra1 ks2, rF fs2.length RA2 ra2 fs2, .blk (w.heap.size + 1) 28 #[.slice A0 ts.length c0, .slice A1 ks.length c1, .slice A2 fs.length c2, .int .i64 tn, .bool st], .blk (w.heap.size) 23 #[.int .i64 a, .int .i64 b, .int .i64 c, .int .i64 d, .int .i64 e]] := M.allocN 33 #[.slice none 0 0, .slice none 0 0, .slice none 0 0, .int .i64 0, .bool false]
        generalize W45.alloc (.cells #[.slice none 0 0, .slice none 0 0, .slice none 0 0, .int .i64 0, .bool false] 33) = W46 at M ⊢
        clear hHeld
        refine hK.out _ _ ?_ (fun hHeld => ?_)
        ·exact ⟨M.cell 20 0 rfl, M.cell 20 1 rfl, M.cell 20 2 rfl, M.cell 20 3 rfl, M.cell 20 4 rfl, M.cell 19 0 rfl, M.cell 19 1 rfl, M.cell 19 2 rfl, M.cell 19 3 rfl, M.cell 19 4 rfl⟩
        clear hK K
        try simp only [Act.put, List.setIfInBounds_toArray, List.set_cons_zero, List.set_cons_succ]
        obtain ⟨An, qH00, fH00, qH01, fH01, qH02, fH02, qH03, fH03, qH04, fH04⟩ := M.f5 0 rfl
        refine wpAnyT_oneL (i := 12) rfl (by kernel_rfl) (by kernel_rfl) (fun K hK => ?_)
        go_simp
        refine hK.out _ _ ?_
        clear hK K
        try simp only [Act.put, List.setIfInBounds_toArray, List.set_cons_zero, List.set_cons_succ]
        clear An qH00 fH00 qH01 fH01 qH02 fH02 qH03 fH03 qH04 fH04
        have N := M.gset5 0 rfl (.slice TA0 us.length ta0) (.slice TA1 ks2.length ta1) (.slice TA2 fs2.length ta2) (.int .i64 tn2) (.bool st2)
        clear M
        obtain ⟨W47, eW, M⟩ := N
        rw [eW]
        clear eW
        simp only [List.set_cons_zero] at M
        refine tkZ 13 ?v13u47 rfl ?hy13u47 ?_
        case hy13u47 => (intro w; go_simp; all_goals with_reducible rfl)
        try simp only [Act.put, List.setIfInBounds_toArray, List.set_cons_zero, List.set_cons_succ]
        refine wpAnyT_done (by kernel_rfl) ?_ _
        replace M := M.front 3 rfl
        simp only [List.eraseIdx_cons_succ, List.eraseIdx_cons_zero] at M
        replace M := M.front 3 rfl
        simp only [List.eraseIdx_cons_succ, List.eraseIdx_cons_zero] at M
        replace M := M.front 3 rfl
        simp only [List.eraseIdx_cons_succ, List.eraseIdx_cons_zero] at M
        replace M := M.front 3 rfl
        simp only [List.eraseIdx_cons_succ, List.eraseIdx_cons_zero] at M
        replace M : Sep [] w W47 [.blk (W45.heap.size) 33 #[.slice TA0 us.length ta0, .slice TA1 ks2.length ta1, .slice TA2 fs2.length ta2, .int .i64 tn2, .bool st2], rT us.length TA0 ta0 us, rK ks2.length TA1 ta1 ks2, rF fs2.length TA2 ta2 fs2, rT us.length SA0 sa0 (markT 1 us.length), rK ks2.length SA1 sa1 (markK (1 + 7 * us.length) ks2.length), rF fs2.length SA2 sa2 (markF (1 + 7 * us.length + ks2.length) fs2.length), rT ts.length C0 e0 (markT 1 ts.length), rK ks.length C1 e1 (markK (1 + 7 * ts.length) ks.length), rF fs.length C2 e2 (markF (1 + 7 * ts.length + ks.length) fs.length), .blk (gG0) 33 #[.slice SA0 us.length sa0, .slice SA1 ks2.length sa1, .slice SA2 fs2.length sa2, .int .i64 tn2, .bool st2], .blk (W22.heap.size) 33 #[.slice C0 ts.length e0, .slice C1 ks.length e1, .slice C2 fs.length e2, .int .i64 tn, .bool st], .blk (gW0) 33 #[.slice RA0 us.length ra0, .slice RA1 ks2.length ra1, .slice RA2 fs2.length ra2, .int .i64 tn2, .bool st2], rT us.length RA0 ra0 us, rK ks2.length RA1 ra1 ks2, rF fs2.length RA2 ra2 fs2, .blk (w.heap.size + 1) 28 #[.slice A0 ts.length c0, .slice A1 ks.length c1, .slice A2 fs.length c2, .int .i64 tn, .bool st], .blk (w.heap.size) 23 #[.int .i64 a, .int .i64 b, .int .i64 c, .int .i64 d, .int .i64 e]] := M.sub ((List.Sublist.slnil) |>.cons_cons _ |>.cons_cons _ |>.cons_cons _ |>.cons_cons _ |>.cons_cons _ |>.cons_cons _ |>.cons_cons _ |>.cons_cons _ |>.cons_cons _ |>.cons_cons _ |>.cons_cons _ |>.cons_cons _ |>.cons_cons _ |>.cons_cons _ |>.cons _ |>.cons _ |>.cons _ |>.cons_cons _ |>.cons_cons _ |>.cons_cons _ |>.cons_cons _)
        go_wp2_with fail
        go_meet
        exact ⟨_, _, _, _, _, _, _, rfl, rfl, M⟩
       ·go_simp
        replace M : Sep [] w (W44.alloc (.cells #[.slice none 0 0, .slice none 0 0, .slice none 0 0, .int .i64 0, .bool false] 33)) [.blk (W44.heap.size) 33 #[.slice none 0 0, .slice none 0 0, .slice none 0 0, .int .i64 0, .bool false], rT ts.length E0 j0 ts, rK ks.length E1 j1 ks, rF fs.length E2 j2 fs, rT us.length SA0 sa0 (markT 1 us.length), rK ks2.length SA1 sa1 (markK (1 + 7 * us.length) ks2.length), rF fs2.length SA2 sa2 (markF (1 + 7 * us.length + ks2.length) fs2.length), rT ts.length C0 e0 (markT 1 ts.length), rK ks.length C1 e1 (markK (1 + 7 * ts.length) ks.length), rF fs.length C2 e2 (markF (1 + 7 * ts.length + ks.length) fs.length), .blk (gG0) 33 #[.slice SA0 us.length sa0, .slice SA1 ks2.length sa1, .slice SA2 fs2.length sa2, .int .i64 tn2, .bool st2], .blk (W22.heap.size) 33 #[.slice C0 ts.length e0, .slice C1 ks.length e1, .slice C2 fs.length e2, .int .i64 tn, .bool st], .blk (gW0) 33 #[.slice RA0 us.length ra0, .slice RA1 ks2.length ra1, .slice RA2 fs2.length ra2, .int .i64 tn2, .bool st2], rT us.length RA0 ra0 us, rK ks2.length RA1 ra1 ks2, rF fs2.length RA2 ra2 fs2, .blk (w.heap.size + 1) 28 #[.slice A0 ts.length c0, .slice A1 ks.length c1, .slice A2 fs.length c2, .int .i64 tn, .bool st], .blk (w.heap.size) 23 #[.int .i64 a, .int .i64 b, .int .i64 c, .int .i64 d, .int .i64 e]] := M.allocN 33 #[.slice none 0 0, .slice none 0 0, .slice none 0 0, .int .i64 0, .bool false]
        generalize W44.alloc (.cells #[.slice none 0 0, .slice none 0 0, .slice none 0 0, .int .i64 0, .bool false] 33) = W48 at M ⊢
        clear hHeld
        refine hK.out _ _ ?_ (fun hHeld => ?_)
        ·exact ⟨M.cell 17 0 rfl, M.cell 17 1 rfl, M.cell 17 2 rfl, M.cell 17 3 rfl, M.cell 17 4 rfl, M.cell 16 0 rfl, M.cell 16 1 rfl, M.cell 16 2 rfl, M.cell 16 3 rfl, M.cell 16 4 rfl⟩
        clear hK K
        try simp only [Act.put, List.setIfInBounds_toArray, List.set_cons_zero, List.set_cons_succ]
        refine wpAnyT_callL (i := 7) rfl (by kernel_rfl) (fun K hK => ?_)
        have hin : InPool W48 ts ks fs E0 E1 E2 := ⟨M.rowS 1 rfl, M.rowS 2 rfl, M.rowS 3 rfl⟩
        go_simp
        refine Calls.mono (by with_reducible exact (hI.out E0 E1 E2 j0 j1 j2 _ hin)) ?_
        rintro r W49 ⟨TA0, TA1, TA2, ta0, ta1, ta2, rfl, g1⟩
        replace M : Sep [] w W49 [rT us.length TA0 ta0 us, rK ks2.length TA1 ta1 ks2, rF fs2.length TA2 ta2 fs2, .blk (W44.heap.size) 33 #[.slice none 0 0, .slice none 0 0, .slice none 0 0, .int .i64 0, .bool false], rT ts.length E0 j0 ts, rK ks.length E1 j1 ks, rF fs.length E2 j2 fs, rT us.length SA0 sa0 (markT 1 us.length), rK ks2.length SA1 sa1 (markK (1 + 7 * us.length) ks2.length), rF fs2.length SA2 sa2 (markF (1 + 7 * us.length + ks2.length) fs2.length), rT ts.length C0 e0 (markT 1 ts.length), rK ks.length C1 e1 (markK (1 + 7 * ts.length) ks.length), rF fs.length C2 e2 (markF (1 + 7 * ts.length + ks.length) fs.length), .blk (gG0) 33 #[.slice SA0 us.length sa0, .slice SA1 ks2.length sa1, .slice SA2 fs2.length sa2, .int .i64 tn2, .bool st2], .blk (W22.heap.size) 33 #[.slice C0 ts.length e0, .slice C1 ks.length e1, .slice C2 fs.length e2, .int .i64 tn, .bool st], .blk (gW0) 33 #[.slice RA0 us.length ra0, .slice RA1 ks2.length ra1, .slice RA2 fs2.length ra2, .int .i64 tn2, .bool st2], rT us.length RA0 ra0 us, rK ks2.length RA1 ra1 ks2, rF fs2.length RA2 ra2 fs2, .blk (w.heap.size + 1) 28 #[.slice A0 ts.length c0, .slice A1 ks.length c1, .slice A2 fs.length c2, .int .i64 tn, .bool st], .blk (w.heap.size) 23 #[.int .i64 a, .int .i64 b, .int .i64 c, .int .i64 d, .int .i64 e]] := Sep.comp (ps := []) (rs := [.blk (W44.heap.size) 33 #[.slice none 0 0, .slice none 0 0, .slice none 0 0, .int .i64 0, .bool false], rT ts.length E0 j0 ts, rK ks.length E1 j1 ks, rF fs.length E2 j2 fs, rT us.length SA0 sa0 (markT 1 us.length), rK ks2.length SA1 sa1 (markK (1 + 7 * us.length) ks2.length), rF fs2.length SA2 sa2 (markF (1 + 7 * us.length + ks2.length) fs2.length), rT ts.length C0 e0 (markT 1 ts.length), rK ks.length C1 e1 (markK (1 + 7 * ts.length) ks.length), rF fs.length C2 e2 (markF (1 + 7 * ts.length + ks.length) fs.length), .blk (gG0) 33 #[.slice SA0 us.length sa0, .slice SA1 ks2.length sa1, .slice SA2 fs2.length sa2, .int .i64 tn2, .bool st2], .blk (W22.heap.size) 33 #[.slice C0 ts.length e0, .slice C1 ks.length e1, .slice C2 fs.length e2, .int .i64 tn, .bool st], .blk (gW0) 33 #[.slice RA0 us.length ra0, .slice RA1 ks2.length ra1, .slice RA2 fs2.length ra2, .int .i64 tn2, .bool st2], rT us.length RA0 ra0 us, rK ks2.length RA1 ra1 ks2, rF fs2.length RA2 ra2 fs2, .blk (w.heap.size + 1) 28 #[.slice A0 ts.length c0, .slice A1 ks.length c1, .slice A2 fs.length c2, .int .i64 tn, .bool st], .blk (w.heap.size) 23 #[.int .i64 a, .int .i64 b, .int .i64 c, .int .i64 d, .int .i64 e]]) M g1
        clear g1 hHeld
        try clear hin
        go_wp2_with fail
        refine hK.out _ _ ?_ (fun hHeld => ?_)
        ·exact ⟨M.cell 20 0 rfl, M.cell 20 1 rfl, M.cell 20 2 rfl, M.cell 20 3 rfl, M.cell 20 4 rfl, M.cell 19 0 rfl, M.cell 19 1 rfl, M.cell 19 2 rfl, M.cell 19 3 rfl, M.cell 19 4 rfl⟩
        clear hK K
        try simp only [Act.put, List.setIfInBounds_toArray, List.set_cons_zero, List.set_cons_succ]
        refine tkY 8 ?v8u48 rfl ?hy8u48 (fun _ => hHeld) ?_
        case hy8u48 => (intro w; go_simp; all_goals with_reducible rfl)
        try simp only [Act.put, List.setIfInBounds_toArray, List.set_cons_zero, List.set_cons_succ]
        refine tkY 9 ?v9u49 rfl ?hy9u49 (fun _ => hHeld) ?_
        case hy9u49 => (intro w; go_simp; all_goals with_reducible rfl)
        try simp only [Act.put, List.setIfInBounds_toArray, List.set_cons_zero, List.set_cons_succ]
        refine tkY 10 ?v10u50 rfl ?hy10u50 (fun _ => hHeld) ?_
        case hy10u50 => (intro w; go_simp; all_goals with_reducible rfl)
        try simp only [Act.put, List.setIfInBounds_toArray, List.set_cons_zero, List.set_cons_succ]
        obtain ⟨An, qH00, fH00, qH01, fH01, qH02, fH02, qH03, fH03, qH04, fH04⟩ := M.f5 3 rfl
        refine wpAnyT_oneL (i := 12) rfl (by kernel_rfl) (by kernel_rfl) (fun K hK => ?_)
        go_simp
        refine hK.out _ _ ?_
        clear hK K
        try simp only [Act.put, List.setIfInBounds_toArray, List.set_cons_zero, List.set_cons_succ]
        clear An qH00 fH00 qH01 fH01 qH02 fH02 qH03 fH03 qH04 fH04
        have N := M.gset5 3 rfl (.slice TA0 us.length ta0) (.slice TA1 ks2.length ta1) (.slice TA2 fs2.length ta2) (.int .i64 tn2) (.bool st2)
        clear M
        obtain ⟨W50, eW, M⟩ := N
        rw [eW]
        clear eW
        simp only [List.set_cons_zero, List.set_cons_succ] at M
        refine tkZ 13 ?v13u51 rfl ?hy13u51 ?_
        case hy13u51 => (intro w; go_simp; all_goals with_reducible rfl)
        try simp only [Act.put, List.setIfInBounds_toArray, List.set_cons_zero, List.set_cons_succ]
        refine wpAnyT_done (by kernel_rfl) ?_ _
        replace M := M.front 2 rfl
        simp only [List.eraseIdx_cons_succ, List.eraseIdx_cons_zero] at M
        replace M := M.front 2 rfl
        simp only [List.eraseIdx_cons_succ, List.eraseIdx_cons_zero] at M
        replace M := M.front 2 rfl
        simp only [List.eraseIdx_cons_succ, List.eraseIdx_cons_zero] at M
        replace M := M.front 3 rfl
        simp only [List.eraseIdx_cons_succ, List.eraseIdx_cons_zero] at M
        replace M : Sep [] w W50 [.blk (W44.heap.size) 33 #[.slice TA0 us.length ta0, .slice TA1 ks2.length ta1, .slice TA2 fs2.length ta2, .int .i64 tn2, .bool st2], rT us.length TA0 ta0 us, rK ks2.length TA1 ta1 ks2, rF fs2.length TA2 ta2 fs2, rT us.length SA0 sa0 (markT 1 us.length), rK ks2.length SA1 sa1 (markK (1 + 7 * us.length) ks2.length), rF fs2.length SA2 sa2 (markF (1 + 7 * us.length + ks2.length) fs2.length), rT ts.length C0 e0 (markT 1 ts.length), rK ks.length C1 e1 (markK (1 + 7 * ts.length) ks.length), rF fs.length C2 e2 (markF (1 + 7 * ts.length + ks.length) fs.length), .blk (gG0) 33 #[.slice SA0 us.length sa0, .slice SA1 ks2.length sa1, .slice SA2 fs2.length sa2, .int .i64 tn2, .bool st2], .blk (W22.heap.size) 33 #[.slice C0 ts.length e0, .slice C1 ks.length e1, .slice C2 fs.length e2, .int .i64 tn, .bool st], .blk (gW0) 33 #[.slice RA0 us.length ra0, .slice RA1 ks2.length ra1, .slice RA2 fs2.length ra2, .int .i64 tn2, .bool st2], rT us.length RA0 ra0 us, rK ks2.length RA1 ra1 ks2, rF fs2.length RA2 ra2 fs2, .blk (w.heap.size + 1) 28 #[.slice A0 ts.length c0, .slice A1 ks.length c1, .slice A2 fs.length c2, .int .i64 tn, .bool st], .blk (w.heap.size) 23 #[.int .i64 a, .int .i64 b, .int .i64 c, .int .i64 d, .int .i64 e]] := M.sub ((List.Sublist.slnil) |>.cons_cons _ |>.cons_cons _ |>.cons_cons _ |>.cons_cons _ |>.cons_cons _ |>.cons_cons _ |>.cons_cons _ |>.cons_cons _ |>.cons_cons _ |>.cons_cons _ |>.cons_cons _ |>.cons_cons _ |>.cons_cons _ |>.cons_cons _ |>.cons _ |>.cons _ |>.cons _ |>.cons_cons _ |>.cons_cons _ |>.cons_cons _ |>.cons_cons _)
        go_wp2_with fail
        go_meet
        exact ⟨_, _, _, _, _, _, _, rfl, rfl, M⟩
      ·go_simp
       replace M : Sep [] w (W43.alloc (.cells #[.slice none 0 0, .slice none 0 0, .slice none 0 0, .int .i64 0, .bool false] 33)) [.blk (W43.heap.size) 33 #[.slice none 0 0, .slice none 0 0, .slice none 0 0, .int .i64 0, .bool false], rT us.length SA0 sa0 (markT 1 us.length), rK ks2.length SA1 sa1 (markK (1 + 7 * us.length) ks2.length), rF fs2.length SA2 sa2 (markF (1 + 7 * us.length + ks2.length) fs2.length), rT ts.length C0 e0 (markT 1 ts.length), rK ks.length C1 e1 (markK (1 + 7 * ts.length) ks.length), rF fs.length C2 e2 (markF (1 + 7 * ts.length + ks.length) fs.length), .blk (gG0) 33 #[.slice SA0 us.length sa0, .slice SA1 ks2.length sa1, .slice SA2 fs2.length sa2, .int .i64 tn2, .bool st2], .blk (W22.heap.size) 33 #[.slice C0 ts.length e0, .slice C1 ks.length e1, .slice C2 fs.length e2, .int .i64 tn, .bool st], .blk (gW0) 33 #[.slice RA0 us.length ra0, .slice RA1 ks2.length ra1, .slice RA2 fs2.length ra2, .int .i64 tn2, .bool st2], rT us.length RA0 ra0 us, rK ks2.length RA1 ra1 ks2, rF fs2.length RA2 ra2 fs2, .blk (w.heap.size + 1) 28 #[.slice A0 ts.length c0, .slice A1 ks.length c1, .slice A2 fs.length c2, .int .i64 tn, .bool st], .blk (w.heap.size) 23 #[.int .i64 a, .int .i64 b, .int .i64 c, .int .i64 d, .int .i64 e]] := M.allocN 33 #[.slice none 0 0, .slice none 0 0, .slice none 0 0, .int .i64 0, .bool false]
       generalize W43.alloc (.cells #[.slice none 0 0, .slice none 0 0, .slice none 0 0, .int .i64 0, .bool false] 33) = W51 at M ⊢
       clear hHeld
       refine hK.out _ _ ?_ (fun hHeld => ?_)
       ·exact ⟨M.cell 14 0 rfl, M.cell 14 1 rfl, M.cell 14 2 rfl, M.cell 14 3 rfl, M.cell 14 4 rfl, M.cell 13 0 rfl, M.cell 13 1 rfl, M.cell 13 2 rfl, M.cell 13 3 rfl, M.cell 13 4 rfl⟩
       clear hK K
       try simp only [Act.put, List.setIfInBounds_toArray, List.set_cons_zero, List.set_cons_succ]
       refine wpAnyT_callL (i := 3) rfl (by kernel_rfl) (fun K hK => ?_)
       go_simp
       refine Calls.mono (by with_reducible exact (toPool_s ts ks fs A0 A1 A2 c0 c1 c2 tn st _ hT (H.out.below M.below))) ?_
       rintro r W52 ⟨E0, E1, E2, j0, j1, j2, rfl, g1⟩
       replace M : Sep [] w W52 [rT ts.length E0 j0 ts, rK ks.length E1 j1 ks, rF fs.length E2 j2 fs, .blk (W43.heap.size) 33 #[.slice none 0 0, .slice none 0 0, .slice none 0 0, .int .i64 0, .bool false], rT us.length SA0 sa0 (markT 1 us.length), rK ks2.length SA1 sa1 (markK (1 + 7 * us.length) ks2.length), rF fs2.length SA2 sa2 (markF (1 + 7 * us.length + ks2.length) fs2.length), rT ts.length C0 e0 (markT 1 ts.length), rK ks.length C1 e1 (markK (1 + 7 * ts.length) ks.length), rF fs.length C2 e2 (markF (1 + 7 * ts.length + ks.length) fs.length), .blk (gG0) 33 #[.slice SA0 us.length sa0, .slice SA1 ks2.length sa1, .slice SA2 fs2.length sa2, .int .i64 tn2, .bool st2], .blk (W22.heap.size) 33 #[.slice C0 ts.length e0, .slice C1 ks.length e1, .slice C2 fs.length e2, .int .i64 tn, .bool st], .blk (gW0) 33 #[.slice RA0 us.length ra0, .slice RA1 ks2.length ra1, .slice RA2 fs2.length ra2, .int .i64 tn2, .bool st2], rT us.length RA0 ra0 us, rK ks2.length RA1 ra1 ks2, rF fs2.length RA2 ra2 fs2, .blk (w.heap.size + 1) 28 #[.slice A0 ts.length c0, .slice A1 ks.length c1, .slice A2 fs.length c2, .int .i64 tn, .bool st], .blk (w.heap.size) 23 #[.int .i64 a, .int .i64 b, .int .i64 c, .int .i64 d, .int .i64 e]] := Sep.comp (ps := []) (rs := [.blk (W43.heap.size) 33 #[.slice none 0 0, .slice none 0 0, .slice none 0 0, .int .i64 0, .bool false], rT us.length SA0 sa0 (markT 1 us.length), rK ks2.length SA1 sa1 (markK (1 + 7 * us.length) ks2.length), rF fs2.length SA2 sa2 (markF (1 + 7 * us.length + ks2.length) fs2.length), rT ts.length C0 e0 (markT 1 ts.length), rK ks.length C1 e1 (markK (1 + 7 * ts.length) ks.length), rF fs.length C2 e2 (markF (1 + 7 * ts.length + ks.length) fs.length), .blk (gG0) 33 #[.slice SA0 us.length sa0, .slice SA1 ks2.length sa1, .slice SA2 fs2.length sa2, .int .i64 tn2, .bool st2], .blk (W22.heap.size) 33 #[.slice C0 ts.length e0, .slice C1 ks.length e1, .slice C2 fs.length e2, .int .i64 tn, .bool st], .blk (gW0) 33 #[.slice RA0 us.length ra0, .slice RA1 ks2.length ra1, .slice RA2 fs2.length ra2, .int .i64 tn2, .bool st2], rT us.length RA0 ra0 us, rK ks2.length RA1 ra1 ks2, rF fs2.length RA2 ra2 fs2, .blk (w.heap.size + 1) 28 #[.slice A0 ts.length c0, .slice A1 ks.length c1, .slice A2 fs.length c2, .int .i64 tn, .bool st], .blk (w.heap.size) 23 #[.int .i64 a, .int .i64 b, .int .i64 c, .int .i64 d, .int .i64 e]]) M g1
       clear g1 hHeld
       try clear hin
       go_wp2_with fail
       refine hK.out _ _ ?_ (fun hHeld => ?_)
       ·exact ⟨M.cell 17 0 rfl, M.cell 17 1 rfl, M.cell 17 2 rfl, M.cell 17 3 rfl, M.cell 17 4 rfl, M.cell 16 0 rfl, M.cell 16 1 rfl, M.cell 16 2 rfl, M.cell 16 3 rfl, M.cell 16 4 rfl⟩
       clear hK K
       try simp only [Act.put, List.setIfInBounds_toArray, List.set_cons_zero, List.set_cons_succ]
       refine wpAnyT_callL (i := 7) rfl (by kernel_rfl) (fun K hK => ?_)
       have hin : InPool W52 ts ks fs E0 E1 E2 := ⟨M.rowS 0 rfl, M.rowS 1 rfl, M.rowS 2 rfl⟩
       go_simp
       refine Calls.mono (by with_reducible exact (hI.out E0 E1 E2 j0 j1 j2 _ hin)) ?_
       rintro r W53 ⟨TA0, TA1, TA2, ta0, ta1, ta2, rfl, g1⟩
       replace M : Sep [] w W53 [rT us.length TA0 ta0 us, rK ks2.length TA1 ta1 ks2, rF fs2.length TA2 ta2 fs2, rT ts.length E0 j0 ts, rK ks.length E1 j1 ks, rF fs.length E2 j2 fs, .blk (W43.heap.size) 33 #[.slice none 0 0, .slice none 0 0, .slice none 0 0, .int .i64 0, .bool false], rT us.length SA0 sa0 (markT 1 us.length), rK ks2.length SA1 sa1 (markK (1 + 7 * us.length) ks2.length), rF fs2.length SA2 sa2 (markF (1 + 7 * us.length + ks2.length) fs2.length), rT ts.length C0 e0 (markT 1 ts.length), rK ks.length C1 e1 (markK (1 + 7 * ts.length) ks.length), rF fs.length C2 e2 (markF (1 + 7 * ts.length + ks.length) fs.length), .blk (gG0) 33 #[.slice SA0 us.length sa0, .slice SA1 ks2.length sa1, .slice SA2 fs2.length sa2, .int .i64 tn2, .bool st2], .blk (W22.heap.size) 33 #[.slice C0 ts.length e0, .slice C1 ks.length e1, .slice C2 fs.length e2, .int .i64 tn, .bool st], .blk (gW0) 33 #[.slice RA0 us.length ra0, .slice RA1 ks2.length ra1, .slice RA2 fs2.length ra2, .int .i64 tn2, .bool st2], rT us.length RA0 ra0 us, rK ks2.length RA1 ra1 ks2, rF fs2.length RA2 ra2 fs2, .blk (w.heap.size + 1) 28 #[.slice A0 ts.length c0, .slice A1 ks.length c1, .slice A2 fs.length c2, .int .i64 tn, .bool st], .blk (w.heap.size) 23 #[.int .i64 a, .int .i64 b, .int .i64 c, .int .i64 d, .int .i64 e]] := Sep.comp (ps := []) (rs := [rT ts.length E0 j0 ts, rK ks.length E1 j1 ks, rF fs.length E2 j2 fs, .blk (W43.heap.size) 33 #[.slice none 0 0, .slice none 0 0, .slice none 0 0, .int .i64 0, .bool false], rT us.length SA0 sa0 (markT 1 us.length), rK ks2.length SA1 sa1 (markK (1 + 7 * us.length) ks2.length), rF fs2.length SA2 sa2 (markF (1 + 7 * us.length + ks2.length) fs2.length), rT ts.length C0 e0 (markT 1 ts.length), rK ks.length C1 e1 (markK (1 + 7 * ts.length) ks.length), rF fs.length C2 e2 (markF (1 + 7 * ts.length + ks.length) fs.length), .blk (gG0) 33 #[.slice SA0 us.length sa0, .slice SA1 ks2.length sa1, .slice SA2 fs2.length sa2, .int .i64 tn2, .bool st2], .blk (W22.heap.size) 33 #[.slice C0 ts.length e0, .slice C1 ks.length e1, .slice C2 fs.length e2, .int .i64 tn, .bool st], .blk (gW0) 33 #[.slice RA0 us.length ra0, .slice RA1 ks2.length ra1, .slice RA2 fs2.length ra2, .int .i64 tn2, .bool st2], rT us.length RA0 ra0 us, rK ks2.length RA1 ra1 ks2, rF fs2.length RA2 ra2 fs2, .blk (w.heap.size + 1) 28 #[.slice A0 ts.length c0, .slice A1 ks.length c1, .slice A2 fs.length c2, .int .i64 tn, .bool st], .blk (w.heap.size) 23 #[.int .i64 a, .int .i64 b, .int .i64 c, .int .i64 d, .int .i64 e]]) M g1
       clear g1 hHeld
       try clear hin
       go_wp2_with fail
       refine hK.out _ _ ?_ (fun hHeld => ?_)
       ·exact ⟨M.cell 20 0 rfl, M.cell 20 1 rfl, M.cell 20 2 rfl, M.cell 20 3 rfl, M.cell 20 4 rfl, M.cell 19 0 rfl, M.cell 19 1 rfl, M.cell 19 2 rfl, M.cell 19 3 rfl, M.cell 19 4 rfl⟩
       clear hK K
       try simp only [Act.put, List.setIfInBounds_toArray, List.set_cons_zero, List.set_cons_succ]
       refine tkY 8 ?v8u52 rfl ?hy8u52 (fun _ => hHeld) ?_
       case hy8u52 => (intro w; go_simp; all_goals with_reducible rfl)
       try simp only [Act.put, List.setIfInBounds_toArray, List.set_cons_zero, List.set_cons_succ]
       refine tkY 9 ?v9u53 rfl ?hy9u53 (fun _ => hHeld) ?_
       case hy9u53 => (intro w; go_simp; all_goals with_reducible rfl)
       try simp only [Act.put, List.setIfInBounds_toArray, List.set_cons_zero, List.set_cons_succ]
       refine tkY 10 ?v10u54 rfl ?hy10u54 (fun _ => hHeld) ?_
       case hy10u54 => (intro w; go_simp; all_goals with_reducible rfl)
       try simp only [Act.put, List.setIfInBounds_toArray, List.set_cons_zero, List.set_cons_succ]
       obtain ⟨An, qH00, fH00, qH01, fH01, qH02, fH02, qH03, fH03, qH04, fH04⟩ := M.f5 6 rfl
       refine wpAnyT_oneL (i := 12) rfl (by kernel_rfl) (by kernel_rfl) (fun K hK => ?_)
       go_simp
       refine hK.out _ _ ?_
       clear hK K
       try simp only [Act.put, List.setIfInBounds_toArray, List.set_cons_zero, List.set_cons_succ]
       clear An qH00 fH00 qH01 fH01 qH02 fH02 qH03 fH03 qH04 fH04
       have N := M.gset5 6 rfl (.slice TA0 us.length ta0) (.slice TA1 ks2.length ta1) (.slice TA2 fs2.length ta2) (.int .i64 tn2) (.bool st2)
       clear M
       obtain ⟨W54, eW, M⟩ := N
       rw [eW]
       clear eW
       simp only [List.set_cons_zero, List.set_cons_succ] at M
       refine tkZ 13 ?v13u55 rfl ?hy13u55 ?_
       case hy13u55 => (intro w; go_simp; all_goals with_reducible rfl)
       try simp only [Act.put, List.setIfInBounds_toArray, List.set_cons_zero, List.set_cons_succ]
       refine wpAnyT_done (by kernel_rfl) ?_ _
       replace M := M.front 2 rfl
       simp only [List.eraseIdx_cons_succ, List.eraseIdx_cons_zero] at M
       replace M := M.front 2 rfl
       simp only [List.eraseIdx_cons_succ, List.eraseIdx_cons_zero] at M
       replace M := M.front 2 rfl
       simp only [List.eraseIdx_cons_succ, List.eraseIdx_cons_zero] at M
       replace M := M.front 6 rfl
       simp only [List.eraseIdx_cons_succ, List.eraseIdx_cons_zero] at M
       replace M : Sep [] w W54 [.blk (W43.heap.size) 33 #[.slice TA0 us.length ta0, .slice TA1 ks2.length ta1, .slice TA2 fs2.length ta2, .int .i64 tn2, .bool st2], rT us.length TA0 ta0 us, rK ks2.length TA1 ta1 ks2, rF fs2.length TA2 ta2 fs2, rT us.length SA0 sa0 (markT 1 us.length), rK ks2.length SA1 sa1 (markK (1 + 7 * us.length) ks2.length), rF fs2.length SA2 sa2 (markF (1 + 7 * us.length + ks2.length) fs2.length), rT ts.length C0 e0 (markT 1 ts.length), rK ks.length C1 e1 (markK (1 + 7 * ts.length) ks.length), rF fs.length C2 e2 (markF (1 + 7 * ts.length + ks.length) fs.length), .blk (gG0) 33 #[.slice SA0 us.length sa0, .slice SA1 ks2.length sa1, .slice SA2 fs2.length sa2, .int .i64 tn2, .bool st2], .blk (W22.heap.size) 33 #[.slice C0 ts.length e0, .slice C1 ks.length e1, .slice C2 fs.length e2, .int .i64 tn, .bool st], .blk (gW0) 33 #[.slice RA0 us.length ra0, .slice RA1 ks2.length ra1, .slice RA2 fs2.length ra2, .int .i64 tn2, .bool st2], rT us.length RA0 ra0 us, rK ks2.length RA1 ra1 ks2, rF fs2.length RA2 ra2 fs2, .blk (w.heap.size + 1) 28 #[.slice A0 ts.length c0, .slice A1 ks.length c1, .slice A2 fs.length c2, .int .i64 tn, .bool st], .blk (w.heap.size) 23 #[.int .i64 a, .int .i64 b, .int .i64 c, .int .i64 d, .int .i64 e]] := M.sub ((List.Sublist.slnil) |>.cons_cons _ |>.cons_cons _ |>.cons_cons _ |>.cons_cons _ |>.cons_cons _ |>.cons_cons _ |>.cons_cons _ |>.cons_cons _ |>.cons_cons _ |>.cons_cons _ |>.cons_cons _ |>.cons_cons _ |>.cons_cons _ |>.cons_cons _ |>.cons _ |>.cons _ |>.cons _ |>.cons_cons _ |>.cons_cons _ |>.cons_cons _ |>.cons_cons _)
       go_wp2_with fail
       go_meet
       exact ⟨_, _, _, _, _, _, _, rfl, rfl, M⟩
     ·go_simp
      replace M : Sep [] w (W42.alloc (.cells #[.slice none 0 0, .slice none 0 0, .slice none 0 0, .int .i64 0, .bool false] 33)) [.blk (W42.heap.size) 33 #[.slice none 0 0, .slice none 0 0, .slice none 0 0, .int .i64 0, .bool false], rT us.length SA0 sa0 (markT 1 us.length), rK ks2.length SA1 sa1 (markK (1 + 7 * us.length) ks2.length), rF fs2.length SA2 sa2 (markF (1 + 7 * us.length + ks2.length) fs2.length), rT ts.length C0 e0 (markT 1 ts.length), rK ks.length C1 e1 (markK (1 + 7 * ts.length) ks.length), rF fs.length C2 e2 (markF (1 + 7 * ts.length + ks.length) fs.length), .blk (gG0) 33 #[.slice SA0 us.length sa0, .slice SA1 ks2.length sa1, .slice SA2 fs2.length sa2, .int .i64 tn2, .bool st2], .blk (W22.heap.size) 33 #[.slice C0 ts.length e0, .slice C1 ks.length e1, .slice C2 fs.length e2, .int .i64 tn, .bool st], .blk (gW0) 33 #[.slice RA0 us.length ra0, .slice RA1 ks2.length ra1, .slice RA2 fs2.length ra2, .int .i64 tn2, .bool st2], rT us.length RA0 ra0 us, rK ks2.length RA1 ra1 ks2, rF fs2.length RA2 ra2 fs2, .blk (w.heap.size + 1) 28 #[.slice A0 ts.length c0, .slice A1 ks.length c1, .slice A2 fs.length c2, .int .i64 tn, .bool st], .blk (w.heap.size) 23 #[.int .i64 a, .int .i64 b, .int .i64 c, .int .i64 d, .int .i64 e]] := M.allocN 33 #[.slice none 0 0, .slice none 0 0, .slice none 0 0, .int .i64 0, .bool false]
      generalize W42.alloc (.cells #[.slice none 0 0, .slice none 0 0, .slice none 0 0, .int .i64 0, .bool false] 33) = W55 at M ⊢
      clear hHeld
      refine hK.out _ _ ?_ (fun hHeld => ?_)
      ·exact ⟨M.cell 14 0 rfl, M.cell 14 1 rfl, M.cell 14 2 rfl, M.cell 14 3 rfl, M.cell 14 4 rfl, M.cell 13 0 rfl, M.cell 13 1 rfl, M.cell 13 2 rfl, M.cell 13 3 rfl, M.cell 13 4 rfl⟩
      clear hK K
      try simp only [Act.put, List.setIfInBounds_toArray, List.set_cons_zero, List.set_cons_succ]
      refine wpAnyT_callL (i := 1) rfl (by kernel_rfl) (fun K hK => ?_)
      go_simp
      refine Calls.mono (by with_reducible exact (toPlan_any a b c d e _)) ?_
      rintro r W56 ⟨rfl, g1⟩
      replace M := M.call g1
      clear g1 hHeld
      try clear hin
      go_wp2_with fail
      refine hK.out _ _ ?_ (fun hHeld => ?_)
      ·exact ⟨M.cell 14 0 rfl, M.cell 14 1 rfl, M.cell 14 2 rfl, M.cell 14 3 rfl, M.cell 14 4 rfl, M.cell 13 0 rfl, M.cell 13 1 rfl, M.cell 13 2 rfl, M.cell 13 3 rfl, M.cell 13 4 rfl⟩
      clear hK K
      try simp only [Act.put, List.setIfInBounds_toArray, List.set_cons_zero, List.set_cons_succ]
      refine wpAnyT_callL (i := 3) rfl (by kernel_rfl) (fun K hK => ?_)
      go_simp
      refine Calls.mono (by with_reducible exact (toPool_s ts ks fs A0 A1 A2 c0 c1 c2 tn st _ hT (H.out.below M.below))) ?_
      rintro r W57 ⟨E0, E1, E2, j0, j1, j2, rfl, g1⟩
      replace M : Sep [] w W57 [rT ts.length E0 j0 ts, rK ks.length E1 j1 ks, rF fs.length E2 j2 fs, .blk (W42.heap.size) 33 #[.slice none 0 0, .slice none 0 0, .slice none 0 0, .int .i64 0, .bool false], rT us.length SA0 sa0 (markT 1 us.length), rK ks2.length SA1 sa1 (markK (1 + 7 * us.length) ks2.length), rF fs2.length SA2 sa2 (markF (1 + 7 * us.length + ks2.length) fs2.length), rT ts.length C0 e0 (markT 1 ts.length), rK ks.length C1 e1 (markK (1 + 7 * ts.length) ks.length), rF fs.length C2 e2 (markF (1 + 7 * ts.length + ks.length) fs.length), .blk (gG0) 33 #[.slice SA0 us.length sa0, .slice SA1 ks2.length sa1, .slice SA2 fs2.length sa2, .int .i64 tn2, .bool st2], .blk (W22.heap.size) 33 #[.slice C0 ts.length e0, .slice C1 ks.length e1, .slice C2 fs.length e2, .int .i64 tn, .bool st], .blk (gW0) 33 #[.slice RA0 us.length ra0, .slice RA1 ks2.length ra1, .slice RA2 fs2.length ra2, .int .i64 tn2, .bool st2], rT us.length RA0 ra0 us, rK ks2.length RA1 ra1 ks2, rF fs2.length RA2 ra2 fs2, .blk (w.heap.size + 1) 28 #[.slice A0 ts.length c0, .slice A1 ks.length c1, .slice A2 fs.length c2, .int .i64 tn, .bool st], .blk (w.heap.size) 23 #[.int .i64 a, .int .i64 b, .int .i64 c, .int .i64 d, .int .i64 e]] := Sep.comp (ps := []) (rs := [.blk (W42.heap.size) 33 #[.slice none 0 0, .slice none 0 0, .slice none 0 0, .int .i64 0, .bool false], rT us.length SA0 sa0 (markT 1 us.length), rK ks2.length SA1 sa1 (markK (1 + 7 * us.length) ks2.length), rF fs2.length SA2 sa2 (markF (1 + 7 * us.length + ks2.length) fs2.length), rT ts.length C0 e0 (markT 1 ts.length), rK ks.length C1 e1 (markK (1 + 7 * ts.length) ks.length), rF fs.length C2 e2 (markF (1 + 7 * ts.length + ks.length) fs.length), .blk (gG0) 33 #[.slice SA0 us.length sa0, .slice SA1 ks2.length sa1, .slice SA2 fs2.length sa2, .int .i64 tn2, .bool st2], .blk (W22.heap.size) 33 #[.slice C0 ts.length e0, .slice C1 ks.length e1, .slice C2 fs.length e2, .int .i64 tn, .bool st], .blk (gW0) 33 #[.slice RA0 us.length ra0, .slice RA1 ks2.length ra1, .slice RA2 fs2.length ra2, .int .i64 tn2, .bool st2], rT us.length RA0 ra0 us, rK ks2.length RA1 ra1 ks2, rF fs2.length RA2 ra2 fs2, .blk (w.heap.size + 1) 28 #[.slice A0 ts.length c0, .slice A1 ks.length c1, .slice A2 fs.length c2, .int .i64 tn, .bool st], .blk (w.heap.size) 23 #[.int .i64 a, .int .i64 b, .int .i64 c, .int .i64 d, .int .i64 e]]) M g1
      clear g1 hHeld
      try clear hin
      go_wp2_with fail
      refine hK.out _ _ ?_ (fun hHeld => ?_)
      ·exact ⟨M.cell 17 0 rfl, M.cell 17 1 rfl, M.cell 17 2 rfl, M.cell 17 3 rfl, M.cell 17 4 rfl, M.cell 16 0 rfl, M.cell 16 1 rfl, M.cell 16 2 rfl, M.cell 16 3 rfl, M.cell 16 4 rfl⟩
      clear hK K
      try simp only [Act.put, List.setIfInBounds_toArray, List.set_cons_zero, List.set_cons_succ]
      refine wpAnyT_callL (i := 7) rfl (by kernel_rfl) (fun K hK => ?_)
      have hin : InPool W57 ts ks fs E0 E1 E2 := ⟨M.rowS 0 rfl, M.rowS 1 rfl, M.rowS 2 rfl⟩
      go_simp
      refine Calls.mono (by with_reducible exact (hI.out E0 E1 E2 j0 j1 j2 _ hin)) ?_
      rintro r W58 ⟨TA0, TA1, TA2, ta0, ta1, ta2, rfl, g1⟩
      replace M : Sep [] w W58 [rT us.length TA0 ta0 us, rK ks2.length TA1 ta1 ks2, rF fs2.length TA2 ta2 fs2, rT ts.length E0 j0 ts, rK ks.length E1 j1 ks, rF fs.length E2 j2 fs, .blk (W42.heap.size) 33 #[.slice none 0 0, .slice none 0 0, .slice none 0 0, .int .i64 0, .bool false], rT us.length SA0 sa0 (markT 1 us.length), rK ks2.length SA1 sa1 (markK (1 + 7 * us.length) ks2.length), rF fs2.length SA2 sa2 (markF (1 + 7 * us.length + ks2.length) fs2.length), rT ts.length C0 e0 (markT 1 ts.length), rK ks.length C1 e1 (markK (1 + 7 * ts.length) ks.length), rF fs.length C2 e2 (markF (1 + 7 * ts.length + ks.length) fs.length), .blk (gG0) 33 #[.slice SA0 us.length sa0, .slice SA1 ks2.length sa1, .slice SA2 fs2.length sa2, .int .i64 tn2, .bool st2], .blk (W22.heap.size) 33 #[.slice C0 ts.length e0, .slice C1 ks.length e1, .slice C2 fs.length e2, .int .i64 tn, .bool st], .blk (gW0) 33 #[.slice RA0 us.length ra0, .slice RA1 ks2.length ra1, .slice RA2 fs2.length ra2, .int .i64 tn2, .bool st2], rT us.length RA0 ra0 us, rK ks2.length RA1 ra1 ks2, rF fs2.length RA2 ra2 fs2, .blk (w.heap.size + 1) 28 #[.slice A0 ts.length c0, .slice A1 ks.length c1, .slice A2 fs.length c2, .int .i64 tn, .bool st], .blk (w.heap.size) 23 #[.int .i64 a, .int .i64 b, .int .i64 c, .int .i64 d, .int .i64 e]] := Sep.comp (ps := []) (rs := [rT ts.length E0 j0 ts, rK ks.length E1 j1 ks, rF fs.length E2 j2 fs, .blk (W42.heap.size) 33 #[.slice none 0 0, .slice none 0 0, .slice none 0 0, .int .i64 0, .bool false], rT us.length SA0 sa0 (markT 1 us.length), rK ks2.length SA1 sa1 (markK (1 + 7 * us.length) ks2.length), rF fs2.length SA2 sa2 (markF (1 + 7 * us.length + ks2.length) fs2.length), rT ts.length C0 e0 (markT 1 ts.length), rK ks.length C1 e1 (markK (1 + 7 * ts.length) ks.length), rF fs.length C2 e2 (markF (1 + 7 * ts.length + ks.length) fs.length), .blk (gG0) 33 #[.slice SA0 us.length sa0, .slice SA1 ks2.length sa1, .slice SA2 fs2.length sa2, .int .i64 tn2, .bool st2], .blk (W22.heap.size) 33 #[.slice C0 ts.length e0, .slice C1 ks.length e1, .slice C2 fs.length e2, .int .i64 tn, .bool st], .blk (gW0) 33 #[.slice RA0 us.length ra0, .slice RA1 ks2.length ra1, .slice RA2 fs2.length ra2, .int .i64 tn2, .bool st2], rT us.length RA0 ra0 us, rK ks2.length RA1 ra1 ks2, rF fs2.length RA2 ra2 fs2, .blk (w.heap.size + 1) 28 #[.slice A0 ts.length c0, .slice A1 ks.length c1, .slice A2 fs.length c2, .int .i64 tn, .bool st], .blk (w.heap.size) 23 #[.int .i64 a, .int .i64 b, .int .i64 c, .int .i64 d, .int .i64 e]]) M g1
      clear g1 hHeld
      try clear hin
      go_wp2_with fail
      refine hK.out _ _ ?_ (fun hHeld => ?_)
      ·exact ⟨M.cell 20 0 rfl, M.cell 20 1 rfl, M.cell 20 2 rfl, M.cell 20 3 rfl, M.cell 20 4 rfl, M.cell 19 0 rfl, M.cell 19 1 rfl, M.cell 19 2 rfl, M.cell 19 3 rfl, M.cell 19 4 rfl⟩
      clear hK K
      try simp only [Act.put, List.setIfInBounds_toArray, List.set_cons_zero, List.set_cons_succ]
      refine tkY 8 ?v8u56 rfl ?hy8u56 (fun _ => hHeld) ?_
      case hy8u56 => (intro w; go_simp; all_goals with_reducible rfl)
      try simp only [Act.put, List.setIfInBounds_toArray, List.set_cons_zero, List.set_cons_succ]
      refine tkY 9 ?v9u57 rfl ?hy9u57 (fun _ => hHeld) ?_
      case hy9u57 => (intro w; go_simp; all_goals with_reducible rfl)
      try simp only [Act.put, List.setIfInBounds_toArray, List.set_cons_zero, List.set_cons_succ]
      refine tkY 10 ?v10u58 rfl ?hy10u58 (fun _ => hHeld) ?_
      case hy10u58 => (intro w; go_simp; all_goals with_reducible rfl)
      try simp only [Act.put, List.setIfInBounds_toArray, List.set_cons_zero, List.set_cons_succ]
      obtain ⟨An, qH00, fH00, qH01, fH01, qH02, fH02, qH03, fH03, qH04, fH04⟩ := M.f5 6 rfl
      refine wpAnyT_oneL (i := 12) rfl (by kernel_rfl) (by kernel_rfl) (fun K hK => ?_)
      go_simp
      refine hK.out _ _ ?_
      clear hK K
      try simp only [Act.put, List.setIfInBounds_toArray, List.set_cons_zero, List.set_cons_succ]
      clear An qH00 fH00 qH01 fH01 qH02 fH02 qH03 fH03 qH04 fH04
      have N := M.gset5 6 rfl (.slice TA0 us.length ta0) (.slice TA1 ks2.length ta1) (.slice TA2 fs2.length ta2) (.int .i64 tn2) (.bool st2)
      clear M
      obtain ⟨W59, eW, M⟩ := N
      rw [eW]
      clear eW
      simp only [List.set_cons_zero, List.set_cons_succ] at M
      refine tkZ 13 ?v13u59 rfl ?hy13u59 ?_
      case hy13u59 => (intro w; go_simp; all_goals with_reducible rfl)
      try simp only [Act.put, List.setIfInBounds_toArray, List.set_cons_zero, List.set_cons_succ]
      refine wpAnyT_done (by kernel_rfl) ?_ _
      replace M := M.front 2 rfl
      simp only [List.eraseIdx_cons_succ, List.eraseIdx_cons_zero] at M
      replace M := M.front 2 rfl
      simp only [List.eraseIdx_cons_succ, List.eraseIdx_cons_zero] at M
      replace M := M.front 2 rfl
      simp only [List.eraseIdx_cons_succ, List.eraseIdx_cons_zero] at M
      replace M := M.front 6 rfl
      simp only [List.eraseIdx_cons_succ, List.eraseIdx_cons_zero] at M
      replace M : Sep [] w W59 [.blk (W42.heap.size) 33 #[.slice TA0 us.length ta0, .slice TA1 ks2.length ta1, .slice TA2 fs2.length ta2, .int .i64 tn2, .bool st2], rT us.length TA0 ta0 us, rK ks2.length TA1 ta1 ks2, rF fs2.length TA2 ta2 fs2, rT us.length SA0 sa0 (markT 1 us.length), rK ks2.length SA1 sa1 (markK (1 + 7 * us.length) ks2.length), rF fs2.length SA2 sa2 (markF (1 + 7 * us.length + ks2.length) fs2.length), rT ts.length C0 e0 (markT 1 ts.length), rK ks.length C1 e1 (markK (1 + 7 * ts.length) ks.length), rF fs.length C2 e2 (markF (1 + 7 * ts.length + ks.length) fs.length), .blk (gG0) 33 #[.slice SA0 us.length sa0, .slice SA1 ks2.length sa1, .slice SA2 fs2.length sa2, .int .i64 tn2, .bool st2], .blk (W22.heap.size) 33 #[.slice C0 ts.length e0, .slice C1 ks.length e1, .slice C2 fs.length e2, .int .i64 tn, .bool st], .blk (gW0) 33 #[.slice RA0 us.length ra0, .slice RA1 ks2.length ra1, .slice RA2 fs2.length ra2, .int .i64 tn2, .bool st2], rT us.length RA0 ra0 us, rK ks2.length RA1 ra1 ks2, rF fs2.length RA2 ra2 fs2, .blk (w.heap.size + 1) 28 #[.slice A0 ts.length c0, .slice A1 ks.length c1, .slice A2 fs.length c2, .int .i64 tn, .bool st], .blk (w.heap.size) 23 #[.int .i64 a, .int .i64 b, .int .i64 c, .int .i64 d, .int .i64 e]] := M.sub ((List.Sublist.slnil) |>.cons_cons _ |>.cons_cons _ |>.cons_cons _ |>.cons_cons _ |>.cons_cons _ |>.cons_cons _ |>.cons_cons _ |>.cons_cons _ |>.cons_cons _ |>.cons_cons _ |>.cons_cons _ |>.cons_cons _ |>.cons_cons _ |>.cons_cons _ |>.cons _ |>.cons _ |>.cons _ |>.cons_cons _ |>.cons_cons _ |>.cons_cons _ |>.cons_cons _)
      go_wp2_with fail
      go_meet
      exact ⟨_, _, _, _, _, _, _, rfl, rfl, M⟩
    case rest =>
     clear M
     obtain ⟨gH0, TA0, TA1, TA2, ta0, ta1, ta2, rfl, rfl, M⟩ := hcut
     rename World => W60
     obtain ⟨An, qH00, qH01, qH02, qH03, qH04⟩ := M.q5 0 rfl
     obtain ⟨Al, qG00, qG01, qG02, qG03, qG04⟩ := M.q5 10 rfl
     obtain ⟨Am, qY00, qY01, qY02, qY03, qY04⟩ := M.q5 11 rfl
     obtain ⟨Af, qW00, qW01, qW02, qW03, qW04⟩ := M.q5 12 rfl
     obtain ⟨tX, Ae, Ac, Ab, Ad, Aa⟩ := M.q5 16 rfl
     obtain ⟨tP, Ah, Ai, Aj, Ag, Ak⟩ := M.q5 17 rfl
     go_wp2_with fail
     go_call (eqPool_same us ks2 fs2 TA0 TA1 TA2 ta0 ta1 ta2 tn2 st2 RA0 RA1 RA2 ra0 ra1 ra2 _ hLl ⟨M.rowS 1 rfl, M.rowS 2 rfl, M.rowS 3 rfl⟩ ⟨M.rowS 13 rfl, M.rowS 14 rfl, M.rowS 15 rfl⟩) as r W61 ⟨rfl, g1⟩
     clear An qH00 qH01 qH02 qH03 qH04 Al qG00 qG01 qG02 qG03 qG04 Am qY00 qY01 qY02 qY03 qY04 Af qW00 qW01 qW02 qW03 qW04 tX Ae Ac Ab Ad Aa tP Ah Ai Aj Ag Ak
     replace M := M.call g1
     clear g1
     obtain ⟨An, qH00, qH01, qH02, qH03, qH04⟩ := M.q5 0 rfl
     obtain ⟨Al, qG00, qG01, qG02, qG03, qG04⟩ := M.q5 10 rfl
     obtain ⟨Am, qY00, qY01, qY02, qY03, qY04⟩ := M.q5 11 rfl
     obtain ⟨Af, qW00, qW01, qW02, qW03, qW04⟩ := M.q5 12 rfl
     obtain ⟨tX, Ae, Ac, Ab, Ad, Aa⟩ := M.q5 16 rfl
     obtain ⟨tP, Ah, Ai, Aj, Ag, Ak⟩ := M.q5 17 rfl
     go_wp2_with fail
     go_call (heldPool_w us.length ks2.length fs2.length SA0 SA1 SA2 sa0 sa1 sa2 tn2 st2 1 _ hLl (by omega) (by omega) ⟨M.rowS 4 rfl, M.rowS 5 rfl, M.rowS 6 rfl⟩) as r W62 ⟨rfl, g1⟩
     clear An qH00 qH01 qH02 qH03 qH04 Al qG00 qG01 qG02 qG03 qG04 Am qY00 qY01 qY02 qY03 qY04 Af qW00 qW01 qW02 qW03 qW04 tX Ae Ac Ab Ad Aa tP Ah Ai Aj Ag Ak
     replace M := M.call g1
     clear g1
     obtain ⟨An, qH00, qH01, qH02, qH03, qH04⟩ := M.q5 0 rfl
     obtain ⟨Al, qG00, qG01, qG02, qG03, qG04⟩ := M.q5 10 rfl
     obtain ⟨Am, qY00, qY01, qY02, qY03, qY04⟩ := M.q5 11 rfl
     obtain ⟨Af, qW00, qW01, qW02, qW03, qW04⟩ := M.q5 12 rfl
     obtain ⟨tX, Ae, Ac, Ab, Ad, Aa⟩ := M.q5 16 rfl
     obtain ⟨tP, Ah, Ai, Aj, Ag, Ak⟩ := M.q5 17 rfl
     go_wp2_with fail
     go_ret
     exact ⟨rfl, M.below⟩
 ·go_enter Try.func4, Try.ntmps4
  go_wp2_with fail
  generalize hW : (w.alloc _).alloc _ = W1
  have M := Sep.e2 hW
  clear hW
  obtain ⟨tX, Ae, Ac, Ab, Ad, Aa⟩ := M.q5 0 rfl
  obtain ⟨tP, Ah, Ai, Aj, Ag, Ak⟩ := M.q5 1 rfl
  go_wp2_with fail
  go_call (szPool_any A0 A1 A2 ts.length c0 ks.length c1 fs.length c2 tn st _ h0 h1 h2) as r W2 ⟨rfl, g1⟩
  clear tX Ae Ac Ab Ad Aa tP Ah Ai Aj Ag Ak
  replace M := M.call g1
  clear g1
  rw [szPoolM_neg' hT]
  obtain ⟨tX, Ae, Ac, Ab, Ad, Aa⟩ := M.q5 0 rfl
  obtain ⟨tP, Ah, Ai, Aj, Ag, Ak⟩ := M.q5 1 rfl
  go_wp2_with fail
  go_ret
  exact ⟨rfl, M.below⟩
end Go.Proofs.Ytfkdfkoigojciaa
