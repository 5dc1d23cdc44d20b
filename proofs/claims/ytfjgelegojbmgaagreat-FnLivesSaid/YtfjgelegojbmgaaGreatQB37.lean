/- A plan and a right pool out of the cursor. -/
import Derived.Test.YtfjgelegojbmgaaGreatQB35
import Derived.Test.YtfjgelegojbmgaaGreatQB36

namespace Go.Proofs.YtfjgelegojbmgaaGreat
open Go.RowKit
set_option linter.unusedVariables false
/-- A plan and a right pool over it, out of the cursor. -/
def CGavePool (B : Nat) (w : World) (g : Nat) (A : Option Addr) (len cap : Nat) (r : Ending) (w' : World) : Prop :=
 ∃ (a b c : Int) (dd ee : Nat) (ts : List T7) (ks : List Int) (fs : List F2) (tn : Int) (st : Bool) (B0 B1 B2 : Option Addr) (e0 e1 e2 : Nat) (cs : Array Value), r = .returned (.tuple #[.agg #[.int .i64 a, .int .i64 b, .int .i64 c, .int .i64 dd, .int .i64 ee], .agg #[.slice B0 ts.length e0, .slice B1 ks.length e1, .slice B2 fs.length e2, .int .i64 tn, .bool st]]) ∧ poolB a b c dd ee ts ks fs tn = true ∧ 1 ≤ a ∧ a ≤ 4 ∧ 1 ≤ b ∧ b ≤ 9 ∧ 1 ≤ c ∧ c ≤ 3 ∧ dd ≤ 2 ∧ ee ≤ 2 ∧ curC A len cap cs ∧ Sep [g] w w' [rT ts.length B0 e0 ts, rK ks.length B1 e1 ks, rF fs.length B2 e2 fs, .blk g 109 cs]
set_option maxRecDepth 100000 in
set_option maxHeartbeats 4000000 in
theorem l3Draw_any (B : Nat) (w : World) (g : Nat) (A : Option Addr) (len cap : Nat) (d0 : CurAt B w g A len cap) :
 Calls Tryz.prog 85 #[.pointer (some ⟨g, 0, none⟩)] w (CGavePool B w g A len cap) := by
 have hg := d0.lt
 go_enter Tryz.func85, Tryz.ntmps85
 go_wp2_with fail
 obtain ⟨cs0, hc, M⟩ := cur_start d0
 replace M : Sep [g] w ((w.alloc (.cells #[.int .i64 0, .int .i64 0, .int .i64 0, .int .i64 0, .int .i64 0] 25)).alloc (.cells #[.slice none 0 0, .slice none 0 0, .slice none 0 0, .int .i64 0, .bool false] 30)) [.blk (w.heap.size + 1) 30 #[.slice none 0 0, .slice none 0 0, .slice none 0 0, .int .i64 0, .bool false], .blk (w.heap.size) 25 #[.int .i64 0, .int .i64 0, .int .i64 0, .int .i64 0, .int .i64 0], .blk g 109 cs0] := ((M.alloc 25 #[.int .i64 0, .int .i64 0, .int .i64 0, .int .i64 0, .int .i64 0] (w.heap.size) rfl).alloc 30 #[.slice none 0 0, .slice none 0 0, .slice none 0 0, .int .i64 0, .bool false] (w.heap.size + 1) (by simp))
 generalize (w.alloc (.cells #[.int .i64 0, .int .i64 0, .int .i64 0, .int .i64 0, .int .i64 0] 25)).alloc (.cells #[.slice none 0 0, .slice none 0 0, .slice none 0 0, .int .i64 0, .bool false] 30) = W1 at M ⊢
 obtain ⟨tR, Ae, Ar, Ai, Ap, Ad, An, Ah, As, Aa, Aq⟩ := M.f5 0 rfl
 obtain ⟨tQ, Af, Al, Ag, Ao, Ac, Ak, Aj, Am, Ab, At⟩ := M.f5 1 rfl
 go_wp2_with fail
 go_call (l1DrawPlan_any B _ g A len cap (M.curAt 2 rfl d0 hc)) as r W2 ⟨a, b, c, di, ei, rfl, ha1, ha2, hb1, hb2, hc1, hc2, hd1, hd2, he1, he2, gg, d⟩
 clear tR Ae Ar Ai Ap Ad An Ah As Aa Aq tQ Af Al Ag Ao Ac Ak Aj Am Ab At
 have MM := M.curMoved 2 rfl gg d
 clear M hc gg d
 obtain ⟨cs1, hc, M⟩ := MM
 simp only [List.set_cons_zero, List.set_cons_succ] at M
 obtain ⟨dd, rfl⟩ : ∃ n : Nat, di = n := ⟨di.toNat, by omega⟩
 obtain ⟨ee, rfl⟩ : ∃ n : Nat, ei = n := ⟨ei.toNat, by omega⟩
 have HP : Hid (planB a b c dd ee = true) := hide (by simp [planB, btw]; omega)
 obtain ⟨tR, Ae, Ar, Ai, Ap, Ad, An, Ah, As, Aa, Aq⟩ := M.f5 0 rfl
 obtain ⟨tQ, Af, Al, Ag, Ao, Ac, Ak, Aj, Am, Ab, At⟩ := M.f5 1 rfl
 go_wp2_with fail
 clear tR Ae Ar Ai Ap Ad An Ah As Aa Aq tQ Af Al Ag Ao Ac Ak Aj Am Ab At
 have N := M.galloc 25 #[.int .i64 a, .int .i64 b, .int .i64 c, .int .i64 dd, .int .i64 ee]
 clear M
 obtain ⟨W3, eW, M⟩ := N
 rw [eW]
 clear eW
 obtain ⟨tP, Au, Bg, Aw, Bh, Av, Be, Ay, Bf, Ax, Bi⟩ := M.f5 0 rfl
 obtain ⟨tR, Ae, Ar, Ai, Ap, Ad, An, Ah, As, Aa, Aq⟩ := M.f5 1 rfl
 obtain ⟨tQ, Af, Al, Ag, Ao, Ac, Ak, Aj, Am, Ab, At⟩ := M.f5 2 rfl
 go_wp2_with fail
 go_call (newPool_s a b c dd ee _ HP.out) as r W4 ⟨ts, ks, fs, tn, st, B0, B1, B2, e0, e1, e2, rfl, hpo, g1⟩
 clear tP Au Bg Aw Bh Av Be Ay Bf Ax Bi tR Ae Ar Ai Ap Ad An Ah As Aa Aq tQ Af Al Ag Ao Ac Ak Aj Am Ab At
 replace M : Sep [g] w W4 [rT ts.length B0 e0 ts, rK ks.length B1 e1 ks, rF fs.length B2 e2 fs, .blk (W2.heap.size) 25 #[.int .i64 a, .int .i64 b, .int .i64 c, .int .i64 dd, .int .i64 ee], .blk (w.heap.size + 1) 30 #[.slice none 0 0, .slice none 0 0, .slice none 0 0, .int .i64 0, .bool false], .blk (w.heap.size) 25 #[.int .i64 0, .int .i64 0, .int .i64 0, .int .i64 0, .int .i64 0], .blk g 109 cs1] := Sep.comp (ps := []) (rs := [.blk (W2.heap.size) 25 #[.int .i64 a, .int .i64 b, .int .i64 c, .int .i64 dd, .int .i64 ee], .blk (w.heap.size + 1) 30 #[.slice none 0 0, .slice none 0 0, .slice none 0 0, .int .i64 0, .bool false], .blk (w.heap.size) 25 #[.int .i64 0, .int .i64 0, .int .i64 0, .int .i64 0, .int .i64 0], .blk g 109 cs1]) M g1
 clear g1
 replace hpo := hide hpo
 obtain ⟨tP, Au, Bg, Aw, Bh, Av, Be, Ay, Bf, Ax, Bi⟩ := M.f5 3 rfl
 obtain ⟨tR, Ae, Ar, Ai, Ap, Ad, An, Ah, As, Aa, Aq⟩ := M.f5 4 rfl
 obtain ⟨tQ, Af, Al, Ag, Ao, Ac, Ak, Aj, Am, Ab, At⟩ := M.f5 5 rfl
 go_wp2_with fail
 clear tP Au Bg Aw Bh Av Be Ay Bf Ax Bi tR Ae Ar Ai Ap Ad An Ah As Aa Aq tQ Af Al Ag Ao Ac Ak Aj Am Ab At
 obtain ⟨yb, hyb⟩ : ∃ yb, yb = W4.heap.size := ⟨_, rfl⟩
 rw [← hyb]
 replace M : Sep [g] w (W4.alloc (.cells #[.slice B0 ts.length e0, .slice B1 ks.length e1, .slice B2 fs.length e2, .int .i64 tn, .bool st] 30)) [.blk (yb) 30 #[.slice B0 ts.length e0, .slice B1 ks.length e1, .slice B2 fs.length e2, .int .i64 tn, .bool st], rT ts.length B0 e0 ts, rK ks.length B1 e1 ks, rF fs.length B2 e2 fs, .blk (W2.heap.size) 25 #[.int .i64 a, .int .i64 b, .int .i64 c, .int .i64 dd, .int .i64 ee], .blk (w.heap.size + 1) 30 #[.slice none 0 0, .slice none 0 0, .slice none 0 0, .int .i64 0, .bool false], .blk (w.heap.size) 25 #[.int .i64 0, .int .i64 0, .int .i64 0, .int .i64 0, .int .i64 0], .blk g 109 cs1] := M.alloc 30 #[.slice B0 ts.length e0, .slice B1 ks.length e1, .slice B2 fs.length e2, .int .i64 tn, .bool st] yb hyb.symm
 generalize W4.alloc (.cells #[.slice B0 ts.length e0, .slice B1 ks.length e1, .slice B2 fs.length e2, .int .i64 tn, .bool st] 30) = W5 at M ⊢
 clear hyb
 replace M : Sep [g] w W5 [rT ts.length B0 e0 ts, rK ks.length B1 e1 ks, rF fs.length B2 e2 fs, .blk (yb) 30 #[.slice B0 ts.length e0, .slice B1 ks.length e1, .slice B2 fs.length e2, .int .i64 tn, .bool st], .blk (W2.heap.size) 25 #[.int .i64 a, .int .i64 b, .int .i64 c, .int .i64 dd, .int .i64 ee], .blk (w.heap.size + 1) 30 #[.slice none 0 0, .slice none 0 0, .slice none 0 0, .int .i64 0, .bool false], .blk (w.heap.size) 25 #[.int .i64 0, .int .i64 0, .int .i64 0, .int .i64 0, .int .i64 0], .blk g 109 cs1] := Sep.back (l1 := [rT ts.length B0 e0 ts, rK ks.length B1 e1 ks, rF fs.length B2 e2 fs]) M
 obtain ⟨pb, hpb⟩ : ∃ pb, pb = W2.heap.size := ⟨_, rfl⟩
 rw [← hpb] at M ⊢
 clear hpb
 obtain ⟨tY, Bb, Bn, Ba, Bm, Bd, Bl, Bc, Bj, Az, Bk⟩ := M.f5 3 rfl
 obtain ⟨tP, Au, Bg, Aw, Bh, Av, Be, Ay, Bf, Ax, Bi⟩ := M.f5 4 rfl
 obtain ⟨tR, Ae, Ar, Ai, Ap, Ad, An, Ah, As, Aa, Aq⟩ := M.f5 5 rfl
 obtain ⟨tQ, Af, Al, Ag, Ao, Ac, Ak, Aj, Am, Ab, At⟩ := M.f5 6 rfl
 go_wp2_with fail
 go_call (l1Below_pos B _ g A len cap 30 (by omega) (by omega) (M.curAt 7 rfl d0 hc)) as r W6 ⟨ni, rfl, ni1, ni2, gg, d⟩
 clear tY Bb Bn Ba Bm Bd Bl Bc Bj Az Bk tP Au Bg Aw Bh Av Be Ay Bf Ax Bi tR Ae Ar Ai Ap Ad An Ah As Aa Aq tQ Af Al Ag Ao Ac Ak Aj Am Ab At
 have MM := M.curMoved 7 rfl gg d
 clear M hc gg d
 obtain ⟨cs2, hc, M⟩ := MM
 simp only [List.set_cons_zero, List.set_cons_succ] at M
 obtain ⟨n, rfl⟩ : ∃ n : Nat, ni = n := ⟨ni.toNat, by omega⟩
 have hn : n ≤ 100 := by omega
 clear ni1 ni2
 go_wp2_with fail
 go_loopw [6] (fun i wr => ∃ (m : Nat) (ts : List T7) (ks : List Int) (fs : List F2) (tn : Int) (st : Bool) (B0 B1 B2 : Option Addr) (e0 e1 e2 : Nat) (cs : Array Value), m ≤ 100 ∧ i = .int .i64 m ∧ Hid (poolB a b c dd ee ts ks fs tn = true) ∧ curC A len cap cs ∧ Sep [g] w wr [rT ts.length B0 e0 ts, rK ks.length B1 e1 ks, rF fs.length B2 e2 fs, .blk (yb) 30 #[.slice B0 ts.length e0, .slice B1 ks.length e1, .slice B2 fs.length e2, .int .i64 tn, .bool st], .blk (pb) 25 #[.int .i64 a, .int .i64 b, .int .i64 c, .int .i64 dd, .int .i64 ee], .blk (w.heap.size + 1) 30 #[.slice none 0 0, .slice none 0 0, .slice none 0 0, .int .i64 0, .bool false], .blk (w.heap.size) 25 #[.int .i64 0, .int .i64 0, .int .i64 0, .int .i64 0, .int .i64 0], .blk g 109 cs]) (fun i _ => (intOf i).toNat)
 case atStart => exact ⟨n, ts, ks, fs, tn, st, B0, B1, B2, e0, e1, e2, _, hn, rfl, hpo, hc, M⟩
 case round =>
  clear M hc hpo
  obtain ⟨m, ts, ks, fs, tn, st, B0, B1, B2, e0, e1, e2, cs, hm, rfl, hpo, hc, M⟩ := hrel
  by_cases hm0 : 0 < m
  ·have hnpos : (0 : Int) < (m : Int) := by omega
   obtain ⟨tY, Bb, Ba, Bd, Bc, Az⟩ := M.q5 3 rfl
   obtain ⟨tP, Au, Aw, Av, Ay, Ax⟩ := M.q5 4 rfl
   obtain ⟨tR, Ae, Ai, Ad, Ah, Aa⟩ := M.q5 5 rfl
   obtain ⟨tQ, Af, Ag, Ac, Aj, Ab⟩ := M.q5 6 rfl
   go_wp2_with fail
   clear tY Bb Ba Bd Bc Az tP Au Aw Av Ay Ax tR Ae Ai Ad Ah Aa tQ Af Ag Ac Aj Ab
   refine wp_region_T (S := (fun w' => w'.cell? ⟨pb, 0, none⟩ = some (.int .i64 a) ∧ w'.cell? ⟨pb, 1, none⟩ = some (.int .i64 b) ∧ w'.cell? ⟨pb, 2, none⟩ = some (.int .i64 c) ∧ w'.cell? ⟨pb, 3, none⟩ = some (.int .i64 dd) ∧ w'.cell? ⟨pb, 4, none⟩ = some (.int .i64 ee) ∧ w'.cell? ⟨yb, 0, none⟩ = some (.slice B0 ts.length e0) ∧ w'.cell? ⟨yb, 1, none⟩ = some (.slice B1 ks.length e1) ∧ w'.cell? ⟨yb, 2, none⟩ = some (.slice B2 fs.length e2) ∧ w'.cell? ⟨yb, 3, none⟩ = some (.int .i64 tn) ∧ w'.cell? ⟨yb, 4, none⟩ = some (.bool st))) (ks := [13]) (by kernel_rfl) ⟨M.cell 4 0 rfl, M.cell 4 1 rfl, M.cell 4 2 rfl, M.cell 4 3 rfl, M.cell 4 4 rfl, M.cell 3 0 rfl, M.cell 3 1 rfl, M.cell 3 2 rfl, M.cell 3 3 rfl, M.cell 3 4 rfl⟩ (fun hHeld => ?_)
   replace M := M.drew
   generalize wr.drew = W7 at M hHeld ⊢
   refine tkL 0 ?v0u1 rfl ?hy0u1 hHeld ?_
   case hy0u1 => (intro w hSw; (try dsimp only at hSw); go_split_ands; go_simp; all_goals with_reducible rfl)
   try simp only [Act.put, List.setIfInBounds_toArray, List.set_cons_zero, List.set_cons_succ]
   refine tkL 1 ?v1u2 rfl ?hy1u2 hHeld ?_
   case hy1u2 => (intro w hSw; (try dsimp only at hSw); go_split_ands; go_simp; all_goals with_reducible rfl)
   try simp only [Act.put, List.setIfInBounds_toArray, List.set_cons_zero, List.set_cons_succ]
   refine tkY 2 ?v2u3 rfl ?hy2u3 (fun _ => hHeld) ?_
   case hy2u3 => (intro w; go_simp; all_goals with_reducible rfl)
   try simp only [Act.put, List.setIfInBounds_toArray, List.set_cons_zero, List.set_cons_succ]
   refine tkY 6 ?v6u4 rfl ?hy6u4 (fun _ => hHeld) ?_
   case hy6u4 => (intro w; go_simp; all_goals with_reducible rfl)
   try simp only [Act.put, List.setIfInBounds_toArray, List.set_cons_zero, List.set_cons_succ]
   refine tkY 3 ?v3u5 rfl ?hy3u5 (fun _ => hHeld) ?_
   case hy3u5 => (intro w; go_simp; all_goals with_reducible rfl)
   try simp only [Act.put, List.setIfInBounds_toArray, List.set_cons_zero, List.set_cons_succ]
   refine tkL 4 ?v4u6 rfl ?hy4u6 hHeld ?_
   case hy4u6 => (intro w hSw; (try dsimp only at hSw); go_split_ands; go_simp; all_goals with_reducible rfl)
   try simp only [Act.put, List.setIfInBounds_toArray, List.set_cons_zero, List.set_cons_succ]
   refine tkL 7 ?v7u7 rfl ?hy7u7 hHeld ?_
   case hy7u7 => (intro w hSw; (try dsimp only at hSw); go_split_ands; go_simp; all_goals with_reducible rfl)
   try simp only [Act.put, List.setIfInBounds_toArray, List.set_cons_zero, List.set_cons_succ]
   refine wpAnyT_callL (i := 5) rfl (by kernel_rfl) (fun K hK => ?_)
   go_simp
   refine Calls.mono (by with_reducible exact (l1Below_pos B _ g A len cap a (by omega) (by omega) (M.curAt 7 rfl d0 hc))) ?_
   rintro r W8 ⟨wk, rfl, wk1, wk2, gg, d⟩
   have MM := M.curMoved 7 rfl gg d
   clear M hc gg d
   obtain ⟨cs3, hc, M⟩ := MM
   simp only [List.set_cons_zero, List.set_cons_succ] at M
   clear hHeld
   go_wp2_with fail
   refine hK.out _ _ ?_ (fun hHeld => ?_)
   ·exact ⟨M.cell 4 0 rfl, M.cell 4 1 rfl, M.cell 4 2 rfl, M.cell 4 3 rfl, M.cell 4 4 rfl, M.cell 3 0 rfl, M.cell 3 1 rfl, M.cell 3 2 rfl, M.cell 3 3 rfl, M.cell 3 4 rfl⟩
   clear hK K
   try simp only [Act.put, List.setIfInBounds_toArray, List.set_cons_zero, List.set_cons_succ]
   refine wpAnyT_callL (i := 8) rfl (by kernel_rfl) (fun K hK => ?_)
   go_simp
   refine Calls.mono (by with_reducible exact (l10Draw_any B _ g A len cap a b c dd ee (by omega) (by omega) (M.curAt 7 rfl d0 hc))) ?_
   rintro r W9 ⟨k, xx, yy, rfl, gg, d⟩
   have MM := M.curMoved 7 rfl gg d
   clear M hc gg d
   obtain ⟨cs4, hc, M⟩ := MM
   simp only [List.set_cons_zero, List.set_cons_succ] at M
   clear hHeld
   go_wp2_with fail
   refine hK.out _ _ ?_ (fun hHeld => ?_)
   ·exact ⟨M.cell 4 0 rfl, M.cell 4 1 rfl, M.cell 4 2 rfl, M.cell 4 3 rfl, M.cell 4 4 rfl, M.cell 3 0 rfl, M.cell 3 1 rfl, M.cell 3 2 rfl, M.cell 3 3 rfl, M.cell 3 4 rfl⟩
   clear hK K
   try simp only [Act.put, List.setIfInBounds_toArray, List.set_cons_zero, List.set_cons_succ]
   have hAp := applied_s a b c dd ee ts ks fs B0 B1 B2 e0 e1 e2 tn st wk k xx yy _ hpo.out ⟨M.rowS 0 rfl, M.rowS 1 rfl, M.rowS 2 rfl⟩
   refine wpAnyT_callL (i := 9) rfl (by kernel_rfl) (fun K hK => ?_)
   go_simp
   refine Calls.mono (by with_reducible exact hAp) ?_
   clear hAp
   rintro r W10 ⟨ts2, ks2, fs2, tn2, st2, rp, ou, C0, C1, C2, f0, f1, f2, rfl, hpo2, g1⟩
   replace hpo2 := hide hpo2
   replace M : Sep [g] w W10 [rT ts2.length C0 f0 ts2, rK ks2.length C1 f1 ks2, rF fs2.length C2 f2 fs2, rT ts.length B0 e0 ts, rK ks.length B1 e1 ks, rF fs.length B2 e2 fs, .blk (yb) 30 #[.slice B0 ts.length e0, .slice B1 ks.length e1, .slice B2 fs.length e2, .int .i64 tn, .bool st], .blk (pb) 25 #[.int .i64 a, .int .i64 b, .int .i64 c, .int .i64 dd, .int .i64 ee], .blk (w.heap.size + 1) 30 #[.slice none 0 0, .slice none 0 0, .slice none 0 0, .int .i64 0, .bool false], .blk (w.heap.size) 25 #[.int .i64 0, .int .i64 0, .int .i64 0, .int .i64 0, .int .i64 0], .blk g 109 cs4] := Sep.comp (ps := []) (rs := [rT ts.length B0 e0 ts, rK ks.length B1 e1 ks, rF fs.length B2 e2 fs, .blk (yb) 30 #[.slice B0 ts.length e0, .slice B1 ks.length e1, .slice B2 fs.length e2, .int .i64 tn, .bool st], .blk (pb) 25 #[.int .i64 a, .int .i64 b, .int .i64 c, .int .i64 dd, .int .i64 ee], .blk (w.heap.size + 1) 30 #[.slice none 0 0, .slice none 0 0, .slice none 0 0, .int .i64 0, .bool false], .blk (w.heap.size) 25 #[.int .i64 0, .int .i64 0, .int .i64 0, .int .i64 0, .int .i64 0], .blk g 109 cs4]) M g1
   clear g1 hHeld
   go_wp2_with fail
   refine hK.out _ _ ?_ (fun hHeld => ?_)
   ·exact ⟨M.cell 7 0 rfl, M.cell 7 1 rfl, M.cell 7 2 rfl, M.cell 7 3 rfl, M.cell 7 4 rfl, M.cell 6 0 rfl, M.cell 6 1 rfl, M.cell 6 2 rfl, M.cell 6 3 rfl, M.cell 6 4 rfl⟩
   clear hK K
   try simp only [Act.put, List.setIfInBounds_toArray, List.set_cons_zero, List.set_cons_succ]
   refine tkY 10 ?v10u8 rfl ?hy10u8 (fun _ => hHeld) ?_
   case hy10u8 => (intro w; go_simp; all_goals with_reducible rfl)
   try simp only [Act.put, List.setIfInBounds_toArray, List.set_cons_zero, List.set_cons_succ]
   refine tkY 11 ?v11u9 rfl ?hy11u9 (fun _ => hHeld) ?_
   case hy11u9 => (intro w; go_simp; all_goals with_reducible rfl)
   try simp only [Act.put, List.setIfInBounds_toArray, List.set_cons_zero, List.set_cons_succ]
   refine tkY 12 ?v12u10 rfl ?hy12u10 (fun _ => hHeld) ?_
   case hy12u10 => (intro w; go_simp; all_goals with_reducible rfl)
   try simp only [Act.put, List.setIfInBounds_toArray, List.set_cons_zero, List.set_cons_succ]
   obtain ⟨tY, Bb, Bn, Ba, Bm, Bd, Bl, Bc, Bj, Az, Bk⟩ := M.f5 6 rfl
   refine wpAnyT_oneL (i := 13) rfl (by kernel_rfl) (by kernel_rfl) (fun K hK => ?_)
   go_simp
   refine hK.out _ _ ?_
   clear hK K
   try simp only [Act.put, List.setIfInBounds_toArray, List.set_cons_zero, List.set_cons_succ]
   clear tY Bb Bn Ba Bm Bd Bl Bc Bj Az Bk
   have N := M.gset5 6 rfl (.slice C0 ts2.length f0) (.slice C1 ks2.length f1) (.slice C2 fs2.length f2) (.int .i64 tn2) (.bool st2)
   clear M
   obtain ⟨W11, eW, M⟩ := N
   rw [eW]
   clear eW
   simp only [List.set_cons_zero, List.set_cons_succ] at M
   refine wpAnyT_done (by kernel_rfl) ?_ _
   replace M := M.sub ((List.Sublist.slnil) |>.cons_cons _ |>.cons_cons _ |>.cons_cons _ |>.cons_cons _ |>.cons_cons _ |>.cons _ |>.cons _ |>.cons _ |>.cons_cons _ |>.cons_cons _ |>.cons_cons _)
   go_wp2_with fail
   go_roundw
   ·exact ⟨m - 1, ts2, ks2, fs2, tn2, st2, C0, C1, C2, f0, f1, f2, _, by omega, by go_num, hpo2, hc, M⟩
   ·simp [intOf]; omega
  ·obtain rfl : m = 0 := by omega
   obtain ⟨tY, Bb, Ba, Bd, Bc, Az⟩ := M.q5 3 rfl
   obtain ⟨tP, Au, Aw, Av, Ay, Ax⟩ := M.q5 4 rfl
   obtain ⟨tR, Ae, Ai, Ad, Ah, Aa⟩ := M.q5 5 rfl
   obtain ⟨tQ, Af, Ag, Ac, Aj, Ab⟩ := M.q5 6 rfl
   go_wp2_with fail
   clear tY Bb Ba Bd Bc Az tP Au Aw Av Ay Ax tR Ae Ai Ad Ah Aa tQ Af Ag Ac Aj Ab
   refine wp_region_T (S := (fun w' => w'.cell? ⟨pb, 0, none⟩ = some (.int .i64 a) ∧ w'.cell? ⟨pb, 1, none⟩ = some (.int .i64 b) ∧ w'.cell? ⟨pb, 2, none⟩ = some (.int .i64 c) ∧ w'.cell? ⟨pb, 3, none⟩ = some (.int .i64 dd) ∧ w'.cell? ⟨pb, 4, none⟩ = some (.int .i64 ee) ∧ w'.cell? ⟨yb, 0, none⟩ = some (.slice B0 ts.length e0) ∧ w'.cell? ⟨yb, 1, none⟩ = some (.slice B1 ks.length e1) ∧ w'.cell? ⟨yb, 2, none⟩ = some (.slice B2 fs.length e2) ∧ w'.cell? ⟨yb, 3, none⟩ = some (.int .i64 tn) ∧ w'.cell? ⟨yb, 4, none⟩ = some (.bool st))) (ks := [3]) (by kernel_rfl) ⟨M.cell 4 0 rfl, M.cell 4 1 rfl, M.cell 4 2 rfl, M.cell 4 3 rfl, M.cell 4 4 rfl, M.cell 3 0 rfl, M.cell 3 1 rfl, M.cell 3 2 rfl, M.cell 3 3 rfl, M.cell 3 4 rfl⟩ (fun hHeld => ?_)
   replace M := M.drew
   generalize wr.drew = W7 at M hHeld ⊢
   refine tkL 0 ?v0u11 rfl ?hy0u11 hHeld ?_
   case hy0u11 => (intro w hSw; (try dsimp only at hSw); go_split_ands; go_simp; all_goals with_reducible rfl)
   try simp only [Act.put, List.setIfInBounds_toArray, List.set_cons_zero, List.set_cons_succ]
   refine tkL 1 ?v1u12 rfl ?hy1u12 hHeld ?_
   case hy1u12 => (intro w hSw; (try dsimp only at hSw); go_split_ands; go_simp; all_goals with_reducible rfl)
   try simp only [Act.put, List.setIfInBounds_toArray, List.set_cons_zero, List.set_cons_succ]
   obtain ⟨tQ, Af, Al, Ag, Ao, Ac, Ak, Aj, Am, Ab, At⟩ := M.f5 6 rfl
   refine wpAnyT_callL (i := 2) rfl (by kernel_rfl) (fun K hK => ?_)
   go_simp
   clear tQ Af Al Ag Ao Ac Ak Aj Am Ab At
   have N := M.gset5 6 rfl (.int .i64 a) (.int .i64 b) (.int .i64 c) (.int .i64 dd) (.int .i64 ee)
   clear M
   obtain ⟨W8, eW, M⟩ := N
   rw [eW]
   clear eW
   simp only [List.set_cons_zero, List.set_cons_succ] at M
   clear hHeld
   refine hK.out _ _ ?_ (fun hHeld => ?_)
   ·exact ⟨M.cell 4 0 rfl, M.cell 4 1 rfl, M.cell 4 2 rfl, M.cell 4 3 rfl, M.cell 4 4 rfl, M.cell 3 0 rfl, M.cell 3 1 rfl, M.cell 3 2 rfl, M.cell 3 3 rfl, M.cell 3 4 rfl⟩
   clear hK K
   try simp only [Act.put, List.setIfInBounds_toArray, List.set_cons_zero, List.set_cons_succ]
   obtain ⟨tR, Ae, Ar, Ai, Ap, Ad, An, Ah, As, Aa, Aq⟩ := M.f5 5 rfl
   refine wpAnyT_oneL (i := 3) rfl (by kernel_rfl) (by kernel_rfl) (fun K hK => ?_)
   go_simp
   refine hK.out _ _ ?_
   clear hK K
   try simp only [Act.put, List.setIfInBounds_toArray, List.set_cons_zero, List.set_cons_succ]
   clear tR Ae Ar Ai Ap Ad An Ah As Aa Aq
   have N := M.gset5 5 rfl (.slice B0 ts.length e0) (.slice B1 ks.length e1) (.slice B2 fs.length e2) (.int .i64 tn) (.bool st)
   clear M
   obtain ⟨W9, eW, M⟩ := N
   rw [eW]
   clear eW
   simp only [List.set_cons_zero, List.set_cons_succ] at M
   refine wpAnyT_done (by kernel_rfl) ?_ _
   go_wp2_with fail
   obtain ⟨tR, Ae, Ai, Ad, Ah, Aa⟩ := M.q5 5 rfl
   obtain ⟨tQ, Af, Ag, Ac, Aj, Ab⟩ := M.q5 6 rfl
   replace M := M.sub ((List.Sublist.slnil) |>.cons_cons _ |>.cons _ |>.cons _ |>.cons _ |>.cons _ |>.cons_cons _ |>.cons_cons _ |>.cons_cons _)
   exact bodyPost_ret (v := .tuple #[.agg #[.int .i64 a, .int .i64 b, .int .i64 c, .int .i64 dd, .int .i64 ee], .agg #[.slice B0 ts.length e0, .slice B1 ks.length e1, .slice B2 fs.length e2, .int .i64 tn, .bool st]]) (by simp [results, Tryz.results85, go_sem, Af, Ag, Ac, Aj, Ab, Ae, Ai, Ad, Ah, Aa]) rfl ⟨a, b, c, dd, ee, ts, ks, fs, tn, st, B0, B1, B2, e0, e1, e2, cs, rfl, hpo.out, ha1, ha2, hb1, hb2, hc1, hc2, by omega, by omega, hc, M⟩
end Go.Proofs.YtfjgelegojbmgaaGreat
