/- The program's waking and parking of one task, behind a pointer to the pool. The list of tasks shorter than a million. -/
import Derived.Test.YtfjgelegojbmgaaGreatRows
import Derived.WalkKit
import Derived.ProofKit
import Derived.OpenShut
import Derived.Carry
import Derived.Below
import Derived.ChangeOld
import Derived.Lib.SmallJoins
import Derived.Test.YtfjgelegojbmgaaGreatQB40
import Derived.Test.YtfjgelegojbmgaaGreatQB41
import Derived.Test.YtfjgelegojbmgaaGreatQB39
import Derived.Test.YtfjgelegojbmgaaGreatQB04
import Derived.Test.YtfjgelegojbmgaaGreatQB14
import Derived.Test.YtfjgelegojbmgaaGreatQB13
import Derived.Test.YtfjgelegojbmgaaGreatQB08

namespace Go.Proofs.YtfjgelegojbmgaaGreat
open Go.RowKit
set_option linter.unusedVariables false
open Go.ChangeShapes Go.WideShapes Go.ChangeAt Go.RowKit Go.Joins Go.Deep
theorem own : ownKnob Tryz.prog.godebug = none := by kernel_rfl
theorem laidOut : laidOutB Tryz.prog = true := by kernel_rfl
section
variable {H : Type} {enc : TypeId × Value → H} {P : Program} {w : World} {base : Nat} {spare : Nat → Bool} {held : Bool}
end
set_option maxRecDepth 100000
set_option maxHeartbeats 800000 in
theorem l6DrawWorker_any (B : Nat) (w : World) (g : Nat) (A : Option Addr) (len cap : Nat) (a b c d e : Int) (d0 : CurAt B w g A len cap) :
 Calls Tryz.prog 77 #[.pointer (some ⟨g, 0, none⟩), .agg #[.int .i64 a, .int .i64 b, .int .i64 c, .int .i64 d, .int .i64 e]] w (CGave (-1) 8 B w g A len cap) := by
 have hg := d0.lt
 go_enter Tryz.func77, Tryz.ntmps77
 go_wp2_with fail
 obtain ⟨cs0, hc, M⟩ := cur_start d0
 replace M : Sep [g] w (w.alloc (.cells #[.int .i64 a, .int .i64 b, .int .i64 c, .int .i64 d, .int .i64 e] 25)) [.blk (w.heap.size) 25 #[.int .i64 a, .int .i64 b, .int .i64 c, .int .i64 d, .int .i64 e], .blk g 109 cs0] := (M.alloc 25 #[.int .i64 a, .int .i64 b, .int .i64 c, .int .i64 d, .int .i64 e] (w.heap.size) rfl)
 generalize w.alloc (.cells #[.int .i64 a, .int .i64 b, .int .i64 c, .int .i64 d, .int .i64 e] 25) = W1 at M ⊢
 obtain ⟨tP, Ai, Ba, Ac, Bh, Ae, Bc, Af, Bf, Ah, Bg⟩ := M.f5 0 rfl
 go_wp2_with fail
 go_call (l1Once_any B _ g A len cap 16 (by omega) (by omega) (M.curAt 1 rfl d0 hc)) as r W2 ⟨bb, rfl, gg, d⟩
 clear tP Ai Ba Ac Bh Ae Bc Af Bf Ah Bg
 have MM := M.curMoved 1 rfl gg d
 clear M hc gg d
 obtain ⟨cs1, hc, M⟩ := MM
 simp only [List.set_cons_zero, List.set_cons_succ] at M
 cases bb
 ·obtain ⟨tP, Ai, Ac, Ae, Af, Ah⟩ := M.q5 0 rfl
  go_wp2_with fail
  obtain ⟨n0, hn0, hn3⟩ : ∃ n0 : Int, (if a < 8 then a else 8) = n0 ∧ n0 ≤ 8 := ⟨_, rfl, by split <;> omega⟩
  obtain ⟨n, hn, hn1, hn2⟩ : ∃ n : Int, (if n0 < 1 then 1 else n0) = n ∧ 1 ≤ n ∧ n ≤ 8 := ⟨_, rfl, by split <;> omega, by split <;> omega⟩
  replace hn0 := hide hn0
  replace hn := hide hn
  go_call (l1Min_v a 8 n0 hn0.out _) as r W8 ⟨rfl, rfl⟩
  go_wp2_with fail
  go_call (l1Max_v 1 n0 n hn.out _) as r W9 ⟨rfl, rfl⟩
  go_wp2_with fail
  go_call (l1Below_pos B _ g A len cap n hn1 (by omega) (M.curAt 1 rfl d0 hc)) as r W3 ⟨v, rfl, v1, v2, gg, d⟩
  clear tP Ai Ac Ae Af Ah
  have MM := M.curMoved 1 rfl gg d
  clear M hc gg d
  obtain ⟨cs2, hc, M⟩ := MM
  simp only [List.set_cons_zero, List.set_cons_succ] at M
  go_wp2
  go_ret
  exact ⟨v, rfl, by omega, by omega, M.grown1, M.curAt 1 rfl d0 hc⟩
 ·obtain ⟨tP, Ai, Ac, Ae, Af, Ah⟩ := M.q5 0 rfl
  go_wp2_with fail
  go_call (l1From_any B _ g A len cap (-1) 8 (by omega) (by omega) (by omega) (M.curAt 1 rfl d0 hc)) as r W3 ⟨v, rfl, v1, v2, gg, d⟩
  clear tP Ai Ac Ae Af Ah
  have MM := M.curMoved 1 rfl gg d
  clear M hc gg d
  obtain ⟨cs2, hc, M⟩ := MM
  simp only [List.set_cons_zero, List.set_cons_succ] at M
  go_wp2
  go_ret
  exact ⟨v, rfl, by omega, by omega, M.grown1, M.curAt 1 rfl d0 hc⟩
set_option maxHeartbeats 1600000 in
theorem drawTaken_any (B : Nat) (w : World) (A : Option Addr) (len cap : Nat) (hB : B ≤ w.heap.size) (hl : len ≤ 4096) (hby : Bytes w B A len) :
 Calls Tryz.prog 82 #[.slice A len cap] w fun r w' => ∃ (a b c d e : Int) (ts : List T7) (ks : List Int) (fs : List F2) (tn : Int) (st : Bool) (B0 B1 B2 : Option Addr) (e0 e1 e2 : Nat) (wk : Int), r = .returned (.tuple #[.agg #[.int .i64 a, .int .i64 b, .int .i64 c, .int .i64 d, .int .i64 e], .agg #[.slice B0 ts.length e0, .slice B1 ks.length e1, .slice B2 fs.length e2, .int .i64 tn, .bool st], .int .i64 wk]) ∧ ts.length ≤ 31 ∧ ks.length ≤ 31 ∧ fs.length ≤ 31 ∧ Sep [] w w' [rT ts.length B0 e0 ts, rK ks.length B1 e1 ks, rF fs.length B2 e2 fs] := by
 go_enter Tryz.func82, Tryz.ntmps82
 go_wp2_with fail
 have M := Sep.start w
 have N := M.al2 25 #[.int .i64 0, .int .i64 0, .int .i64 0, .int .i64 0, .int .i64 0] 30 #[.slice none 0 0, .slice none 0 0, .slice none 0 0, .int .i64 0, .bool false]
 clear M
 obtain ⟨aQ, aR, W1, e1, e2, e3, M⟩ := N
 rw [e3, e2, e1]
 clear e1 e2 e3
 obtain ⟨tQ, Ap, Aw, Aq, Ax, As, Av, At, Ay, Ar, Au⟩ := M.f5 1 rfl
 go_wp2_with fail
 clear tQ Ap Aw Aq Ax As Av At Ay Ar Au
 have hs1 := M.size
 have hby1 : Bytes W1 B A len := hby.keep fun b hb => M.below.block b (by omega)
 go_call (l1New_any B _ A len cap (by omega) hl hby1) as r W2 ⟨rfl, g1, d⟩
 obtain ⟨cs0, hc, N⟩ := cur_start d
 have N2 := sepCur g1 (Nat.le_refl _) N
 replace M := Sep.new M N2
 clear N N2 g1 hby1 hs1
 simp only [List.cons_append, List.nil_append] at M
 obtain ⟨g, hg⟩ : ∃ g, g = W1.heap.size := ⟨_, rfl⟩
 rw [← hg] at M d ⊢
 clear hg
 obtain ⟨tR, Ag, Al, Aa, Ak, Aj, An, Ab, Am, Ad, Ao⟩ := M.f5 1 rfl
 go_wp2_with fail
 go_call (l3DrawAny_any B _ g A len cap d) as r W3 ⟨a, b, c, dd, ee, ts, ks, fs, tn, st, B0, B1, B2, e0, e1, e2, n0, n1, n2, cs1, rfl, rfl, rfl, rfl, h0, h1, h2, hc2, g2⟩
 clear tR Ag Al Aa Ak Aj An Ab Am Ad Ao
 replace M := Sep.comp (ps := [.blk g 109 cs0]) M g2
 clear g2 hc d
 have hc := hc2
 clear hc2
 simp only [List.cons_append, List.nil_append] at M
 obtain ⟨tR, Ag, Al, Aa, Ak, Aj, An, Ab, Am, Ad, Ao⟩ := M.f5 4 rfl
 go_wp2_with fail
 clear tR Ag Al Aa Ak Aj An Ab Am Ad Ao
 have N := M.al2 25 #[.int .i64 a, .int .i64 b, .int .i64 c, .int .i64 dd, .int .i64 ee] 30 #[.slice B0 ts.length e0, .slice B1 ks.length e1, .slice B2 fs.length e2, .int .i64 tn, .bool st]
 clear M
 obtain ⟨aP, aY, W4, e1, e2, e3, M⟩ := N
 rw [e3, e2, e1]
 clear e1 e2 e3
 obtain ⟨tY, Bi, Bd, Be, Az, Bb⟩ := M.q5 0 rfl
 obtain ⟨tP, Ai, Ac, Ae, Af, Ah⟩ := M.q5 1 rfl
 go_wp2_with fail
 clear tY Bi Bd Be Az Bb tP Ai Ac Ae Af Ah
 refine wp_region_T (S := (fun w' => w'.cell? ⟨aY, 0, none⟩ = some (.slice B0 ts.length e0) ∧ w'.cell? ⟨aY, 1, none⟩ = some (.slice B1 ks.length e1) ∧ w'.cell? ⟨aY, 2, none⟩ = some (.slice B2 fs.length e2) ∧ w'.cell? ⟨aY, 3, none⟩ = some (.int .i64 tn) ∧ w'.cell? ⟨aY, 4, none⟩ = some (.bool st) ∧ w'.cell? ⟨aP, 0, none⟩ = some (.int .i64 a) ∧ w'.cell? ⟨aP, 1, none⟩ = some (.int .i64 b) ∧ w'.cell? ⟨aP, 2, none⟩ = some (.int .i64 c) ∧ w'.cell? ⟨aP, 3, none⟩ = some (.int .i64 dd) ∧ w'.cell? ⟨aP, 4, none⟩ = some (.int .i64 ee))) (ks := []) (by kernel_rfl) ⟨M.cell 0 0 rfl, M.cell 0 1 rfl, M.cell 0 2 rfl, M.cell 0 3 rfl, M.cell 0 4 rfl, M.cell 1 0 rfl, M.cell 1 1 rfl, M.cell 1 2 rfl, M.cell 1 3 rfl, M.cell 1 4 rfl⟩ (fun hHeld => ?_)
 replace M := M.drew
 generalize W4.drew = W5 at M hHeld ⊢
 refine tkL 0 ?v0u1 rfl ?hy0u1 hHeld ?_
 case hy0u1 => (intro w hSw; (try dsimp only at hSw); go_split_ands; go_simp; all_goals with_reducible rfl)
 try simp only [Act.put, List.setIfInBounds_toArray, List.set_cons_zero, List.set_cons_succ]
 refine tkL 1 ?v1u2 rfl ?hy1u2 hHeld ?_
 case hy1u2 => (intro w hSw; (try dsimp only at hSw); go_split_ands; go_simp; all_goals with_reducible rfl)
 try simp only [Act.put, List.setIfInBounds_toArray, List.set_cons_zero, List.set_cons_succ]
 refine tkY 2 ?v2u3 rfl ?hy2u3 (fun _ => hHeld) ?_
 case hy2u3 => (intro w; go_simp; all_goals with_reducible rfl)
 try simp only [Act.put, List.setIfInBounds_toArray, List.set_cons_zero, List.set_cons_succ]
 refine tkL 3 ?v3u4 rfl ?hy3u4 hHeld ?_
 case hy3u4 => (intro w hSw; (try dsimp only at hSw); go_split_ands; go_simp; all_goals with_reducible rfl)
 try simp only [Act.put, List.setIfInBounds_toArray, List.set_cons_zero, List.set_cons_succ]
 refine wpAnyT_callL (i := 4) rfl (by kernel_rfl) (fun K hK => ?_)
 go_simp
 refine Calls.mono (by with_reducible exact (l6DrawWorker_any B _ g A len cap a b c dd ee (M.curIn 5 rfl hc hB hl hby))) ?_
 rintro r W6 ⟨wk, rfl, wk1, wk2, gg, d⟩
 have MM := M.curGo 5 rfl gg d
 clear M hc gg d
 obtain ⟨cs2, hc, M⟩ := MM
 simp only [List.set_cons_zero, List.set_cons_succ] at M
 clear hHeld
 go_wp2_with fail
 refine hK.out _ _ ?_ (fun hHeld => ?_)
 ·exact ⟨M.cell 0 0 rfl, M.cell 0 1 rfl, M.cell 0 2 rfl, M.cell 0 3 rfl, M.cell 0 4 rfl, M.cell 1 0 rfl, M.cell 1 1 rfl, M.cell 1 2 rfl, M.cell 1 3 rfl, M.cell 1 4 rfl⟩
 clear hK K
 try simp only [Act.put, List.setIfInBounds_toArray, List.set_cons_zero, List.set_cons_succ]
 obtain ⟨tQ, Ap, Aw, Aq, Ax, As, Av, At, Ay, Ar, Au⟩ := M.f5 7 rfl
 refine wpAnyT_callL (i := 5) rfl (by kernel_rfl) (fun K hK => ?_)
 go_simp
 clear tQ Ap Aw Aq Ax As Av At Ay Ar Au
 have N := M.gset5 7 rfl (.int .i64 a) (.int .i64 b) (.int .i64 c) (.int .i64 dd) (.int .i64 ee)
 clear M
 obtain ⟨W7, eW, M⟩ := N
 rw [eW]
 clear eW
 simp only [List.set_cons_zero, List.set_cons_succ] at M
 clear hHeld
 refine hK.out _ _ ?_ (fun hHeld => ?_)
 ·exact ⟨M.cell 0 0 rfl, M.cell 0 1 rfl, M.cell 0 2 rfl, M.cell 0 3 rfl, M.cell 0 4 rfl, M.cell 1 0 rfl, M.cell 1 1 rfl, M.cell 1 2 rfl, M.cell 1 3 rfl, M.cell 1 4 rfl⟩
 clear hK K
 try simp only [Act.put, List.setIfInBounds_toArray, List.set_cons_zero, List.set_cons_succ]
 obtain ⟨tR, Ag, Al, Aa, Ak, Aj, An, Ab, Am, Ad, Ao⟩ := M.f5 6 rfl
 refine wpAnyT_callL (i := 6) rfl (by kernel_rfl) (fun K hK => ?_)
 go_simp
 clear tR Ag Al Aa Ak Aj An Ab Am Ad Ao
 have N := M.gset5 6 rfl (.slice B0 ts.length e0) (.slice B1 ks.length e1) (.slice B2 fs.length e2) (.int .i64 tn) (.bool st)
 clear M
 obtain ⟨W8, eW, M⟩ := N
 rw [eW]
 clear eW
 simp only [List.set_cons_zero, List.set_cons_succ] at M
 clear hHeld
 refine hK.out _ _ ?_ (fun hHeld => ?_)
 ·exact ⟨M.cell 0 0 rfl, M.cell 0 1 rfl, M.cell 0 2 rfl, M.cell 0 3 rfl, M.cell 0 4 rfl, M.cell 1 0 rfl, M.cell 1 1 rfl, M.cell 1 2 rfl, M.cell 1 3 rfl, M.cell 1 4 rfl⟩
 clear hK K
 try simp only [Act.put, List.setIfInBounds_toArray, List.set_cons_zero, List.set_cons_succ]
 refine tkY 7 ?v7u5 rfl ?hy7u5 (fun _ => hHeld) ?_
 case hy7u5 => (intro w; go_simp; all_goals with_reducible rfl)
 try simp only [Act.put, List.setIfInBounds_toArray, List.set_cons_zero, List.set_cons_succ]
 refine wpAnyT_done (by kernel_rfl) ?_ _
 go_wp2_with fail
 obtain ⟨tR, Ag, Aa, Aj, Ab, Ad⟩ := M.q5 6 rfl
 obtain ⟨tQ, Ap, Aq, As, At, Ar⟩ := M.q5 7 rfl
 exact bodyPost_ret (v := .tuple #[.agg #[.int .i64 a, .int .i64 b, .int .i64 c, .int .i64 dd, .int .i64 ee], .agg #[.slice B0 ts.length e0, .slice B1 ks.length e1, .slice B2 fs.length e2, .int .i64 tn, .bool st], .int .i64 wk]) (by simp [results, Tryz.results82, go_sem, Ap, Aq, As, At, Ar, Ag, Aa, Aj, Ab, Ad]) rfl ⟨a, b, c, dd, ee, ts, ks, fs, tn, st, B0, B1, B2, e0, e1, e2, wk, rfl, h0, h1, h2, (M.drop 2).take 3⟩
set_option maxRecDepth 100000
set_option maxHeartbeats 1600000 in
theorem drawSpawned_any (B : Nat) (w : World) (A : Option Addr) (len cap : Nat) (hB : B ≤ w.heap.size) (hl : len ≤ 4096) (hby : Bytes w B A len) :
 Calls Tryz.prog 31 #[.slice A len cap] w fun r w' => ∃ (a b c d e : Int) (ts : List T7) (ks : List Int) (fs : List F2) (tn : Int) (st : Bool) (B0 B1 B2 : Option Addr) (e0 e1 e2 : Nat) (wk lv : Int), r = .returned (.tuple #[.agg #[.int .i64 a, .int .i64 b, .int .i64 c, .int .i64 d, .int .i64 e], .agg #[.slice B0 ts.length e0, .slice B1 ks.length e1, .slice B2 fs.length e2, .int .i64 tn, .bool st], .int .i64 wk, .int .i64 lv]) ∧ ts.length ≤ 31 ∧ ks.length ≤ 31 ∧ fs.length ≤ 31 ∧ Sep [] w w' [rT ts.length B0 e0 ts, rK ks.length B1 e1 ks, rF fs.length B2 e2 fs] := by
 go_enter Tryz.func31, Tryz.ntmps31
 go_wp2_with fail
 have M := Sep.start w
 have N := M.al2 25 #[.int .i64 0, .int .i64 0, .int .i64 0, .int .i64 0, .int .i64 0] 30 #[.slice none 0 0, .slice none 0 0, .slice none 0 0, .int .i64 0, .bool false]
 clear M
 obtain ⟨aQ, aR, W1, e1, e2, e3, M⟩ := N
 rw [e3, e2, e1]
 clear e1 e2 e3
 obtain ⟨tQ, Ag, At, Af, Av, Ai, Ar, Aj, Aw, Ah, Ap⟩ := M.f5 1 rfl
 go_wp2_with fail
 clear tQ Ag At Af Av Ai Ar Aj Aw Ah Ap
 have hs1 := M.size
 have hby1 : Bytes W1 B A len := hby.keep fun b hb => M.below.block b (by omega)
 go_call (l1New_any B _ A len cap (by omega) hl hby1) as r W2 ⟨rfl, g1, d⟩
 obtain ⟨cs0, hc, N⟩ := cur_start d
 have N2 := sepCur g1 (Nat.le_refl _) N
 replace M := Sep.new M N2
 clear N N2 g1 hby1 hs1
 simp only [List.cons_append, List.nil_append] at M
 obtain ⟨g, hg⟩ : ∃ g, g = W1.heap.size := ⟨_, rfl⟩
 rw [← hg] at M d ⊢
 clear hg
 obtain ⟨tR, Ad, Al, Aa, Ak, Ae, An, Ab, Am, Ac, Ao⟩ := M.f5 1 rfl
 go_wp2_with fail
 go_call (l3DrawAny_any B _ g A len cap d) as r W3 ⟨a, b, c, dd, ee, ts, ks, fs, tn, st, B0, B1, B2, e0, e1, e2, n0, n1, n2, cs1, rfl, rfl, rfl, rfl, h0, h1, h2, hc2, g2⟩
 clear tR Ad Al Aa Ak Ae An Ab Am Ac Ao
 replace M := Sep.comp (ps := [.blk g 109 cs0]) M g2
 clear g2 hc d
 have hc := hc2
 clear hc2
 simp only [List.cons_append, List.nil_append] at M
 obtain ⟨tR, Ad, Al, Aa, Ak, Ae, An, Ab, Am, Ac, Ao⟩ := M.f5 4 rfl
 go_wp2_with fail
 clear tR Ad Al Aa Ak Ae An Ab Am Ac Ao
 have N := M.al2 25 #[.int .i64 a, .int .i64 b, .int .i64 c, .int .i64 dd, .int .i64 ee] 30 #[.slice B0 ts.length e0, .slice B1 ks.length e1, .slice B2 fs.length e2, .int .i64 tn, .bool st]
 clear M
 obtain ⟨aP, aY, W4, e1, e2, e3, M⟩ := N
 rw [e3, e2, e1]
 clear e1 e2 e3
 obtain ⟨tP, Ay, Aq, As, Au, Ax⟩ := M.q5 1 rfl
 go_wp2_with fail
 go_call (l6DrawWorker_any B _ g A len cap a b c dd ee (M.curIn 5 rfl hc hB hl hby)) as r W5 ⟨wk, rfl, wk1, wk2, gg, d⟩
 clear tP Ay Aq As Au Ax
 have MM := M.curGo 5 rfl gg d
 clear M hc gg d
 obtain ⟨cs2, hc, M⟩ := MM
 simp only [List.set_cons_zero, List.set_cons_succ] at M
 obtain ⟨tY, Bd, Bb, Bc, Az, Ba⟩ := M.q5 0 rfl
 obtain ⟨tP, Ay, Aq, As, Au, Ax⟩ := M.q5 1 rfl
 go_wp2_with fail
 clear tY Bd Bb Bc Az Ba tP Ay Aq As Au Ax
 refine wp_region_T (S := (fun w' => w'.cell? ⟨aY, 0, none⟩ = some (.slice B0 ts.length e0) ∧ w'.cell? ⟨aY, 1, none⟩ = some (.slice B1 ks.length e1) ∧ w'.cell? ⟨aY, 2, none⟩ = some (.slice B2 fs.length e2) ∧ w'.cell? ⟨aY, 3, none⟩ = some (.int .i64 tn) ∧ w'.cell? ⟨aY, 4, none⟩ = some (.bool st) ∧ w'.cell? ⟨aP, 0, none⟩ = some (.int .i64 a) ∧ w'.cell? ⟨aP, 1, none⟩ = some (.int .i64 b) ∧ w'.cell? ⟨aP, 2, none⟩ = some (.int .i64 c) ∧ w'.cell? ⟨aP, 3, none⟩ = some (.int .i64 dd) ∧ w'.cell? ⟨aP, 4, none⟩ = some (.int .i64 ee))) (ks := []) (by kernel_rfl) ⟨M.cell 0 0 rfl, M.cell 0 1 rfl, M.cell 0 2 rfl, M.cell 0 3 rfl, M.cell 0 4 rfl, M.cell 1 0 rfl, M.cell 1 1 rfl, M.cell 1 2 rfl, M.cell 1 3 rfl, M.cell 1 4 rfl⟩ (fun hHeld => ?_)
 replace M := M.drew
 generalize W5.drew = W6 at M hHeld ⊢
 refine tkL 0 ?v0u6 rfl ?hy0u6 hHeld ?_
 case hy0u6 => (intro w hSw; (try dsimp only at hSw); go_split_ands; go_simp; all_goals with_reducible rfl)
 try simp only [Act.put, List.setIfInBounds_toArray, List.set_cons_zero, List.set_cons_succ]
 refine tkL 1 ?v1u7 rfl ?hy1u7 hHeld ?_
 case hy1u7 => (intro w hSw; (try dsimp only at hSw); go_split_ands; go_simp; all_goals with_reducible rfl)
 try simp only [Act.put, List.setIfInBounds_toArray, List.set_cons_zero, List.set_cons_succ]
 refine tkY 2 ?v2u8 rfl ?hy2u8 (fun _ => hHeld) ?_
 case hy2u8 => (intro w; go_simp; all_goals with_reducible rfl)
 try simp only [Act.put, List.setIfInBounds_toArray, List.set_cons_zero, List.set_cons_succ]
 refine tkY 3 ?v3u9 rfl ?hy3u9 (fun _ => hHeld) ?_
 case hy3u9 => (intro w; go_simp; all_goals with_reducible rfl)
 try simp only [Act.put, List.setIfInBounds_toArray, List.set_cons_zero, List.set_cons_succ]
 refine wpAnyT_callL (i := 4) rfl (by kernel_rfl) (fun K hK => ?_)
 go_simp
 refine Calls.mono (by with_reducible exact (l1From_any B _ g A len cap (-1) 3 (by omega) (by omega) (by omega) (M.curIn 5 rfl hc hB hl hby))) ?_
 rintro r W7 ⟨lv, rfl, lv1, lv2, gg, d⟩
 have MM := M.curGo 5 rfl gg d
 clear M hc gg d
 obtain ⟨cs3, hc, M⟩ := MM
 simp only [List.set_cons_zero, List.set_cons_succ] at M
 clear hHeld
 go_wp2_with fail
 refine hK.out _ _ ?_ (fun hHeld => ?_)
 ·exact ⟨M.cell 0 0 rfl, M.cell 0 1 rfl, M.cell 0 2 rfl, M.cell 0 3 rfl, M.cell 0 4 rfl, M.cell 1 0 rfl, M.cell 1 1 rfl, M.cell 1 2 rfl, M.cell 1 3 rfl, M.cell 1 4 rfl⟩
 clear hK K
 try simp only [Act.put, List.setIfInBounds_toArray, List.set_cons_zero, List.set_cons_succ]
 obtain ⟨tQ, Ag, At, Af, Av, Ai, Ar, Aj, Aw, Ah, Ap⟩ := M.f5 7 rfl
 refine wpAnyT_callL (i := 5) rfl (by kernel_rfl) (fun K hK => ?_)
 go_simp
 clear tQ Ag At Af Av Ai Ar Aj Aw Ah Ap
 have N := M.gset5 7 rfl (.int .i64 a) (.int .i64 b) (.int .i64 c) (.int .i64 dd) (.int .i64 ee)
 clear M
 obtain ⟨W8, eW, M⟩ := N
 rw [eW]
 clear eW
 simp only [List.set_cons_zero, List.set_cons_succ] at M
 clear hHeld
 refine hK.out _ _ ?_ (fun hHeld => ?_)
 ·exact ⟨M.cell 0 0 rfl, M.cell 0 1 rfl, M.cell 0 2 rfl, M.cell 0 3 rfl, M.cell 0 4 rfl, M.cell 1 0 rfl, M.cell 1 1 rfl, M.cell 1 2 rfl, M.cell 1 3 rfl, M.cell 1 4 rfl⟩
 clear hK K
 try simp only [Act.put, List.setIfInBounds_toArray, List.set_cons_zero, List.set_cons_succ]
 obtain ⟨tR, Ad, Al, Aa, Ak, Ae, An, Ab, Am, Ac, Ao⟩ := M.f5 6 rfl
 refine wpAnyT_callL (i := 6) rfl (by kernel_rfl) (fun K hK => ?_)
 go_simp
 clear tR Ad Al Aa Ak Ae An Ab Am Ac Ao
 have N := M.gset5 6 rfl (.slice B0 ts.length e0) (.slice B1 ks.length e1) (.slice B2 fs.length e2) (.int .i64 tn) (.bool st)
 clear M
 obtain ⟨W9, eW, M⟩ := N
 rw [eW]
 clear eW
 simp only [List.set_cons_zero, List.set_cons_succ] at M
 clear hHeld
 refine hK.out _ _ ?_ (fun hHeld => ?_)
 ·exact ⟨M.cell 0 0 rfl, M.cell 0 1 rfl, M.cell 0 2 rfl, M.cell 0 3 rfl, M.cell 0 4 rfl, M.cell 1 0 rfl, M.cell 1 1 rfl, M.cell 1 2 rfl, M.cell 1 3 rfl, M.cell 1 4 rfl⟩
 clear hK K
 try simp only [Act.put, List.setIfInBounds_toArray, List.set_cons_zero, List.set_cons_succ]
 refine tkY 7 ?v7u10 rfl ?hy7u10 (fun _ => hHeld) ?_
 case hy7u10 => (intro w; go_simp; all_goals with_reducible rfl)
 try simp only [Act.put, List.setIfInBounds_toArray, List.set_cons_zero, List.set_cons_succ]
 refine tkY 8 ?v8u11 rfl ?hy8u11 (fun _ => hHeld) ?_
 case hy8u11 => (intro w; go_simp; all_goals with_reducible rfl)
 try simp only [Act.put, List.setIfInBounds_toArray, List.set_cons_zero, List.set_cons_succ]
 refine wpAnyT_done (by kernel_rfl) ?_ _
 go_wp2_with fail
 obtain ⟨tR, Ad, Aa, Ae, Ab, Ac⟩ := M.q5 6 rfl
 obtain ⟨tQ, Ag, Af, Ai, Aj, Ah⟩ := M.q5 7 rfl
 exact bodyPost_ret (v := .tuple #[.agg #[.int .i64 a, .int .i64 b, .int .i64 c, .int .i64 dd, .int .i64 ee], .agg #[.slice B0 ts.length e0, .slice B1 ks.length e1, .slice B2 fs.length e2, .int .i64 tn, .bool st], .int .i64 wk, .int .i64 lv]) (by simp [results, Tryz.results31, go_sem, Ag, Af, Ai, Aj, Ah, Ad, Aa, Ae, Ab, Ac]) rfl ⟨a, b, c, dd, ee, ts, ks, fs, tn, st, B0, B1, B2, e0, e1, e2, wk, lv, rfl, h0, h1, h2, (M.drop 2).take 3⟩
set_option maxHeartbeats 1600000 in
theorem drawEnded_any (B : Nat) (w : World) (A : Option Addr) (len cap : Nat) (hB : B ≤ w.heap.size) (hl : len ≤ 4096) (hby : Bytes w B A len) :
 Calls Tryz.prog 34 #[.slice A len cap] w fun r w' => ∃ (a b c d e : Int) (ts : List T7) (ks : List Int) (fs : List F2) (tn : Int) (st : Bool) (B0 B1 B2 : Option Addr) (e0 e1 e2 : Nat) (wk v9 : Int), r = .returned (.tuple #[.agg #[.int .i64 a, .int .i64 b, .int .i64 c, .int .i64 d, .int .i64 e], .agg #[.slice B0 ts.length e0, .slice B1 ks.length e1, .slice B2 fs.length e2, .int .i64 tn, .bool st], .int .i64 wk, .int .i64 v9]) ∧ ts.length ≤ 31 ∧ ks.length ≤ 31 ∧ fs.length ≤ 31 ∧ Sep [] w w' [rT ts.length B0 e0 ts, rK ks.length B1 e1 ks, rF fs.length B2 e2 fs] := by
 go_enter Tryz.func34, Tryz.ntmps34
 go_wp2_with fail
 have M := Sep.start w
 have N := M.al2 25 #[.int .i64 0, .int .i64 0, .int .i64 0, .int .i64 0, .int .i64 0] 30 #[.slice none 0 0, .slice none 0 0, .slice none 0 0, .int .i64 0, .bool false]
 clear M
 obtain ⟨aQ, aR, W1, e1, e2, e3, M⟩ := N
 rw [e3, e2, e1]
 clear e1 e2 e3
 obtain ⟨tQ, Ag, At, Af, Av, Ai, Ar, Aj, Aw, Ah, Ap⟩ := M.f5 1 rfl
 go_wp2_with fail
 clear tQ Ag At Af Av Ai Ar Aj Aw Ah Ap
 have hs1 := M.size
 have hby1 : Bytes W1 B A len := hby.keep fun b hb => M.below.block b (by omega)
 go_call (l1New_any B _ A len cap (by omega) hl hby1) as r W2 ⟨rfl, g1, d⟩
 obtain ⟨cs0, hc, N⟩ := cur_start d
 have N2 := sepCur g1 (Nat.le_refl _) N
 replace M := Sep.new M N2
 clear N N2 g1 hby1 hs1
 simp only [List.cons_append, List.nil_append] at M
 obtain ⟨g, hg⟩ : ∃ g, g = W1.heap.size := ⟨_, rfl⟩
 rw [← hg] at M d ⊢
 clear hg
 obtain ⟨tR, Ad, Al, Aa, Ak, Ae, An, Ab, Am, Ac, Ao⟩ := M.f5 1 rfl
 go_wp2_with fail
 have hs2 := M.size
 have hby2 : Bytes W2 B A len := hby.keep fun b hb => M.below.block b (by omega)
 go_call (drawTaken_any B _ A len cap (by omega) hl hby2) as r W3 ⟨a, b, c, dd, ee, ts, ks, fs, tn, st, B0, B1, B2, e0, e1, e2, wk, rfl, h0, h1, h2, g2⟩
 clear tR Ad Al Aa Ak Ae An Ab Am Ac Ao
 replace M := Sep.new M g2
 clear g2 hby2 hs2 d
 simp only [List.cons_append, List.nil_append] at M
 obtain ⟨tR, Ad, Al, Aa, Ak, Ae, An, Ab, Am, Ac, Ao⟩ := M.f5 4 rfl
 go_wp2_with fail
 clear tR Ad Al Aa Ak Ae An Ab Am Ac Ao
 have N := M.al2 25 #[.int .i64 a, .int .i64 b, .int .i64 c, .int .i64 dd, .int .i64 ee] 30 #[.slice B0 ts.length e0, .slice B1 ks.length e1, .slice B2 fs.length e2, .int .i64 tn, .bool st]
 clear M
 obtain ⟨aP, aY, W4, e1, e2, e3, M⟩ := N
 rw [e3, e2, e1]
 clear e1 e2 e3
 obtain ⟨tP, Ay, Aq, As, Au, Ax⟩ := M.q5 1 rfl
 go_wp2_with fail
 go_call (l1Once_any B _ g A len cap 10 (by omega) (by omega) (M.curIn 5 rfl hc hB hl hby)) as r W5 ⟨bb, rfl, gg, d⟩
 clear tP Ay Aq As Au Ax
 have MM := M.curGo 5 rfl gg d
 clear M hc gg d
 obtain ⟨cs1, hc, M⟩ := MM
 simp only [List.set_cons_zero, List.set_cons_succ] at M
 cases bb
 ·obtain ⟨tY, Bd, Bb, Bc, Az, Ba⟩ := M.q5 0 rfl
  obtain ⟨tP, Ay, Aq, As, Au, Ax⟩ := M.q5 1 rfl
  go_wp2_with fail
  clear tY Bd Bb Bc Az Ba tP Ay Aq As Au Ax
  refine wp_region_T (S := (fun w' => w'.cell? ⟨aY, 0, none⟩ = some (.slice B0 ts.length e0) ∧ w'.cell? ⟨aY, 1, none⟩ = some (.slice B1 ks.length e1) ∧ w'.cell? ⟨aY, 2, none⟩ = some (.slice B2 fs.length e2) ∧ w'.cell? ⟨aY, 3, none⟩ = some (.int .i64 tn) ∧ w'.cell? ⟨aY, 4, none⟩ = some (.bool st) ∧ w'.cell? ⟨aP, 0, none⟩ = some (.int .i64 a) ∧ w'.cell? ⟨aP, 1, none⟩ = some (.int .i64 b) ∧ w'.cell? ⟨aP, 2, none⟩ = some (.int .i64 c) ∧ w'.cell? ⟨aP, 3, none⟩ = some (.int .i64 dd) ∧ w'.cell? ⟨aP, 4, none⟩ = some (.int .i64 ee))) (ks := []) (by kernel_rfl) ⟨M.cell 0 0 rfl, M.cell 0 1 rfl, M.cell 0 2 rfl, M.cell 0 3 rfl, M.cell 0 4 rfl, M.cell 1 0 rfl, M.cell 1 1 rfl, M.cell 1 2 rfl, M.cell 1 3 rfl, M.cell 1 4 rfl⟩ (fun hHeld => ?_)
  replace M := M.drew
  generalize W5.drew = W6 at M hHeld ⊢
  refine tkL 0 ?v0u12 rfl ?hy0u12 hHeld ?_
  case hy0u12 => (intro w hSw; (try dsimp only at hSw); go_split_ands; go_simp; all_goals with_reducible rfl)
  try simp only [Act.put, List.setIfInBounds_toArray, List.set_cons_zero, List.set_cons_succ]
  refine tkL 1 ?v1u13 rfl ?hy1u13 hHeld ?_
  case hy1u13 => (intro w hSw; (try dsimp only at hSw); go_split_ands; go_simp; all_goals with_reducible rfl)
  try simp only [Act.put, List.setIfInBounds_toArray, List.set_cons_zero, List.set_cons_succ]
  refine tkY 2 ?v2u14 rfl ?hy2u14 (fun _ => hHeld) ?_
  case hy2u14 => (intro w; go_simp; all_goals with_reducible rfl)
  try simp only [Act.put, List.setIfInBounds_toArray, List.set_cons_zero, List.set_cons_succ]
  refine tkY 3 ?v3u15 rfl ?hy3u15 (fun _ => hHeld) ?_
  case hy3u15 => (intro w; go_simp; all_goals with_reducible rfl)
  try simp only [Act.put, List.setIfInBounds_toArray, List.set_cons_zero, List.set_cons_succ]
  refine wpAnyT_callL (i := 4) rfl (by kernel_rfl) (fun K hK => ?_)
  go_simp
  refine Calls.mono (by with_reducible exact (l1Below_pos B _ g A len cap 9 (by omega) (by omega) (M.curIn 5 rfl hc hB hl hby))) ?_
  rintro r W7 ⟨v9, rfl, v1, v2, gg, d⟩
  have MM := M.curGo 5 rfl gg d
  clear M hc gg d
  obtain ⟨cs2, hc, M⟩ := MM
  simp only [List.set_cons_zero, List.set_cons_succ] at M
  clear hHeld
  go_wp2_with fail
  refine hK.out _ _ ?_ (fun hHeld => ?_)
  ·exact ⟨M.cell 0 0 rfl, M.cell 0 1 rfl, M.cell 0 2 rfl, M.cell 0 3 rfl, M.cell 0 4 rfl, M.cell 1 0 rfl, M.cell 1 1 rfl, M.cell 1 2 rfl, M.cell 1 3 rfl, M.cell 1 4 rfl⟩
  clear hK K
  try simp only [Act.put, List.setIfInBounds_toArray, List.set_cons_zero, List.set_cons_succ]
  obtain ⟨tQ, Ag, At, Af, Av, Ai, Ar, Aj, Aw, Ah, Ap⟩ := M.f5 7 rfl
  refine wpAnyT_callL (i := 5) rfl (by kernel_rfl) (fun K hK => ?_)
  go_simp
  clear tQ Ag At Af Av Ai Ar Aj Aw Ah Ap
  have N := M.gset5 7 rfl (.int .i64 a) (.int .i64 b) (.int .i64 c) (.int .i64 dd) (.int .i64 ee)
  clear M
  obtain ⟨W8, eW, M⟩ := N
  rw [eW]
  clear eW
  simp only [List.set_cons_zero, List.set_cons_succ] at M
  clear hHeld
  refine hK.out _ _ ?_ (fun hHeld => ?_)
  ·exact ⟨M.cell 0 0 rfl, M.cell 0 1 rfl, M.cell 0 2 rfl, M.cell 0 3 rfl, M.cell 0 4 rfl, M.cell 1 0 rfl, M.cell 1 1 rfl, M.cell 1 2 rfl, M.cell 1 3 rfl, M.cell 1 4 rfl⟩
  clear hK K
  try simp only [Act.put, List.setIfInBounds_toArray, List.set_cons_zero, List.set_cons_succ]
  obtain ⟨tR, Ad, Al, Aa, Ak, Ae, An, Ab, Am, Ac, Ao⟩ := M.f5 6 rfl
  refine wpAnyT_callL (i := 6) rfl (by kernel_rfl) (fun K hK => ?_)
  go_simp
  clear tR Ad Al Aa Ak Ae An Ab Am Ac Ao
  have N := M.gset5 6 rfl (.slice B0 ts.length e0) (.slice B1 ks.length e1) (.slice B2 fs.length e2) (.int .i64 tn) (.bool st)
  clear M
  obtain ⟨W9, eW, M⟩ := N
  rw [eW]
  clear eW
  simp only [List.set_cons_zero, List.set_cons_succ] at M
  clear hHeld
  refine hK.out _ _ ?_ (fun hHeld => ?_)
  ·exact ⟨M.cell 0 0 rfl, M.cell 0 1 rfl, M.cell 0 2 rfl, M.cell 0 3 rfl, M.cell 0 4 rfl, M.cell 1 0 rfl, M.cell 1 1 rfl, M.cell 1 2 rfl, M.cell 1 3 rfl, M.cell 1 4 rfl⟩
  clear hK K
  try simp only [Act.put, List.setIfInBounds_toArray, List.set_cons_zero, List.set_cons_succ]
  refine tkY 7 ?v7u16 rfl ?hy7u16 (fun _ => hHeld) ?_
  case hy7u16 => (intro w; go_simp; all_goals with_reducible rfl)
  try simp only [Act.put, List.setIfInBounds_toArray, List.set_cons_zero, List.set_cons_succ]
  refine tkY 8 ?v8u17 rfl ?hy8u17 (fun _ => hHeld) ?_
  case hy8u17 => (intro w; go_simp; all_goals with_reducible rfl)
  try simp only [Act.put, List.setIfInBounds_toArray, List.set_cons_zero, List.set_cons_succ]
  refine wpAnyT_done (by kernel_rfl) ?_ _
  go_wp2_with fail
  obtain ⟨tR, Ad, Aa, Ae, Ab, Ac⟩ := M.q5 6 rfl
  obtain ⟨tQ, Ag, Af, Ai, Aj, Ah⟩ := M.q5 7 rfl
  exact bodyPost_ret (v := .tuple #[.agg #[.int .i64 a, .int .i64 b, .int .i64 c, .int .i64 dd, .int .i64 ee], .agg #[.slice B0 ts.length e0, .slice B1 ks.length e1, .slice B2 fs.length e2, .int .i64 tn, .bool st], .int .i64 wk, .int .i64 v9]) (by simp [results, Tryz.results34, go_sem, Ag, Af, Ai, Aj, Ah, Ad, Aa, Ae, Ab, Ac]) rfl ⟨a, b, c, dd, ee, ts, ks, fs, tn, st, B0, B1, B2, e0, e1, e2, wk, v9, rfl, h0, h1, h2, (M.drop 2).take 3⟩
 ·obtain ⟨tY, Bd, Bb, Bc, Az, Ba⟩ := M.q5 0 rfl
  obtain ⟨tP, Ay, Aq, As, Au, Ax⟩ := M.q5 1 rfl
  go_wp2_with fail
  clear tY Bd Bb Bc Az Ba tP Ay Aq As Au Ax
  refine wp_region_T (S := (fun w' => w'.cell? ⟨aY, 0, none⟩ = some (.slice B0 ts.length e0) ∧ w'.cell? ⟨aY, 1, none⟩ = some (.slice B1 ks.length e1) ∧ w'.cell? ⟨aY, 2, none⟩ = some (.slice B2 fs.length e2) ∧ w'.cell? ⟨aY, 3, none⟩ = some (.int .i64 tn) ∧ w'.cell? ⟨aY, 4, none⟩ = some (.bool st) ∧ w'.cell? ⟨aP, 0, none⟩ = some (.int .i64 a) ∧ w'.cell? ⟨aP, 1, none⟩ = some (.int .i64 b) ∧ w'.cell? ⟨aP, 2, none⟩ = some (.int .i64 c) ∧ w'.cell? ⟨aP, 3, none⟩ = some (.int .i64 dd) ∧ w'.cell? ⟨aP, 4, none⟩ = some (.int .i64 ee))) (ks := []) (by kernel_rfl) ⟨M.cell 0 0 rfl, M.cell 0 1 rfl, M.cell 0 2 rfl, M.cell 0 3 rfl, M.cell 0 4 rfl, M.cell 1 0 rfl, M.cell 1 1 rfl, M.cell 1 2 rfl, M.cell 1 3 rfl, M.cell 1 4 rfl⟩ (fun hHeld => ?_)
  replace M := M.drew
  generalize W5.drew = W10 at M hHeld ⊢
  refine tkL 0 ?v0u18 rfl ?hy0u18 hHeld ?_
  case hy0u18 => (intro w hSw; (try dsimp only at hSw); go_split_ands; go_simp; all_goals with_reducible rfl)
  try simp only [Act.put, List.setIfInBounds_toArray, List.set_cons_zero, List.set_cons_succ]
  refine tkL 1 ?v1u19 rfl ?hy1u19 hHeld ?_
  case hy1u19 => (intro w hSw; (try dsimp only at hSw); go_split_ands; go_simp; all_goals with_reducible rfl)
  try simp only [Act.put, List.setIfInBounds_toArray, List.set_cons_zero, List.set_cons_succ]
  refine tkY 2 ?v2u20 rfl ?hy2u20 (fun _ => hHeld) ?_
  case hy2u20 => (intro w; go_simp; all_goals with_reducible rfl)
  try simp only [Act.put, List.setIfInBounds_toArray, List.set_cons_zero, List.set_cons_succ]
  refine tkY 3 ?v3u21 rfl ?hy3u21 (fun _ => hHeld) ?_
  case hy3u21 => (intro w; go_simp; all_goals with_reducible rfl)
  try simp only [Act.put, List.setIfInBounds_toArray, List.set_cons_zero, List.set_cons_succ]
  refine wpAnyT_callL (i := 4) rfl (by kernel_rfl) (fun K hK => ?_)
  go_simp
  refine Calls.mono (by with_reducible exact (l1Num_any B _ g A len cap 9999 (by omega) (by omega) (M.curIn 5 rfl hc hB hl hby))) ?_
  rintro r W11 ⟨v9, rfl, v1, gg, d⟩
  have MM := M.curGo 5 rfl gg d
  clear M hc gg d
  obtain ⟨cs2, hc, M⟩ := MM
  simp only [List.set_cons_zero, List.set_cons_succ] at M
  clear hHeld
  go_wp2_with fail
  refine hK.out _ _ ?_ (fun hHeld => ?_)
  ·exact ⟨M.cell 0 0 rfl, M.cell 0 1 rfl, M.cell 0 2 rfl, M.cell 0 3 rfl, M.cell 0 4 rfl, M.cell 1 0 rfl, M.cell 1 1 rfl, M.cell 1 2 rfl, M.cell 1 3 rfl, M.cell 1 4 rfl⟩
  clear hK K
  try simp only [Act.put, List.setIfInBounds_toArray, List.set_cons_zero, List.set_cons_succ]
  obtain ⟨tQ, Ag, At, Af, Av, Ai, Ar, Aj, Aw, Ah, Ap⟩ := M.f5 7 rfl
  refine wpAnyT_callL (i := 5) rfl (by kernel_rfl) (fun K hK => ?_)
  go_simp
  clear tQ Ag At Af Av Ai Ar Aj Aw Ah Ap
  have N := M.gset5 7 rfl (.int .i64 a) (.int .i64 b) (.int .i64 c) (.int .i64 dd) (.int .i64 ee)
  clear M
  obtain ⟨W12, eW, M⟩ := N
  rw [eW]
  clear eW
  simp only [List.set_cons_zero, List.set_cons_succ] at M
  clear hHeld
  refine hK.out _ _ ?_ (fun hHeld => ?_)
  ·exact ⟨M.cell 0 0 rfl, M.cell 0 1 rfl, M.cell 0 2 rfl, M.cell 0 3 rfl, M.cell 0 4 rfl, M.cell 1 0 rfl, M.cell 1 1 rfl, M.cell 1 2 rfl, M.cell 1 3 rfl, M.cell 1 4 rfl⟩
  clear hK K
  try simp only [Act.put, List.setIfInBounds_toArray, List.set_cons_zero, List.set_cons_succ]
  obtain ⟨tR, Ad, Al, Aa, Ak, Ae, An, Ab, Am, Ac, Ao⟩ := M.f5 6 rfl
  refine wpAnyT_callL (i := 6) rfl (by kernel_rfl) (fun K hK => ?_)
  go_simp
  clear tR Ad Al Aa Ak Ae An Ab Am Ac Ao
  have N := M.gset5 6 rfl (.slice B0 ts.length e0) (.slice B1 ks.length e1) (.slice B2 fs.length e2) (.int .i64 tn) (.bool st)
  clear M
  obtain ⟨W13, eW, M⟩ := N
  rw [eW]
  clear eW
  simp only [List.set_cons_zero, List.set_cons_succ] at M
  clear hHeld
  refine hK.out _ _ ?_ (fun hHeld => ?_)
  ·exact ⟨M.cell 0 0 rfl, M.cell 0 1 rfl, M.cell 0 2 rfl, M.cell 0 3 rfl, M.cell 0 4 rfl, M.cell 1 0 rfl, M.cell 1 1 rfl, M.cell 1 2 rfl, M.cell 1 3 rfl, M.cell 1 4 rfl⟩
  clear hK K
  try simp only [Act.put, List.setIfInBounds_toArray, List.set_cons_zero, List.set_cons_succ]
  refine tkY 7 ?v7u22 rfl ?hy7u22 (fun _ => hHeld) ?_
  case hy7u22 => (intro w; go_simp; all_goals with_reducible rfl)
  try simp only [Act.put, List.setIfInBounds_toArray, List.set_cons_zero, List.set_cons_succ]
  refine tkY 8 ?v8u23 rfl ?hy8u23 (fun _ => hHeld) ?_
  case hy8u23 => (intro w; go_simp; all_goals with_reducible rfl)
  try simp only [Act.put, List.setIfInBounds_toArray, List.set_cons_zero, List.set_cons_succ]
  refine wpAnyT_done (by kernel_rfl) ?_ _
  go_wp2_with fail
  obtain ⟨tR, Ad, Aa, Ae, Ab, Ac⟩ := M.q5 6 rfl
  obtain ⟨tQ, Ag, Af, Ai, Aj, Ah⟩ := M.q5 7 rfl
  exact bodyPost_ret (v := .tuple #[.agg #[.int .i64 a, .int .i64 b, .int .i64 c, .int .i64 dd, .int .i64 ee], .agg #[.slice B0 ts.length e0, .slice B1 ks.length e1, .slice B2 fs.length e2, .int .i64 tn, .bool st], .int .i64 wk, .int .i64 v9]) (by simp [results, Tryz.results34, go_sem, Ag, Af, Ai, Aj, Ah, Ad, Aa, Ae, Ab, Ac]) rfl ⟨a, b, c, dd, ee, ts, ks, fs, tn, st, B0, B1, B2, e0, e1, e2, wk, v9, rfl, h0, h1, h2, (M.drop 2).take 3⟩
theorem Sep.rot {S : List Nat} {w W : World} {r : Res} {rs : List Res} (h : Sep S w W (r :: rs)) : Sep S w W (rs ++ [r]) := h.perm (List.perm_append_comm (l₁ := [r]) (l₂ := rs))
/-- A pool and an answer, part by part. -/
def GaveA (us : List T7) (ks : List Int) (fs : List F2) (tn : Int) (st : Bool) (rp ou : Int) (w : World) (r : Ending) (w' : World) : Prop :=
 ∃ (B0 B1 B2 : Option Addr) (d0 d1 d2 : Nat), r = .returned (.tuple #[.agg #[.slice B0 us.length d0, .slice B1 ks.length d1, .slice B2 fs.length d2, .int .i64 tn, .bool st], .agg #[.int .i64 rp, .int .i64 ou]]) ∧ Sep [] w w' [rT us.length B0 d0 us, rK ks.length B1 d1 ks, rF fs.length B2 d2 fs]
set_option maxRecDepth 100000
def isInB (ts : List T7) (id s : Int) : Bool := btw id 0 ((ts.length : Int) - 1) && ((taskAt ts id).s == s)
def canB (ts : List T7) (id v tn : Int) : Bool := isInB ts id 3 && (btw v 0 9999 && decide (tn < 1000000))
theorem isInB_of {ts : List T7} {k : Nat} {x : T7} (h : ts[k]? = some x) (s : Int) : isInB ts k s = (x.s == s) := by
 have hk : k < ts.length := by
  rcases Nat.lt_or_ge k ts.length with h1 | h1
  ·exact h1
  ·rw [List.getElem?_eq_none h1] at h; cases h
 unfold isInB
 rw [taskAt_of h]
 have : btw (k : Int) 0 ((ts.length : Int) - 1) = true := by simp [btw]; omega
 rw [this, Bool.true_and]
set_option maxHeartbeats 400000 in
theorem has_any (ts : List T7) (A0 A1 A2 : Option Addr) (c0 n1 c1 n2 c2 : Nat) (tn : Int) (st : Bool) (g : Nat) (id : Int) (w : World) (hlen : ts.length ≤ 1048576) (hg : Blk w g 30 #[.slice A0 ts.length c0, .slice A1 n1 c1, .slice A2 n2 c2, .int .i64 tn, .bool st]) :
 Calls Tryz.prog 129 #[.pointer (some ⟨g, 0, none⟩), .int .i64 id] w fun r w' => r = .returned (.bool (btw id 0 ((ts.length : Int) - 1))) ∧ w = w' := by
 have H := hide hg
 clear hg
 go_enter Tryz.func129, Tryz.ntmps129
 go_wp2_with fail
 go_call (size_any ts _ A1 A2 c0 n1 c1 n2 c2 tn st g _ H.out) as r W1 ⟨rfl, rfl⟩
 go_wp2_with fail
 go_call (between_any _ _ _ _) as r W2 ⟨rfl, rfl⟩
 go_wp2_with fail
 go_ret
 exact ⟨rfl, rfl⟩
set_option maxHeartbeats 2000000 in
theorem isIn_any (ts : List T7) (A0 A1 A2 : Option Addr) (c0 n1 c1 n2 c2 : Nat) (tn : Int) (st : Bool) (g : Nat) (id s : Int) (w : World) (hlen : ts.length ≤ 1048576) (hg : Blk w g 30 #[.slice A0 ts.length c0, .slice A1 n1 c1, .slice A2 n2 c2, .int .i64 tn, .bool st]) (h : Row w A0 (tcells ts)) :
 Calls Tryz.prog 106 #[.pointer (some ⟨g, 0, none⟩), .int .i64 id, .int .i64 s] w fun r w' => r = .returned (.bool (isInB ts id s)) ∧ Below w.heap.size w w' := by
 have H := hide (⟨h, hg⟩ : _ ∧ _)
 have q0 : w.cell? ⟨g, 0, none⟩ = some (.slice A0 ts.length c0) := hg.cell 0
 by_cases hb : btw id 0 ((ts.length : Int) - 1) = true
 ·obtain ⟨k, rfl⟩ : ∃ k : Nat, id = k := ⟨id.toNat, by simp [btw] at hb; omega⟩
  have hk : k < ts.length := by simp [btw] at hb; omega
  obtain ⟨b, off, s', l, o, wt, on, v, t, rfl, _, he, hbl, y0, y1, y2, y3, y4, y5, y6⟩ := h.ts_at hk
  rw [isInB_of he]
  have hk1 : (k : Int) < (ts.length : Int) := by omega
  have hk0 : (0 : Int) ≤ (k : Int) := by omega
  clear he h hg
  go_enter Tryz.func106, Tryz.ntmps106
  go_wp2_with fail
  go_call (has_any ts _ A1 A2 c0 n1 c1 n2 c2 tn st g _ _ hlen H.out.2) as r W1 ⟨rfl, rfl⟩
  rw [hb]
  go_wp2_with fail
  go_ret
  exact ⟨rfl, Below.refl _ _⟩
 ·have hb' : btw id 0 ((ts.length : Int) - 1) = false := by simpa using hb
  have e : isInB ts id s = false := by unfold isInB; rw [hb']; rfl
  rw [e]
  clear h hg hb
  go_enter Tryz.func106, Tryz.ntmps106
  go_wp2_with fail
  go_call (has_any ts _ A1 A2 c0 n1 c1 n2 c2 tn st g _ _ hlen H.out.2) as r W1 ⟨rfl, rfl⟩
  rw [hb']
  go_wp2_with fail
  go_ret
  exact ⟨rfl, Below.refl _ _⟩
set_option maxHeartbeats 2000000 in
theorem canWake_any (ts : List T7) (A0 A1 A2 : Option Addr) (c0 n1 c1 n2 c2 : Nat) (tn : Int) (st : Bool) (g : Nat) (id v : Int) (w : World) (hlen : ts.length ≤ 1048576) (hg : Blk w g 30 #[.slice A0 ts.length c0, .slice A1 n1 c1, .slice A2 n2 c2, .int .i64 tn, .bool st]) (h : Row w A0 (tcells ts)) :
 Calls Tryz.prog 96 #[.pointer (some ⟨g, 0, none⟩), .int .i64 id, .int .i64 v] w fun r w' => r = .returned (.bool (canB ts id v tn)) ∧ Below w.heap.size w w' := by
 have H := hide (⟨h, hg⟩ : _ ∧ _)
 clear h hg
 unfold canB
 have hI := hide (isIn_any ts A0 A1 A2 c0 n1 c1 n2 c2 tn st g id 3 w hlen H.out.2 H.out.1)
 generalize isInB ts id 3 = b1 at *
 cases b1
 ·rw [Bool.false_and]
  go_enter Tryz.func96, Tryz.ntmps96
  go_wp2_with fail
  apply Calls.mono
  focus with_reducible exact hI.out
  rintro r W1 ⟨rfl, g1⟩
  go_wp2_with fail
  go_ret
  exact ⟨rfl, g1⟩
 ·rw [Bool.true_and]
  have hB := hide (between_any v 0 9999)
  generalize btw v 0 9999 = b2 at *
  cases b2
  ·rw [Bool.false_and]
   go_enter Tryz.func96, Tryz.ntmps96
   go_wp2_with fail
   apply Calls.mono
   focus with_reducible exact hI.out
   rintro r W1 ⟨rfl, g1⟩
   go_wp2_with fail
   apply Calls.mono
   focus with_reducible exact hB.out _
   rintro r W2 ⟨rfl, rfl⟩
   go_wp2_with fail
   go_ret
   exact ⟨rfl, g1⟩
  ·rw [Bool.true_and]
   go_enter Tryz.func96, Tryz.ntmps96
   go_wp2_with fail
   apply Calls.mono
   focus with_reducible exact hI.out
   rintro r W1 ⟨rfl, g1⟩
   have q3 : W1.cell? ⟨g, 3, none⟩ = some (.int .i64 tn) := (H.out.2.below g1 H.out.2.lt).cell 3
   go_wp2_with fail
   apply Calls.mono
   focus with_reducible exact hB.out _
   rintro r W2 ⟨rfl, rfl⟩
   go_wp2_with fail
   go_ret
   exact ⟨rfl, g1⟩
set_option maxHeartbeats 2000000 in
theorem takeTurn_any (ts : List T7) (A0 A1 A2 : Option Addr) (c0 n1 c1 n2 c2 : Nat) (tn : Int) (st : Bool) (g : Nat) (w : World) (t0 : -1000000000 ≤ tn) (t1 : tn ≤ 1000000000) (hg : Blk w g 30 #[.slice A0 ts.length c0, .slice A1 n1 c1, .slice A2 n2 c2, .int .i64 tn, .bool st]) :
 Calls Tryz.prog 97 #[.pointer (some ⟨g, 0, none⟩)] w fun r w' => r = .returned (.int .i64 tn) ∧ w' = w.setCell ⟨g, 3, none⟩ (.int .i64 (tn + 1)) := by
 have q3 : w.cell? ⟨g, 3, none⟩ = some (.int .i64 tn) := hg.cell 3
 have f3 : w.frozen? ⟨g, 3, none⟩ = false := hg.frozen 3
 clear hg
 go_enter Tryz.func97, Tryz.ntmps97
 go_wp2_with fail
 go_ret
 exact ⟨rfl, rfl⟩
set_option maxHeartbeats 2000000 in
theorem wake_no (ts : List T7) (A0 A1 A2 : Option Addr) (c0 n1 c1 n2 c2 : Nat) (tn : Int) (st : Bool) (g : Nat) (id v : Int) (w : World) (hlen : ts.length ≤ 1048576) (hg : Blk w g 30 #[.slice A0 ts.length c0, .slice A1 n1 c1, .slice A2 n2 c2, .int .i64 tn, .bool st]) (h : Row w A0 (tcells ts)) (hc : canB ts id v tn = false) :
 Calls Tryz.prog 46 #[.pointer (some ⟨g, 0, none⟩), .int .i64 id, .int .i64 v] w fun r w' => r = .returned (.bool false) ∧ Below w.heap.size w w' := by
 have hC := hide (canWake_any ts A0 A1 A2 c0 n1 c1 n2 c2 tn st g id v w hlen hg h)
 rw [hc] at hC
 clear h hg hc
 go_enter Tryz.func46, Tryz.ntmps46
 go_wp2_with fail
 apply Calls.mono
 focus with_reducible exact hC.out
 rintro r W1 ⟨rfl, g1⟩
 go_wp2_with fail
 go_ret
 exact ⟨rfl, g1⟩
set_option maxHeartbeats 2000000 in
theorem wake_yes (ts : List T7) (A0 A1 A2 : Option Addr) (c0 n1 c1 n2 c2 : Nat) (tn : Int) (st : Bool) (g k : Nat) (v : Int) (s l o wt on v0 t : Int) (w : World) (hlen : ts.length ≤ 1048576) (t0 : -1000000 ≤ tn) (ht : ts[k]? = some ⟨s, l, o, wt, on, v0, t⟩) (h : Sep (fps [.blk g 30 #[.slice A0 ts.length c0, .slice A1 n1 c1, .slice A2 n2 c2, .int .i64 tn, .bool st], rT ts.length A0 c0 ts]) w w [.blk g 30 #[.slice A0 ts.length c0, .slice A1 n1 c1, .slice A2 n2 c2, .int .i64 tn, .bool st], rT ts.length A0 c0 ts]) (hc : canB ts k v tn = true) :
 Calls Tryz.prog 46 #[.pointer (some ⟨g, 0, none⟩), .int .i64 k, .int .i64 v] w fun r w' => r = .returned (.bool true) ∧ Sep (fps [.blk g 30 #[.slice A0 ts.length c0, .slice A1 n1 c1, .slice A2 n2 c2, .int .i64 tn, .bool st], rT ts.length A0 c0 ts]) w w' [.blk g 30 #[.slice A0 ts.length c0, .slice A1 n1 c1, .slice A2 n2 c2, .int .i64 (tn + 1), .bool st], rT ts.length A0 c0 (ts.set k (wakeT ⟨s, l, o, wt, on, v0, t⟩ tn v))] := by
 have hC := hide (canWake_any ts A0 A1 A2 c0 n1 c1 n2 c2 tn st g k v w hlen (h.blk 0 rfl) (h.rowS 1 rfl))
 rw [hc] at hC
 have t1 : tn ≤ 1000000 := by simp [canB] at hc; omega
 clear hc
 have hkl : k < ts.length := by
  rcases Nat.lt_or_ge k ts.length with h1 | h1
  ·exact h1
  ·rw [List.getElem?_eq_none h1] at ht; cases ht
 have hki : (k : Int) < (ts.length : Int) := by omega
 have hk0 : (0 : Int) ≤ (k : Int) := by omega
 have hr : (rT ts.length A0 c0 ts).here w := h.rowAt 1 rfl
 obtain ⟨gr, rfl, hgl, hfz⟩ := rT_form hr (show 0 < ts.length by omega)
 clear hr
 have HT := hide ht
 clear ht
 have H := hide h
 clear h
 go_enter Tryz.func46, Tryz.ntmps46
 go_wp2_with fail
 apply Calls.mono
 focus with_reducible exact hC.out
 rintro r W1 ⟨rfl, g1⟩
 have M := Sep.call H.out g1
 have q0 : W1.cell? ⟨g, 0, none⟩ = some (.slice (some ⟨gr, 0, none⟩) ts.length c0) := M.cell 0 0 rfl
 have hfz1 : ∀ j, W1.frozen? ⟨gr, j, none⟩ = false := fun j => Own.fz (M.rowAt 1 rfl) j
 have fz0 : W1.frozen? ⟨gr, k * 7, none⟩ = false := hfz1 _
 have fz3 : W1.frozen? ⟨gr, k * 7 + 3, none⟩ = false := hfz1 _
 have fz4 : W1.frozen? ⟨gr, k * 7 + 4, none⟩ = false := hfz1 _
 have fz5 : W1.frozen? ⟨gr, k * 7 + 5, none⟩ = false := hfz1 _
 obtain ⟨s', l', o', wt', on', v', t', ht', y0, y1, y2, y3, y4, y5, y6⟩ := Own.t7 (M.rowAt 1 rfl) hkl
 clear hfz hfz1 ht' y1 y2 y6
 go_wp2_with fail
 have M2 := (M.putT2 1 rfl k 0 3 (by omega) (by omega) ⟨s, l, o, wt, on, v0, t⟩ 1 0 HT.out).putT2 1 rfl k 4 5 (by omega) (by omega) ⟨1, l, o, 0, on, v0, t⟩ 0 v (List.getElem?_set_self hkl)
 simp only [List.set_set] at M2
 replace M2 : Sep (fps [.blk g 30 #[.slice (some ⟨gr, 0, none⟩) ts.length c0, .slice A1 n1 c1, .slice A2 n2 c2, .int .i64 tn, .bool st], rT ts.length (some ⟨gr, 0, none⟩) c0 ts]) w ((((W1.setCell ⟨gr, k * 7, none⟩ (.int .i64 1)).setCell ⟨gr, k * 7 + 3, none⟩ (.int .i64 0)).setCell ⟨gr, k * 7 + 4, none⟩ (.int .i64 0)).setCell ⟨gr, k * 7 + 5, none⟩ (.int .i64 v)) [.blk g 30 #[.slice (some ⟨gr, 0, none⟩) ts.length c0, .slice A1 n1 c1, .slice A2 n2 c2, .int .i64 tn, .bool st], rT ts.length (some ⟨gr, 0, none⟩) c0 (ts.set k ⟨1, l, o, 0, 0, v, t⟩)] := M2
 clear M q0 fz0 fz3 fz4 fz5 y0 y3 y4 y5
 generalize (((W1.setCell ⟨gr, k * 7, none⟩ (.int .i64 1)).setCell ⟨gr, k * 7 + 3, none⟩ (.int .i64 0)).setCell ⟨gr, k * 7 + 4, none⟩ (.int .i64 0)).setCell ⟨gr, k * 7 + 5, none⟩ (.int .i64 v) = W2 at M2 ⊢
 go_call (takeTurn_any ts (some ⟨gr, 0, none⟩) A1 A2 c0 n1 c1 n2 c2 tn st g _ (by omega) (by omega) (M2.blk 0 rfl)) as r W3 ⟨rfl, rfl⟩
 replace M2 := M2.set 0 rfl 3 (.int .i64 (tn + 1))
 generalize W2.setCell ⟨g, 3, none⟩ (.int .i64 (tn + 1)) = W3 at M2 ⊢
 have fz6 : W3.frozen? ⟨gr, k * 7 + 6, none⟩ = false := Own.fz (M2.rowAt 1 rfl) _
 obtain ⟨s', l', o', wt', on', v', t', ht', y0, y1, y2, y3, y4, y5, y6⟩ := Own.t7 (M2.rowAt 1 rfl) (show k < (ts.set k ⟨1, l, o, 0, 0, v, t⟩).length by simpa using hkl)
 clear ht' y0 y1 y2 y3 y4 y5
 go_wp2_with fail
 go_ret
 have M3 := M2.putT 1 rfl k 6 (by omega) ⟨1, l, o, 0, 0, v, t⟩ tn (List.getElem?_set_self hkl)
 simp only [List.set_set] at M3
 exact ⟨rfl, M3⟩
end Go.Proofs.YtfjgelegojbmgaaGreat
