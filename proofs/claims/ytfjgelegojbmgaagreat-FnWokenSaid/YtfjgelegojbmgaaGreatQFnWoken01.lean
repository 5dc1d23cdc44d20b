/- What the exact laws call, by things in memory: copies of pools, marks. No condition. -/
import Derived.Test.YtfjgelegojbmgaaGreatRows
import Derived.WalkKit
import Derived.ProofKit
import Derived.OpenShut
import Derived.Carry
import Derived.Below
import Derived.ChangeOld
import Derived.Lib.SmallJoins
import Derived.Test.YtfjgelegojbmgaaGreatQB40
import Derived.Test.YtfjgelegojbmgaaGreatQB41
import Derived.Test.YtfjgelegojbmgaaGreatQB39
import Derived.Test.YtfjgelegojbmgaaGreatQB14
import Derived.Test.YtfjgelegojbmgaaGreatQB04

namespace Go.Proofs.YtfjgelegojbmgaaGreat
open Go.RowKit
set_option linter.unusedVariables false
open Go.ChangeShapes Go.WideShapes Go.ChangeAt Go.RowKit Go.Joins Go.Deep
theorem own : ownKnob Tryz.prog.godebug = none := by kernel_rfl
theorem laidOut : laidOutB Tryz.prog = true := by kernel_rfl
section
variable {H : Type} {enc : TypeId × Value → H} {P : Program} {w : World} {base : Nat} {spare : Nat → Bool} {held : Bool}
end
set_option maxRecDepth 100000 in
set_option maxHeartbeats 1600000 in
theorem drawWoken_any (B : Nat) (w : World) (A : Option Addr) (len cap : Nat) (hB : B ≤ w.heap.size) (hl : len ≤ 4096) (hby : Bytes w B A len) :
 Calls Tryz.prog 8 #[.slice A len cap] w fun r w' => ∃ (a b c d e : Int) (ts : List T7) (ks : List Int) (fs : List F2) (tn : Int) (st : Bool) (B0 B1 B2 : Option Addr) (e0 e1 e2 : Nat) (z v9 : Int), r = .returned (.tuple #[.agg #[.int .i64 a, .int .i64 b, .int .i64 c, .int .i64 d, .int .i64 e], .agg #[.slice B0 ts.length e0, .slice B1 ks.length e1, .slice B2 fs.length e2, .int .i64 tn, .bool st], .int .i64 z, .int .i64 v9]) ∧ ts.length ≤ 31 ∧ ks.length ≤ 31 ∧ fs.length ≤ 31 ∧ Sep [] w w' [rT ts.length B0 e0 ts, rK ks.length B1 e1 ks, rF fs.length B2 e2 fs] := by
 go_enter Tryz.func8, Tryz.ntmps8
 go_wp2_with fail
 have M := Sep.start w
 have N := M.al2 25 #[.int .i64 0, .int .i64 0, .int .i64 0, .int .i64 0, .int .i64 0] 30 #[.slice none 0 0, .slice none 0 0, .slice none 0 0, .int .i64 0, .bool false]
 clear M
 obtain ⟨aQ, aR, W1, e1, e2, e3, M⟩ := N
 rw [e3, e2, e1]
 clear e1 e2 e3
 obtain ⟨tQ, Aj, Ax, Af, Ay, Ah, Au, Ag, Av, Ai, Aw⟩ := M.f5 1 rfl
 go_wp2_with fail
 clear tQ Aj Ax Af Ay Ah Au Ag Av Ai Aw
 have hs1 := M.size
 have hby1 : Bytes W1 B A len := hby.keep fun b hb => M.below.block b (by omega)
 go_call (l1New_any B _ A len cap (by omega) hl hby1) as r W2 ⟨rfl, g1, d⟩
 obtain ⟨cs0, hc, N⟩ := cur_start d
 have N2 := sepCur g1 (Nat.le_refl _) N
 replace M := Sep.new M N2
 clear N N2 g1 hby1 hs1
 simp only [List.cons_append, List.nil_append] at M
 obtain ⟨g, hg⟩ : ∃ g, g = W1.heap.size := ⟨_, rfl⟩
 rw [← hg] at M d ⊢
 clear hg
 obtain ⟨tR, Ab, At, Ae, Am, Ad, Aq, Ac, Ap, Aa, Ar⟩ := M.f5 1 rfl
 go_wp2_with fail
 go_call (l3DrawAny_any B _ g A len cap d) as r W3 ⟨a, b, c, dd, ee, ts, ks, fs, tn, st, B0, B1, B2, e0, e1, e2, n0, n1, n2, cs1, rfl, rfl, rfl, rfl, h0, h1, h2, hc2, g2⟩
 clear tR Ab At Ae Am Ad Aq Ac Ap Aa Ar
 replace M := Sep.comp (ps := [.blk g 109 cs0]) M g2
 clear g2 hc d
 have hc := hc2
 clear hc2
 simp only [List.cons_append, List.nil_append] at M
 obtain ⟨tR, Ab, At, Ae, Am, Ad, Aq, Ac, Ap, Aa, Ar⟩ := M.f5 4 rfl
 go_wp2_with fail
 clear tR Ab At Ae Am Ad Aq Ac Ap Aa Ar
 obtain ⟨pb, hpb⟩ : ∃ pb, pb = W3.heap.size := ⟨_, rfl⟩
 obtain ⟨yb, hyb⟩ : ∃ yb, yb = W3.heap.size + 1 := ⟨_, rfl⟩
 rw [← hyb, ← hpb]
 replace M : Sep [] w ((W3.alloc (.cells #[.int .i64 a, .int .i64 b, .int .i64 c, .int .i64 dd, .int .i64 ee] 25)).alloc (.cells #[.slice B0 ts.length e0, .slice B1 ks.length e1, .slice B2 fs.length e2, .int .i64 tn, .bool st] 30)) [.blk (yb) 30 #[.slice B0 ts.length e0, .slice B1 ks.length e1, .slice B2 fs.length e2, .int .i64 tn, .bool st], .blk (pb) 25 #[.int .i64 a, .int .i64 b, .int .i64 c, .int .i64 dd, .int .i64 ee], rT ts.length B0 e0 ts, rK ks.length B1 e1 ks, rF fs.length B2 e2 fs, .blk g 109 cs1, .blk (aR) 30 #[.slice none 0 0, .slice none 0 0, .slice none 0 0, .int .i64 0, .bool false], .blk (aQ) 25 #[.int .i64 0, .int .i64 0, .int .i64 0, .int .i64 0, .int .i64 0]] := (M.alloc 25 #[.int .i64 a, .int .i64 b, .int .i64 c, .int .i64 dd, .int .i64 ee] pb hpb.symm).alloc 30 #[.slice B0 ts.length e0, .slice B1 ks.length e1, .slice B2 fs.length e2, .int .i64 tn, .bool st] yb (by simp [hyb])
 generalize (W3.alloc (.cells #[.int .i64 a, .int .i64 b, .int .i64 c, .int .i64 dd, .int .i64 ee] 25)).alloc (.cells #[.slice B0 ts.length e0, .slice B1 ks.length e1, .slice B2 fs.length e2, .int .i64 tn, .bool st] 30) = W4 at M ⊢
 clear hpb hyb
 obtain ⟨tY, Ak, An, Ao, As, Al⟩ := M.q5 0 rfl
 go_wp2_with fail
 go_call (l1From_any B _ g A len cap (-1) ts.length (by omega) (by omega) (by omega) (M.curIn 5 rfl hc hB hl hby)) as r W5 ⟨i9, rfl, i91, i92, gg, d⟩
 clear tY Ak An Ao As Al
 have MM := M.curGo 5 rfl gg d
 clear M hc gg d
 obtain ⟨cs2, hc, M⟩ := MM
 simp only [List.set_cons_zero, List.set_cons_succ] at M
 clear i91 i92
 obtain ⟨tY, Ak, An, Ao, As, Al⟩ := M.q5 0 rfl
 go_wp2_with fail
 clear tY Ak An Ao As Al
 go_loopw [9, 10] (fun v i wr => ∃ (k : Nat) (z : Int) (cs : Array Value), v = .int .i64 z ∧ i = .int .i64 k ∧ k ≤ ts.length ∧ curC A len cap cs ∧ Sep [] w wr [.blk (yb) 30 #[.slice B0 ts.length e0, .slice B1 ks.length e1, .slice B2 fs.length e2, .int .i64 tn, .bool st], .blk (pb) 25 #[.int .i64 a, .int .i64 b, .int .i64 c, .int .i64 dd, .int .i64 ee], rT ts.length B0 e0 ts, rK ks.length B1 e1 ks, rF fs.length B2 e2 fs, .blk g 109 cs, .blk (aR) 30 #[.slice none 0 0, .slice none 0 0, .slice none 0 0, .int .i64 0, .bool false], .blk (aQ) 25 #[.int .i64 0, .int .i64 0, .int .i64 0, .int .i64 0, .int .i64 0]]) (fun _ i _ => ts.length - (intOf i).toNat)
 case atStart => exact ⟨0, i9, _, rfl, rfl, Nat.zero_le _, hc, M⟩
 case round =>
  clear M hc
  obtain ⟨k, z, cs20, rfl, rfl, hk, hc, M⟩ := hrel
  rename World => W6
  by_cases hlt : k < ts.length
  ·obtain ⟨bt, off, s, l, o, wt, on, v, t, eB, _, hx, hb1, z0, z1, z2, z3, z4, z5, z6⟩ := (M.rowS 2 rfl : Row _ B0 (tcells ts)).ts_at hlt
   clear hx hb1 z1 z2 z3 z4 z5 z6
   have hk1 : (k : Int) < (ts.length : Int) := by omega
   have hk0 : (0 : Int) ≤ (k : Int) := by omega
   obtain ⟨tY, Ak, An, Ao, As, Al⟩ := M.q5 0 rfl
   rw [eB] at Ak
   by_cases hs : s = 3
   ·subst hs
    go_wp2_with fail
    clear z0 eB
    go_call (l1Once_any B _ g A len cap 3 (by omega) (by omega) (M.curIn 5 rfl hc hB hl hby)) as r W7 ⟨bb, rfl, gg, d⟩
    clear tY Ak An Ao As Al
    have MM := M.curGo 5 rfl gg d
    clear M hc gg d
    obtain ⟨cs21, hc, M⟩ := MM
    simp only [List.set_cons_zero, List.set_cons_succ] at M
    cases bb
    ·go_wp2_with fail
     go_roundw
     case rel => exact ⟨k + 1, _, _, rfl, by go_num, by omega, hc, M⟩
     case measure => simp [intOf]; omega
    ·go_wp2_with fail
     go_roundw
     case rel => exact ⟨k + 1, _, _, rfl, by go_num, by omega, hc, M⟩
     case measure => simp [intOf]; omega
   ·have hs2 : (s == 3) = false := by simpa using hs
    go_wp2_with fail
    go_roundw
    case rel => exact ⟨k + 1, _, _, rfl, by go_num, by omega, hc, M⟩
    case measure => simp [intOf]; omega
  ·obtain ⟨tY, Ak, An, Ao, As, Al⟩ := M.q5 0 rfl
   obtain ⟨tP, Bc, Bb, Ba, Az, Bd⟩ := M.q5 1 rfl
   go_wp2_with fail
   clear tY Ak An Ao As Al tP Bc Bb Ba Az Bd
   go_call (l1Once_any B _ g A len cap 12 (by omega) (by omega) (M.curIn 5 rfl hc hB hl hby)) as r W8 ⟨bb, rfl, gg, d⟩
   have MM := M.curGo 5 rfl gg d
   clear M hc gg d
   obtain ⟨cs21, hc, M⟩ := MM
   simp only [List.set_cons_zero, List.set_cons_succ] at M
   cases bb
   ·go_wp2_with fail
    refine wp_region_T (S := (fun w' => w'.cell? ⟨yb, 0, none⟩ = some (.slice B0 ts.length e0) ∧ w'.cell? ⟨yb, 1, none⟩ = some (.slice B1 ks.length e1) ∧ w'.cell? ⟨yb, 2, none⟩ = some (.slice B2 fs.length e2) ∧ w'.cell? ⟨yb, 3, none⟩ = some (.int .i64 tn) ∧ w'.cell? ⟨yb, 4, none⟩ = some (.bool st) ∧ w'.cell? ⟨pb, 0, none⟩ = some (.int .i64 a) ∧ w'.cell? ⟨pb, 1, none⟩ = some (.int .i64 b) ∧ w'.cell? ⟨pb, 2, none⟩ = some (.int .i64 c) ∧ w'.cell? ⟨pb, 3, none⟩ = some (.int .i64 dd) ∧ w'.cell? ⟨pb, 4, none⟩ = some (.int .i64 ee))) (ks := []) (by kernel_rfl) ⟨M.cell 0 0 rfl, M.cell 0 1 rfl, M.cell 0 2 rfl, M.cell 0 3 rfl, M.cell 0 4 rfl, M.cell 1 0 rfl, M.cell 1 1 rfl, M.cell 1 2 rfl, M.cell 1 3 rfl, M.cell 1 4 rfl⟩ (fun hHeld => ?_)
    replace M := M.drew
    generalize W8.drew = W9 at M hHeld ⊢
    refine tkL 0 ?v0u9 rfl ?hy0u9 hHeld ?_
    case hy0u9 => (intro w hSw; (try dsimp only at hSw); go_split_ands; go_simp; all_goals with_reducible rfl)
    try simp only [Act.put, List.setIfInBounds_toArray, List.set_cons_zero, List.set_cons_succ]
    refine tkL 1 ?v1u10 rfl ?hy1u10 hHeld ?_
    case hy1u10 => (intro w hSw; (try dsimp only at hSw); go_split_ands; go_simp; all_goals with_reducible rfl)
    try simp only [Act.put, List.setIfInBounds_toArray, List.set_cons_zero, List.set_cons_succ]
    refine tkY 2 ?v2u11 rfl ?hy2u11 (fun _ => hHeld) ?_
    case hy2u11 => (intro w; go_simp; all_goals with_reducible rfl)
    try simp only [Act.put, List.setIfInBounds_toArray, List.set_cons_zero, List.set_cons_succ]
    refine tkY 3 ?v3u12 rfl ?hy3u12 (fun _ => hHeld) ?_
    case hy3u12 => (intro w; go_simp; all_goals with_reducible rfl)
    try simp only [Act.put, List.setIfInBounds_toArray, List.set_cons_zero, List.set_cons_succ]
    refine wpAnyT_callL (i := 4) rfl (by kernel_rfl) (fun K hK => ?_)
    go_simp
    refine Calls.mono (by with_reducible exact (l1Below_pos B _ g A len cap 9 (by omega) (by omega) (M.curIn 5 rfl hc hB hl hby))) ?_
    rintro r W10 ⟨v9, rfl, v1, v2, gg, d⟩
    have MM := M.curGo 5 rfl gg d
    clear M hc gg d
    obtain ⟨cs22, hc, M⟩ := MM
    simp only [List.set_cons_zero, List.set_cons_succ] at M
    clear hHeld
    go_wp2_with fail
    refine hK.out _ _ ?_ (fun hHeld => ?_)
    ·exact ⟨M.cell 0 0 rfl, M.cell 0 1 rfl, M.cell 0 2 rfl, M.cell 0 3 rfl, M.cell 0 4 rfl, M.cell 1 0 rfl, M.cell 1 1 rfl, M.cell 1 2 rfl, M.cell 1 3 rfl, M.cell 1 4 rfl⟩
    clear hK K
    try simp only [Act.put, List.setIfInBounds_toArray, List.set_cons_zero, List.set_cons_succ]
    obtain ⟨tQ, Aj, Ax, Af, Ay, Ah, Au, Ag, Av, Ai, Aw⟩ := M.f5 7 rfl
    refine wpAnyT_callL (i := 5) rfl (by kernel_rfl) (fun K hK => ?_)
    go_simp
    clear tQ Aj Ax Af Ay Ah Au Ag Av Ai Aw
    have N := M.gset5 7 rfl (.int .i64 a) (.int .i64 b) (.int .i64 c) (.int .i64 dd) (.int .i64 ee)
    clear M
    obtain ⟨W11, eW, M⟩ := N
    rw [eW]
    clear eW
    simp only [List.set_cons_zero, List.set_cons_succ] at M
    clear hHeld
    refine hK.out _ _ ?_ (fun hHeld => ?_)
    ·exact ⟨M.cell 0 0 rfl, M.cell 0 1 rfl, M.cell 0 2 rfl, M.cell 0 3 rfl, M.cell 0 4 rfl, M.cell 1 0 rfl, M.cell 1 1 rfl, M.cell 1 2 rfl, M.cell 1 3 rfl, M.cell 1 4 rfl⟩
    clear hK K
    try simp only [Act.put, List.setIfInBounds_toArray, List.set_cons_zero, List.set_cons_succ]
    obtain ⟨tR, Ab, At, Ae, Am, Ad, Aq, Ac, Ap, Aa, Ar⟩ := M.f5 6 rfl
    refine wpAnyT_callL (i := 6) rfl (by kernel_rfl) (fun K hK => ?_)
    go_simp
    clear tR Ab At Ae Am Ad Aq Ac Ap Aa Ar
    have N := M.gset5 6 rfl (.slice B0 ts.length e0) (.slice B1 ks.length e1) (.slice B2 fs.length e2) (.int .i64 tn) (.bool st)
    clear M
    obtain ⟨W12, eW, M⟩ := N
    rw [eW]
    clear eW
    simp only [List.set_cons_zero, List.set_cons_succ] at M
    clear hHeld
    refine hK.out _ _ ?_ (fun hHeld => ?_)
    ·exact ⟨M.cell 0 0 rfl, M.cell 0 1 rfl, M.cell 0 2 rfl, M.cell 0 3 rfl, M.cell 0 4 rfl, M.cell 1 0 rfl, M.cell 1 1 rfl, M.cell 1 2 rfl, M.cell 1 3 rfl, M.cell 1 4 rfl⟩
    clear hK K
    try simp only [Act.put, List.setIfInBounds_toArray, List.set_cons_zero, List.set_cons_succ]
    refine tkY 7 ?v7u13 rfl ?hy7u13 (fun _ => hHeld) ?_
    case hy7u13 => (intro w; go_simp; all_goals with_reducible rfl)
    try simp only [Act.put, List.setIfInBounds_toArray, List.set_cons_zero, List.set_cons_succ]
    refine tkY 8 ?v8u14 rfl ?hy8u14 (fun _ => hHeld) ?_
    case hy8u14 => (intro w; go_simp; all_goals with_reducible rfl)
    try simp only [Act.put, List.setIfInBounds_toArray, List.set_cons_zero, List.set_cons_succ]
    refine wpAnyT_done (by kernel_rfl) ?_ _
    go_wp2_with fail
    obtain ⟨tR, Ab, Ae, Ad, Ac, Aa⟩ := M.q5 6 rfl
    obtain ⟨tQ, Aj, Af, Ah, Ag, Ai⟩ := M.q5 7 rfl
    exact bodyPost_ret (v := .tuple #[.agg #[.int .i64 a, .int .i64 b, .int .i64 c, .int .i64 dd, .int .i64 ee], .agg #[.slice B0 ts.length e0, .slice B1 ks.length e1, .slice B2 fs.length e2, .int .i64 tn, .bool st], .int .i64 z, .int .i64 v9]) (by simp [results, Tryz.results8, go_sem, Aj, Af, Ah, Ag, Ai, Ab, Ae, Ad, Ac, Aa]) rfl ⟨a, b, c, dd, ee, ts, ks, fs, tn, st, B0, B1, B2, e0, e1, e2, z, v9, rfl, h0, h1, h2, (M.drop 2).take 3⟩
   ·go_wp2_with fail
    refine wp_region_T (S := (fun w' => w'.cell? ⟨yb, 0, none⟩ = some (.slice B0 ts.length e0) ∧ w'.cell? ⟨yb, 1, none⟩ = some (.slice B1 ks.length e1) ∧ w'.cell? ⟨yb, 2, none⟩ = some (.slice B2 fs.length e2) ∧ w'.cell? ⟨yb, 3, none⟩ = some (.int .i64 tn) ∧ w'.cell? ⟨yb, 4, none⟩ = some (.bool st) ∧ w'.cell? ⟨pb, 0, none⟩ = some (.int .i64 a) ∧ w'.cell? ⟨pb, 1, none⟩ = some (.int .i64 b) ∧ w'.cell? ⟨pb, 2, none⟩ = some (.int .i64 c) ∧ w'.cell? ⟨pb, 3, none⟩ = some (.int .i64 dd) ∧ w'.cell? ⟨pb, 4, none⟩ = some (.int .i64 ee))) (ks := []) (by kernel_rfl) ⟨M.cell 0 0 rfl, M.cell 0 1 rfl, M.cell 0 2 rfl, M.cell 0 3 rfl, M.cell 0 4 rfl, M.cell 1 0 rfl, M.cell 1 1 rfl, M.cell 1 2 rfl, M.cell 1 3 rfl, M.cell 1 4 rfl⟩ (fun hHeld => ?_)
    replace M := M.drew
    generalize W8.drew = W13 at M hHeld ⊢
    refine tkL 0 ?v0u15 rfl ?hy0u15 hHeld ?_
    case hy0u15 => (intro w hSw; (try dsimp only at hSw); go_split_ands; go_simp; all_goals with_reducible rfl)
    try simp only [Act.put, List.setIfInBounds_toArray, List.set_cons_zero, List.set_cons_succ]
    refine tkL 1 ?v1u16 rfl ?hy1u16 hHeld ?_
    case hy1u16 => (intro w hSw; (try dsimp only at hSw); go_split_ands; go_simp; all_goals with_reducible rfl)
    try simp only [Act.put, List.setIfInBounds_toArray, List.set_cons_zero, List.set_cons_succ]
    refine tkY 2 ?v2u17 rfl ?hy2u17 (fun _ => hHeld) ?_
    case hy2u17 => (intro w; go_simp; all_goals with_reducible rfl)
    try simp only [Act.put, List.setIfInBounds_toArray, List.set_cons_zero, List.set_cons_succ]
    refine tkY 3 ?v3u18 rfl ?hy3u18 (fun _ => hHeld) ?_
    case hy3u18 => (intro w; go_simp; all_goals with_reducible rfl)
    try simp only [Act.put, List.setIfInBounds_toArray, List.set_cons_zero, List.set_cons_succ]
    refine wpAnyT_callL (i := 4) rfl (by kernel_rfl) (fun K hK => ?_)
    go_simp
    refine Calls.mono (by with_reducible exact (l1Num_any B _ g A len cap 9999 (by omega) (by omega) (M.curIn 5 rfl hc hB hl hby))) ?_
    rintro r W14 ⟨v9, rfl, v1, gg, d⟩
    have MM := M.curGo 5 rfl gg d
    clear M hc gg d
    obtain ⟨cs22, hc, M⟩ := MM
    simp only [List.set_cons_zero, List.set_cons_succ] at M
    clear hHeld
    go_wp2_with fail
    refine hK.out _ _ ?_ (fun hHeld => ?_)
    ·exact ⟨M.cell 0 0 rfl, M.cell 0 1 rfl, M.cell 0 2 rfl, M.cell 0 3 rfl, M.cell 0 4 rfl, M.cell 1 0 rfl, M.cell 1 1 rfl, M.cell 1 2 rfl, M.cell 1 3 rfl, M.cell 1 4 rfl⟩
    clear hK K
    try simp only [Act.put, List.setIfInBounds_toArray, List.set_cons_zero, List.set_cons_succ]
    obtain ⟨tQ, Aj, Ax, Af, Ay, Ah, Au, Ag, Av, Ai, Aw⟩ := M.f5 7 rfl
    refine wpAnyT_callL (i := 5) rfl (by kernel_rfl) (fun K hK => ?_)
    go_simp
    clear tQ Aj Ax Af Ay Ah Au Ag Av Ai Aw
    have N := M.gset5 7 rfl (.int .i64 a) (.int .i64 b) (.int .i64 c) (.int .i64 dd) (.int .i64 ee)
    clear M
    obtain ⟨W15, eW, M⟩ := N
    rw [eW]
    clear eW
    simp only [List.set_cons_zero, List.set_cons_succ] at M
    clear hHeld
    refine hK.out _ _ ?_ (fun hHeld => ?_)
    ·exact ⟨M.cell 0 0 rfl, M.cell 0 1 rfl, M.cell 0 2 rfl, M.cell 0 3 rfl, M.cell 0 4 rfl, M.cell 1 0 rfl, M.cell 1 1 rfl, M.cell 1 2 rfl, M.cell 1 3 rfl, M.cell 1 4 rfl⟩
    clear hK K
    try simp only [Act.put, List.setIfInBounds_toArray, List.set_cons_zero, List.set_cons_succ]
    obtain ⟨tR, Ab, At, Ae, Am, Ad, Aq, Ac, Ap, Aa, Ar⟩ := M.f5 6 rfl
    refine wpAnyT_callL (i := 6) rfl (by kernel_rfl) (fun K hK => ?_)
    go_simp
    clear tR Ab At Ae Am Ad Aq Ac Ap Aa Ar
    have N := M.gset5 6 rfl (.slice B0 ts.length e0) (.slice B1 ks.length e1) (.slice B2 fs.length e2) (.int .i64 tn) (.bool st)
    clear M
    obtain ⟨W16, eW, M⟩ := N
    rw [eW]
    clear eW
    simp only [List.set_cons_zero, List.set_cons_succ] at M
    clear hHeld
    refine hK.out _ _ ?_ (fun hHeld => ?_)
    ·exact ⟨M.cell 0 0 rfl, M.cell 0 1 rfl, M.cell 0 2 rfl, M.cell 0 3 rfl, M.cell 0 4 rfl, M.cell 1 0 rfl, M.cell 1 1 rfl, M.cell 1 2 rfl, M.cell 1 3 rfl, M.cell 1 4 rfl⟩
    clear hK K
    try simp only [Act.put, List.setIfInBounds_toArray, List.set_cons_zero, List.set_cons_succ]
    refine tkY 7 ?v7u19 rfl ?hy7u19 (fun _ => hHeld) ?_
    case hy7u19 => (intro w; go_simp; all_goals with_reducible rfl)
    try simp only [Act.put, List.setIfInBounds_toArray, List.set_cons_zero, List.set_cons_succ]
    refine tkY 8 ?v8u20 rfl ?hy8u20 (fun _ => hHeld) ?_
    case hy8u20 => (intro w; go_simp; all_goals with_reducible rfl)
    try simp only [Act.put, List.setIfInBounds_toArray, List.set_cons_zero, List.set_cons_succ]
    refine wpAnyT_done (by kernel_rfl) ?_ _
    go_wp2_with fail
    obtain ⟨tR, Ab, Ae, Ad, Ac, Aa⟩ := M.q5 6 rfl
    obtain ⟨tQ, Aj, Af, Ah, Ag, Ai⟩ := M.q5 7 rfl
    exact bodyPost_ret (v := .tuple #[.agg #[.int .i64 a, .int .i64 b, .int .i64 c, .int .i64 dd, .int .i64 ee], .agg #[.slice B0 ts.length e0, .slice B1 ks.length e1, .slice B2 fs.length e2, .int .i64 tn, .bool st], .int .i64 z, .int .i64 v9]) (by simp [results, Tryz.results8, go_sem, Aj, Af, Ah, Ag, Ai, Ab, Ae, Ad, Ac, Aa]) rfl ⟨a, b, c, dd, ee, ts, ks, fs, tn, st, B0, B1, B2, e0, e1, e2, z, v9, rfl, h0, h1, h2, (M.drop 2).take 3⟩
set_option maxRecDepth 100000 in
set_option maxHeartbeats 1600000 in
theorem drawWokenAll_any (B : Nat) (w : World) (A : Option Addr) (len cap : Nat) (hB : B ≤ w.heap.size) (hl : len ≤ 4096) (hby : Bytes w B A len) :
 Calls Tryz.prog 11 #[.slice A len cap] w fun r w' => ∃ (a b c d e : Int) (ts : List T7) (ks : List Int) (fs : List F2) (tn : Int) (st : Bool) (B0 B1 B2 : Option Addr) (e0 e1 e2 : Nat) (wt on v9 : Int), r = .returned (.tuple #[.agg #[.int .i64 a, .int .i64 b, .int .i64 c, .int .i64 d, .int .i64 e], .agg #[.slice B0 ts.length e0, .slice B1 ks.length e1, .slice B2 fs.length e2, .int .i64 tn, .bool st], .int .i64 wt, .int .i64 on, .int .i64 v9]) ∧ ts.length ≤ 31 ∧ ks.length ≤ 31 ∧ fs.length ≤ 31 ∧ Sep [] w w' [rT ts.length B0 e0 ts, rK ks.length B1 e1 ks, rF fs.length B2 e2 fs] := by
 go_enter Tryz.func11, Tryz.ntmps11
 go_wp2_with fail
 have M := Sep.start w
 have N := M.al2 25 #[.int .i64 0, .int .i64 0, .int .i64 0, .int .i64 0, .int .i64 0] 30 #[.slice none 0 0, .slice none 0 0, .slice none 0 0, .int .i64 0, .bool false]
 clear M
 obtain ⟨aQ, aR, W1, e1, e2, e3, M⟩ := N
 rw [e3, e2, e1]
 clear e1 e2 e3
 obtain ⟨tQ, Aj, Ba, Af, Bd, Ah, Au, Ag, Av, Ai, Ay⟩ := M.f5 1 rfl
 go_wp2_with fail
 clear tQ Aj Ba Af Bd Ah Au Ag Av Ai Ay
 have hs1 := M.size
 have hby1 : Bytes W1 B A len := hby.keep fun b hb => M.below.block b (by omega)
 go_call (l1New_any B _ A len cap (by omega) hl hby1) as r W2 ⟨rfl, g1, d⟩
 obtain ⟨cs0, hc, N⟩ := cur_start d
 have N2 := sepCur g1 (Nat.le_refl _) N
 replace M := Sep.new M N2
 clear N N2 g1 hby1 hs1
 simp only [List.cons_append, List.nil_append] at M
 obtain ⟨g, hg⟩ : ∃ g, g = W1.heap.size := ⟨_, rfl⟩
 rw [← hg] at M d ⊢
 clear hg
 obtain ⟨tR, Ab, At, Ae, Al, Ad, Ap, Ac, Ao, Aa, Ar⟩ := M.f5 1 rfl
 go_wp2_with fail
 have hs2 := M.size
 have hby2 : Bytes W2 B A len := hby.keep fun b hb => M.below.block b (by omega)
 go_call (drawWoken_any B _ A len cap (by omega) hl hby2) as r W3 ⟨a, b, c, dd, ee, ts, ks, fs, tn, st, B0, B1, B2, e0, e1, e2, id, v9, rfl, h0, h1, h2, g2⟩
 clear tR Ab At Ae Al Ad Ap Ac Ao Aa Ar
 replace M := Sep.new M g2
 clear g2 hby2 hs2 d
 simp only [List.cons_append, List.nil_append] at M
 obtain ⟨tR, Ab, At, Ae, Al, Ad, Ap, Ac, Ao, Aa, Ar⟩ := M.f5 4 rfl
 go_wp2_with fail
 clear tR Ab At Ae Al Ad Ap Ac Ao Aa Ar
 have N := M.al2 25 #[.int .i64 a, .int .i64 b, .int .i64 c, .int .i64 dd, .int .i64 ee] 30 #[.slice B0 ts.length e0, .slice B1 ks.length e1, .slice B2 fs.length e2, .int .i64 tn, .bool st]
 clear M
 obtain ⟨aP, aY, W4, e1, e2, e3, M⟩ := N
 rw [e3, e2, e1]
 clear e1 e2 e3
 obtain ⟨tY, Aq, Am, An, As, Ak⟩ := M.q5 0 rfl
 go_wp2_with fail
 obtain ⟨hz, hhz⟩ : ∃ z, btw id 0 ((ts.length : Int) - 1) = z := ⟨_, rfl⟩
 have Hz := hide hhz
 clear hhz
 go_call (l5Has_v ts B0 B1 B2 e0 ks.length e1 fs.length e2 tn st id hz Hz.out _ (by omega)) as r W5 ⟨rfl, g1⟩
 clear tY Aq Am An As Ak
 replace M := M.call g1
 clear g1
 cases hz
 ·obtain ⟨tY, Aq, Am, An, As, Ak⟩ := M.q5 0 rfl
  obtain ⟨tP, Bb, Az, Ax, Aw, Bc⟩ := M.q5 1 rfl
  go_wp2_with fail
  clear tY Aq Am An As Ak tP Bb Az Ax Aw Bc
  refine wp_region_T (S := (fun w' => w'.cell? ⟨aY, 0, none⟩ = some (.slice B0 ts.length e0) ∧ w'.cell? ⟨aY, 1, none⟩ = some (.slice B1 ks.length e1) ∧ w'.cell? ⟨aY, 2, none⟩ = some (.slice B2 fs.length e2) ∧ w'.cell? ⟨aY, 3, none⟩ = some (.int .i64 tn) ∧ w'.cell? ⟨aY, 4, none⟩ = some (.bool st) ∧ w'.cell? ⟨aP, 0, none⟩ = some (.int .i64 a) ∧ w'.cell? ⟨aP, 1, none⟩ = some (.int .i64 b) ∧ w'.cell? ⟨aP, 2, none⟩ = some (.int .i64 c) ∧ w'.cell? ⟨aP, 3, none⟩ = some (.int .i64 dd) ∧ w'.cell? ⟨aP, 4, none⟩ = some (.int .i64 ee))) (ks := []) (by kernel_rfl) ⟨M.cell 0 0 rfl, M.cell 0 1 rfl, M.cell 0 2 rfl, M.cell 0 3 rfl, M.cell 0 4 rfl, M.cell 1 0 rfl, M.cell 1 1 rfl, M.cell 1 2 rfl, M.cell 1 3 rfl, M.cell 1 4 rfl⟩ (fun hHeld => ?_)
  replace M := M.drew
  generalize W5.drew = W6 at M hHeld ⊢
  refine tkL 0 ?v0u21 rfl ?hy0u21 hHeld ?_
  case hy0u21 => (intro w hSw; (try dsimp only at hSw); go_split_ands; go_simp; all_goals with_reducible rfl)
  try simp only [Act.put, List.setIfInBounds_toArray, List.set_cons_zero, List.set_cons_succ]
  refine tkL 1 ?v1u22 rfl ?hy1u22 hHeld ?_
  case hy1u22 => (intro w hSw; (try dsimp only at hSw); go_split_ands; go_simp; all_goals with_reducible rfl)
  try simp only [Act.put, List.setIfInBounds_toArray, List.set_cons_zero, List.set_cons_succ]
  refine tkY 2 ?v2u23 rfl ?hy2u23 (fun _ => hHeld) ?_
  case hy2u23 => (intro w; go_simp; all_goals with_reducible rfl)
  try simp only [Act.put, List.setIfInBounds_toArray, List.set_cons_zero, List.set_cons_succ]
  refine tkY 4 ?v4u24 rfl ?hy4u24 (fun _ => hHeld) ?_
  case hy4u24 => (intro w; go_simp; all_goals with_reducible rfl)
  try simp only [Act.put, List.setIfInBounds_toArray, List.set_cons_zero, List.set_cons_succ]
  refine tkY 6 ?v6u25 rfl ?hy6u25 (fun _ => hHeld) ?_
  case hy6u25 => (intro w; go_simp; all_goals with_reducible rfl)
  try simp only [Act.put, List.setIfInBounds_toArray, List.set_cons_zero, List.set_cons_succ]
  refine wpAnyT_callL (i := 3) rfl (by kernel_rfl) (fun K hK => ?_)
  go_simp
  refine Calls.mono (by with_reducible exact (l1From_any B _ g A len cap 0 3 (by omega) (by omega) (by omega) (M.curIn 5 rfl hc hB hl hby))) ?_
  rintro r W7 ⟨wt9, rfl, wt1, wt2, gg, d⟩
  have MM := M.curGo 5 rfl gg d
  clear M hc gg d
  obtain ⟨cs1, hc, M⟩ := MM
  simp only [List.set_cons_zero, List.set_cons_succ] at M
  clear hHeld
  go_wp2_with fail
  refine hK.out _ _ ?_ (fun hHeld => ?_)
  ·exact ⟨M.cell 0 0 rfl, M.cell 0 1 rfl, M.cell 0 2 rfl, M.cell 0 3 rfl, M.cell 0 4 rfl, M.cell 1 0 rfl, M.cell 1 1 rfl, M.cell 1 2 rfl, M.cell 1 3 rfl, M.cell 1 4 rfl⟩
  clear hK K
  try simp only [Act.put, List.setIfInBounds_toArray, List.set_cons_zero, List.set_cons_succ]
  refine wpAnyT_callL (i := 5) rfl (by kernel_rfl) (fun K hK => ?_)
  go_simp
  refine Calls.mono (by with_reducible exact (l1Below_pos B _ g A len cap 3 (by omega) (by omega) (M.curIn 5 rfl hc hB hl hby))) ?_
  rintro r W8 ⟨on9, rfl, on1, on2, gg, d⟩
  have MM := M.curGo 5 rfl gg d
  clear M hc gg d
  obtain ⟨cs2, hc, M⟩ := MM
  simp only [List.set_cons_zero, List.set_cons_succ] at M
  clear hHeld
  go_wp2_with fail
  refine hK.out _ _ ?_ (fun hHeld => ?_)
  ·exact ⟨M.cell 0 0 rfl, M.cell 0 1 rfl, M.cell 0 2 rfl, M.cell 0 3 rfl, M.cell 0 4 rfl, M.cell 1 0 rfl, M.cell 1 1 rfl, M.cell 1 2 rfl, M.cell 1 3 rfl, M.cell 1 4 rfl⟩
  clear hK K
  try simp only [Act.put, List.setIfInBounds_toArray, List.set_cons_zero, List.set_cons_succ]
  obtain ⟨tQ, Aj, Ba, Af, Bd, Ah, Au, Ag, Av, Ai, Ay⟩ := M.f5 7 rfl
  refine wpAnyT_callL (i := 7) rfl (by kernel_rfl) (fun K hK => ?_)
  go_simp
  clear tQ Aj Ba Af Bd Ah Au Ag Av Ai Ay
  have N := M.gset5 7 rfl (.int .i64 a) (.int .i64 b) (.int .i64 c) (.int .i64 dd) (.int .i64 ee)
  clear M
  obtain ⟨W9, eW, M⟩ := N
  rw [eW]
  clear eW
  simp only [List.set_cons_zero, List.set_cons_succ] at M
  clear hHeld
  refine hK.out _ _ ?_ (fun hHeld => ?_)
  ·exact ⟨M.cell 0 0 rfl, M.cell 0 1 rfl, M.cell 0 2 rfl, M.cell 0 3 rfl, M.cell 0 4 rfl, M.cell 1 0 rfl, M.cell 1 1 rfl, M.cell 1 2 rfl, M.cell 1 3 rfl, M.cell 1 4 rfl⟩
  clear hK K
  try simp only [Act.put, List.setIfInBounds_toArray, List.set_cons_zero, List.set_cons_succ]
  obtain ⟨tR, Ab, At, Ae, Al, Ad, Ap, Ac, Ao, Aa, Ar⟩ := M.f5 6 rfl
  refine wpAnyT_callL (i := 8) rfl (by kernel_rfl) (fun K hK => ?_)
  go_simp
  clear tR Ab At Ae Al Ad Ap Ac Ao Aa Ar
  have N := M.gset5 6 rfl (.slice B0 ts.length e0) (.slice B1 ks.length e1) (.slice B2 fs.length e2) (.int .i64 tn) (.bool st)
  clear M
  obtain ⟨W10, eW, M⟩ := N
  rw [eW]
  clear eW
  simp only [List.set_cons_zero, List.set_cons_succ] at M
  clear hHeld
  refine hK.out _ _ ?_ (fun hHeld => ?_)
  ·exact ⟨M.cell 0 0 rfl, M.cell 0 1 rfl, M.cell 0 2 rfl, M.cell 0 3 rfl, M.cell 0 4 rfl, M.cell 1 0 rfl, M.cell 1 1 rfl, M.cell 1 2 rfl, M.cell 1 3 rfl, M.cell 1 4 rfl⟩
  clear hK K
  try simp only [Act.put, List.setIfInBounds_toArray, List.set_cons_zero, List.set_cons_succ]
  refine tkY 9 ?v9u26 rfl ?hy9u26 (fun _ => hHeld) ?_
  case hy9u26 => (intro w; go_simp; all_goals with_reducible rfl)
  try simp only [Act.put, List.setIfInBounds_toArray, List.set_cons_zero, List.set_cons_succ]
  refine tkY 10 ?v10u27 rfl ?hy10u27 (fun _ => hHeld) ?_
  case hy10u27 => (intro w; go_simp; all_goals with_reducible rfl)
  try simp only [Act.put, List.setIfInBounds_toArray, List.set_cons_zero, List.set_cons_succ]
  refine tkY 11 ?v11u28 rfl ?hy11u28 (fun _ => hHeld) ?_
  case hy11u28 => (intro w; go_simp; all_goals with_reducible rfl)
  try simp only [Act.put, List.setIfInBounds_toArray, List.set_cons_zero, List.set_cons_succ]
  refine wpAnyT_done (by kernel_rfl) ?_ _
  go_wp2_with fail
  obtain ⟨tR, Ab, Ae, Ad, Ac, Aa⟩ := M.q5 6 rfl
  obtain ⟨tQ, Aj, Af, Ah, Ag, Ai⟩ := M.q5 7 rfl
  exact bodyPost_ret (v := .tuple #[.agg #[.int .i64 a, .int .i64 b, .int .i64 c, .int .i64 dd, .int .i64 ee], .agg #[.slice B0 ts.length e0, .slice B1 ks.length e1, .slice B2 fs.length e2, .int .i64 tn, .bool st], .int .i64 wt9, .int .i64 on9, .int .i64 v9]) (by simp [results, Tryz.results11, go_sem, Aj, Af, Ah, Ag, Ai, Ab, Ae, Ad, Ac, Aa]) rfl ⟨a, b, c, dd, ee, ts, ks, fs, tn, st, B0, B1, B2, e0, e1, e2, wt9, on9, v9, rfl, h0, h1, h2, (M.drop 2).take 3⟩
 ·obtain ⟨k, rfl⟩ : ∃ k : Nat, id = k := ⟨id.toNat, by have := Hz.out; simp [btw] at this; omega⟩
  have hkl : k < ts.length := by have := Hz.out; simp [btw] at this; omega
  clear Hz
  obtain ⟨bt, off, s, l, o, wt, on, v, t, eB, _, hx, hb1, z0, z1, z2, z3, z4, z5, z6⟩ := (M.rowS 2 rfl : Row _ B0 (tcells ts)).ts_at hkl
  have HK := hide hx
  clear hx hb1 z1 z2 z3 z4 z5 z6
  subst eB
  have hk1 : (k : Int) < (ts.length : Int) := by omega
  have hk0 : (0 : Int) ≤ (k : Int) := by omega
  by_cases hs : s = 3
  ·subst hs
   obtain ⟨tY, Aq, Am, An, As, Ak⟩ := M.q5 0 rfl
   obtain ⟨tP, Bb, Az, Ax, Aw, Bc⟩ := M.q5 1 rfl
   go_wp2_with fail
   clear tY Aq Am An As Ak tP Bb Az Ax Aw Bc
   clear z0
   refine wp_region_T (S := (fun w' => w'.cell? ⟨aY, 0, none⟩ = some (.slice (some ⟨bt, off, none⟩) ts.length e0) ∧ w'.cell? ⟨aY, 1, none⟩ = some (.slice B1 ks.length e1) ∧ w'.cell? ⟨aY, 2, none⟩ = some (.slice B2 fs.length e2) ∧ w'.cell? ⟨aY, 3, none⟩ = some (.int .i64 tn) ∧ w'.cell? ⟨aY, 4, none⟩ = some (.bool st) ∧ w'.cell? ⟨aP, 0, none⟩ = some (.int .i64 a) ∧ w'.cell? ⟨aP, 1, none⟩ = some (.int .i64 b) ∧ w'.cell? ⟨aP, 2, none⟩ = some (.int .i64 c) ∧ w'.cell? ⟨aP, 3, none⟩ = some (.int .i64 dd) ∧ w'.cell? ⟨aP, 4, none⟩ = some (.int .i64 ee) ∧ w'.cell? ⟨bt, off + k * 7 + 3, none⟩ = some (.int .i64 wt) ∧ w'.cell? ⟨bt, off + k * 7 + 4, none⟩ = some (.int .i64 on))) (ks := []) (by kernel_rfl) ⟨M.cell 0 0 rfl, M.cell 0 1 rfl, M.cell 0 2 rfl, M.cell 0 3 rfl, M.cell 0 4 rfl, M.cell 1 0 rfl, M.cell 1 1 rfl, M.cell 1 2 rfl, M.cell 1 3 rfl, M.cell 1 4 rfl, (Row.cells7 (M.rowS 2 rfl) HK.out).2.2.2.1, (Row.cells7 (M.rowS 2 rfl) HK.out).2.2.2.2.1⟩ (fun hHeld => ?_)
   replace M := M.drew
   generalize W5.drew = W11 at M hHeld ⊢
   refine tkL 0 ?v0u29 rfl ?hy0u29 hHeld ?_
   case hy0u29 => (intro w hSw; (try dsimp only at hSw); go_split_ands; go_simp; all_goals with_reducible rfl)
   try simp only [Act.put, List.setIfInBounds_toArray, List.set_cons_zero, List.set_cons_succ]
   refine tkL 1 ?v1u30 rfl ?hy1u30 hHeld ?_
   case hy1u30 => (intro w hSw; (try dsimp only at hSw); go_split_ands; go_simp; all_goals with_reducible rfl)
   try simp only [Act.put, List.setIfInBounds_toArray, List.set_cons_zero, List.set_cons_succ]
   refine tkY 2 ?v2u31 rfl ?hy2u31 (fun _ => hHeld) ?_
   case hy2u31 => (intro w; go_simp; all_goals with_reducible rfl)
   try simp only [Act.put, List.setIfInBounds_toArray, List.set_cons_zero, List.set_cons_succ]
   refine tkL 3 ?v3u32 rfl ?hy3u32 hHeld ?_
   case hy3u32 => (intro w hSw; (try dsimp only at hSw); go_split_ands; go_simp; all_goals with_reducible rfl)
   try simp only [Act.put, List.setIfInBounds_toArray, List.set_cons_zero, List.set_cons_succ]
   refine tkY 4 ?v4u33 rfl ?hy4u33 (fun _ => hHeld) ?_
   case hy4u33 => (intro w; go_simp; all_goals with_reducible rfl)
   try simp only [Act.put, List.setIfInBounds_toArray, List.set_cons_zero, List.set_cons_succ]
   refine tkY 5 ?v5u34 rfl ?hy5u34 (fun _ => hHeld) ?_
   case hy5u34 => (intro w; go_simp; all_goals with_reducible rfl)
   try simp only [Act.put, List.setIfInBounds_toArray, List.set_cons_zero, List.set_cons_succ]
   refine tkY 6 ?v6u35 rfl ?hy6u35 (fun _ => hHeld) ?_
   case hy6u35 => (intro w; go_simp; all_goals with_reducible rfl)
   try simp only [Act.put, List.setIfInBounds_toArray, List.set_cons_zero, List.set_cons_succ]
   refine tkL 7 ?v7u36 rfl ?hy7u36 hHeld ?_
   case hy7u36 => (intro w hSw; (try dsimp only at hSw); go_split_ands; go_simp; all_goals with_reducible rfl)
   try simp only [Act.put, List.setIfInBounds_toArray, List.set_cons_zero, List.set_cons_succ]
   refine tkY 8 ?v8u37 rfl ?hy8u37 (fun _ => hHeld) ?_
   case hy8u37 => (intro w; go_simp; all_goals with_reducible rfl)
   try simp only [Act.put, List.setIfInBounds_toArray, List.set_cons_zero, List.set_cons_succ]
   refine tkL 9 ?v9u38 rfl ?hy9u38 hHeld ?_
   case hy9u38 => (intro w hSw; (try dsimp only at hSw); go_split_ands; go_simp; all_goals with_reducible rfl)
   try simp only [Act.put, List.setIfInBounds_toArray, List.set_cons_zero, List.set_cons_succ]
   refine tkY 10 ?v10u39 rfl ?hy10u39 (fun _ => hHeld) ?_
   case hy10u39 => (intro w; go_simp; all_goals with_reducible rfl)
   try simp only [Act.put, List.setIfInBounds_toArray, List.set_cons_zero, List.set_cons_succ]
   refine tkY 11 ?v11u40 rfl ?hy11u40 (fun _ => hHeld) ?_
   case hy11u40 => (intro w; go_simp; all_goals with_reducible rfl)
   try simp only [Act.put, List.setIfInBounds_toArray, List.set_cons_zero, List.set_cons_succ]
   refine tkY 12 ?v12u41 rfl ?hy12u41 (fun _ => hHeld) ?_
   case hy12u41 => (intro w; go_simp; all_goals with_reducible rfl)
   try simp only [Act.put, List.setIfInBounds_toArray, List.set_cons_zero, List.set_cons_succ]
   refine tkL 13 ?v13u42 rfl ?hy13u42 hHeld ?_
   case hy13u42 => (intro w hSw; (try dsimp only at hSw); go_split_ands; go_simp; all_goals with_reducible rfl)
   try simp only [Act.put, List.setIfInBounds_toArray, List.set_cons_zero, List.set_cons_succ]
   refine tkY 14 ?v14u43 rfl ?hy14u43 (fun _ => hHeld) ?_
   case hy14u43 => (intro w; go_simp; all_goals with_reducible rfl)
   try simp only [Act.put, List.setIfInBounds_toArray, List.set_cons_zero, List.set_cons_succ]
   obtain ⟨tQ, Aj, Ba, Af, Bd, Ah, Au, Ag, Av, Ai, Ay⟩ := M.f5 7 rfl
   refine wpAnyT_callL (i := 15) rfl (by kernel_rfl) (fun K hK => ?_)
   go_simp
   clear tQ Aj Ba Af Bd Ah Au Ag Av Ai Ay
   have N := M.gset5 7 rfl (.int .i64 a) (.int .i64 b) (.int .i64 c) (.int .i64 dd) (.int .i64 ee)
   clear M
   obtain ⟨W12, eW, M⟩ := N
   rw [eW]
   clear eW
   simp only [List.set_cons_zero, List.set_cons_succ] at M
   clear hHeld
   refine hK.out _ _ ?_ (fun hHeld => ?_)
   ·exact ⟨M.cell 0 0 rfl, M.cell 0 1 rfl, M.cell 0 2 rfl, M.cell 0 3 rfl, M.cell 0 4 rfl, M.cell 1 0 rfl, M.cell 1 1 rfl, M.cell 1 2 rfl, M.cell 1 3 rfl, M.cell 1 4 rfl, (Row.cells7 (M.rowS 2 rfl) HK.out).2.2.2.1, (Row.cells7 (M.rowS 2 rfl) HK.out).2.2.2.2.1⟩
   clear hK K
   try simp only [Act.put, List.setIfInBounds_toArray, List.set_cons_zero, List.set_cons_succ]
   obtain ⟨tR, Ab, At, Ae, Al, Ad, Ap, Ac, Ao, Aa, Ar⟩ := M.f5 6 rfl
   refine wpAnyT_callL (i := 16) rfl (by kernel_rfl) (fun K hK => ?_)
   go_simp
   clear tR Ab At Ae Al Ad Ap Ac Ao Aa Ar
   have N := M.gset5 6 rfl (.slice (some ⟨bt, off, none⟩) ts.length e0) (.slice B1 ks.length e1) (.slice B2 fs.length e2) (.int .i64 tn) (.bool st)
   clear M
   obtain ⟨W13, eW, M⟩ := N
   rw [eW]
   clear eW
   simp only [List.set_cons_zero, List.set_cons_succ] at M
   clear hHeld
   refine hK.out _ _ ?_ (fun hHeld => ?_)
   ·exact ⟨M.cell 0 0 rfl, M.cell 0 1 rfl, M.cell 0 2 rfl, M.cell 0 3 rfl, M.cell 0 4 rfl, M.cell 1 0 rfl, M.cell 1 1 rfl, M.cell 1 2 rfl, M.cell 1 3 rfl, M.cell 1 4 rfl, (Row.cells7 (M.rowS 2 rfl) HK.out).2.2.2.1, (Row.cells7 (M.rowS 2 rfl) HK.out).2.2.2.2.1⟩
   clear hK K
   try simp only [Act.put, List.setIfInBounds_toArray, List.set_cons_zero, List.set_cons_succ]
   refine tkY 17 ?v17u44 rfl ?hy17u44 (fun _ => hHeld) ?_
   case hy17u44 => (intro w; go_simp; all_goals with_reducible rfl)
   try simp only [Act.put, List.setIfInBounds_toArray, List.set_cons_zero, List.set_cons_succ]
   refine tkY 18 ?v18u45 rfl ?hy18u45 (fun _ => hHeld) ?_
   case hy18u45 => (intro w; go_simp; all_goals with_reducible rfl)
   try simp only [Act.put, List.setIfInBounds_toArray, List.set_cons_zero, List.set_cons_succ]
   refine tkY 19 ?v19u46 rfl ?hy19u46 (fun _ => hHeld) ?_
   case hy19u46 => (intro w; go_simp; all_goals with_reducible rfl)
   try simp only [Act.put, List.setIfInBounds_toArray, List.set_cons_zero, List.set_cons_succ]
   refine wpAnyT_done (by kernel_rfl) ?_ _
   go_wp2_with fail
   obtain ⟨tR, Ab, Ae, Ad, Ac, Aa⟩ := M.q5 6 rfl
   obtain ⟨tQ, Aj, Af, Ah, Ag, Ai⟩ := M.q5 7 rfl
   exact bodyPost_ret (v := .tuple #[.agg #[.int .i64 a, .int .i64 b, .int .i64 c, .int .i64 dd, .int .i64 ee], .agg #[.slice (some ⟨bt, off, none⟩) ts.length e0, .slice B1 ks.length e1, .slice B2 fs.length e2, .int .i64 tn, .bool st], .int .i64 wt, .int .i64 on, .int .i64 v9]) (by simp [results, Tryz.results11, go_sem, Aj, Af, Ah, Ag, Ai, Ab, Ae, Ad, Ac, Aa]) rfl ⟨a, b, c, dd, ee, ts, ks, fs, tn, st, (some ⟨bt, off, none⟩), B1, B2, e0, e1, e2, wt, on, v9, rfl, h0, h1, h2, (M.drop 2).take 3⟩
  ·have hs2 : (s == 3) = false := by simpa using hs
   obtain ⟨tY, Aq, Am, An, As, Ak⟩ := M.q5 0 rfl
   obtain ⟨tP, Bb, Az, Ax, Aw, Bc⟩ := M.q5 1 rfl
   clear tY Aq Am An As Ak tP Bb Az Ax Aw Bc
   obtain ⟨tY, Aq, Am, An, As, Ak⟩ := M.q5 0 rfl
   obtain ⟨tP, Bb, Az, Ax, Aw, Bc⟩ := M.q5 1 rfl
   go_wp2_with fail
   clear tY Aq Am An As Ak tP Bb Az Ax Aw Bc
   refine wp_region_T (S := (fun w' => w'.cell? ⟨aY, 0, none⟩ = some (.slice (some ⟨bt, off, none⟩) ts.length e0) ∧ w'.cell? ⟨aY, 1, none⟩ = some (.slice B1 ks.length e1) ∧ w'.cell? ⟨aY, 2, none⟩ = some (.slice B2 fs.length e2) ∧ w'.cell? ⟨aY, 3, none⟩ = some (.int .i64 tn) ∧ w'.cell? ⟨aY, 4, none⟩ = some (.bool st) ∧ w'.cell? ⟨aP, 0, none⟩ = some (.int .i64 a) ∧ w'.cell? ⟨aP, 1, none⟩ = some (.int .i64 b) ∧ w'.cell? ⟨aP, 2, none⟩ = some (.int .i64 c) ∧ w'.cell? ⟨aP, 3, none⟩ = some (.int .i64 dd) ∧ w'.cell? ⟨aP, 4, none⟩ = some (.int .i64 ee))) (ks := []) (by kernel_rfl) ⟨M.cell 0 0 rfl, M.cell 0 1 rfl, M.cell 0 2 rfl, M.cell 0 3 rfl, M.cell 0 4 rfl, M.cell 1 0 rfl, M.cell 1 1 rfl, M.cell 1 2 rfl, M.cell 1 3 rfl, M.cell 1 4 rfl⟩ (fun hHeld => ?_)
   replace M := M.drew
   generalize W5.drew = W14 at M hHeld ⊢
   refine tkL 0 ?v0u47 rfl ?hy0u47 hHeld ?_
   case hy0u47 => (intro w hSw; (try dsimp only at hSw); go_split_ands; go_simp; all_goals with_reducible rfl)
   try simp only [Act.put, List.setIfInBounds_toArray, List.set_cons_zero, List.set_cons_succ]
   refine tkL 1 ?v1u48 rfl ?hy1u48 hHeld ?_
   case hy1u48 => (intro w hSw; (try dsimp only at hSw); go_split_ands; go_simp; all_goals with_reducible rfl)
   try simp only [Act.put, List.setIfInBounds_toArray, List.set_cons_zero, List.set_cons_succ]
   refine tkY 2 ?v2u49 rfl ?hy2u49 (fun _ => hHeld) ?_
   case hy2u49 => (intro w; go_simp; all_goals with_reducible rfl)
   try simp only [Act.put, List.setIfInBounds_toArray, List.set_cons_zero, List.set_cons_succ]
   refine tkY 4 ?v4u50 rfl ?hy4u50 (fun _ => hHeld) ?_
   case hy4u50 => (intro w; go_simp; all_goals with_reducible rfl)
   try simp only [Act.put, List.setIfInBounds_toArray, List.set_cons_zero, List.set_cons_succ]
   refine tkY 6 ?v6u51 rfl ?hy6u51 (fun _ => hHeld) ?_
   case hy6u51 => (intro w; go_simp; all_goals with_reducible rfl)
   try simp only [Act.put, List.setIfInBounds_toArray, List.set_cons_zero, List.set_cons_succ]
   refine wpAnyT_callL (i := 3) rfl (by kernel_rfl) (fun K hK => ?_)
   go_simp
   refine Calls.mono (by with_reducible exact (l1From_any B _ g A len cap 0 3 (by omega) (by omega) (by omega) (M.curIn 5 rfl hc hB hl hby))) ?_
   rintro r W15 ⟨wt9, rfl, wt1, wt2, gg, d⟩
   have MM := M.curGo 5 rfl gg d
   clear M hc gg d
   obtain ⟨cs1, hc, M⟩ := MM
   simp only [List.set_cons_zero, List.set_cons_succ] at M
   clear hHeld
   go_wp2_with fail
   refine hK.out _ _ ?_ (fun hHeld => ?_)
   ·exact ⟨M.cell 0 0 rfl, M.cell 0 1 rfl, M.cell 0 2 rfl, M.cell 0 3 rfl, M.cell 0 4 rfl, M.cell 1 0 rfl, M.cell 1 1 rfl, M.cell 1 2 rfl, M.cell 1 3 rfl, M.cell 1 4 rfl⟩
   clear hK K
   try simp only [Act.put, List.setIfInBounds_toArray, List.set_cons_zero, List.set_cons_succ]
   refine wpAnyT_callL (i := 5) rfl (by kernel_rfl) (fun K hK => ?_)
   go_simp
   refine Calls.mono (by with_reducible exact (l1Below_pos B _ g A len cap 3 (by omega) (by omega) (M.curIn 5 rfl hc hB hl hby))) ?_
   rintro r W16 ⟨on9, rfl, on1, on2, gg, d⟩
   have MM := M.curGo 5 rfl gg d
   clear M hc gg d
   obtain ⟨cs2, hc, M⟩ := MM
   simp only [List.set_cons_zero, List.set_cons_succ] at M
   clear hHeld
   go_wp2_with fail
   refine hK.out _ _ ?_ (fun hHeld => ?_)
   ·exact ⟨M.cell 0 0 rfl, M.cell 0 1 rfl, M.cell 0 2 rfl, M.cell 0 3 rfl, M.cell 0 4 rfl, M.cell 1 0 rfl, M.cell 1 1 rfl, M.cell 1 2 rfl, M.cell 1 3 rfl, M.cell 1 4 rfl⟩
   clear hK K
   try simp only [Act.put, List.setIfInBounds_toArray, List.set_cons_zero, List.set_cons_succ]
   obtain ⟨tQ, Aj, Ba, Af, Bd, Ah, Au, Ag, Av, Ai, Ay⟩ := M.f5 7 rfl
   refine wpAnyT_callL (i := 7) rfl (by kernel_rfl) (fun K hK => ?_)
   go_simp
   clear tQ Aj Ba Af Bd Ah Au Ag Av Ai Ay
   have N := M.gset5 7 rfl (.int .i64 a) (.int .i64 b) (.int .i64 c) (.int .i64 dd) (.int .i64 ee)
   clear M
   obtain ⟨W17, eW, M⟩ := N
   rw [eW]
   clear eW
   simp only [List.set_cons_zero, List.set_cons_succ] at M
   clear hHeld
   refine hK.out _ _ ?_ (fun hHeld => ?_)
   ·exact ⟨M.cell 0 0 rfl, M.cell 0 1 rfl, M.cell 0 2 rfl, M.cell 0 3 rfl, M.cell 0 4 rfl, M.cell 1 0 rfl, M.cell 1 1 rfl, M.cell 1 2 rfl, M.cell 1 3 rfl, M.cell 1 4 rfl⟩
   clear hK K
   try simp only [Act.put, List.setIfInBounds_toArray, List.set_cons_zero, List.set_cons_succ]
   obtain ⟨tR, Ab, At, Ae, Al, Ad, Ap, Ac, Ao, Aa, Ar⟩ := M.f5 6 rfl
   refine wpAnyT_callL (i := 8) rfl (by kernel_rfl) (fun K hK => ?_)
   go_simp
   clear tR Ab At Ae Al Ad Ap Ac Ao Aa Ar
   have N := M.gset5 6 rfl (.slice (some ⟨bt, off, none⟩) ts.length e0) (.slice B1 ks.length e1) (.slice B2 fs.length e2) (.int .i64 tn) (.bool st)
   clear M
   obtain ⟨W18, eW, M⟩ := N
   rw [eW]
   clear eW
   simp only [List.set_cons_zero, List.set_cons_succ] at M
   clear hHeld
   refine hK.out _ _ ?_ (fun hHeld => ?_)
   ·exact ⟨M.cell 0 0 rfl, M.cell 0 1 rfl, M.cell 0 2 rfl, M.cell 0 3 rfl, M.cell 0 4 rfl, M.cell 1 0 rfl, M.cell 1 1 rfl, M.cell 1 2 rfl, M.cell 1 3 rfl, M.cell 1 4 rfl⟩
   clear hK K
   try simp only [Act.put, List.setIfInBounds_toArray, List.set_cons_zero, List.set_cons_succ]
   refine tkY 9 ?v9u52 rfl ?hy9u52 (fun _ => hHeld) ?_
   case hy9u52 => (intro w; go_simp; all_goals with_reducible rfl)
   try simp only [Act.put, List.setIfInBounds_toArray, List.set_cons_zero, List.set_cons_succ]
   refine tkY 10 ?v10u53 rfl ?hy10u53 (fun _ => hHeld) ?_
   case hy10u53 => (intro w; go_simp; all_goals with_reducible rfl)
   try simp only [Act.put, List.setIfInBounds_toArray, List.set_cons_zero, List.set_cons_succ]
   refine tkY 11 ?v11u54 rfl ?hy11u54 (fun _ => hHeld) ?_
   case hy11u54 => (intro w; go_simp; all_goals with_reducible rfl)
   try simp only [Act.put, List.setIfInBounds_toArray, List.set_cons_zero, List.set_cons_succ]
   refine wpAnyT_done (by kernel_rfl) ?_ _
   go_wp2_with fail
   obtain ⟨tR, Ab, Ae, Ad, Ac, Aa⟩ := M.q5 6 rfl
   obtain ⟨tQ, Aj, Af, Ah, Ag, Ai⟩ := M.q5 7 rfl
   exact bodyPost_ret (v := .tuple #[.agg #[.int .i64 a, .int .i64 b, .int .i64 c, .int .i64 dd, .int .i64 ee], .agg #[.slice (some ⟨bt, off, none⟩) ts.length e0, .slice B1 ks.length e1, .slice B2 fs.length e2, .int .i64 tn, .bool st], .int .i64 wt9, .int .i64 on9, .int .i64 v9]) (by simp [results, Tryz.results11, go_sem, Aj, Af, Ah, Ag, Ai, Ab, Ae, Ad, Ac, Aa]) rfl ⟨a, b, c, dd, ee, ts, ks, fs, tn, st, (some ⟨bt, off, none⟩), B1, B2, e0, e1, e2, wt9, on9, v9, rfl, h0, h1, h2, (M.drop 2).take 3⟩
theorem Sep.enter1 {o1 : Array Value} {t1 : TypeId} (w : World) : Sep [] w (w.alloc (.cells o1 t1)) [.blk w.heap.size t1 o1] := (Sep.start w).alloc t1 o1 w.heap.size rfl
end Go.Proofs.YtfjgelegojbmgaaGreat
