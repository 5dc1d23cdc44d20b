/- The program's waking and parking of one task, behind a pointer to the pool. The list of tasks shorter than a million. -/
import Derived.Test.YtfjgelegojbmgaaGreatRows
import Derived.WalkKit
import Derived.ProofKit
import Derived.OpenShut
import Derived.Carry
import Derived.Below
import Derived.ChangeOld
import Derived.Lib.SmallJoins
import Derived.Test.YtfjgelegojbmgaaGreatQB40
import Derived.Test.YtfjgelegojbmgaaGreatQB41
import Derived.Test.YtfjgelegojbmgaaGreatQB39
import Derived.Test.YtfjgelegojbmgaaGreatQB14
import Derived.Test.YtfjgelegojbmgaaGreatQB04
import Derived.Test.YtfjgelegojbmgaaGreatQB13
import Derived.Test.YtfjgelegojbmgaaGreatQB08

namespace Go.Proofs.YtfjgelegojbmgaaGreat
open Go.RowKit
set_option linter.unusedVariables false
open Go.ChangeShapes Go.WideShapes Go.ChangeAt Go.RowKit Go.Joins Go.Deep
theorem own : ownKnob Tryz.prog.godebug = none := by kernel_rfl
theorem laidOut : laidOutB Tryz.prog = true := by kernel_rfl
section
variable {H : Type} {enc : TypeId × Value → H} {P : Program} {w : World} {base : Nat} {spare : Nat → Bool} {held : Bool}
end
set_option maxRecDepth 100000 in
set_option maxHeartbeats 1600000 in
theorem drawParked_any (B : Nat) (w : World) (A : Option Addr) (len cap : Nat) (hB : B ≤ w.heap.size) (hl : len ≤ 4096) (hby : Bytes w B A len) :
 Calls Tryz.prog 19 #[.slice A len cap] w fun r w' => ∃ (a b c d e : Int) (ts : List T7) (ks : List Int) (fs : List F2) (tn : Int) (st : Bool) (B0 B1 B2 : Option Addr) (e0 e1 e2 : Nat) (z wt on : Int), r = .returned (.tuple #[.agg #[.int .i64 a, .int .i64 b, .int .i64 c, .int .i64 d, .int .i64 e], .agg #[.slice B0 ts.length e0, .slice B1 ks.length e1, .slice B2 fs.length e2, .int .i64 tn, .bool st], .int .i64 z, .int .i64 wt, .int .i64 on]) ∧ ts.length ≤ 31 ∧ ks.length ≤ 31 ∧ fs.length ≤ 31 ∧ Sep [] w w' [rT ts.length B0 e0 ts, rK ks.length B1 e1 ks, rF fs.length B2 e2 fs] := by
 go_enter Tryz.func19, Tryz.ntmps19
 go_wp2_with fail
 have M := Sep.start w
 have N := M.al2 25 #[.int .i64 0, .int .i64 0, .int .i64 0, .int .i64 0, .int .i64 0] 30 #[.slice none 0 0, .slice none 0 0, .slice none 0 0, .int .i64 0, .bool false]
 clear M
 obtain ⟨aQ, aR, W1, e1, e2, e3, M⟩ := N
 rw [e3, e2, e1]
 clear e1 e2 e3
 obtain ⟨tQ, Ap, Ay, Ao, Ax, Al, Aw, Am, Av, At, Au⟩ := M.f5 1 rfl
 go_wp2_with fail
 clear tQ Ap Ay Ao Ax Al Aw Am Av At Au
 have hs1 := M.size
 have hby1 : Bytes W1 B A len := hby.keep fun b hb => M.below.block b (by omega)
 go_call (l1New_any B _ A len cap (by omega) hl hby1) as r W2 ⟨rfl, g1, d⟩
 obtain ⟨cs0, hc, N⟩ := cur_start d
 have N2 := sepCur g1 (Nat.le_refl _) N
 replace M := Sep.new M N2
 clear N N2 g1 hby1 hs1
 simp only [List.cons_append, List.nil_append] at M
 obtain ⟨g, hg⟩ : ∃ g, g = W1.heap.size := ⟨_, rfl⟩
 rw [← hg] at M d ⊢
 clear hg
 obtain ⟨tR, Ae, Ar, Ab, Ak, Aj, An, Ac, Aq, Ag, As⟩ := M.f5 1 rfl
 go_wp2_with fail
 go_call (l3DrawAny_any B _ g A len cap d) as r W3 ⟨a, b, c, dd, ee, ts, ks, fs, tn, st, B0, B1, B2, e0, e1, e2, n0, n1, n2, cs1, rfl, rfl, rfl, rfl, h0, h1, h2, hc2, g2⟩
 clear tR Ae Ar Ab Ak Aj An Ac Aq Ag As
 replace M := Sep.comp (ps := [.blk g 109 cs0]) M g2
 clear g2 hc d
 have hc := hc2
 clear hc2
 simp only [List.cons_append, List.nil_append] at M
 obtain ⟨tR, Ae, Ar, Ab, Ak, Aj, An, Ac, Aq, Ag, As⟩ := M.f5 4 rfl
 go_wp2_with fail
 clear tR Ae Ar Ab Ak Aj An Ac Aq Ag As
 obtain ⟨pb, hpb⟩ : ∃ pb, pb = W3.heap.size := ⟨_, rfl⟩
 obtain ⟨yb, hyb⟩ : ∃ yb, yb = W3.heap.size + 1 := ⟨_, rfl⟩
 rw [← hyb, ← hpb]
 replace M : Sep [] w ((W3.alloc (.cells #[.int .i64 a, .int .i64 b, .int .i64 c, .int .i64 dd, .int .i64 ee] 25)).alloc (.cells #[.slice B0 ts.length e0, .slice B1 ks.length e1, .slice B2 fs.length e2, .int .i64 tn, .bool st] 30)) [.blk (yb) 30 #[.slice B0 ts.length e0, .slice B1 ks.length e1, .slice B2 fs.length e2, .int .i64 tn, .bool st], .blk (pb) 25 #[.int .i64 a, .int .i64 b, .int .i64 c, .int .i64 dd, .int .i64 ee], rT ts.length B0 e0 ts, rK ks.length B1 e1 ks, rF fs.length B2 e2 fs, .blk g 109 cs1, .blk (aR) 30 #[.slice none 0 0, .slice none 0 0, .slice none 0 0, .int .i64 0, .bool false], .blk (aQ) 25 #[.int .i64 0, .int .i64 0, .int .i64 0, .int .i64 0, .int .i64 0]] := (M.alloc 25 #[.int .i64 a, .int .i64 b, .int .i64 c, .int .i64 dd, .int .i64 ee] pb hpb.symm).alloc 30 #[.slice B0 ts.length e0, .slice B1 ks.length e1, .slice B2 fs.length e2, .int .i64 tn, .bool st] yb (by simp [hyb])
 generalize (W3.alloc (.cells #[.int .i64 a, .int .i64 b, .int .i64 c, .int .i64 dd, .int .i64 ee] 25)).alloc (.cells #[.slice B0 ts.length e0, .slice B1 ks.length e1, .slice B2 fs.length e2, .int .i64 tn, .bool st] 30) = W4 at M ⊢
 clear hpb hyb
 obtain ⟨tY, Aa, Af, Ad, Ah, Ai⟩ := M.q5 0 rfl
 go_wp2_with fail
 go_call (l1From_any B _ g A len cap (-1) ts.length (by omega) (by omega) (by omega) (M.curIn 5 rfl hc hB hl hby)) as r W5 ⟨i9, rfl, i91, i92, gg, d⟩
 clear tY Aa Af Ad Ah Ai
 have MM := M.curGo 5 rfl gg d
 clear M hc gg d
 obtain ⟨cs2, hc, M⟩ := MM
 simp only [List.set_cons_zero, List.set_cons_succ] at M
 clear i91 i92
 obtain ⟨tY, Aa, Af, Ad, Ah, Ai⟩ := M.q5 0 rfl
 go_wp2_with fail
 clear tY Aa Af Ad Ah Ai
 go_loopw [10, 11] (fun v i wr => ∃ (k : Nat) (z : Int) (cs : Array Value), v = .int .i64 z ∧ i = .int .i64 k ∧ k ≤ ts.length ∧ curC A len cap cs ∧ Sep [] w wr [.blk (yb) 30 #[.slice B0 ts.length e0, .slice B1 ks.length e1, .slice B2 fs.length e2, .int .i64 tn, .bool st], .blk (pb) 25 #[.int .i64 a, .int .i64 b, .int .i64 c, .int .i64 dd, .int .i64 ee], rT ts.length B0 e0 ts, rK ks.length B1 e1 ks, rF fs.length B2 e2 fs, .blk g 109 cs, .blk (aR) 30 #[.slice none 0 0, .slice none 0 0, .slice none 0 0, .int .i64 0, .bool false], .blk (aQ) 25 #[.int .i64 0, .int .i64 0, .int .i64 0, .int .i64 0, .int .i64 0]]) (fun _ i _ => ts.length - (intOf i).toNat)
 case atStart => exact ⟨0, i9, _, rfl, rfl, Nat.zero_le _, hc, M⟩
 case round =>
  clear M hc
  obtain ⟨k, z, cs20, rfl, rfl, hk, hc, M⟩ := hrel
  rename World => W6
  by_cases hlt : k < ts.length
  ·obtain ⟨bt, off, s, l, o, wt, on, v, t, eB, _, hx, hb1, z0, z1, z2, z3, z4, z5, z6⟩ := (M.rowS 2 rfl : Row _ B0 (tcells ts)).ts_at hlt
   clear hx hb1 z1 z2 z3 z4 z5 z6
   have hk1 : (k : Int) < (ts.length : Int) := by omega
   have hk0 : (0 : Int) ≤ (k : Int) := by omega
   obtain ⟨tY, Aa, Af, Ad, Ah, Ai⟩ := M.q5 0 rfl
   rw [eB] at Aa
   by_cases hs : s = 2
   ·subst hs
    go_wp2_with fail
    clear z0 eB
    go_call (l1Once_any B _ g A len cap 3 (by omega) (by omega) (M.curIn 5 rfl hc hB hl hby)) as r W7 ⟨bb, rfl, gg, d⟩
    clear tY Aa Af Ad Ah Ai
    have MM := M.curGo 5 rfl gg d
    clear M hc gg d
    obtain ⟨cs21, hc, M⟩ := MM
    simp only [List.set_cons_zero, List.set_cons_succ] at M
    cases bb
    ·go_wp2_with fail
     go_roundw
     case rel => exact ⟨k + 1, _, _, rfl, by go_num, by omega, hc, M⟩
     case measure => simp [intOf]; omega
    ·go_wp2_with fail
     go_roundw
     case rel => exact ⟨k + 1, _, _, rfl, by go_num, by omega, hc, M⟩
     case measure => simp [intOf]; omega
   ·have hs2 : (s == 2) = false := by simpa using hs
    go_wp2_with fail
    go_roundw
    case rel => exact ⟨k + 1, _, _, rfl, by go_num, by omega, hc, M⟩
    case measure => simp [intOf]; omega
  ·obtain ⟨tY, Aa, Af, Ad, Ah, Ai⟩ := M.q5 0 rfl
   obtain ⟨tP, Ba, Bb, Az, Bc, Bd⟩ := M.q5 1 rfl
   go_wp2_with fail
   clear tY Aa Af Ad Ah Ai tP Ba Bb Az Bc Bd
   refine wp_region_T (S := (fun w' => w'.cell? ⟨yb, 0, none⟩ = some (.slice B0 ts.length e0) ∧ w'.cell? ⟨yb, 1, none⟩ = some (.slice B1 ks.length e1) ∧ w'.cell? ⟨yb, 2, none⟩ = some (.slice B2 fs.length e2) ∧ w'.cell? ⟨yb, 3, none⟩ = some (.int .i64 tn) ∧ w'.cell? ⟨yb, 4, none⟩ = some (.bool st) ∧ w'.cell? ⟨pb, 0, none⟩ = some (.int .i64 a) ∧ w'.cell? ⟨pb, 1, none⟩ = some (.int .i64 b) ∧ w'.cell? ⟨pb, 2, none⟩ = some (.int .i64 c) ∧ w'.cell? ⟨pb, 3, none⟩ = some (.int .i64 dd) ∧ w'.cell? ⟨pb, 4, none⟩ = some (.int .i64 ee))) (ks := []) (by kernel_rfl) ⟨M.cell 0 0 rfl, M.cell 0 1 rfl, M.cell 0 2 rfl, M.cell 0 3 rfl, M.cell 0 4 rfl, M.cell 1 0 rfl, M.cell 1 1 rfl, M.cell 1 2 rfl, M.cell 1 3 rfl, M.cell 1 4 rfl⟩ (fun hHeld => ?_)
   replace M := M.drew
   generalize W6.drew = W8 at M hHeld ⊢
   refine tkL 0 ?v0u1 rfl ?hy0u1 hHeld ?_
   case hy0u1 => (intro w hSw; (try dsimp only at hSw); go_split_ands; go_simp; all_goals with_reducible rfl)
   try simp only [Act.put, List.setIfInBounds_toArray, List.set_cons_zero, List.set_cons_succ]
   refine tkL 1 ?v1u2 rfl ?hy1u2 hHeld ?_
   case hy1u2 => (intro w hSw; (try dsimp only at hSw); go_split_ands; go_simp; all_goals with_reducible rfl)
   try simp only [Act.put, List.setIfInBounds_toArray, List.set_cons_zero, List.set_cons_succ]
   refine tkY 2 ?v2u3 rfl ?hy2u3 (fun _ => hHeld) ?_
   case hy2u3 => (intro w; go_simp; all_goals with_reducible rfl)
   try simp only [Act.put, List.setIfInBounds_toArray, List.set_cons_zero, List.set_cons_succ]
   refine tkY 3 ?v3u4 rfl ?hy3u4 (fun _ => hHeld) ?_
   case hy3u4 => (intro w; go_simp; all_goals with_reducible rfl)
   try simp only [Act.put, List.setIfInBounds_toArray, List.set_cons_zero, List.set_cons_succ]
   refine tkY 5 ?v5u5 rfl ?hy5u5 (fun _ => hHeld) ?_
   case hy5u5 => (intro w; go_simp; all_goals with_reducible rfl)
   try simp only [Act.put, List.setIfInBounds_toArray, List.set_cons_zero, List.set_cons_succ]
   refine wpAnyT_callL (i := 4) rfl (by kernel_rfl) (fun K hK => ?_)
   go_simp
   refine Calls.mono (by with_reducible exact (l1From_any B _ g A len cap 0 4 (by omega) (by omega) (by omega) (M.curIn 5 rfl hc hB hl hby))) ?_
   rintro r W9 ⟨wt, rfl, wt1, wt2, gg, d⟩
   have MM := M.curGo 5 rfl gg d
   clear M hc gg d
   obtain ⟨cs21, hc, M⟩ := MM
   simp only [List.set_cons_zero, List.set_cons_succ] at M
   clear hHeld
   go_wp2_with fail
   refine hK.out _ _ ?_ (fun hHeld => ?_)
   ·exact ⟨M.cell 0 0 rfl, M.cell 0 1 rfl, M.cell 0 2 rfl, M.cell 0 3 rfl, M.cell 0 4 rfl, M.cell 1 0 rfl, M.cell 1 1 rfl, M.cell 1 2 rfl, M.cell 1 3 rfl, M.cell 1 4 rfl⟩
   clear hK K
   try simp only [Act.put, List.setIfInBounds_toArray, List.set_cons_zero, List.set_cons_succ]
   refine wpAnyT_callL (i := 6) rfl (by kernel_rfl) (fun K hK => ?_)
   go_simp
   refine Calls.mono (by with_reducible exact (l1From_any B _ g A len cap (-1) 3 (by omega) (by omega) (by omega) (M.curIn 5 rfl hc hB hl hby))) ?_
   rintro r W10 ⟨on, rfl, on1, on2, gg, d⟩
   have MM := M.curGo 5 rfl gg d
   clear M hc gg d
   obtain ⟨cs22, hc, M⟩ := MM
   simp only [List.set_cons_zero, List.set_cons_succ] at M
   clear hHeld
   go_wp2_with fail
   refine hK.out _ _ ?_ (fun hHeld => ?_)
   ·exact ⟨M.cell 0 0 rfl, M.cell 0 1 rfl, M.cell 0 2 rfl, M.cell 0 3 rfl, M.cell 0 4 rfl, M.cell 1 0 rfl, M.cell 1 1 rfl, M.cell 1 2 rfl, M.cell 1 3 rfl, M.cell 1 4 rfl⟩
   clear hK K
   try simp only [Act.put, List.setIfInBounds_toArray, List.set_cons_zero, List.set_cons_succ]
   obtain ⟨tQ, Ap, Ay, Ao, Ax, Al, Aw, Am, Av, At, Au⟩ := M.f5 7 rfl
   refine wpAnyT_callL (i := 7) rfl (by kernel_rfl) (fun K hK => ?_)
   go_simp
   clear tQ Ap Ay Ao Ax Al Aw Am Av At Au
   have N := M.gset5 7 rfl (.int .i64 a) (.int .i64 b) (.int .i64 c) (.int .i64 dd) (.int .i64 ee)
   clear M
   obtain ⟨W11, eW, M⟩ := N
   rw [eW]
   clear eW
   simp only [List.set_cons_zero, List.set_cons_succ] at M
   clear hHeld
   refine hK.out _ _ ?_ (fun hHeld => ?_)
   ·exact ⟨M.cell 0 0 rfl, M.cell 0 1 rfl, M.cell 0 2 rfl, M.cell 0 3 rfl, M.cell 0 4 rfl, M.cell 1 0 rfl, M.cell 1 1 rfl, M.cell 1 2 rfl, M.cell 1 3 rfl, M.cell 1 4 rfl⟩
   clear hK K
   try simp only [Act.put, List.setIfInBounds_toArray, List.set_cons_zero, List.set_cons_succ]
   obtain ⟨tR, Ae, Ar, Ab, Ak, Aj, An, Ac, Aq, Ag, As⟩ := M.f5 6 rfl
   refine wpAnyT_callL (i := 8) rfl (by kernel_rfl) (fun K hK => ?_)
   go_simp
   clear tR Ae Ar Ab Ak Aj An Ac Aq Ag As
   have N := M.gset5 6 rfl (.slice B0 ts.length e0) (.slice B1 ks.length e1) (.slice B2 fs.length e2) (.int .i64 tn) (.bool st)
   clear M
   obtain ⟨W12, eW, M⟩ := N
   rw [eW]
   clear eW
   simp only [List.set_cons_zero, List.set_cons_succ] at M
   clear hHeld
   refine hK.out _ _ ?_ (fun hHeld => ?_)
   ·exact ⟨M.cell 0 0 rfl, M.cell 0 1 rfl, M.cell 0 2 rfl, M.cell 0 3 rfl, M.cell 0 4 rfl, M.cell 1 0 rfl, M.cell 1 1 rfl, M.cell 1 2 rfl, M.cell 1 3 rfl, M.cell 1 4 rfl⟩
   clear hK K
   try simp only [Act.put, List.setIfInBounds_toArray, List.set_cons_zero, List.set_cons_succ]
   refine tkY 9 ?v9u6 rfl ?hy9u6 (fun _ => hHeld) ?_
   case hy9u6 => (intro w; go_simp; all_goals with_reducible rfl)
   try simp only [Act.put, List.setIfInBounds_toArray, List.set_cons_zero, List.set_cons_succ]
   refine tkY 10 ?v10u7 rfl ?hy10u7 (fun _ => hHeld) ?_
   case hy10u7 => (intro w; go_simp; all_goals with_reducible rfl)
   try simp only [Act.put, List.setIfInBounds_toArray, List.set_cons_zero, List.set_cons_succ]
   refine tkY 11 ?v11u8 rfl ?hy11u8 (fun _ => hHeld) ?_
   case hy11u8 => (intro w; go_simp; all_goals with_reducible rfl)
   try simp only [Act.put, List.setIfInBounds_toArray, List.set_cons_zero, List.set_cons_succ]
   refine wpAnyT_done (by kernel_rfl) ?_ _
   go_wp2_with fail
   obtain ⟨tR, Ae, Ab, Aj, Ac, Ag⟩ := M.q5 6 rfl
   obtain ⟨tQ, Ap, Ao, Al, Am, At⟩ := M.q5 7 rfl
   exact bodyPost_ret (v := .tuple #[.agg #[.int .i64 a, .int .i64 b, .int .i64 c, .int .i64 dd, .int .i64 ee], .agg #[.slice B0 ts.length e0, .slice B1 ks.length e1, .slice B2 fs.length e2, .int .i64 tn, .bool st], .int .i64 z, .int .i64 wt, .int .i64 on]) (by simp [results, Tryz.results19, go_sem, Ap, Ao, Al, Am, At, Ae, Ab, Aj, Ac, Ag]) rfl ⟨a, b, c, dd, ee, ts, ks, fs, tn, st, B0, B1, B2, e0, e1, e2, z, wt, on, rfl, h0, h1, h2, (M.drop 2).take 3⟩
theorem Sep.enter1 {o1 : Array Value} {t1 : TypeId} (w : World) : Sep [] w (w.alloc (.cells o1 t1)) [.blk w.heap.size t1 o1] := (Sep.start w).alloc t1 o1 w.heap.size rfl
set_option maxRecDepth 100000
def isInB (ts : List T7) (id s : Int) : Bool := btw id 0 ((ts.length : Int) - 1) && ((taskAt ts id).s == s)
theorem isInB_nat {ts : List T7} {id s : Int} (h : isInB ts id s = true) : ∃ (k : Nat) (x : T7), id = k ∧ k < ts.length ∧ ts[k]? = some x ∧ x.s = s := by
 simp only [isInB, btw, Bool.and_eq_true, decide_eq_true_eq, beq_iff_eq] at h
 obtain ⟨⟨h1, h2⟩, h3⟩ := h
 refine ⟨id.toNat, taskAt ts id, by omega, by omega, ?_, h3⟩
 unfold taskAt
 rw [List.getD_eq_getElem?_getD, List.getElem?_eq_getElem (by omega)]
 rfl
theorem isInB_of {ts : List T7} {k : Nat} {x : T7} (h : ts[k]? = some x) (s : Int) : isInB ts k s = (x.s == s) := by
 have hk : k < ts.length := by
  rcases Nat.lt_or_ge k ts.length with h1 | h1
  ·exact h1
  ·rw [List.getElem?_eq_none h1] at h; cases h
 unfold isInB
 rw [taskAt_of h]
 have : btw (k : Int) 0 ((ts.length : Int) - 1) = true := by simp [btw]; omega
 rw [this, Bool.true_and]
set_option maxHeartbeats 400000 in
theorem has_any (ts : List T7) (A0 A1 A2 : Option Addr) (c0 n1 c1 n2 c2 : Nat) (tn : Int) (st : Bool) (g : Nat) (id : Int) (w : World) (hlen : ts.length ≤ 1048576) (hg : Blk w g 30 #[.slice A0 ts.length c0, .slice A1 n1 c1, .slice A2 n2 c2, .int .i64 tn, .bool st]) :
 Calls Tryz.prog 129 #[.pointer (some ⟨g, 0, none⟩), .int .i64 id] w fun r w' => r = .returned (.bool (btw id 0 ((ts.length : Int) - 1))) ∧ w = w' := by
 have H := hide hg
 clear hg
 go_enter Tryz.func129, Tryz.ntmps129
 go_wp2_with fail
 go_call (size_any ts _ A1 A2 c0 n1 c1 n2 c2 tn st g _ H.out) as r W1 ⟨rfl, rfl⟩
 go_wp2_with fail
 go_call (between_any _ _ _ _) as r W2 ⟨rfl, rfl⟩
 go_wp2_with fail
 go_ret
 exact ⟨rfl, rfl⟩
set_option maxHeartbeats 2000000 in
theorem isIn_any (ts : List T7) (A0 A1 A2 : Option Addr) (c0 n1 c1 n2 c2 : Nat) (tn : Int) (st : Bool) (g : Nat) (id s : Int) (w : World) (hlen : ts.length ≤ 1048576) (hg : Blk w g 30 #[.slice A0 ts.length c0, .slice A1 n1 c1, .slice A2 n2 c2, .int .i64 tn, .bool st]) (h : Row w A0 (tcells ts)) :
 Calls Tryz.prog 106 #[.pointer (some ⟨g, 0, none⟩), .int .i64 id, .int .i64 s] w fun r w' => r = .returned (.bool (isInB ts id s)) ∧ Below w.heap.size w w' := by
 have H := hide (⟨h, hg⟩ : _ ∧ _)
 have q0 : w.cell? ⟨g, 0, none⟩ = some (.slice A0 ts.length c0) := hg.cell 0
 by_cases hb : btw id 0 ((ts.length : Int) - 1) = true
 ·obtain ⟨k, rfl⟩ : ∃ k : Nat, id = k := ⟨id.toNat, by simp [btw] at hb; omega⟩
  have hk : k < ts.length := by simp [btw] at hb; omega
  obtain ⟨b, off, s', l, o, wt, on, v, t, rfl, _, he, hbl, y0, y1, y2, y3, y4, y5, y6⟩ := h.ts_at hk
  rw [isInB_of he]
  have hk1 : (k : Int) < (ts.length : Int) := by omega
  have hk0 : (0 : Int) ≤ (k : Int) := by omega
  clear he h hg
  go_enter Tryz.func106, Tryz.ntmps106
  go_wp2_with fail
  go_call (has_any ts _ A1 A2 c0 n1 c1 n2 c2 tn st g _ _ hlen H.out.2) as r W1 ⟨rfl, rfl⟩
  rw [hb]
  go_wp2_with fail
  go_ret
  exact ⟨rfl, Below.refl _ _⟩
 ·have hb' : btw id 0 ((ts.length : Int) - 1) = false := by simpa using hb
  have e : isInB ts id s = false := by unfold isInB; rw [hb']; rfl
  rw [e]
  clear h hg hb
  go_enter Tryz.func106, Tryz.ntmps106
  go_wp2_with fail
  go_call (has_any ts _ A1 A2 c0 n1 c1 n2 c2 tn st g _ _ hlen H.out.2) as r W1 ⟨rfl, rfl⟩
  rw [hb']
  go_wp2_with fail
  go_ret
  exact ⟨rfl, Below.refl _ _⟩
set_option maxHeartbeats 2000000 in
theorem takeTurn_any (ts : List T7) (A0 A1 A2 : Option Addr) (c0 n1 c1 n2 c2 : Nat) (tn : Int) (st : Bool) (g : Nat) (w : World) (t0 : -1000000000 ≤ tn) (t1 : tn ≤ 1000000000) (hg : Blk w g 30 #[.slice A0 ts.length c0, .slice A1 n1 c1, .slice A2 n2 c2, .int .i64 tn, .bool st]) :
 Calls Tryz.prog 97 #[.pointer (some ⟨g, 0, none⟩)] w fun r w' => r = .returned (.int .i64 tn) ∧ w' = w.setCell ⟨g, 3, none⟩ (.int .i64 (tn + 1)) := by
 have q3 : w.cell? ⟨g, 3, none⟩ = some (.int .i64 tn) := hg.cell 3
 have f3 : w.frozen? ⟨g, 3, none⟩ = false := hg.frozen 3
 clear hg
 go_enter Tryz.func97, Tryz.ntmps97
 go_wp2_with fail
 go_ret
 exact ⟨rfl, rfl⟩
set_option maxHeartbeats 2000000 in
theorem park_no (a b c d e : Int) (ts : List T7) (A0 A1 A2 : Option Addr) (c0 n1 c1 n2 c2 : Nat) (tn : Int) (st : Bool) (g : Nat) (id pw po : Int) (w : World) (hlen : ts.length ≤ 1048576) (hg : Blk w g 30 #[.slice A0 ts.length c0, .slice A1 n1 c1, .slice A2 n2 c2, .int .i64 tn, .bool st]) (h : Row w A0 (tcells ts)) (hc : isInB ts id 2 = false) :
 Calls Tryz.prog 61 #[.pointer (some ⟨g, 0, none⟩), .agg #[.int .i64 a, .int .i64 b, .int .i64 c, .int .i64 d, .int .i64 e], .int .i64 id, .int .i64 pw, .int .i64 po] w fun r w' => r = .returned (.bool false) ∧ Below w.heap.size w w' := by
 have H := hide (⟨h, hg⟩ : _ ∧ _)
 clear h hg
 go_enter Tryz.func61, Tryz.ntmps61
 go_wp2_with fail
 have M := Sep.enter1 (o1 := #[.int .i64 a, .int .i64 b, .int .i64 c, .int .i64 d, .int .i64 e]) (t1 := 25) w
 generalize w.alloc (.cells #[.int .i64 a, .int .i64 b, .int .i64 c, .int .i64 d, .int .i64 e] 25) = W0 at M ⊢
 go_call (isIn_any ts A0 A1 A2 c0 n1 c1 n2 c2 tn st g id 2 _ hlen (H.out.2.below M.below H.out.2.lt) (H.out.1.below M.below)) as r W1 ⟨rfl, g1⟩
 rw [hc]
 replace M := M.call g1
 go_wp2_with fail
 go_ret
 exact ⟨rfl, M.below⟩
set_option maxHeartbeats 2000000 in
theorem park_yes (a b c d e : Int) (ts : List T7) (ks : List Int) (fs : List F2) (A0 A1 A2 : Option Addr) (c0 c1 c2 : Nat) (tn : Int) (st : Bool) (g k : Nat) (pw po : Int) (s l o wt on v0 t : Int) (w : World) (hlen : ts.length ≤ 1048576) (hk1 : ks.length ≤ 1048576) (hf1 : fs.length ≤ 1048576) (t0 : -1000000 ≤ tn) (t1 : tn ≤ 1000000) (ht : ts[k]? = some ⟨s, l, o, wt, on, v0, t⟩) (h : Sep (fps [.blk g 30 #[.slice A0 ts.length c0, .slice A1 ks.length c1, .slice A2 fs.length c2, .int .i64 tn, .bool st], rT ts.length A0 c0 ts, rK ks.length A1 c1 ks, rF fs.length A2 c2 fs]) w w [.blk g 30 #[.slice A0 ts.length c0, .slice A1 ks.length c1, .slice A2 fs.length c2, .int .i64 tn, .bool st], rT ts.length A0 c0 ts, rK ks.length A1 c1 ks, rF fs.length A2 c2 fs]) (hc : isInB ts k 2 = true) :
 Calls Tryz.prog 61 #[.pointer (some ⟨g, 0, none⟩), .agg #[.int .i64 a, .int .i64 b, .int .i64 c, .int .i64 d, .int .i64 e], .int .i64 k, .int .i64 pw, .int .i64 po] w fun r w' => r = .returned (.bool (poolB a b c d e (ts.set k (parkT ⟨s, l, o, wt, on, v0, t⟩ tn pw po)) ks fs (tn + 1))) ∧ Sep (fps [.blk g 30 #[.slice A0 ts.length c0, .slice A1 ks.length c1, .slice A2 fs.length c2, .int .i64 tn, .bool st], rT ts.length A0 c0 ts, rK ks.length A1 c1 ks, rF fs.length A2 c2 fs]) w w' [.blk g 30 #[.slice A0 ts.length c0, .slice A1 ks.length c1, .slice A2 fs.length c2, .int .i64 (tn + 1), .bool st], rT ts.length A0 c0 (ts.set k (parkT ⟨s, l, o, wt, on, v0, t⟩ tn pw po)), rK ks.length A1 c1 ks, rF fs.length A2 c2 fs] := by
 have hkl : k < ts.length := by
  rcases Nat.lt_or_ge k ts.length with h1 | h1
  ·exact h1
  ·rw [List.getElem?_eq_none h1] at ht; cases ht
 obtain ⟨us, hus⟩ : ∃ us, us = ts.set k (parkT ⟨s, l, o, wt, on, v0, t⟩ tn pw po) := ⟨_, rfl⟩
 obtain ⟨bb, hbb⟩ : ∃ bb, bb = poolB a b c d e us ks fs (tn + 1) := ⟨_, rfl⟩
 rw [← hus, ← hbb]
 have HB := hide (⟨hus, show us.length = ts.length from by rw [hus]; simp, hbb⟩ : _ ∧ _ ∧ _)
 clear hus hbb
 have hki : (k : Int) < (ts.length : Int) := by omega
 have hk0 : (0 : Int) ≤ (k : Int) := by omega
 have hr : (rT ts.length A0 c0 ts).here w := h.rowAt 1 rfl
 obtain ⟨gr, rfl, hgl, hfz⟩ := rT_form hr (show 0 < ts.length by omega)
 clear hr hfz
 have HT := hide ht
 clear ht
 have H := hide h
 clear h
 go_enter Tryz.func61, Tryz.ntmps61
 go_wp2_with fail
 have M := Sep.allocN H.out 25 #[.int .i64 a, .int .i64 b, .int .i64 c, .int .i64 d, .int .i64 e]
 generalize w.alloc (.cells #[.int .i64 a, .int .i64 b, .int .i64 c, .int .i64 d, .int .i64 e] 25) = W0 at M ⊢
 go_call (isIn_any ts (some ⟨gr, 0, none⟩) A1 A2 c0 ks.length c1 fs.length c2 tn st g k 2 _ hlen (M.blk 1 rfl) (M.rowS 2 rfl)) as r W1 ⟨rfl, g1⟩
 rw [hc]
 replace M := M.call g1
 clear g1
 have q0 : W1.cell? ⟨g, 0, none⟩ = some (.slice (some ⟨gr, 0, none⟩) ts.length c0) := M.cell 1 0 rfl
 have hfz1 : ∀ j, W1.frozen? ⟨gr, j, none⟩ = false := fun j => Own.fz (M.rowAt 2 rfl) j
 have fz0 : W1.frozen? ⟨gr, k * 7, none⟩ = false := hfz1 _
 have fz2 : W1.frozen? ⟨gr, k * 7 + 2, none⟩ = false := hfz1 _
 have fz3 : W1.frozen? ⟨gr, k * 7 + 3, none⟩ = false := hfz1 _
 have fz4 : W1.frozen? ⟨gr, k * 7 + 4, none⟩ = false := hfz1 _
 obtain ⟨s', l', o', wt', on', v', t', ht', y0, y1, y2, y3, y4, y5, y6⟩ := Own.t7 (M.rowAt 2 rfl) hkl
 clear hfz1 ht' y1 y5 y6
 go_wp2_with fail
 have M2 := (M.putT2 2 rfl k 0 2 (by omega) (by omega) ⟨s, l, o, wt, on, v0, t⟩ 3 (-1) HT.out).putT2 2 rfl k 3 4 (by omega) (by omega) ⟨3, l, -1, wt, on, v0, t⟩ pw po (List.getElem?_set_self hkl)
 simp only [List.set_set] at M2
 replace M2 : Sep (fps [.blk g 30 #[.slice (some ⟨gr, 0, none⟩) ts.length c0, .slice A1 ks.length c1, .slice A2 fs.length c2, .int .i64 tn, .bool st], rT ts.length (some ⟨gr, 0, none⟩) c0 ts, rK ks.length A1 c1 ks, rF fs.length A2 c2 fs]) w ((((W1.setCell ⟨gr, k * 7, none⟩ (.int .i64 3)).setCell ⟨gr, k * 7 + 2, none⟩ (.int .i64 (-1))).setCell ⟨gr, k * 7 + 3, none⟩ (.int .i64 pw)).setCell ⟨gr, k * 7 + 4, none⟩ (.int .i64 po)) [.blk w.heap.size 25 #[.int .i64 a, .int .i64 b, .int .i64 c, .int .i64 d, .int .i64 e], .blk g 30 #[.slice (some ⟨gr, 0, none⟩) ts.length c0, .slice A1 ks.length c1, .slice A2 fs.length c2, .int .i64 tn, .bool st], rT ts.length (some ⟨gr, 0, none⟩) c0 (ts.set k ⟨3, l, -1, pw, po, v0, t⟩), rK ks.length A1 c1 ks, rF fs.length A2 c2 fs] := M2
 clear M q0 fz0 fz2 fz3 fz4 y0 y2 y3 y4
 generalize (((W1.setCell ⟨gr, k * 7, none⟩ (.int .i64 3)).setCell ⟨gr, k * 7 + 2, none⟩ (.int .i64 (-1))).setCell ⟨gr, k * 7 + 3, none⟩ (.int .i64 pw)).setCell ⟨gr, k * 7 + 4, none⟩ (.int .i64 po) = W2 at M2 ⊢
 go_call (takeTurn_any ts (some ⟨gr, 0, none⟩) A1 A2 c0 ks.length c1 fs.length c2 tn st g _ (by omega) (by omega) (M2.blk 1 rfl)) as r W3 ⟨rfl, rfl⟩
 replace M2 := M2.set 1 rfl 3 (.int .i64 (tn + 1))
 generalize W2.setCell ⟨g, 3, none⟩ (.int .i64 (tn + 1)) = W3 at M2 ⊢
 have fz6 : W3.frozen? ⟨gr, k * 7 + 6, none⟩ = false := Own.fz (M2.rowAt 2 rfl) _
 obtain ⟨s', l', o', wt', on', v', t', ht', y0, y1, y2, y3, y4, y5, y6⟩ := Own.t7 (M2.rowAt 2 rfl) (show k < (ts.set k ⟨3, l, -1, pw, po, v0, t⟩).length by simpa using hkl)
 clear ht' y0 y1 y2 y3 y4 y5
 have M3 := M2.putT 2 rfl k 6 (by omega) ⟨3, l, -1, pw, po, v0, t⟩ tn (List.getElem?_set_self hkl)
 simp only [List.set_set] at M3
 have hP0 : w.heap.size < W3.heap.size := M2.lt 0 rfl
 have hne : ¬ w.heap.size = gr := by omega
 have qP0 : W3.cell? ⟨w.heap.size, 0, none⟩ = some (.int .i64 a) := M2.cell 0 0 rfl
 have qP1 : W3.cell? ⟨w.heap.size, 1, none⟩ = some (.int .i64 b) := M2.cell 0 1 rfl
 have qP2 : W3.cell? ⟨w.heap.size, 2, none⟩ = some (.int .i64 c) := M2.cell 0 2 rfl
 have qP3 : W3.cell? ⟨w.heap.size, 3, none⟩ = some (.int .i64 d) := M2.cell 0 3 rfl
 have qP4 : W3.cell? ⟨w.heap.size, 4, none⟩ = some (.int .i64 e) := M2.cell 0 4 rfl
 go_wp2_with fail
 replace M3 : Sep (fps [.blk g 30 #[.slice (some ⟨gr, 0, none⟩) ts.length c0, .slice A1 ks.length c1, .slice A2 fs.length c2, .int .i64 tn, .bool st], rT ts.length (some ⟨gr, 0, none⟩) c0 ts, rK ks.length A1 c1 ks, rF fs.length A2 c2 fs]) w (W3.setCell ⟨gr, k * 7 + 6, none⟩ (.int .i64 tn)) [.blk w.heap.size 25 #[.int .i64 a, .int .i64 b, .int .i64 c, .int .i64 d, .int .i64 e], .blk g 30 #[.slice (some ⟨gr, 0, none⟩) ts.length c0, .slice A1 ks.length c1, .slice A2 fs.length c2, .int .i64 (tn + 1), .bool st], rT ts.length (some ⟨gr, 0, none⟩) c0 (ts.set k (parkT ⟨s, l, o, wt, on, v0, t⟩ tn pw po)), rK ks.length A1 c1 ks, rF fs.length A2 c2 fs] := M3
 generalize W3.setCell ⟨gr, k * 7 + 6, none⟩ (.int .i64 tn) = W4 at M3 ⊢
 rw [← HB.out.1, ← HB.out.2.1] at M3
 have hR := pright_any a b c d e us ks fs (some ⟨gr, 0, none⟩) A1 A2 c0 c1 c2 (tn + 1) st g W4 hk1 hf1 (M3.blk 1 rfl) ⟨M3.rowS 2 rfl, M3.rowS 3 rfl, M3.rowS 4 rfl⟩
 rw [← HB.out.2.2] at hR
 clear HT M2 fz6 y6
 apply Calls.mono
 focus with_reducible exact hR
 clear hR
 rintro r W5 ⟨rfl, g5⟩
 replace M3 := M3.call g5
 rw [HB.out.2.1] at M3
 clear g5
 go_wp2_with fail
 go_ret
 exact ⟨rfl, M3.tail⟩
end Go.Proofs.YtfjgelegojbmgaaGreat
