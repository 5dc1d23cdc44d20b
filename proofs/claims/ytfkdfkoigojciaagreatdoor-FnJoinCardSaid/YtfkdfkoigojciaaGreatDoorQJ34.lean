/- The program's line: Len, Less. The list of places no longer than a million. -/
import Derived.Test.YtfkdfkoigojciaaGreatDoorQJ32
import Derived.Test.YtfkdfkoigojciaaGreatDoorQJ33
import Derived.Test.YtfkdfkoigojciaaGreatDoorQJ14
import Derived.Test.YtfkdfkoigojciaaGreatDoorQJ04
import Derived.Test.YtfkdfkoigojciaaGreatDoorQJ13
import Derived.RangeFuncNested
import Derived.RangeFuncBound
import Derived.RangeFuncCalls
import Derived.RangeFuncLeaves
import Derived.OwnWalkIn
import Derived.TacticsInMore
import Derived.LoopNIn
import Derived.LoopIn
import Derived.Test.YtfkdfkoigojciaaGreatDoorQJ06

namespace Go.Proofs.YtfkdfkoigojciaaGreatDoor
open Go.RowKit
set_option linter.unusedVariables false
theorem poolB_parts2 {a b c d e : Int} {ts : List T7} {ks : List Int} {fs : List F2} {tn : Int} (h : poolB a b c d e ts ks fs tn = true) : 0 ≤ tn := by
 simp only [poolB, Bool.and_eq_true] at h
 have h1 := h.2.1
 simp [btw] at h1
 exact h1.1
theorem newPool_t (a b c : Int) (dd ee : Nat) (w : World) (hp : planB a b c dd ee = true) : Calls Tryz.prog 48 #[.agg #[.int .i64 a, .int .i64 b, .int .i64 c, .int .i64 dd, .int .i64 ee]] w fun r w' => ∃ (ts : List T7) (ks : List Int) (fs : List F2) (tn : Int) (st : Bool) (B0 B1 B2 : Option Addr) (e0 e1 e2 : Nat), r = .returned (.agg #[.slice B0 ts.length e0, .slice B1 ks.length e1, .slice B2 fs.length e2, .int .i64 tn, .bool st]) ∧ poolB a b c dd ee ts ks fs tn = true ∧ tn ≤ 1 ∧ Sep [] w w' [rT ts.length B0 e0 ts, rK ks.length B1 e1 ks, rF fs.length B2 e2 fs] :=
 (sNewPool_any a b c dd ee w hp).mono fun r w' ⟨B0, B1, B2, e0, e1, e2, hr, ho, hb⟩ => ⟨_, _, _, _, _, B0, B1, B2, e0, e1, e2, hr, newPool_right hp, Int.le_refl _, sepPool (Nat.le_refl _) hb ho⟩
theorem applied_t (a b c d e : Int) (ts : List T7) (ks : List Int) (fs : List F2) (A0 A1 A2 : Option Addr) (c0 c1 c2 : Nat) (tn : Int) (st : Bool) (wk k x y : Int) (w : World) (hp : poolB a b c d e ts ks fs tn = true) (h : InPool w ts ks fs A0 A1 A2) : Calls Tryz.prog 49 #[.agg #[.int .i64 a, .int .i64 b, .int .i64 c, .int .i64 d, .int .i64 e], .agg #[.slice A0 ts.length c0, .slice A1 ks.length c1, .slice A2 fs.length c2, .int .i64 tn, .bool st], .int .i64 wk, .agg #[.int .i64 k, .int .i64 x, .int .i64 y]] w fun r w' => ∃ (ts2 : List T7) (ks2 : List Int) (fs2 : List F2) (tn2 : Int) (st2 : Bool) (rp ou : Int) (B0 B1 B2 : Option Addr) (e0 e1 e2 : Nat), r = .returned (.tuple #[.agg #[.slice B0 ts2.length e0, .slice B1 ks2.length e1, .slice B2 fs2.length e2, .int .i64 tn2, .bool st2], .agg #[.int .i64 rp, .int .i64 ou]]) ∧ poolB a b c d e ts2 ks2 fs2 tn2 = true ∧ tn2 ≤ tn + 31 ∧ Sep [] w w' [rT ts2.length B0 e0 ts2, rK ks2.length B1 e1 ks2, rF fs2.length B2 e2 fs2] := by
 have hl := poolB_lens hp
 have hT := (poolB_parts2 hp)
 have ht : (appliedM a b c d e ts ks fs tn st wk k x y).tn ≤ tn + 31 := applied_turn (m := tn + 31) wk k x y (by omega) (by omega)
 exact (applied_any a b c d e ts ks fs A0 A1 A2 c0 c1 c2 tn st wk k x y w (by omega) (by omega) (by omega) h).mono fun r w' ⟨B0, B1, B2, d0, d1, d2, hr, hM⟩ => ⟨_, _, _, _, _, _, _, B0, B1, B2, d0, d1, d2, hr, applied_right wk k x y hp, ht, hM⟩
/-- A right pool, made by some calls out of the dice. -/
def GaveUsedT (a b c d e : Int) (n B : Nat) (w : World) (g : Nat) (A : Option Addr) (len cap : Nat) (r : Ending) (w' : World) : Prop :=
 ∃ (ts : List T7) (ks : List Int) (fs : List F2) (tn : Int) (st : Bool) (B0 B1 B2 : Option Addr) (e0 e1 e2 : Nat) (cs : Array Value), r = .returned (.agg #[.slice B0 ts.length e0, .slice B1 ks.length e1, .slice B2 fs.length e2, .int .i64 tn, .bool st]) ∧ poolB a b c d e ts ks fs tn = true ∧ tn ≤ 1 + 31 * (n : Int) ∧ diceC A len cap cs ∧ Sep [g] w w' ([rT ts.length B0 e0 ts, rK ks.length B1 e1 ks, rF fs.length B2 e2 fs] ++ [.blk g 68 cs])
set_option maxRecDepth 100000 in
set_option maxHeartbeats 8000000 in
theorem usedT_any (B : Nat) (w : World) (g : Nat) (A : Option Addr) (len cap : Nat) (a b c : Int) (dd ee : Nat) (n : Nat) (hn : n ≤ 100) (hp : planB a b c dd ee = true) (hd1 : 1 ≤ dd) (he1 : 1 ≤ ee) (d0 : DiceAt B w g A len cap) :
 Calls Tryz.prog 15 #[.pointer (some ⟨g, 0, none⟩), .agg #[.int .i64 a, .int .i64 b, .int .i64 c, .int .i64 dd, .int .i64 ee], .int .i64 n] w (GaveUsedT a b c dd ee n B w g A len cap) := by
 have hg := d0.lt
 have hpl : 1 ≤ a ∧ a ≤ 8 ∧ 1 ≤ c ∧ c ≤ 4 ∧ (dd : Int) ≤ 4 ∧ (ee : Int) ≤ 4 := by
  have h1 := hp
  simp [planB, btw] at h1
  omega
 obtain ⟨pa1, pa2, pc1, pc2, pd2, pe2⟩ := hpl
 have HP := hide hp
 clear hp
 go_enter Tryz.func15, Tryz.ntmps15
 go_wp2_with fail
 obtain ⟨cs0, hc, M⟩ := dice_start d0
 replace M : Sep [g] w ((w.alloc (.cells #[.int .i64 a, .int .i64 b, .int .i64 c, .int .i64 dd, .int .i64 ee] 28)).alloc (.cells #[.slice none 0 0, .slice none 0 0, .slice none 0 0, .int .i64 0, .bool false] 35)) [.blk (w.heap.size + 1) 35 #[.slice none 0 0, .slice none 0 0, .slice none 0 0, .int .i64 0, .bool false], .blk (w.heap.size) 28 #[.int .i64 a, .int .i64 b, .int .i64 c, .int .i64 dd, .int .i64 ee], .blk g 68 cs0] := ((M.alloc 28 #[.int .i64 a, .int .i64 b, .int .i64 c, .int .i64 dd, .int .i64 ee] (w.heap.size) rfl).alloc 35 #[.slice none 0 0, .slice none 0 0, .slice none 0 0, .int .i64 0, .bool false] (w.heap.size + 1) (by simp))
 generalize (w.alloc (.cells #[.int .i64 a, .int .i64 b, .int .i64 c, .int .i64 dd, .int .i64 ee] 28)).alloc (.cells #[.slice none 0 0, .slice none 0 0, .slice none 0 0, .int .i64 0, .bool false] 35) = W1 at M ⊢
 obtain ⟨tR, Ac, Av, Ae, Al, Ab, Am, Aa, Aq, Ad, At⟩ := M.f5 0 rfl
 obtain ⟨tP, Ah, Au, Aj, An, Ai, Ap, Af, Ar, Ag, Ay⟩ := M.f5 1 rfl
 go_wp2_with fail
 go_call (newPool_t a b c dd ee _ HP.out) as r W2 ⟨ts, ks, fs, tn, st, B0, B1, B2, e0, e1, e2, rfl, hpo, htn, g1⟩
 clear tR Ac Av Ae Al Ab Am Aa Aq Ad At tP Ah Au Aj An Ai Ap Af Ar Ag Ay
 replace M : Sep [g] w W2 [rT ts.length B0 e0 ts, rK ks.length B1 e1 ks, rF fs.length B2 e2 fs, .blk (w.heap.size + 1) 35 #[.slice none 0 0, .slice none 0 0, .slice none 0 0, .int .i64 0, .bool false], .blk (w.heap.size) 28 #[.int .i64 a, .int .i64 b, .int .i64 c, .int .i64 dd, .int .i64 ee], .blk g 68 cs0] := Sep.comp (ps := []) (rs := [.blk (w.heap.size + 1) 35 #[.slice none 0 0, .slice none 0 0, .slice none 0 0, .int .i64 0, .bool false], .blk (w.heap.size) 28 #[.int .i64 a, .int .i64 b, .int .i64 c, .int .i64 dd, .int .i64 ee], .blk g 68 cs0]) M g1
 clear g1
 replace hpo := hide hpo
 replace htn := hide htn
 obtain ⟨tR, Ac, Av, Ae, Al, Ab, Am, Aa, Aq, Ad, At⟩ := M.f5 3 rfl
 obtain ⟨tP, Ah, Au, Aj, An, Ai, Ap, Af, Ar, Ag, Ay⟩ := M.f5 4 rfl
 go_wp2_with fail
 clear tR Ac Av Ae Al Ab Am Aa Aq Ad At tP Ah Au Aj An Ai Ap Af Ar Ag Ay
 obtain ⟨yb, hyb⟩ : ∃ yb, yb = W2.heap.size := ⟨_, rfl⟩
 rw [← hyb]
 replace M : Sep [g] w (W2.alloc (.cells #[.slice B0 ts.length e0, .slice B1 ks.length e1, .slice B2 fs.length e2, .int .i64 tn, .bool st] 35)) [.blk (yb) 35 #[.slice B0 ts.length e0, .slice B1 ks.length e1, .slice B2 fs.length e2, .int .i64 tn, .bool st], rT ts.length B0 e0 ts, rK ks.length B1 e1 ks, rF fs.length B2 e2 fs, .blk (w.heap.size + 1) 35 #[.slice none 0 0, .slice none 0 0, .slice none 0 0, .int .i64 0, .bool false], .blk (w.heap.size) 28 #[.int .i64 a, .int .i64 b, .int .i64 c, .int .i64 dd, .int .i64 ee], .blk g 68 cs0] := M.alloc 35 #[.slice B0 ts.length e0, .slice B1 ks.length e1, .slice B2 fs.length e2, .int .i64 tn, .bool st] yb hyb.symm
 generalize W2.alloc (.cells #[.slice B0 ts.length e0, .slice B1 ks.length e1, .slice B2 fs.length e2, .int .i64 tn, .bool st] 35) = W3 at M ⊢
 clear hyb
 replace M : Sep [g] w W3 [rT ts.length B0 e0 ts, rK ks.length B1 e1 ks, rF fs.length B2 e2 fs, .blk (yb) 35 #[.slice B0 ts.length e0, .slice B1 ks.length e1, .slice B2 fs.length e2, .int .i64 tn, .bool st], .blk (w.heap.size + 1) 35 #[.slice none 0 0, .slice none 0 0, .slice none 0 0, .int .i64 0, .bool false], .blk (w.heap.size) 28 #[.int .i64 a, .int .i64 b, .int .i64 c, .int .i64 dd, .int .i64 ee], .blk g 68 cs0] := Sep.back (l1 := [rT ts.length B0 e0 ts, rK ks.length B1 e1 ks, rF fs.length B2 e2 fs]) M
 go_loopw [2] (fun i wr => ∃ (m : Nat) (ts : List T7) (ks : List Int) (fs : List F2) (tn : Int) (st : Bool) (B0 B1 B2 : Option Addr) (e0 e1 e2 : Nat) (cs : Array Value), m ≤ 100 ∧ i = .int .i64 m ∧ Hid (poolB a b c dd ee ts ks fs tn = true) ∧ Hid (tn + 31 * (m : Int) ≤ 1 + 31 * (n : Int)) ∧ diceC A len cap cs ∧ Sep [g] w wr [rT ts.length B0 e0 ts, rK ks.length B1 e1 ks, rF fs.length B2 e2 fs, .blk (yb) 35 #[.slice B0 ts.length e0, .slice B1 ks.length e1, .slice B2 fs.length e2, .int .i64 tn, .bool st], .blk (w.heap.size + 1) 35 #[.slice none 0 0, .slice none 0 0, .slice none 0 0, .int .i64 0, .bool false], .blk (w.heap.size) 28 #[.int .i64 a, .int .i64 b, .int .i64 c, .int .i64 dd, .int .i64 ee], .blk g 68 cs]) (fun i _ => (intOf i).toNat)
 case atStart => exact ⟨n, ts, ks, fs, tn, st, B0, B1, B2, e0, e1, e2, _, hn, rfl, hpo, hide (by have := htn.out; omega), hc, M⟩
 case round =>
  clear M hc hpo htn
  obtain ⟨m, ts, ks, fs, tn, st, B0, B1, B2, e0, e1, e2, cs, hm, rfl, hpo, htn, hc, M⟩ := hrel
  by_cases hm0 : 0 < m
  ·have hnpos : (0 : Int) < (m : Int) := by omega
   obtain ⟨tY, Ak, Aw, Ao, Ax, As⟩ := M.q5 3 rfl
   obtain ⟨tR, Ac, Ae, Ab, Aa, Ad⟩ := M.q5 4 rfl
   obtain ⟨tP, Ah, Aj, Ai, Af, Ag⟩ := M.q5 5 rfl
   go_wp2_with fail
   clear tY Ak Aw Ao Ax As tR Ac Ae Ab Aa Ad tP Ah Aj Ai Af Ag
   refine wp_region_T (S := (fun w' => w'.cell? ⟨w.heap.size, 0, none⟩ = some (.int .i64 a) ∧ w'.cell? ⟨w.heap.size, 1, none⟩ = some (.int .i64 b) ∧ w'.cell? ⟨w.heap.size, 2, none⟩ = some (.int .i64 c) ∧ w'.cell? ⟨w.heap.size, 3, none⟩ = some (.int .i64 dd) ∧ w'.cell? ⟨w.heap.size, 4, none⟩ = some (.int .i64 ee) ∧ w'.cell? ⟨yb, 0, none⟩ = some (.slice B0 ts.length e0) ∧ w'.cell? ⟨yb, 1, none⟩ = some (.slice B1 ks.length e1) ∧ w'.cell? ⟨yb, 2, none⟩ = some (.slice B2 fs.length e2) ∧ w'.cell? ⟨yb, 3, none⟩ = some (.int .i64 tn) ∧ w'.cell? ⟨yb, 4, none⟩ = some (.bool st))) (ks := [13]) (by kernel_rfl) ⟨M.cell 5 0 rfl, M.cell 5 1 rfl, M.cell 5 2 rfl, M.cell 5 3 rfl, M.cell 5 4 rfl, M.cell 3 0 rfl, M.cell 3 1 rfl, M.cell 3 2 rfl, M.cell 3 3 rfl, M.cell 3 4 rfl⟩ (fun hHeld => ?_)
   replace M := M.drew
   generalize wr.drew = W4 at M hHeld ⊢
   refine tkL 0 ?v0u1 rfl ?hy0u1 hHeld ?_
   case hy0u1 => (intro w hSw; (try dsimp only at hSw); go_split_ands; go_simp; all_goals with_reducible rfl)
   try simp only [Act.put, List.setIfInBounds_toArray, List.set_cons_zero, List.set_cons_succ]
   refine tkL 1 ?v1u2 rfl ?hy1u2 hHeld ?_
   case hy1u2 => (intro w hSw; (try dsimp only at hSw); go_split_ands; go_simp; all_goals with_reducible rfl)
   try simp only [Act.put, List.setIfInBounds_toArray, List.set_cons_zero, List.set_cons_succ]
   refine tkY 2 ?v2u3 rfl ?hy2u3 (fun _ => hHeld) ?_
   case hy2u3 => (intro w; go_simp; all_goals with_reducible rfl)
   try simp only [Act.put, List.setIfInBounds_toArray, List.set_cons_zero, List.set_cons_succ]
   refine tkY 6 ?v6u4 rfl ?hy6u4 (fun _ => hHeld) ?_
   case hy6u4 => (intro w; go_simp; all_goals with_reducible rfl)
   try simp only [Act.put, List.setIfInBounds_toArray, List.set_cons_zero, List.set_cons_succ]
   refine tkY 3 ?v3u5 rfl ?hy3u5 (fun _ => hHeld) ?_
   case hy3u5 => (intro w; go_simp; all_goals with_reducible rfl)
   try simp only [Act.put, List.setIfInBounds_toArray, List.set_cons_zero, List.set_cons_succ]
   refine tkL 4 ?v4u6 rfl ?hy4u6 hHeld ?_
   case hy4u6 => (intro w hSw; (try dsimp only at hSw); go_split_ands; go_simp; all_goals with_reducible rfl)
   try simp only [Act.put, List.setIfInBounds_toArray, List.set_cons_zero, List.set_cons_succ]
   refine tkL 7 ?v7u7 rfl ?hy7u7 hHeld ?_
   case hy7u7 => (intro w hSw; (try dsimp only at hSw); go_split_ands; go_simp; all_goals with_reducible rfl)
   try simp only [Act.put, List.setIfInBounds_toArray, List.set_cons_zero, List.set_cons_succ]
   refine wpAnyT_callL (i := 5) rfl (by kernel_rfl) (fun K hK => ?_)
   go_simp
   refine Calls.mono (by with_reducible exact (below_any B _ g A len cap a (by omega) (by omega) (M.diceAt 6 rfl d0 hc))) ?_
   rintro r W5 ⟨wk, rfl, wk1, wk2, gg, d⟩
   have MM := M.diceMoved 6 rfl gg d
   clear M hc gg d
   obtain ⟨cs1, hc, M⟩ := MM
   simp only [List.set_cons_zero, List.set_cons_succ] at M
   clear hHeld
   go_wp2_with fail
   refine hK.out _ _ ?_ (fun hHeld => ?_)
   ·exact ⟨M.cell 5 0 rfl, M.cell 5 1 rfl, M.cell 5 2 rfl, M.cell 5 3 rfl, M.cell 5 4 rfl, M.cell 3 0 rfl, M.cell 3 1 rfl, M.cell 3 2 rfl, M.cell 3 3 rfl, M.cell 3 4 rfl⟩
   clear hK K
   try simp only [Act.put, List.setIfInBounds_toArray, List.set_cons_zero, List.set_cons_succ]
   refine wpAnyT_callL (i := 8) rfl (by kernel_rfl) (fun K hK => ?_)
   go_simp
   refine Calls.mono (by with_reducible exact (wish_any B _ g A len cap a b c dd ee (by omega) (by omega) (by omega) (by omega) (by omega) (by omega) (M.diceAt 6 rfl d0 hc))) ?_
   rintro r W6 ⟨k, xx, yy, rfl, gg, d⟩
   have MM := M.diceMoved 6 rfl gg d
   clear M hc gg d
   obtain ⟨cs2, hc, M⟩ := MM
   simp only [List.set_cons_zero, List.set_cons_succ] at M
   clear hHeld
   go_wp2_with fail
   refine hK.out _ _ ?_ (fun hHeld => ?_)
   ·exact ⟨M.cell 5 0 rfl, M.cell 5 1 rfl, M.cell 5 2 rfl, M.cell 5 3 rfl, M.cell 5 4 rfl, M.cell 3 0 rfl, M.cell 3 1 rfl, M.cell 3 2 rfl, M.cell 3 3 rfl, M.cell 3 4 rfl⟩
   clear hK K
   try simp only [Act.put, List.setIfInBounds_toArray, List.set_cons_zero, List.set_cons_succ]
   have hAp := applied_t a b c dd ee ts ks fs B0 B1 B2 e0 e1 e2 tn st wk k xx yy _ hpo.out ⟨M.rowS 0 rfl, M.rowS 1 rfl, M.rowS 2 rfl⟩
   refine wpAnyT_callL (i := 9) rfl (by kernel_rfl) (fun K hK => ?_)
   go_simp
   refine Calls.mono (by with_reducible exact hAp) ?_
   clear hAp
   rintro r W7 ⟨ts2, ks2, fs2, tn2, st2, rp, ou, C0, C1, C2, f0, f1, f2, rfl, hpo2, htn2, g1⟩
   replace hpo2 := hide hpo2
   replace htn2 := hide htn2
   replace M : Sep [g] w W7 [rT ts2.length C0 f0 ts2, rK ks2.length C1 f1 ks2, rF fs2.length C2 f2 fs2, rT ts.length B0 e0 ts, rK ks.length B1 e1 ks, rF fs.length B2 e2 fs, .blk (yb) 35 #[.slice B0 ts.length e0, .slice B1 ks.length e1, .slice B2 fs.length e2, .int .i64 tn, .bool st], .blk (w.heap.size + 1) 35 #[.slice none 0 0, .slice none 0 0, .slice none 0 0, .int .i64 0, .bool false], .blk (w.heap.size) 28 #[.int .i64 a, .int .i64 b, .int .i64 c, .int .i64 dd, .int .i64 ee], .blk g 68 cs2] := Sep.comp (ps := []) (rs := [rT ts.length B0 e0 ts, rK ks.length B1 e1 ks, rF fs.length B2 e2 fs, .blk (yb) 35 #[.slice B0 ts.length e0, .slice B1 ks.length e1, .slice B2 fs.length e2, .int .i64 tn, .bool st], .blk (w.heap.size + 1) 35 #[.slice none 0 0, .slice none 0 0, .slice none 0 0, .int .i64 0, .bool false], .blk (w.heap.size) 28 #[.int .i64 a, .int .i64 b, .int .i64 c, .int .i64 dd, .int .i64 ee], .blk g 68 cs2]) M g1
   clear g1 hHeld
   go_wp2_with fail
   refine hK.out _ _ ?_ (fun hHeld => ?_)
   ·exact ⟨M.cell 8 0 rfl, M.cell 8 1 rfl, M.cell 8 2 rfl, M.cell 8 3 rfl, M.cell 8 4 rfl, M.cell 6 0 rfl, M.cell 6 1 rfl, M.cell 6 2 rfl, M.cell 6 3 rfl, M.cell 6 4 rfl⟩
   clear hK K
   try simp only [Act.put, List.setIfInBounds_toArray, List.set_cons_zero, List.set_cons_succ]
   refine tkY 10 ?v10u8 rfl ?hy10u8 (fun _ => hHeld) ?_
   case hy10u8 => (intro w; go_simp; all_goals with_reducible rfl)
   try simp only [Act.put, List.setIfInBounds_toArray, List.set_cons_zero, List.set_cons_succ]
   refine tkY 11 ?v11u9 rfl ?hy11u9 (fun _ => hHeld) ?_
   case hy11u9 => (intro w; go_simp; all_goals with_reducible rfl)
   try simp only [Act.put, List.setIfInBounds_toArray, List.set_cons_zero, List.set_cons_succ]
   refine tkY 12 ?v12u10 rfl ?hy12u10 (fun _ => hHeld) ?_
   case hy12u10 => (intro w; go_simp; all_goals with_reducible rfl)
   try simp only [Act.put, List.setIfInBounds_toArray, List.set_cons_zero, List.set_cons_succ]
   obtain ⟨tY, Ak, Bd, Aw, Ba, Ao, Bb, Ax, Bc, As, Az⟩ := M.f5 6 rfl
   refine wpAnyT_oneL (i := 13) rfl (by kernel_rfl) (by kernel_rfl) (fun K hK => ?_)
   go_simp
   refine hK.out _ _ ?_
   clear hK K
   try simp only [Act.put, List.setIfInBounds_toArray, List.set_cons_zero, List.set_cons_succ]
   clear tY Ak Bd Aw Ba Ao Bb Ax Bc As Az
   have N := M.gset5 6 rfl (.slice C0 ts2.length f0) (.slice C1 ks2.length f1) (.slice C2 fs2.length f2) (.int .i64 tn2) (.bool st2)
   clear M
   obtain ⟨W8, eW, M⟩ := N
   rw [eW]
   clear eW
   simp only [List.set_cons_zero, List.set_cons_succ] at M
   refine wpAnyT_done (by kernel_rfl) ?_ _
   replace M := M.sub ((List.Sublist.slnil) |>.cons_cons _ |>.cons_cons _ |>.cons_cons _ |>.cons_cons _ |>.cons _ |>.cons _ |>.cons _ |>.cons_cons _ |>.cons_cons _ |>.cons_cons _)
   go_wp2_with fail
   go_roundw
   ·exact ⟨m - 1, ts2, ks2, fs2, tn2, st2, C0, C1, C2, f0, f1, f2, _, by omega, by go_num, hpo2, hide (by have h1 := htn.out; have h2 := htn2.out; omega), hc, M⟩
   ·simp [intOf]; omega
  ·obtain rfl : m = 0 := by omega
   obtain ⟨tY, Ak, Bd, Aw, Ba, Ao, Bb, Ax, Bc, As, Az⟩ := M.f5 3 rfl
   obtain ⟨tR, Ac, Av, Ae, Al, Ab, Am, Aa, Aq, Ad, At⟩ := M.f5 4 rfl
   obtain ⟨tP, Ah, Au, Aj, An, Ai, Ap, Af, Ar, Ag, Ay⟩ := M.f5 5 rfl
   go_wp2_with fail
   clear tY Ak Bd Aw Ba Ao Bb Ax Bc As Az tR Ac Av Ae Al Ab Am Aa Aq Ad At tP Ah Au Aj An Ai Ap Af Ar Ag Ay
   have N := M.gset5 4 rfl (.slice B0 ts.length e0) (.slice B1 ks.length e1) (.slice B2 fs.length e2) (.int .i64 tn) (.bool st)
   clear M
   obtain ⟨W4, eW, M⟩ := N
   rw [eW]
   clear eW
   simp only [List.set_cons_zero, List.set_cons_succ] at M
   obtain ⟨tR, Ac, Ae, Ab, Aa, Ad⟩ := M.q5 4 rfl
   have M0 := M
   replace M := M.sub ((List.Sublist.slnil) |>.cons_cons _ |>.cons _ |>.cons _ |>.cons _ |>.cons_cons _ |>.cons_cons _ |>.cons_cons _)
   exact bodyPost_ret (v := .agg #[.slice B0 ts.length e0, .slice B1 ks.length e1, .slice B2 fs.length e2, .int .i64 tn, .bool st]) (by simp [results, Tryz.results15, go_sem, Ac, Ae, Ab, Aa, Ad]) rfl ⟨ts, ks, fs, tn, st, B0, B1, B2, e0, e1, e2, cs, rfl, hpo.out, (by have := htn.out; omega), hc, M⟩
theorem Sep.rot {S : List Nat} {w W : World} {r : Res} {rs : List Res} (h : Sep S w W (r :: rs)) : Sep S w W (rs ++ [r]) := h.perm (List.perm_append_comm (l₁ := [r]) (l₂ := rs))
/-- A pool and an answer, part by part. -/
def GaveA (us : List T7) (ks : List Int) (fs : List F2) (tn : Int) (st : Bool) (rp ou : Int) (w : World) (r : Ending) (w' : World) : Prop :=
 ∃ (B0 B1 B2 : Option Addr) (d0 d1 d2 : Nat), r = .returned (.tuple #[.agg #[.slice B0 us.length d0, .slice B1 ks.length d1, .slice B2 fs.length d2, .int .i64 tn, .bool st], .agg #[.int .i64 rp, .int .i64 ou]]) ∧ Sep [] w w' [rT us.length B0 d0 us, rK ks.length B1 d1 ks, rF fs.length B2 d2 fs]
/-- All blocks from B on lie as they lay. -/
structure Above (B : Nat) (W W' : World) : Prop where
 size : W.heap.size ≤ W'.heap.size
 same : ∀ k, B ≤ k → k < W.heap.size → W'.heap[k]? = W.heap[k]?
theorem Above.refl (B : Nat) (W : World) : Above B W W := ⟨Nat.le_refl _, fun _ _ _ => rfl⟩
theorem Above.trans {B : Nat} {A C D : World} (h : Above B A C) (k : Above B C D) : Above B A D :=
 ⟨Nat.le_trans h.size k.size, fun i hB hi => (k.same i hB (Nat.lt_of_lt_of_le hi h.size)).trans (h.same i hB hi)⟩
theorem Above.mono {B B' : Nat} {A C : World} (h : Above B A C) (hB : B ≤ B') : Above B' A C := ⟨h.size, fun k hk hl => h.same k (Nat.le_trans hB hk) hl⟩
theorem Above.some {B k : Nat} {o : Obj} {A C : World} (h : Above B A C) (hB : B ≤ k) (ho : A.heap[k]? = some o) : C.heap[k]? = some o :=
 (h.same k hB (Array.getElem?_eq_some_iff.1 ho).1).trans ho
/-- A walk by things whose blocks all lie below B. -/
theorem Sep.above {S : List Nat} {w W : World} {rs : List Res} {B : Nat} (h : Sep S w W rs) (hS : ∀ g ∈ S, g < B) : Above B w W :=
 ⟨h.size, fun k hk hl => h.block k hl (fun hm => by have := hS k hm; omega)⟩
/-- What speaks of the blocks below B alone. -/
def Abides {β : Type} (B : Nat) (J : β → World → Prop) : Prop := ∀ s A C, J s A → Below B A C → J s C
/-- The iterator g, at what it has captured: it hands out xs, one after the other, till a round says no. -/
def SeqS {α : Type} (F : Fence) (n : Nat) (P : Program) (g : Nat) (lb : Array Value) (enc : α → Array Value) (xs : List α) (w : World) : Prop :=
 ∀ (l : Nat) (J Jx : List α → World → Prop) (W : World), Below w.heap.size w W → Abides W.heap.size J → Abides W.heap.size Jx →
  (∀ pre x W1, J pre W1 → pre ++ [x] <+: xs → YieldAt F (n - 1) P l (enc x) W1 fun e W' =>
   (e = .returned (.bool true) ∧ J (pre ++ [x]) W' ∧ Above W.heap.size W1 W') ∨ (e = .returned (.bool false) ∧ Jx (pre ++ [x]) W')) →
  J [] W →
  CallsIn F n P g (#[.func (.yield l) #[] #[]] ++ lb) W fun e W' => (∃ v, e = .returned v) ∧ (J xs W' ∨ ∃ pre, pre <+: xs ∧ Jx pre W')
/-- How the body of a round may be left. -/
def postS {α : Type} (B : Nat) (I : List α → World → Prop) (Ix : Code → List α → World → Prop) (xs : List α) (W : World) : Exit → Act → World → Prop
 | .normal, _, W' => Above B W W' ∧ I xs W'
 | .ret, _, W' => Above B W W' ∧ Ix .ret xs W'
 | _, _, _ => False
theorem below_put {B : Nat} (W : World) (l : Nat) (o : Obj) (hl : B ≤ l) (hB : B ≤ W.heap.size) : Below B W (W.putObj l o) :=
 (Below.refl B W).grown (grownBy_putObj' W l o) hB (fun k e => by cases e; exact hl)
variable {F : Fence} {n : Nat} {P : Program}
theorem wpIn_range_s {α : Type} {g : Operand} {ps : Array Tmp} {assign body : Code} {Q : Exit → Act → World → Prop} {a : Act} {w : World}
 (hro : F.round = none) (h1 : 1 ≤ n) {gf : Nat} {lb : Array Value} (hg : a.eval g = .func (.func gf) #[] lb) (hFg : F.fn gf) (eg : ∀ args w, (callFunc gf args).run P w = .ok (.enter gf args) w)
 {enc : α → Array Value} {xs : List α} {w0 : World} (hseq : SeqS F (n - 1) P gf lb enc xs w0) (hb0 : Below w0.heap.size w0 w) (hps : ∀ x, (enc x).size = ps.size)
 (I : List α → World → Prop) (Ix : Code → List α → World → Prop) (hI : Abides w.heap.size I) (hIx : ∀ c, Abides w.heap.size (Ix c)) (h0 : I [] w) (a₁ : α → Act)
 (hassign : ∀ (l : Nat) (x : α) (W : World) (K : Act → World → Prop), K (a₁ x) W →
  assign.wpIn (F.inRound l) (n - 1 - 1) P (Exit.then K (fun _ _ _ => False)) { tmps := (ps.zip (enc x)).foldl (fun t (p, v) => t.setIfInBounds p v) a.tmps, defers := [] } W)
 (hbody : ∀ (l : Nat) (pre : List α) (x : α) (W : World), w.heap.size ≤ W.heap.size → I pre W → pre ++ [x] <+: xs → body.wpIn (F.inRound l) (n - 1 - 1) P (postS w.heap.size I Ix (pre ++ [x]) W) (a₁ x) W)
 (hdone : ∀ (D : Nat) (W : World), w.heap.size ≤ D → I xs W → W.heap[D]? = some (.deferred (some [])) → Q .normal { a with defers := { target := .collected D, args := #[] } :: a.defers } W)
 (hstop : ∀ (D : Nat) (pre : List α) (W : World), w.heap.size ≤ D → pre <+: xs → Ix .ret pre W → W.heap[D]? = some (.deferred (some [])) → Code.ret.wpIn F n P Q { a with defers := { target := .collected D, args := #[] } :: a.defers } W) :
 (Code.rangeFunc g ps assign body).wpIn F n P Q a w := by
 refine wpIn_rangeFunc ?_
 intro fn hfn
 rw [hro]
 obtain ⟨rec, hrec⟩ : ∃ rec : LoopState → Option Code → Loop, rec = fun st pe => { state := st, pending := pe, fn, tmps := a.tmps, params := ps, assign, body, defers := w.heap.size } := ⟨_, rfl⟩
 obtain ⟨W1, hW1⟩ : ∃ W1, (w.alloc (.deferred (some []))).alloc (.loop (rec .ready none)) = W1 := ⟨_, rfl⟩
 have hz : W1.heap.size = w.heap.size + 2 := by rw [← hW1]; simp
 have hb1 : Below w.heap.size w W1 := by rw [← hW1]; exact ((Below.refl _ w).alloc (Nat.le_refl _) _).alloc (by simp) _
 have hL1 : W1.heap[w.heap.size + 1]? = some (.loop (rec .ready none)) := by
  rw [← hW1]; have := World.alloc_heap_new (w.alloc (.deferred (some []))) (.loop (rec .ready none)); rwa [World.size_alloc] at this
 have hK1 : W1.heap[w.heap.size]? = some (.deferred (some [])) := by
  rw [← hW1]; exact (Below.heap_alloc _ _ _ (by simp)).trans (World.alloc_heap_new w _)
 refine ⟨w.heap.size + 1, [{ target := .collected w.heap.size, args := #[] }], W1, { target := .fn (.func gf) lb, args := #[.func (.yield (w.heap.size + 1)) #[] #[]] }, W1, gf,
  #[.func (.yield (w.heap.size + 1)) #[] #[]] ++ lb, W1, ?_, ?_, ?_, ?_, fun _ => h1, ?_⟩
 ·rw [← hW1, hrec]; exact run_enterLoop_outer _ _ _ _ _
 ·simp only [resolve, hg]
  simp [go_sem]
 ·intro f' hf'; simp [Target.leads] at hf'; subst hf'; exact hFg
 ·simp [invoke, go_sem, eg]
 ·have keep : ∀ {A C : World} {k : Nat} {o : Obj}, Below W1.heap.size A C → k < w.heap.size + 2 → A.heap[k]? = some o → C.heap[k]? = some o := fun hb hk ho => (hb.block _ (by omega)).trans ho
  refine (hseq (w.heap.size + 1)
   (fun pre W => (I pre W ∧ w.heap.size ≤ W.heap.size) ∧ W.heap[w.heap.size + 1]? = some (.loop (rec .ready none)) ∧ W.heap[w.heap.size]? = some (.deferred (some [])))
   (fun pre W => Ix .ret pre W ∧ W.heap[w.heap.size + 1]? = some (.loop (rec .done (some .ret))) ∧ W.heap[w.heap.size]? = some (.deferred (some [])))
   W1 (hb0.trans (hb1.mono hb0.size))
   (fun s A C hs hb => ⟨⟨hI s A C hs.1.1 (hb.mono (by omega)), Nat.le_trans hs.1.2 hb.size⟩, keep hb (by omega) hs.2.1, keep hb (by omega) hs.2.2⟩)
   (fun s A C hs hb => ⟨hIx _ s A C hs.1 (hb.mono (by omega)), keep hb (by omega) hs.2.1, keep hb (by omega) hs.2.2⟩)
   ?_ ⟨⟨hI _ _ _ h0 hb1, hb1.size⟩, hL1, hK1⟩).mono ?_
  ·rintro pre x W ⟨⟨hi, hsz⟩, hl, hk⟩ hpre
   have hlt : w.heap.size + 1 < W.heap.size := (Array.getElem?_eq_some_iff.1 hl).1
   have hy := run_yield (P := P) (args := enc x) hl (by rw [hrec]; exact hps x)
   rw [hrec] at hy
   refine ⟨fn, _, assign, body, hy, roundIn_of_wpIn hfn (hassign _ x W _ ⟨_, run_beginRound hl (by rw [hrec]), ?_⟩)⟩
   obtain ⟨W2, hW2⟩ : ∃ W2, W.putObj (w.heap.size + 1) (.loop { rec .ready none with state := .busy }) = W2 := ⟨_, rfl⟩
   have hl2 : W2.heap[w.heap.size + 1]? = some (.loop { rec .ready none with state := .busy }) := by rw [← hW2]; exact World.putObj_heap_same hlt
   have hk2 : W2.heap[w.heap.size]? = some (.deferred (some [])) := by rw [← hW2]; exact (World.putObj_heap_other (by omega)).trans hk
   have hb2 : Below w.heap.size W W2 := by rw [← hW2]; exact below_put _ _ _ (by omega) (by omega)
   have ha2 : Above W1.heap.size W W2 := by
    rw [← hW2, hz]
    exact ⟨by simp, fun k hk _ => World.putObj_heap_other (by omega)⟩
   have hgoal := hbody (w.heap.size + 1) pre x W2 (Nat.le_trans hsz hb2.size) (hI _ _ _ hi hb2) hpre
   have hgoal2 : body.wpIn (F.inRound (w.heap.size + 1)) (n - 1 - 1) P (postS w.heap.size I Ix (pre ++ [x]) W2) (a₁ x) (W.putObj (w.heap.size + 1) (.loop { rec .ready none with state := .busy })) := by rw [hW2]; exact hgoal
   refine wpIn_mono hgoal2 ?_
   have fin : ∀ (jump : Option Code) (W3 : World), Above w.heap.size W2 W3 →
    (Instr.endRound (w.heap.size + 1) jump).run P W3 = .ok (.bool jump.isNone) (W3.putObj (w.heap.size + 1) (.loop (rec (if jump.isNone then .ready else .done) jump))) ∧
    Below w.heap.size W3 (W3.putObj (w.heap.size + 1) (.loop (rec (if jump.isNone then .ready else .done) jump))) ∧
    Above W1.heap.size W3 (W3.putObj (w.heap.size + 1) (.loop (rec (if jump.isNone then .ready else .done) jump))) ∧
    (W3.putObj (w.heap.size + 1) (.loop (rec (if jump.isNone then .ready else .done) jump))).heap[w.heap.size + 1]? = some (.loop (rec (if jump.isNone then .ready else .done) jump)) ∧
    (W3.putObj (w.heap.size + 1) (.loop (rec (if jump.isNone then .ready else .done) jump))).heap[w.heap.size]? = some (.deferred (some [])) := fun jump W3 hk3 => by
    have hl3 := hk3.some (by omega) hl2
    have hlt3 := (Array.getElem?_eq_some_iff.1 hl3).1
    refine ⟨?_, below_put _ _ _ (by omega) (by omega), ⟨by simp, fun k hk _ => World.putObj_heap_other (by omega)⟩, World.putObj_heap_same hlt3, (World.putObj_heap_other (by omega)).trans (hk3.some (Nat.le_refl _) hk2)⟩
    have := run_endRound (P := P) jump hl3
    rw [hrec] at this ⊢
    exact this
   rintro e a3 W3 hp
   cases e with
   | normal =>
    obtain ⟨hk3, hi3⟩ := hp
    obtain ⟨hr, hb4, ha4, hl4, hk4⟩ := fin none W3 hk3
    exact ⟨_, _, hr, .inl ⟨rfl, ⟨⟨hI _ _ _ hi3 hb4, Nat.le_trans (Nat.le_trans hsz hb2.size) (Nat.le_trans hk3.size hb4.size)⟩, hl4, hk4⟩, (ha2.trans (hk3.mono (by omega))).trans ha4⟩⟩
   | ret =>
    obtain ⟨hk3, hi3⟩ := hp
    obtain ⟨hr, hb4, _, hl4, hk4⟩ := fin (some .ret) W3 hk3
    exact ⟨_, _, hr, .inr ⟨rfl, hIx _ _ _ _ hi3 hb4, hl4, hk4⟩⟩
   | exit id => exact hp.elim
   | goto t => exact hp.elim
   | panic ch => exact hp.elim
   | outgrown => exact hp.elim
  ·rintro e W2 ⟨⟨v, rfl⟩, (⟨⟨hi, hsz⟩, hl, hk⟩ | ⟨pre, hpre, hi, hl, hk⟩)⟩
   ·exact ⟨none, _, by have := run_endLoop (P := P) hl (by rw [hrec]; simp); rw [hrec] at this; exact this, hdone _ _ (Nat.le_refl _) (hI _ _ _ hi (below_put _ _ _ (by omega) hsz)) ((World.putObj_heap_other (by omega)).trans hk)⟩
   ·have hlt := (Array.getElem?_eq_some_iff.1 hl).1
    exact ⟨some .ret, _, by have := run_endLoop (P := P) hl (by rw [hrec]; simp); rw [hrec] at this; exact this, hstop _ pre _ (Nat.le_refl _) hpre (hIx _ _ _ _ hi (below_put _ _ _ (by omega) (by omega))) ((World.putObj_heap_other (by omega)).trans hk)⟩
/-- A place in a line: level, turn, number. -/
structure P3 where (l t i : Int)
instance : Inhabited P3 := ⟨⟨0, 0, 0⟩⟩
def P3.cs (x : P3) : List Value := [.int .i64 x.l, .int .i64 x.t, .int .i64 x.i]
def P3.val (x : P3) : Value := .agg #[.int .i64 x.l, .int .i64 x.t, .int .i64 x.i]
def pcells (ps : List P3) : List Value := ps.flatMap P3.cs
def aheadP (x y : P3) : Bool := if x.l = y.l then (if x.t = y.t then decide (x.i < y.i) else decide (x.t < y.t)) else decide (y.l < x.l)
theorem pcells_length (ps : List P3) : (pcells ps).length = ps.length * 3 := by
 induction ps with
 | nil => rfl
 | cons x r ih => simp only [pcells, List.flatMap_cons, List.length_append, List.length_cons] at ih ⊢; rw [ih]; simp [P3.cs]; omega
theorem pcells_get (ps : List P3) (k : Nat) (hk : k < ps.length) (j : Nat) (hj : j < 3) : (pcells ps)[k * 3 + j]? = ps[k].cs[j]? := by
 induction ps generalizing k with
 | nil => simp at hk
 | cons x r ih =>
  have e : pcells (x :: r) = x.cs ++ pcells r := rfl
  rw [e]
  cases k with
  | zero => rw [List.getElem?_append_left (by simp [P3.cs]; omega)]; simp
  | succ k =>
   have hl : x.cs.length = 3 := rfl
   rw [List.getElem?_append_right (by rw [hl]; omega), hl, show (k + 1) * 3 + j - 3 = k * 3 + j from by omega, ih k (by simpa using hk)]
   simp
theorem pcells_at (ps : List P3) (j : Nat) : (pcells ps)[j]? = (ps[j / 3]?).bind (fun t => t.cs[j % 3]?) := by
 by_cases h : j / 3 < ps.length
 ·have := pcells_get ps (j / 3) h (j % 3) (by omega)
  rw [show j / 3 * 3 + j % 3 = j from by omega] at this
  rw [this]; simp [h]
 ·rw [List.getElem?_eq_none (by rw [pcells_length]; omega), List.getElem?_eq_none (by omega)]; rfl
theorem pcells_put (ps : List P3) (k : Nat) (x : P3) : (((pcells ps).set (k * 3) (.int .i64 x.l)).set (k * 3 + 1) (.int .i64 x.t)).set (k * 3 + 2) (.int .i64 x.i) = pcells (ps.set k x) := by
 apply List.ext_getElem?
 intro j
 rw [pcells_at (ps.set k x)]
 simp only [List.getElem?_set, List.length_set, pcells_length]
 by_cases hk : k = j / 3
 ·subst hk
  by_cases hl : j / 3 < ps.length
  ·have h3 : j % 3 = 0 ∨ j % 3 = 1 ∨ j % 3 = 2 := by omega
   have hj : j < ps.length * 3 := by omega
   rcases h3 with h | h | h
   all_goals rw [h]
   all_goals simp only [hl, if_true, Option.bind_some, P3.cs]
   ·rw [if_neg (by omega), if_neg (by omega), if_pos (by omega), if_pos (by omega)]; rfl
   ·rw [if_neg (by omega), if_pos (by omega), if_pos (by omega)]; rfl
   ·rw [if_pos (by omega), if_pos (by omega)]; rfl
  ·simp only [hl, if_false, if_true, Option.bind_none]
   repeat (split; · first | omega | (split <;> first | omega | rfl))
   rw [List.getElem?_eq_none (by rw [pcells_length]; omega)]
 ·rw [if_neg hk, if_neg (by omega), if_neg (by omega), if_neg (by omega), pcells_at]
theorem pcells_take (xs : List P3) (k : Nat) : (pcells xs).take (k * 3) = pcells (xs.take k) := by
 apply List.ext_getElem?
 intro j
 rw [List.getElem?_take, pcells_at, pcells_at, List.getElem?_take]
 by_cases h : j < k * 3
 ·rw [if_pos h, if_pos (show j / 3 < k by omega)]
 ·rw [if_neg h, if_neg (show ¬ j / 3 < k by omega)]; rfl
theorem infoPlace : (Tryz.prog.info? 152).map (fun i => (i.zero, i.size, i.bytes)) = some (some (.agg #[.int .i64 0, .int .i64 0, .int .i64 0]), 3, 24) := by kernel_rfl
set_option maxHeartbeats 4000000 in
theorem ahead_any (l t i l2 t2 i2 : Int) (w : World) :
 Calls Tryz.prog 226 #[.agg #[.int .i64 l, .int .i64 t, .int .i64 i], .agg #[.int .i64 l2, .int .i64 t2, .int .i64 i2]] w fun r w' => r = .returned (.bool (aheadP ⟨l, t, i⟩ ⟨l2, t2, i2⟩)) ∧ Below w.heap.size w w' := by
 by_cases k1 : l = l2
 ·by_cases k2 : t = t2
  ·have e : aheadP ⟨l, t, i⟩ ⟨l2, t2, i2⟩ = decide (i < i2) := by simp [aheadP, k1, k2]
   rw [e]
   subst k1 k2
   go_enter Tryz.func226, Tryz.ntmps226
   go_wp2
   go_ret
   exact ⟨rfl, by go_grown⟩
  ·have e : aheadP ⟨l, t, i⟩ ⟨l2, t2, i2⟩ = decide (t < t2) := by simp [aheadP, k1, k2]
   rw [e]
   subst k1
   go_enter Tryz.func226, Tryz.ntmps226
   go_wp2
   go_ret
   exact ⟨rfl, by go_grown⟩
 ·have e : aheadP ⟨l, t, i⟩ ⟨l2, t2, i2⟩ = decide (l2 < l) := by simp [aheadP, k1]
  rw [e]
  go_enter Tryz.func226, Tryz.ntmps226
  go_wp2
  go_ret
  exact ⟨rfl, by go_grown⟩
/-- Place k behind a slice that is not empty: where it lies, and its three cells. -/
theorem Row.ps_at {w : World} {A : Option Addr} {ps : List P3} (h : Row w A (pcells ps)) {k : Nat} (hk : k < ps.length) : ∃ (b off : Nat), A = some ⟨b, off, none⟩ ∧ b < w.heap.size ∧
 w.cell? ⟨b, off + k * 3, none⟩ = some (.int .i64 ps[k].l) ∧ w.cell? ⟨b, off + k * 3 + 1, none⟩ = some (.int .i64 ps[k].t) ∧ w.cell? ⟨b, off + k * 3 + 2, none⟩ = some (.int .i64 ps[k].i) := by
 obtain ⟨b, off, e, hc⟩ := h (by rw [pcells_length]; omega)
 have h0 : w.cell? ⟨b, off + k * 3, none⟩ = some (.int .i64 ps[k].l) := hc (k * 3 + 0) _ ((pcells_get ps k hk 0 (by omega)).trans rfl)
 exact ⟨b, off, e, World.block_lt_of_cell? w _ h0, h0, hc (k * 3 + 1) _ ((pcells_get ps k hk 1 (by omega)).trans rfl), hc (k * 3 + 2) _ ((pcells_get ps k hk 2 (by omega)).trans rfl)⟩
set_option maxHeartbeats 1000000 in
theorem len_any (A : Option Addr) (n c : Nat) (w : World) :
 Calls Tryz.prog 144 #[.slice A n c] w fun r w' => r = .returned (.int .i64 n) ∧ w = w' := by
 go_enter Tryz.func144, Tryz.ntmps144
 go_wp2
 go_ret
 exact ⟨rfl, rfl⟩
set_option maxRecDepth 100000 in
set_option maxHeartbeats 4000000 in
theorem less_any (ps : List P3) (A : Option Addr) (c i j : Nat) (hi : i < ps.length) (hj : j < ps.length) (hl : ps.length ≤ 1048576) (w : World) (h : Row w A (pcells ps)) :
 Calls Tryz.prog 222 #[.slice A ps.length c, .int .i64 i, .int .i64 j] w fun r w' => r = .returned (.bool (aheadP ps[i] ps[j])) ∧ Below w.heap.size w w' := by
 obtain ⟨b, off, rfl, hb, z0, z1, z2⟩ := h.ps_at hi
 obtain ⟨b', off', e, hb', y0, y1, y2⟩ := h.ps_at hj
 injection e with e
 injection e with e1 e2
 subst e1 e2
 have hA : aheadP ps[i] ps[j] = aheadP ⟨ps[i].l, ps[i].t, ps[i].i⟩ ⟨ps[j].l, ps[j].t, ps[j].i⟩ := rfl
 rw [hA]
 clear hA h hb'
 have hi1 : (i : Int) < (ps.length : Int) := by omega
 have hj1 : (j : Int) < (ps.length : Int) := by omega
 have hi0 : (0 : Int) ≤ (i : Int) := by omega
 have hj0 : (0 : Int) ≤ (j : Int) := by omega
 generalize ps[i].l = l1 at *
 generalize ps[i].t = t1 at *
 generalize ps[i].i = i1 at *
 generalize ps[j].l = l2 at *
 generalize ps[j].t = t2 at *
 generalize ps[j].i = i2 at *
 go_enter Tryz.func222, Tryz.ntmps222
 go_wp2_with fail
 have c0 := KeptW.cell (W0 := w) z0
 have c1 := KeptW.cell (W0 := w) z1
 have c2 := KeptW.cell (W0 := w) z2
 have c3 := KeptW.cell (W0 := w) y0
 have c4 := KeptW.cell (W0 := w) y1
 have c5 := KeptW.cell (W0 := w) y2
 refine region_kept (W0 := w) (x := KeptW.mk' (Below.refl w.heap.size w)) (by kernel_rfl) (by kernel_rfl) ?_
 repeat (go_big_quiet_step (first | (go_at_call 226; with_reducible exact (kept_call (ahead_any l1 t1 i1 l2 t2 i2 _)))))
 refine wpQuiet_nil ?_
 rintro _ ⟨x, rfl⟩
 go_wp2
 go_ret
 exact ⟨rfl, x.below⟩
end Go.Proofs.YtfkdfkoigojciaaGreatDoor
