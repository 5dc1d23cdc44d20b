/- Chapter 7's law of joining: the walk. The code no longer than it may be; the variable errors.errorType as it is laid. -/
import Derived.Test.YtfkdfkoigojciaaGreatDoorQJ38
import Derived.Test.YtfkdfkoigojciaaGreatDoorQJ40
import Derived.Test.YtfkdfkoigojciaaGreatDoorQJ41
import Derived.Test.YtfkdfkoigojciaaGreatDoorQJ37
import Derived.Test.YtfkdfkoigojciaaGreatDoorQJ13
import Derived.Test.YtfkdfkoigojciaaGreatDoorQJ03
import Derived.Deep.DeepCutAuto

namespace Go.Proofs.YtfkdfkoigojciaaGreatDoor
open Go.RowKit
set_option linter.unusedVariables false
theorem wpAnyT_readyX2 {P : Program} {md : Region.Mode} {ops : Array Oper} {Q : Exit → Act → World → Prop} {S : World → Prop} {ks : List Nat} {rs : List Nat} {fuel : Nat} {listed : Array Bool} {a : Act} {w : World} (hr : Region.ready md ops listed = rs) (hne : rs ≠ [])
 (h : AllReadyT P md ops Q S ks fuel listed a w rs) : wpAnyT P md ops Q S ks (fuel + 1) listed a w :=
 ⟨fun h0 => absurd (hr ▸ h0) hne, hr ▸ h⟩
set_option maxRecDepth 100000 in
set_option maxHeartbeats 1600000 in
theorem fnJoin_any (w : World) (A : Option Addr) (len cap : Nat) (hby : Bytes w w.heap.size A len) (hl : len ≤ 4096) (hgl : Laid w) :
 Calls Tryz.prog 3 #[.slice A len cap] w fun r w' => r = .returned (.bool true) ∧ Below w.heap.size w w' := by
 have HGL := hide hgl
 clear hgl
 go_enter Tryz.func3, Tryz.ntmps3
 go_wp2_with fail
 go_call (big_any A len cap _) as r w' ⟨rfl, rfl⟩
 go_wp2_with fail
 go_call (roll_any w.heap.size w A len cap 6 (Nat.le_refl _) hl hby) as r W1 ⟨rfl, G, d0⟩
 obtain ⟨g, hg⟩ : ∃ g, g = w.heap.size := ⟨_, rfl⟩
 rw [← hg] at d0 ⊢
 have HG := hide hg
 clear hg
 obtain ⟨cs0, hc, M⟩ := dice_start d0
 go_wp2_with fail
 go_call (scheme_any g _ g A len cap (M.diceAt 0 rfl d0 hc)) as r W2 ⟨a, b, c, dd, ee, rfl, a1, a2, b1, b2, c1, c2, p1, p2, q1, q2, gg, d⟩
 have MM := M.diceMoved 0 rfl gg d
 clear M hc gg d
 obtain ⟨cs1, hc, M⟩ := MM
 simp only [List.set_cons_zero] at M
 obtain ⟨dn, rfl⟩ : ∃ n : Nat, dd = n := ⟨dd.toNat, by omega⟩
 obtain ⟨en, rfl⟩ : ∃ n : Nat, ee = n := ⟨ee.toNat, by omega⟩
 go_wp2_with fail
 have N := M.al1 28 #[.int .i64 a, .int .i64 b, .int .i64 c, .int .i64 dn, .int .i64 en]
 clear M
 obtain ⟨aP, W3, e1, e3, M⟩ := N
 rw [e3, e1]
 clear e1 e3
 go_wp2_with fail
 go_call (below_any g _ g A len cap 3 (by omega) (by omega) (M.diceAt 1 rfl d0 hc)) as r W4 ⟨wn, rfl, wn1, wn2, gg, d⟩
 have MM := M.diceMoved 1 rfl gg d
 clear M hc gg d
 obtain ⟨cs2, hc, M⟩ := MM
 simp only [List.set_cons_zero, List.set_cons_succ] at M
 obtain ⟨tP, Ac, Bc, Ae, Az, Ad, Ba, Aa, Bb, Ab, Bd⟩ := M.f5 0 rfl
 go_wp2_with fail
 clear tP Ac Bc Ae Az Ad Ba Aa Bb Ab Bd
 replace M := (M.set 0 rfl 0 (.int .i64 (2 + wn))).set 0 rfl 1 (.int .i64 12)
 simp only [List.set_cons_zero, List.set_cons_succ, List.setIfInBounds_toArray] at M
 generalize (W4.setCell ⟨aP, 0, none⟩ (.int .i64 (2 + wn))).setCell ⟨aP, 1, none⟩ (.int .i64 12) = W5 at M ⊢
 obtain ⟨wa, hwa⟩ : ∃ wa, wa = 2 + wn := ⟨_, rfl⟩
 rw [← hwa] at M
 have hp : planB wa 12 c dn en = true := by simp [planB, btw]; omega
 have hwa2 : 2 ≤ wa := by omega
 have HP := hide hp
 clear hp hwa wn1 wn2 a1 a2 b1 b2 c1 c2
 go_cut [5] (fun x' wc => ∃ (xb : Nat) (ts : List T7) (ks : List Int) (fs : List F2) (tn : Int) (st : Bool) (B0 B1 B2 : Option Addr) (e0 e1 e2 : Nat) (cs9 : Array Value), x' = .pointer (some ⟨xb, 0, none⟩) ∧ Hid (poolB wa 12 c dn en ts ks fs tn = true) ∧ Hid (tn ≤ 5000) ∧ diceC A len cap cs9 ∧ Sep [g] W1 wc [.blk (xb) 35 #[.slice B0 ts.length e0, .slice B1 ks.length e1, .slice B2 fs.length e2, .int .i64 tn, .bool st], rT ts.length B0 e0 ts, rK ks.length B1 e1 ks, rF fs.length B2 e2 fs, .blk g 68 cs9, .blk (aP) 28 #[.int .i64 wa, .int .i64 12, .int .i64 c, .int .i64 dn, .int .i64 en]])
 case first =>
  refine wp_region_T (S := (fun w' => w'.cell? ⟨aP, 0, none⟩ = some (.int .i64 wa) ∧ w'.cell? ⟨aP, 1, none⟩ = some (.int .i64 12) ∧ w'.cell? ⟨aP, 2, none⟩ = some (.int .i64 c) ∧ w'.cell? ⟨aP, 3, none⟩ = some (.int .i64 dn) ∧ w'.cell? ⟨aP, 4, none⟩ = some (.int .i64 en))) (ks := [6]) (by kernel_rfl) ⟨M.cell 0 0 rfl, M.cell 0 1 rfl, M.cell 0 2 rfl, M.cell 0 3 rfl, M.cell 0 4 rfl⟩ (fun hHeld => ?_)
  replace M := M.drew
  generalize W5.drew = W6 at M hHeld ⊢
  refine tkY 0 ?v0u1 rfl ?hy0u1 (fun _ => hHeld) ?_
  case hy0u1 => (intro w; go_simp; all_goals with_reducible rfl)
  try simp only [Act.put, List.setIfInBounds_toArray, List.set_cons_zero, List.set_cons_succ]
  refine tkL 1 ?v1u2 rfl ?hy1u2 hHeld ?_
  case hy1u2 => (intro w hSw; (try dsimp only at hSw); go_split_ands; go_simp; all_goals with_reducible rfl)
  try simp only [Act.put, List.setIfInBounds_toArray, List.set_cons_zero, List.set_cons_succ]
  refine tkY 2 ?v2u3 rfl ?hy2u3 (fun _ => hHeld) ?_
  case hy2u3 => (intro w; go_simp; all_goals with_reducible rfl)
  try simp only [Act.put, List.setIfInBounds_toArray, List.set_cons_zero, List.set_cons_succ]
  refine wpAnyT_readyX2 (rs := [3, 5]) (by kernel_rfl) (by simp) ?_
  refine AllReadyT.consS (i := 3) rfl (fun K hK => ?_) (AllReadyT.consS (i := 5) rfl (fun K hK => ?_) AllReadyT.nil)
  ·go_simp
   refine Calls.mono (by with_reducible exact (below_any g _ g A len cap 20 (by omega) (by omega) (M.diceAt 1 rfl d0 hc))) ?_
   rintro r W7 ⟨nn, rfl, nn1, nn2, gg, d⟩
   have MM := M.diceMoved 1 rfl gg d
   clear M hc gg d
   obtain ⟨cs3, hc, M⟩ := MM
   simp only [List.set_cons_zero, List.set_cons_succ] at M
   obtain ⟨nq, rfl⟩ : ∃ n : Nat, nn = n := ⟨nn.toNat, by omega⟩
   clear hHeld
   go_wp2_with fail
   refine hK.out _ _ ?_ (fun hHeld => ?_)
   ·exact ⟨M.cell 0 0 rfl, M.cell 0 1 rfl, M.cell 0 2 rfl, M.cell 0 3 rfl, M.cell 0 4 rfl⟩
   clear hK K
   try simp only [Act.put, List.setIfInBounds_toArray, List.set_cons_zero, List.set_cons_succ]
   refine wpAnyT_readyX2 (rs := [4, 5]) (by kernel_rfl) (by simp) ?_
   refine AllReadyT.consS (i := 4) rfl (fun K hK => ?_) (AllReadyT.consS (i := 5) rfl (fun K hK => ?_) AllReadyT.nil)
   ·replace M := M.front 1 rfl
    simp only [List.eraseIdx_cons_succ, List.eraseIdx_cons_zero] at M
    go_simp
    refine Calls.mono (by with_reducible exact (usedT_any g _ g A len cap wa 12 c dn en nq (by omega) HP.out (by omega) (by omega) (M.diceAt 0 rfl d0 hc))) ?_
    rintro r W8 ⟨ts, ks, fs, tn, st, B0, B1, B2, e0, e1, e2, cs4, rfl, hpo, htn, hc2, k2⟩
    replace M : Sep [g] W1 W8 [rT ts.length B0 e0 ts, rK ks.length B1 e1 ks, rF fs.length B2 e2 fs, .blk g 68 cs4, .blk (aP) 28 #[.int .i64 wa, .int .i64 12, .int .i64 c, .int .i64 dn, .int .i64 en]] := Sep.comp (ps := [.blk g 68 cs3]) (rs := [.blk (aP) 28 #[.int .i64 wa, .int .i64 12, .int .i64 c, .int .i64 dn, .int .i64 en]]) M k2
    clear k2 hc
    have hc := hc2
    clear hc2 hHeld
    replace hpo := hide hpo
    have htq : tn ≤ 5000 := by omega
    replace htn := hide htq
    clear htq
    go_wp2_with fail
    refine hK.out _ _ ?_ (fun hHeld => ?_)
    ·exact ⟨M.cell 4 0 rfl, M.cell 4 1 rfl, M.cell 4 2 rfl, M.cell 4 3 rfl, M.cell 4 4 rfl⟩
    clear hK K
    try simp only [Act.put, List.setIfInBounds_toArray, List.set_cons_zero, List.set_cons_succ]
    refine wpAnyT_callL (i := 5) rfl (by kernel_rfl) (fun K hK => ?_)
    go_simp
    clear hHeld
    have N := M.galloc 35 #[.slice none 0 0, .slice none 0 0, .slice none 0 0, .int .i64 0, .bool false]
    clear M
    obtain ⟨W9, eW, M⟩ := N
    rw [eW]
    clear eW
    refine hK.out _ _ ?_ (fun hHeld => ?_)
    ·exact ⟨M.cell 5 0 rfl, M.cell 5 1 rfl, M.cell 5 2 rfl, M.cell 5 3 rfl, M.cell 5 4 rfl⟩
    clear hK K
    try simp only [Act.put, List.setIfInBounds_toArray, List.set_cons_zero, List.set_cons_succ]
    obtain ⟨tX, Ai, Ap, Ah, Ar, Aj, At, Ag, Aq, Af, As⟩ := M.f5 0 rfl
    refine wpAnyT_oneL (i := 6) rfl (by kernel_rfl) (by kernel_rfl) (fun K hK => ?_)
    go_simp
    refine hK.out _ _ ?_
    clear hK K
    try simp only [Act.put, List.setIfInBounds_toArray, List.set_cons_zero, List.set_cons_succ]
    clear tX Ai Ap Ah Ar Aj At Ag Aq Af As
    have N := M.gset5 0 rfl (.slice B0 ts.length e0) (.slice B1 ks.length e1) (.slice B2 fs.length e2) (.int .i64 tn) (.bool st)
    clear M
    obtain ⟨W10, eW, M⟩ := N
    rw [eW]
    clear eW
    simp only [List.set_cons_zero] at M
    refine wpAnyT_done (by kernel_rfl) ?_ _
    replace M := M.front 4 rfl
    simp only [List.eraseIdx_cons_succ, List.eraseIdx_cons_zero] at M
    replace M := M.front 4 rfl
    simp only [List.eraseIdx_cons_succ, List.eraseIdx_cons_zero] at M
    replace M := M.front 4 rfl
    simp only [List.eraseIdx_cons_succ, List.eraseIdx_cons_zero] at M
    replace M := M.front 4 rfl
    simp only [List.eraseIdx_cons_succ, List.eraseIdx_cons_zero] at M
    replace M := M.front 4 rfl
    simp only [List.eraseIdx_cons_succ, List.eraseIdx_cons_zero] at M
    go_wp2_with fail
    go_meet
    exact ⟨_, ts, ks, fs, tn, st, B0, B1, B2, e0, e1, e2, _, rfl, hpo, htn, hc, M⟩
   ·go_simp
    clear hHeld
    have N := M.galloc 35 #[.slice none 0 0, .slice none 0 0, .slice none 0 0, .int .i64 0, .bool false]
    clear M
    obtain ⟨W11, eW, M⟩ := N
    rw [eW]
    clear eW
    refine hK.out _ _ ?_ (fun hHeld => ?_)
    ·exact ⟨M.cell 1 0 rfl, M.cell 1 1 rfl, M.cell 1 2 rfl, M.cell 1 3 rfl, M.cell 1 4 rfl⟩
    clear hK K
    try simp only [Act.put, List.setIfInBounds_toArray, List.set_cons_zero, List.set_cons_succ]
    replace M := M.front 2 rfl
    simp only [List.eraseIdx_cons_succ, List.eraseIdx_cons_zero] at M
    refine wpAnyT_callL (i := 4) rfl (by kernel_rfl) (fun K hK => ?_)
    go_simp
    refine Calls.mono (by with_reducible exact (usedT_any g _ g A len cap wa 12 c dn en nq (by omega) HP.out (by omega) (by omega) (M.diceAt 0 rfl d0 hc))) ?_
    rintro r W12 ⟨ts, ks, fs, tn, st, B0, B1, B2, e0, e1, e2, cs4, rfl, hpo, htn, hc2, k2⟩
    replace M : Sep [g] W1 W12 [rT ts.length B0 e0 ts, rK ks.length B1 e1 ks, rF fs.length B2 e2 fs, .blk g 68 cs4, .blk (W7.heap.size) 35 #[.slice none 0 0, .slice none 0 0, .slice none 0 0, .int .i64 0, .bool false], .blk (aP) 28 #[.int .i64 wa, .int .i64 12, .int .i64 c, .int .i64 dn, .int .i64 en]] := Sep.comp (ps := [.blk g 68 cs3]) (rs := [.blk (W7.heap.size) 35 #[.slice none 0 0, .slice none 0 0, .slice none 0 0, .int .i64 0, .bool false], .blk (aP) 28 #[.int .i64 wa, .int .i64 12, .int .i64 c, .int .i64 dn, .int .i64 en]]) M k2
    clear k2 hc
    have hc := hc2
    clear hc2 hHeld
    replace hpo := hide hpo
    have htq : tn ≤ 5000 := by omega
    replace htn := hide htq
    clear htq
    go_wp2_with fail
    refine hK.out _ _ ?_ (fun hHeld => ?_)
    ·exact ⟨M.cell 5 0 rfl, M.cell 5 1 rfl, M.cell 5 2 rfl, M.cell 5 3 rfl, M.cell 5 4 rfl⟩
    clear hK K
    try simp only [Act.put, List.setIfInBounds_toArray, List.set_cons_zero, List.set_cons_succ]
    obtain ⟨tX, Ai, Ap, Ah, Ar, Aj, At, Ag, Aq, Af, As⟩ := M.f5 4 rfl
    refine wpAnyT_oneL (i := 6) rfl (by kernel_rfl) (by kernel_rfl) (fun K hK => ?_)
    go_simp
    refine hK.out _ _ ?_
    clear hK K
    try simp only [Act.put, List.setIfInBounds_toArray, List.set_cons_zero, List.set_cons_succ]
    clear tX Ai Ap Ah Ar Aj At Ag Aq Af As
    have N := M.gset5 4 rfl (.slice B0 ts.length e0) (.slice B1 ks.length e1) (.slice B2 fs.length e2) (.int .i64 tn) (.bool st)
    clear M
    obtain ⟨W13, eW, M⟩ := N
    rw [eW]
    clear eW
    simp only [List.set_cons_zero, List.set_cons_succ] at M
    refine wpAnyT_done (by kernel_rfl) ?_ _
    replace M := M.front 3 rfl
    simp only [List.eraseIdx_cons_succ, List.eraseIdx_cons_zero] at M
    replace M := M.front 3 rfl
    simp only [List.eraseIdx_cons_succ, List.eraseIdx_cons_zero] at M
    replace M := M.front 3 rfl
    simp only [List.eraseIdx_cons_succ, List.eraseIdx_cons_zero] at M
    replace M := M.front 3 rfl
    simp only [List.eraseIdx_cons_succ, List.eraseIdx_cons_zero] at M
    replace M := M.front 4 rfl
    simp only [List.eraseIdx_cons_succ, List.eraseIdx_cons_zero] at M
    go_wp2_with fail
    go_meet
    exact ⟨_, ts, ks, fs, tn, st, B0, B1, B2, e0, e1, e2, _, rfl, hpo, htn, hc, M⟩
  ·go_simp
   clear hHeld
   have N := M.galloc 35 #[.slice none 0 0, .slice none 0 0, .slice none 0 0, .int .i64 0, .bool false]
   clear M
   obtain ⟨W14, eW, M⟩ := N
   rw [eW]
   clear eW
   refine hK.out _ _ ?_ (fun hHeld => ?_)
   ·exact ⟨M.cell 1 0 rfl, M.cell 1 1 rfl, M.cell 1 2 rfl, M.cell 1 3 rfl, M.cell 1 4 rfl⟩
   clear hK K
   try simp only [Act.put, List.setIfInBounds_toArray, List.set_cons_zero, List.set_cons_succ]
   refine wpAnyT_callL (i := 3) rfl (by kernel_rfl) (fun K hK => ?_)
   go_simp
   refine Calls.mono (by with_reducible exact (below_any g _ g A len cap 20 (by omega) (by omega) (M.diceAt 2 rfl d0 hc))) ?_
   rintro r W15 ⟨nn, rfl, nn1, nn2, gg, d⟩
   have MM := M.diceMoved 2 rfl gg d
   clear M hc gg d
   obtain ⟨cs3, hc, M⟩ := MM
   simp only [List.set_cons_zero, List.set_cons_succ] at M
   obtain ⟨nq, rfl⟩ : ∃ n : Nat, nn = n := ⟨nn.toNat, by omega⟩
   clear hHeld
   go_wp2_with fail
   refine hK.out _ _ ?_ (fun hHeld => ?_)
   ·exact ⟨M.cell 1 0 rfl, M.cell 1 1 rfl, M.cell 1 2 rfl, M.cell 1 3 rfl, M.cell 1 4 rfl⟩
   clear hK K
   try simp only [Act.put, List.setIfInBounds_toArray, List.set_cons_zero, List.set_cons_succ]
   replace M := M.front 2 rfl
   simp only [List.eraseIdx_cons_succ, List.eraseIdx_cons_zero] at M
   refine wpAnyT_callL (i := 4) rfl (by kernel_rfl) (fun K hK => ?_)
   go_simp
   refine Calls.mono (by with_reducible exact (usedT_any g _ g A len cap wa 12 c dn en nq (by omega) HP.out (by omega) (by omega) (M.diceAt 0 rfl d0 hc))) ?_
   rintro r W16 ⟨ts, ks, fs, tn, st, B0, B1, B2, e0, e1, e2, cs4, rfl, hpo, htn, hc2, k2⟩
   replace M : Sep [g] W1 W16 [rT ts.length B0 e0 ts, rK ks.length B1 e1 ks, rF fs.length B2 e2 fs, .blk g 68 cs4, .blk (W6.heap.size) 35 #[.slice none 0 0, .slice none 0 0, .slice none 0 0, .int .i64 0, .bool false], .blk (aP) 28 #[.int .i64 wa, .int .i64 12, .int .i64 c, .int .i64 dn, .int .i64 en]] := Sep.comp (ps := [.blk g 68 cs3]) (rs := [.blk (W6.heap.size) 35 #[.slice none 0 0, .slice none 0 0, .slice none 0 0, .int .i64 0, .bool false], .blk (aP) 28 #[.int .i64 wa, .int .i64 12, .int .i64 c, .int .i64 dn, .int .i64 en]]) M k2
   clear k2 hc
   have hc := hc2
   clear hc2 hHeld
   replace hpo := hide hpo
   have htq : tn ≤ 5000 := by omega
   replace htn := hide htq
   clear htq
   go_wp2_with fail
   refine hK.out _ _ ?_ (fun hHeld => ?_)
   ·exact ⟨M.cell 5 0 rfl, M.cell 5 1 rfl, M.cell 5 2 rfl, M.cell 5 3 rfl, M.cell 5 4 rfl⟩
   clear hK K
   try simp only [Act.put, List.setIfInBounds_toArray, List.set_cons_zero, List.set_cons_succ]
   obtain ⟨tX, Ai, Ap, Ah, Ar, Aj, At, Ag, Aq, Af, As⟩ := M.f5 4 rfl
   refine wpAnyT_oneL (i := 6) rfl (by kernel_rfl) (by kernel_rfl) (fun K hK => ?_)
   go_simp
   refine hK.out _ _ ?_
   clear hK K
   try simp only [Act.put, List.setIfInBounds_toArray, List.set_cons_zero, List.set_cons_succ]
   clear tX Ai Ap Ah Ar Aj At Ag Aq Af As
   have N := M.gset5 4 rfl (.slice B0 ts.length e0) (.slice B1 ks.length e1) (.slice B2 fs.length e2) (.int .i64 tn) (.bool st)
   clear M
   obtain ⟨W17, eW, M⟩ := N
   rw [eW]
   clear eW
   simp only [List.set_cons_zero, List.set_cons_succ] at M
   refine wpAnyT_done (by kernel_rfl) ?_ _
   replace M := M.front 3 rfl
   simp only [List.eraseIdx_cons_succ, List.eraseIdx_cons_zero] at M
   replace M := M.front 3 rfl
   simp only [List.eraseIdx_cons_succ, List.eraseIdx_cons_zero] at M
   replace M := M.front 3 rfl
   simp only [List.eraseIdx_cons_succ, List.eraseIdx_cons_zero] at M
   replace M := M.front 3 rfl
   simp only [List.eraseIdx_cons_succ, List.eraseIdx_cons_zero] at M
   replace M := M.front 4 rfl
   simp only [List.eraseIdx_cons_succ, List.eraseIdx_cons_zero] at M
   go_wp2_with fail
   go_meet
   exact ⟨_, ts, ks, fs, tn, st, B0, B1, B2, e0, e1, e2, _, rfl, hpo, htn, hc, M⟩
 case rest =>
  clear M hc
  obtain ⟨xb, ts, ks, fs, tn, st, B0, B1, B2, e0, e1, e2, cs9, rfl, hpo, htn, hc, M⟩ := hcut
  rename World => W18
  obtain ⟨tX, Ai, Ap, Ah, Ar, Aj, At, Ag, Aq, Af, As⟩ := M.f5 0 rfl
  go_wp2_with fail
  clear tX Ai Ap Ah Ar Aj At Ag Aq Af As
  replace M := M.set 0 rfl 4 (.bool false)
  simp only [List.set_cons_zero, List.set_cons_succ, List.setIfInBounds_toArray] at M
  generalize W18.setCell ⟨xb, 4, none⟩ (.bool false) = W19 at M ⊢
  go_loopw [6] (fun i wr => ∃ (n : Nat) (ts : List T7) (ks : List Int) (fs : List F2) (tn : Int) (st : Bool) (B0 B1 B2 : Option Addr) (e0 e1 e2 : Nat), i = .int .i64 n ∧ n ≤ 2 ∧ Hid (poolB wa 12 c dn en ts ks fs tn = true) ∧ Hid (tn ≤ 5000 + 100 * (n : Int)) ∧ Sep [g] W1 wr [.blk (xb) 35 #[.slice B0 ts.length e0, .slice B1 ks.length e1, .slice B2 fs.length e2, .int .i64 tn, .bool st], rT ts.length B0 e0 ts, rK ks.length B1 e1 ks, rF fs.length B2 e2 fs, .blk g 68 cs9, .blk (aP) 28 #[.int .i64 wa, .int .i64 12, .int .i64 c, .int .i64 dn, .int .i64 en]]) (fun i _ => 2 - (intOf i).toNat)
  case atStart => exact ⟨0, ts, ks, fs, tn, false, B0, B1, B2, e0, e1, e2, rfl, by omega, hpo, hide (by have := htn.out; omega), M⟩
  case round =>
   clear M hpo htn
   clear B0 B1 B2 e0 e1 e2 ts ks fs tn st
   obtain ⟨n, ts, ks, fs, tn, st, B0, B1, B2, e0, e1, e2, rfl, hn, hpo, htn, M⟩ := hrel
   rename World => W20
   by_cases hlt : n < 2
   ·have hni : (n : Int) < 2 := by omega
    obtain ⟨tX, Ai, Ah, Aj, Ag, Af⟩ := M.q5 0 rfl
    obtain ⟨tP, Ac, Ae, Ad, Aa, Ab⟩ := M.q5 5 rfl
    go_wp2_with fail
    go_call (spawn_t wa 12 c dn en ts ks fs B0 B1 B2 e0 e1 e2 tn st n 0 _ hpo.out ⟨M.rowS 1 rfl, M.rowS 2 rfl, M.rowS 3 rfl⟩) as r W21 ⟨us1, vk1, vf1, un1, ut1, rq1, oq1, C0, C1, C2, f0, f1, f2, rfl, hpo1, htn1, g1⟩
    clear tX Ai Ah Aj Ag Af tP Ac Ae Ad Aa Ab
    replace M := Sep.new M g1
    simp only [List.cons_append, List.nil_append] at M
    clear g1
    obtain ⟨tX, Ai, Ap, Ah, Ar, Aj, At, Ag, Aq, Af, As⟩ := M.f5 3 rfl
    obtain ⟨tP, Ac, Bc, Ae, Az, Ad, Ba, Aa, Bb, Ab, Bd⟩ := M.f5 8 rfl
    go_simp
    iterate 12 (first | go_values | go_skip | go_guarded | go_step | go_upon | go_simp)
    clear tX Ai Ap Ah Ar Aj At Ag Aq Af As tP Ac Bc Ae Az Ad Ba Aa Bb Ab Bd
    have N := M.gset5 3 rfl (.slice C0 us1.length f0) (.slice C1 vk1.length f1) (.slice C2 vf1.length f2) (.int .i64 un1) (.bool ut1)
    clear M
    obtain ⟨W22, eW, M⟩ := N
    rw [eW]
    clear eW
    simp only [List.set_cons_zero, List.set_cons_succ] at M
    replace hpo1 := hide hpo1
    obtain ⟨tX, Ai, Ah, Aj, Ag, Af⟩ := M.q5 3 rfl
    obtain ⟨tP, Ac, Ae, Ad, Aa, Ab⟩ := M.q5 8 rfl
    go_wp2_with fail
    go_call (take_t wa 12 c dn en us1 vk1 vf1 C0 C1 C2 f0 f1 f2 un1 ut1 n _ hpo1.out ⟨M.rowS 0 rfl, M.rowS 1 rfl, M.rowS 2 rfl⟩) as r W23 ⟨us2, vk2, vf2, un2, ut2, rq2, oq2, D0, D1, D2, m0, m1, m2, rfl, hpo2, htn2, g1⟩
    clear tX Ai Ah Aj Ag Af tP Ac Ae Ad Aa Ab
    replace M := Sep.new M g1
    simp only [List.cons_append, List.nil_append] at M
    clear g1
    obtain ⟨tX, Ai, Ap, Ah, Ar, Aj, At, Ag, Aq, Af, As⟩ := M.f5 6 rfl
    obtain ⟨tP, Ac, Bc, Ae, Az, Ad, Ba, Aa, Bb, Ab, Bd⟩ := M.f5 11 rfl
    go_wp2_with fail
    clear tX Ai Ap Ah Ar Aj At Ag Aq Af As tP Ac Bc Ae Az Ad Ba Aa Bb Ab Bd
    have N := M.gset5 6 rfl (.slice D0 us2.length m0) (.slice D1 vk2.length m1) (.slice D2 vf2.length m2) (.int .i64 un2) (.bool ut2)
    clear M
    obtain ⟨W24, eW, M⟩ := N
    rw [eW]
    clear eW
    simp only [List.set_cons_zero, List.set_cons_succ] at M
    replace hpo2 := hide hpo2
    replace M := M.front 11 rfl
    simp only [List.eraseIdx_cons_succ, List.eraseIdx_cons_zero] at M
    replace M := M.front 11 rfl
    simp only [List.eraseIdx_cons_succ, List.eraseIdx_cons_zero] at M
    replace M := M.front 4 rfl
    simp only [List.eraseIdx_cons_succ, List.eraseIdx_cons_zero] at M
    replace M := M.front 4 rfl
    simp only [List.eraseIdx_cons_succ, List.eraseIdx_cons_zero] at M
    replace M := M.front 4 rfl
    simp only [List.eraseIdx_cons_succ, List.eraseIdx_cons_zero] at M
    replace M := M.front 8 rfl
    simp only [List.eraseIdx_cons_succ, List.eraseIdx_cons_zero] at M
    go_wp2
    go_roundw
    case rel => exact ⟨n + 1, us2, vk2, vf2, un2, ut2, D0, D1, D2, m0, m1, m2, by go_num, by omega, hpo2, hide (by have := htn.out; omega), M.take 6⟩
    case measure => simp [intOf]; omega
   ·obtain rfl : n = 2 := by omega
    clear hlt hn
    have hl := poolB_lens hpo.out
    obtain ⟨hl0, hl1, hl2⟩ := hl
    obtain ⟨ra, hra⟩ : ∃ z, runM ts 0 0 = z := ⟨_, rfl⟩
    obtain ⟨rb, hrb⟩ : ∃ z, runM ts 1 0 = z := ⟨_, rfl⟩
    replace hra := hide hra
    replace hrb := hide hrb
    obtain ⟨tX, Ai, Ah, Aj, Ag, Af⟩ := M.q5 0 rfl
    go_wp2_with fail
    go_call (sRunBy_v ts B0 B1 B2 e0 ks.length e1 fs.length e2 tn st 0 ra hra.out _ (by omega) (M.rowS 1 rfl)) as r W25 ⟨rfl, g1⟩
    clear tX Ai Ah Aj Ag Af
    replace M := M.call g1
    clear g1
    obtain ⟨tX, Ai, Ah, Aj, Ag, Af⟩ := M.q5 0 rfl
    go_wp2_with fail
    go_call (sRunBy_v ts B0 B1 B2 e0 ks.length e1 fs.length e2 tn st 1 rb hrb.out _ (by omega) (M.rowS 1 rfl)) as r W26 ⟨rfl, g1⟩
    clear tX Ai Ah Aj Ag Af
    replace M := M.call g1
    clear g1
    go_wp2_with fail
    obtain ⟨cs10, ecs⟩ : ∃ c, c = cs9 := ⟨_, rfl⟩
    rw [← ecs] at M hc
    clear ecs
    go_call (below_any g _ g A len cap 9999 (by omega) (by omega) (M.diceAt 4 rfl d0 hc)) as r W27 ⟨vv, rfl, vv1, vv2, gg, d⟩
    have MM := M.diceMoved 4 rfl gg d
    clear M hc gg d
    obtain ⟨cs11, hc, M⟩ := MM
    simp only [List.set_cons_zero, List.set_cons_succ] at M
    replace M := M.sub ((List.Sublist.slnil) |>.cons_cons _ |>.cons _ |>.cons_cons _ |>.cons_cons _ |>.cons_cons _ |>.cons_cons _)
    clear hc
    by_cases hra0 : ra < 0
    ·by_cases h12 : ts.length = 12
     ·have h13 : ((ts.length : Int) == 12) = true := by rw [h12]; rfl
      obtain ⟨tX, Ai, Ah, Aj, Ag, Af⟩ := M.q5 0 rfl
      go_wp2_with fail
      go_ret
      exact ⟨rfl, G.trans (Sep.belowB M (by intro q hq; have := HG.out; simp at hq; omega) G.size)⟩
     ·have h13 : ((ts.length : Int) == 12) = false := by rw [beq_eq_false_iff_ne]; omega
      obtain ⟨tX, Ai, Ah, Aj, Ag, Af⟩ := M.q5 0 rfl
      obtain ⟨tP, Ac, Ae, Ad, Aa, Ab⟩ := M.q5 4 rfl
      go_wp2_with fail
      go_call (gPoolOk_k e0 e1 e2 st true _ (by omega) (by omega) ⟨M.rowS 1 rfl, M.rowS 2 rfl, M.rowS 3 rfl⟩ hpo.out) as r W28 ⟨rfl, g1⟩
      clear tX Ai Ah Aj Ag Af tP Ac Ae Ad Aa Ab
      replace M := M.call g1
      clear g1
      go_wp2
      go_ret
      exact ⟨rfl, G.trans (Sep.belowB M (by intro q hq; have := HG.out; simp at hq; omega) G.size)⟩
    ·by_cases hrb0 : rb < 0
     ·by_cases h12 : ts.length = 12
      ·have h13 : ((ts.length : Int) == 12) = true := by rw [h12]; rfl
       obtain ⟨tX, Ai, Ah, Aj, Ag, Af⟩ := M.q5 0 rfl
       go_wp2_with fail
       go_ret
       exact ⟨rfl, G.trans (Sep.belowB M (by intro q hq; have := HG.out; simp at hq; omega) G.size)⟩
      ·have h13 : ((ts.length : Int) == 12) = false := by rw [beq_eq_false_iff_ne]; omega
       obtain ⟨tX, Ai, Ah, Aj, Ag, Af⟩ := M.q5 0 rfl
       obtain ⟨tP, Ac, Ae, Ad, Aa, Ab⟩ := M.q5 4 rfl
       go_wp2_with fail
       go_call (gPoolOk_k e0 e1 e2 st true _ (by omega) (by omega) ⟨M.rowS 1 rfl, M.rowS 2 rfl, M.rowS 3 rfl⟩ hpo.out) as r W29 ⟨rfl, g1⟩
       clear tX Ai Ah Aj Ag Af tP Ac Ae Ad Aa Ab
       replace M := M.call g1
       clear g1
       go_wp2
       go_ret
       exact ⟨rfl, G.trans (Sep.belowB M (by intro q hq; have := HG.out; simp at hq; omega) G.size)⟩
     ·obtain ⟨ka, kb, ⟨s, l, o, w1, o1, v, t⟩, ⟨s2, l2, o2, w2, n2, v2, t2⟩, rfl, rfl, hJ⟩ := joins_of hpo.out hra.out hrb.out hra0 hrb0
      obtain ⟨_, hx, hy, hs, hs2, ho, ho2, hab, hr0, hr1⟩ := hJ
      simp only at hs hs2 ho ho2
      subst hs hs2 ho ho2
      have hw0 : btw 0 0 (wa - 1) = true := by simp [btw]; omega
      have hw1 : btw 1 0 (wa - 1) = true := by simp [btw]; omega
      have htt := htn.out
      -- a waits for b
      obtain ⟨us, ks2, fs2, tn2, st2, rp, ou, hle, hE, _, hI⟩ := joined_told wa 12 c dn en ts ks fs tn st 0 kb (by omega)
      obtain ⟨hrp, hou, hus, hq1, hq2, htn2, hq3, hpu⟩ := (((hE.2 hpo.out hw0 ka _ hr0 hx).2 kb _ rfl hy (by omega)).2 (by simp) (by simp) (by omega))
      clear hE hq1 hq2 hq3
      subst hrp hou
      simp only [parkT] at hus
      have hka := get_lt hx
      have hkb := get_lt hy
      have hul : us.length = ts.length := by rw [hus]; simp
      have hua : us[ka]? = some ⟨3, l, -1, 1, kb, v, tn⟩ := by rw [hus]; exact List.getElem?_set_self hka
      have hub : us[kb]? = some ⟨2, l2, 1, w2, n2, v2, t2⟩ := by rw [hus, List.getElem?_set_ne hab]; exact hy
      have hrb1 : runM us 1 0 = kb := run_at hpu hub rfl rfl
      -- b ends
      obtain ⟨T4, hT4⟩ : ∃ T, T = us.set kb ⟨4, l2, -1, w2, n2, vv, t2⟩ := ⟨_, rfl⟩
      have hT4l : T4.length = us.length := by rw [hT4]; simp
      have hT4a : T4[ka]? = some ⟨3, l, -1, 1, kb, v, tn⟩ := by rw [hT4, List.getElem?_set_ne (by omega)]; exact hua
      have hwl := waiters_lt T4 1 kb
      have hmem := mem_waiters (wt := 1) (on := (kb : Int)) hT4a rfl rfl rfl
      obtain ⟨L4, hL4⟩ : ∃ L, L = waitersM T4 1 kb := ⟨_, rfl⟩
      have hI2 := gEnded_ok wa 12 c dn en us ks2 fs2 tn2 st2 1 vv (by omega) hpu hw1 (by simp [btw]; omega) kb _ _ _ _ _ _ _ hub hrb1 (by rw [← hT4]; simp [okAll, btw]; omega)
      rw [← hT4, ← hL4] at hI2
      obtain ⟨t', hza⟩ := wakeAllT_mem (v := vv) L4 T4 tn2 _ (by rw [hL4]; exact hmem) (by rw [hL4]; exact waitersM_nodup ..) (by rw [hL4]; exact waiters_ge) hT4a
      simp only at hza
      obtain ⟨zs, hzs⟩ : ∃ z, z = wakeAllT L4 T4 tn2 vv := ⟨_, rfl⟩
      rw [← hzs] at hI2 hza
      have hzl : zs.length = ts.length := by rw [hzs, wakeAllT_length]; omega
      have hL1 : 1 ≤ L4.length := by
       have : L4 ≠ [] := fun h => by rw [h] at hL4; rw [← hL4] at hmem; cases hmem
       exact List.length_pos_iff.2 this
      have hLl : L4.length ≤ 31 := by rw [hL4]; omega
      clear hmem hT4a hzs hwl
      clear hL4
      obtain ⟨nL, hnL⟩ : ∃ n, n = L4.length := ⟨_, rfl⟩
      rw [← hnL] at hI2 hL1 hLl
      -- a waits for itself
      obtain ⟨vs3, vk3, vf3, vn3, vt3, rp3, ou3, hle3, hE3, _, hI3⟩ := joined_told wa 12 c dn en ts ks fs tn st 0 ka (by omega)
      have hr3 := (hE3.2 hpo.out hw0 ka _ hr0 hx).1 rfl
      subst hr3
      clear hE3
      -- a is cancelled
      obtain ⟨T5, hT5⟩ : ∃ T, T = us.set ka ⟨5, l, -1, 0, 0, v, tn⟩ := ⟨_, rfl⟩
      have hT5l : T5.length = us.length := by rw [hT5]; simp
      have hwl5 := waiters_lt T5 1 ka
      obtain ⟨vs4, vk4, vf4, vn4, vt4, rp4, ou4, hle4, hE4, _, hI4⟩ := cancelledby_told wa 12 c dn en us ks2 fs2 tn2 st2 1 ka (by omega)
      obtain ⟨hr4, hvs4, hq1, hq2, hq3, hq4, hpu4⟩ := ((hE4.2 hpu hw1 ka _ rfl hua).2.2 (.inr rfl) (by simp only [← hT5]; omega))
      simp only [← hT5] at hvs4
      subst hr4
      clear hE4 hq1 hq2 hq3 hq4
      have hva : vs4[ka]? = some ⟨5, l, -1, 0, 0, v, tn⟩ := by rw [hvs4]; exact wakeAllT_not (by rw [hT5]; exact List.getElem?_set_self (by omega)) (by simp)
      have hvb : vs4[kb]? = some ⟨2, l2, 1, w2, n2, v2, t2⟩ := by rw [hvs4]; exact wakeAllT_not (by rw [hT5, List.getElem?_set_ne hab]; exact hub) (by simp)
      have hvl : vs4.length = ts.length := by rw [hvs4, wakeAllT_length]; omega
      have hrv : runM vs4 1 0 = kb := run_at hpu4 hvb rfl rfl
      clear hvs4 hwl5 hT5l
      -- b runs, and is not cancelled
      obtain ⟨vs5, vk5, vf5, vn5, vt5, rp5, ou5, hle5, hE5, _, hI5⟩ := cancelledby_told wa 12 c dn en us ks2 fs2 tn2 st2 1 kb (by omega)
      have hr5 := (hE5.2 hpu hw1 kb _ rfl hub).1 rfl
      subst hr5
      clear hE5
      -- a is gone
      obtain ⟨vs6, vk6, vf6, vn6, vt6, rp6, ou6, hle6, hE6, _, hI6⟩ := cancelledby_told wa 12 c dn en vs4 vk4 vf4 vn4 vt4 1 ka hle4
      have hr6 := (hE6.2 hpu4 hw1 ka _ rfl hva).2.1 (.inr rfl)
      subst hr6
      clear hE6
      -- who comes late
      obtain ⟨vs7, vk7, vf7, vn7, vt7, rp7, ou7, hle7, hE7, _, hI7⟩ := joined_told wa 12 c dn en vs4 vk4 vf4 vn4 vt4 1 ka hle4
      have hr7 := (((hE7.2 hpu4 hw1 kb _ hrv hvb).2 ka _ rfl hva hab).1 rfl)
      subst hr7
      clear hE7
      have hk0 : (0 : Int) ≤ (ka : Int) := by omega
      have hk1 : (ka : Int) < (zs.length : Int) := by omega
      have hk2 : (ka : Int) < (vs4.length : Int) := by omega
      have HZA := hide hza
      have HVA := hide hva
      clear hza hva hvb hrv hpu4 hus hua hub hrb1 hT4 hT4l hx hy hr0 hr1 htt hnL hpu
      clear htn2 hT5
      clear hul hka hkb hzl hvl hle hle3 hle4 hle5 hle6 hle7
      obtain ⟨tX, Ai, Ah, Aj, Ag, Af⟩ := M.q5 0 rfl
      obtain ⟨tP, Ac, Ae, Ad, Aa, Ab⟩ := M.q5 4 rfl
      go_wp2_with fail
      go_call (hI.out B0 B1 B2 e0 e1 e2 _ (HGL.out.below (G.trans (Sep.belowB M (by intro q hq; have := HG.out; simp at hq; omega) G.size))) ⟨M.rowS 1 rfl, M.rowS 2 rfl, M.rowS 3 rfl⟩) as r W30 ⟨C0, C1, C2, f0, f1, f2, rfl, g1⟩
      clear tX Ai Ah Aj Ag Af tP Ac Ae Ad Aa Ab
      replace M := Sep.new M g1
      simp only [List.cons_append, List.nil_append] at M
      clear g1
      clear hI
      obtain ⟨tX, Ai, Ah, Aj, Ag, Af⟩ := M.q5 3 rfl
      obtain ⟨tP, Ac, Ae, Ad, Aa, Ab⟩ := M.q5 7 rfl
      go_wp2_with fail
      clear tX Ai Ah Aj Ag Af tP Ac Ae Ad Aa Ab
      have N := M.al2 35 #[.slice C0 us.length f0, .slice C1 ks2.length f1, .slice C2 fs2.length f2, .int .i64 tn2, .bool st2] 38 #[.int .i64 7, .int .i64 ka]
      clear M
      obtain ⟨aY, aYa, W31, e1, e2, e3, M⟩ := N
      rw [e3, e2, e1]
      clear e1 e2 e3
      obtain ⟨tY, Ak, An, Al, Ao, Am⟩ := M.q5 1 rfl
      obtain ⟨tP, Ac, Ae, Ad, Aa, Ab⟩ := M.q5 9 rfl
      go_wp2_with fail
      go_call (hI2.out C0 C1 C2 f0 f1 f2 _ ⟨M.rowS 2 rfl, M.rowS 3 rfl, M.rowS 4 rfl⟩) as r W32 ⟨D0, D1, D2, m0, m1, m2, rfl, g1⟩
      clear tY Ak An Al Ao Am tP Ac Ae Ad Aa Ab
      replace M := Sep.new M g1
      simp only [List.cons_append, List.nil_append] at M
      clear g1
      clear hI2
      obtain ⟨Bf, Be, Bg⟩ := M.q2 3 rfl
      obtain ⟨tY, Ak, An, Al, Ao, Am⟩ := M.q5 4 rfl
      obtain ⟨tX, Ai, Ah, Aj, Ag, Af⟩ := M.q5 8 rfl
      obtain ⟨tP, Ac, Ae, Ad, Aa, Ab⟩ := M.q5 12 rfl
      go_wp2_with fail
      clear Bf Be Bg tY Ak An Al Ao Am tX Ai Ah Aj Ag Af tP Ac Ae Ad Aa Ab
      have N := M.al2 35 #[.slice D0 zs.length m0, .slice D1 ks2.length m1, .slice D2 fs2.length m2, .int .i64 (tn2 + (nL : Int)), .bool st2] 38 #[.int .i64 1, .int .i64 nL]
      clear M
      obtain ⟨aZ, aZa, W33, e1, e2, e3, M⟩ := N
      rw [e3, e2, e1]
      clear e1 e2 e3
      obtain ⟨bz, oz, eD, z0, _, _, _, _, z5, _⟩ := (M.rowS 2 rfl).cells7' HZA.out
      subst eD
      obtain ⟨Br, Bp, Bn⟩ := M.q2 0 rfl
      obtain ⟨tZ, Bs, Bk, Bu, Bj, Bh⟩ := M.q5 1 rfl
      obtain ⟨Bf, Be, Bg⟩ := M.q2 5 rfl
      obtain ⟨tY, Ak, An, Al, Ao, Am⟩ := M.q5 6 rfl
      obtain ⟨tX, Ai, Ah, Aj, Ag, Af⟩ := M.q5 10 rfl
      obtain ⟨tP, Ac, Ae, Ad, Aa, Ab⟩ := M.q5 14 rfl
      have hnl : ¬ (nL : Int) < 1 := by omega
      go_wp2_with fail
      clear z0 z5
      go_call (hI3.out B0 B1 B2 e0 e1 e2 _ (HGL.out.below (G.trans (Sep.belowB M (by intro q hq; have := HG.out; simp at hq; omega) G.size))) ⟨M.rowS 11 rfl, M.rowS 12 rfl, M.rowS 13 rfl⟩) as r W34 ⟨E0, E1, E2, i0, i1, i2, rfl, g1⟩
      clear Br Bp Bn tZ Bs Bk Bu Bj Bh Bf Be Bg tY Ak An Al Ao Am tX Ai Ah Aj Ag Af tP Ac Ae Ad Aa Ab
      replace M := Sep.new M g1
      simp only [List.cons_append, List.nil_append] at M
      clear g1
      clear hI3
      obtain ⟨tY, Ak, An, Al, Ao, Am⟩ := M.q5 9 rfl
      obtain ⟨tP, Ac, Ae, Ad, Aa, Ab⟩ := M.q5 17 rfl
      go_wp2_with fail
      clear tY Ak An Al Ao Am tP Ac Ae Ad Aa Ab
      have N := M.al2 35 #[.slice E0 vs3.length i0, .slice E1 vk3.length i1, .slice E2 vf3.length i2, .int .i64 vn3, .bool vt3] 38 #[.int .i64 8, .int .i64 ou3]
      clear M
      obtain ⟨aA, aAa, W35, e1, e2, e3, M⟩ := N
      rw [e3, e2, e1]
      clear e1 e2 e3
      obtain ⟨tY, Ak, An, Al, Ao, Am⟩ := M.q5 11 rfl
      obtain ⟨tP, Ac, Ae, Ad, Aa, Ab⟩ := M.q5 19 rfl
      go_wp2_with fail
      go_call (hI4.out C0 C1 C2 f0 f1 f2 _ (HGL.out.below (G.trans (Sep.belowB M (by intro q hq; have := HG.out; simp at hq; omega) G.size))) ⟨M.rowS 12 rfl, M.rowS 13 rfl, M.rowS 14 rfl⟩) as r W36 ⟨F0, F1, F2, j0, j1, j2, rfl, g1⟩
      clear tY Ak An Al Ao Am tP Ac Ae Ad Aa Ab
      replace M := Sep.new M g1
      simp only [List.cons_append, List.nil_append] at M
      clear g1
      clear hI4
      obtain ⟨tY, Ak, An, Al, Ao, Am⟩ := M.q5 14 rfl
      obtain ⟨tP, Ac, Ae, Ad, Aa, Ab⟩ := M.q5 22 rfl
      go_wp2_with fail
      clear tY Ak An Al Ao Am tP Ac Ae Ad Aa Ab
      have N := M.al2 35 #[.slice F0 vs4.length j0, .slice F1 vk4.length j1, .slice F2 vf4.length j2, .int .i64 vn4, .bool vt4] 38 #[.int .i64 1, .int .i64 ou4]
      clear M
      obtain ⟨aU, aUa, W37, e1, e2, e3, M⟩ := N
      rw [e3, e2, e1]
      clear e1 e2 e3
      obtain ⟨tY, Ak, An, Al, Ao, Am⟩ := M.q5 16 rfl
      obtain ⟨tP, Ac, Ae, Ad, Aa, Ab⟩ := M.q5 24 rfl
      go_wp2_with fail
      go_call (hI5.out C0 C1 C2 f0 f1 f2 _ (HGL.out.below (G.trans (Sep.belowB M (by intro q hq; have := HG.out; simp at hq; omega) G.size))) ⟨M.rowS 17 rfl, M.rowS 18 rfl, M.rowS 19 rfl⟩) as r W38 ⟨H0, H1, H2, q0, q1, q2, rfl, g1⟩
      clear tY Ak An Al Ao Am tP Ac Ae Ad Aa Ab
      replace M := Sep.new M g1
      simp only [List.cons_append, List.nil_append] at M
      clear g1
      clear hI5
      obtain ⟨tU, Ax, Av, Au, Aw, Ay⟩ := M.q5 4 rfl
      obtain ⟨tP, Ac, Ae, Ad, Aa, Ab⟩ := M.q5 27 rfl
      go_wp2_with fail
      clear tU Ax Av Au Aw Ay tP Ac Ae Ad Aa Ab
      have N := M.al2 35 #[.slice H0 vs5.length q0, .slice H1 vk5.length q1, .slice H2 vf5.length q2, .int .i64 vn5, .bool vt5] 38 #[.int .i64 3, .int .i64 ou5]
      clear M
      obtain ⟨aR, aRa, W39, e1, e2, e3, M⟩ := N
      rw [e3, e2, e1]
      clear e1 e2 e3
      obtain ⟨tU, Ax, Av, Au, Aw, Ay⟩ := M.q5 6 rfl
      obtain ⟨tP, Ac, Ae, Ad, Aa, Ab⟩ := M.q5 29 rfl
      go_wp2_with fail
      go_call (hI6.out F0 F1 F2 j0 j1 j2 _ (HGL.out.below (G.trans (Sep.belowB M (by intro q hq; have := HG.out; simp at hq; omega) G.size))) ⟨M.rowS 7 rfl, M.rowS 8 rfl, M.rowS 9 rfl⟩) as r W40 ⟨I0, I1, I2, p0, p1, p2, rfl, g1⟩
      clear tU Ax Av Au Aw Ay tP Ac Ae Ad Aa Ab
      replace M := Sep.new M g1
      simp only [List.cons_append, List.nil_append] at M
      clear g1
      clear hI6
      obtain ⟨tU, Ax, Av, Au, Aw, Ay⟩ := M.q5 9 rfl
      obtain ⟨tP, Ac, Ae, Ad, Aa, Ab⟩ := M.q5 32 rfl
      go_wp2_with fail
      clear tU Ax Av Au Aw Ay tP Ac Ae Ad Aa Ab
      have N := M.al2 35 #[.slice I0 vs6.length p0, .slice I1 vk6.length p1, .slice I2 vf6.length p2, .int .i64 vn6, .bool vt6] 38 #[.int .i64 5, .int .i64 ou6]
      clear M
      obtain ⟨aQ, aQa, W41, e1, e2, e3, M⟩ := N
      rw [e3, e2, e1]
      clear e1 e2 e3
      obtain ⟨tU, Ax, Av, Au, Aw, Ay⟩ := M.q5 11 rfl
      obtain ⟨tP, Ac, Ae, Ad, Aa, Ab⟩ := M.q5 34 rfl
      go_wp2_with fail
      go_call (hI7.out F0 F1 F2 j0 j1 j2 _ (HGL.out.below (G.trans (Sep.belowB M (by intro q hq; have := HG.out; simp at hq; omega) G.size))) ⟨M.rowS 12 rfl, M.rowS 13 rfl, M.rowS 14 rfl⟩) as r W42 ⟨J0, J1, J2, r0, r1, r2, rfl, g1⟩
      clear tU Ax Av Au Aw Ay tP Ac Ae Ad Aa Ab
      replace M := Sep.new M g1
      simp only [List.cons_append, List.nil_append] at M
      clear g1
      clear hI7
      obtain ⟨bu, ouz, eF, z0, _⟩ := (M.rowS 15 rfl).cells7' HVA.out
      subst eF
      have lbu : bu < W42.heap.size := World.block_lt_of_cell? _ _ z0
      obtain ⟨Bl, Bt, Bw⟩ := M.q2 3 rfl
      obtain ⟨Bi, Bx, Bo⟩ := M.q2 8 rfl
      obtain ⟨Ca, By, Bm⟩ := M.q2 13 rfl
      obtain ⟨tU, Ax, Av, Au, Aw, Ay⟩ := M.q5 14 rfl
      obtain ⟨Bv, Bq, Bz⟩ := M.q2 18 rfl
      go_wp2_with fail
      clear z0 lbu
      clear Bl Bt Bw Bi Bx Bo Ca By Bm tU Ax Av Au Aw Ay Bv Bq Bz
      have N := M.al2 35 #[.slice J0 vs7.length r0, .slice J1 vk7.length r1, .slice J2 vf7.length r2, .int .i64 vn7, .bool vt7] 38 #[.int .i64 5, .int .i64 ou7]
      clear M
      obtain ⟨aO, aOa, W43, e1, e2, e3, M⟩ := N
      rw [e3, e2, e1]
      clear e1 e2 e3
      go_ret
      exact ⟨rfl, G.trans (Sep.belowB M (by intro q hq; have := HG.out; simp at hq; omega) G.size)⟩
end Go.Proofs.YtfkdfkoigojciaaGreatDoor
