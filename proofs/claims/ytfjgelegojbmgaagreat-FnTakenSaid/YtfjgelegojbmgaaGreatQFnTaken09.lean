/- Chapter 6's law of taking: whoever is taken is the first in line, its worker takes no other one, and what is given back stands behind all others of its level: true at every code. No condition. -/
import Derived.Test.YtfjgelegojbmgaaGreatQFnTaken01
import Derived.Test.YtfjgelegojbmgaaGreatQFnTaken06
import Derived.Test.YtfjgelegojbmgaaGreatQFnTaken07
import Derived.Test.YtfjgelegojbmgaaGreatQFnTaken08
import Derived.Test.YtfjgelegojbmgaaGreatQB39
import Derived.Deep.DeepCutAuto
import Derived.Test.YtfjgelegojbmgaaGreatQB01

namespace Go.Proofs.YtfjgelegojbmgaaGreat
open Go.RowKit
set_option linter.unusedVariables false
theorem wpAnyT_readyX {P : Program} {md : Region.Mode} {ops : Array Oper} {Q : Exit → Act → World → Prop} {S : World → Prop} {ks : List Nat} {rs : List Nat} {fuel : Nat} {listed : Array Bool} {a : Act} {w : World} (hr : Region.ready md ops listed = rs) (hne : rs ≠ [])
 (h : AllReadyT P md ops Q S ks fuel listed a w rs) : wpAnyT P md ops Q S ks (fuel + 1) listed a w :=
 ⟨fun h0 => absurd (hr ▸ h0) hne, hr ▸ h⟩
theorem gFirst_v (ts : List T7) (ks : List Int) (fs : List F2) (A0 A1 A2 : Option Addr) (c0 c1 c2 : Nat) (tn : Int) (st : Bool) (z : Int) (hz : firstM ts = z) (w : World) (hlen : ts.length ≤ 1048576) (h : Row w A0 (tcells ts)) :
 Calls Tryz.prog 27 #[.agg #[.slice A0 ts.length c0, .slice A1 ks.length c1, .slice A2 fs.length c2, .int .i64 tn, .bool st]] w fun r w' => r = .returned (.int .i64 z) ∧ Below w.heap.size w w' := by
 subst hz
 exact gFirstReady_any ts ks fs A0 A1 A2 c0 c1 c2 tn st w hlen h
set_option maxRecDepth 100000 in
set_option maxHeartbeats 1600000 in
theorem fnTaken_any (w : World) (A : Option Addr) (len cap : Nat) (hby : Bytes w w.heap.size A len) (hl : len ≤ 4096) :
 Calls Tryz.prog 5 #[.slice A len cap] w fun r w' => r = .returned (.bool true) ∧ Below w.heap.size w w' := by
 go_enter Tryz.func5, Tryz.ntmps5
 go_wp2_with fail
 go_call (big_any A len cap _) as r w' ⟨rfl, rfl⟩
 go_wp2_with fail
 go_call (roll_any w.heap.size w A len cap 5 (Nat.le_refl _) hl hby) as r W1 ⟨rfl, G, d0⟩
 obtain ⟨g, hg⟩ : ∃ g, g = w.heap.size := ⟨_, rfl⟩
 rw [← hg] at d0 ⊢
 have HG := hide hg
 clear hg
 obtain ⟨cs0, hc, M⟩ := dice_start d0
 go_wp2_with fail
 go_call (scheme_any g _ g A len cap (M.diceAt 0 rfl d0 hc)) as r W2 ⟨a, b, c, dd, ee, rfl, a1, a2, b1, b2, c1, c2, p1, p2, q1, q2, gg, d⟩
 have MM := M.diceMoved 0 rfl gg d
 clear M hc gg d
 obtain ⟨cs1, hc, M⟩ := MM
 simp only [List.set_cons_zero] at M
 obtain ⟨dn, rfl⟩ : ∃ n : Nat, dd = n := ⟨dd.toNat, by omega⟩
 obtain ⟨en, rfl⟩ : ∃ n : Nat, ee = n := ⟨ee.toNat, by omega⟩
 have hp : planB a b c dn en = true := by simp [planB, btw]; omega
 have HP := hide hp
 clear hp
 go_wp2_with fail
 have N := M.al1 25 #[.int .i64 a, .int .i64 b, .int .i64 c, .int .i64 dn, .int .i64 en]
 clear M
 obtain ⟨aP, W3, e1, e3, M⟩ := N
 rw [e3, e1]
 clear e1 e3
 go_cut [5] (fun x' wc => ∃ (xb : Nat) (ts : List T7) (ks : List Int) (fs : List F2) (tn : Int) (st : Bool) (B0 B1 B2 : Option Addr) (e0 e1 e2 : Nat) (cs9 : Array Value), x' = .pointer (some ⟨xb, 0, none⟩) ∧ Hid (poolB a b c dn en ts ks fs tn = true) ∧ Hid (tn ≤ 5000) ∧ diceC A len cap cs9 ∧ Sep [g] W1 wc [.blk (xb) 30 #[.slice B0 ts.length e0, .slice B1 ks.length e1, .slice B2 fs.length e2, .int .i64 tn, .bool st], rT ts.length B0 e0 ts, rK ks.length B1 e1 ks, rF fs.length B2 e2 fs, .blk g 87 cs9, .blk (aP) 25 #[.int .i64 a, .int .i64 b, .int .i64 c, .int .i64 dn, .int .i64 en]])
 case first =>
  refine wp_region_T (S := (fun w' => w'.cell? ⟨aP, 0, none⟩ = some (.int .i64 a) ∧ w'.cell? ⟨aP, 1, none⟩ = some (.int .i64 b) ∧ w'.cell? ⟨aP, 2, none⟩ = some (.int .i64 c) ∧ w'.cell? ⟨aP, 3, none⟩ = some (.int .i64 dn) ∧ w'.cell? ⟨aP, 4, none⟩ = some (.int .i64 en))) (ks := [6]) (by kernel_rfl) ⟨M.cell 0 0 rfl, M.cell 0 1 rfl, M.cell 0 2 rfl, M.cell 0 3 rfl, M.cell 0 4 rfl⟩ (fun hHeld => ?_)
  replace M := M.drew
  generalize W3.drew = W4 at M hHeld ⊢
  refine tkY 0 ?v0u1 rfl ?hy0u1 (fun _ => hHeld) ?_
  case hy0u1 => (intro w; go_simp; all_goals with_reducible rfl)
  try simp only [Act.put, List.setIfInBounds_toArray, List.set_cons_zero, List.set_cons_succ]
  refine tkL 1 ?v1u2 rfl ?hy1u2 hHeld ?_
  case hy1u2 => (intro w hSw; (try dsimp only at hSw); go_split_ands; go_simp; all_goals with_reducible rfl)
  try simp only [Act.put, List.setIfInBounds_toArray, List.set_cons_zero, List.set_cons_succ]
  refine tkY 2 ?v2u3 rfl ?hy2u3 (fun _ => hHeld) ?_
  case hy2u3 => (intro w; go_simp; all_goals with_reducible rfl)
  try simp only [Act.put, List.setIfInBounds_toArray, List.set_cons_zero, List.set_cons_succ]
  refine wpAnyT_readyX (rs := [3, 5]) (by kernel_rfl) (by simp) ?_
  refine AllReadyT.consS (i := 3) rfl (fun K hK => ?_) (AllReadyT.consS (i := 5) rfl (fun K hK => ?_) AllReadyT.nil)
  ·go_simp
   refine Calls.mono (by with_reducible exact (below_any g _ g A len cap 40 (by omega) (by omega) (M.diceAt 1 rfl d0 hc))) ?_
   rintro r W5 ⟨nn, rfl, nn1, nn2, gg, d⟩
   have MM := M.diceMoved 1 rfl gg d
   clear M hc gg d
   obtain ⟨cs2, hc, M⟩ := MM
   simp only [List.set_cons_zero, List.set_cons_succ] at M
   obtain ⟨nq, rfl⟩ : ∃ n : Nat, nn = n := ⟨nn.toNat, by omega⟩
   clear hHeld
   go_wp2_with fail
   refine hK.out _ _ ?_ (fun hHeld => ?_)
   ·exact ⟨M.cell 0 0 rfl, M.cell 0 1 rfl, M.cell 0 2 rfl, M.cell 0 3 rfl, M.cell 0 4 rfl⟩
   clear hK K
   try simp only [Act.put, List.setIfInBounds_toArray, List.set_cons_zero, List.set_cons_succ]
   refine wpAnyT_readyX (rs := [4, 5]) (by kernel_rfl) (by simp) ?_
   refine AllReadyT.consS (i := 4) rfl (fun K hK => ?_) (AllReadyT.consS (i := 5) rfl (fun K hK => ?_) AllReadyT.nil)
   ·replace M := M.front 1 rfl
    simp only [List.eraseIdx_cons_succ, List.eraseIdx_cons_zero] at M
    go_simp
    refine Calls.mono (by with_reducible exact (usedT_any g _ g A len cap a b c dn en nq (by omega) HP.out (by omega) (by omega) (M.diceAt 0 rfl d0 hc))) ?_
    rintro r W6 ⟨ts, ks, fs, tn, st, B0, B1, B2, e0, e1, e2, cs3, rfl, hpo, htn, hc2, k2⟩
    replace M : Sep [g] W1 W6 [rT ts.length B0 e0 ts, rK ks.length B1 e1 ks, rF fs.length B2 e2 fs, .blk g 87 cs3, .blk (aP) 25 #[.int .i64 a, .int .i64 b, .int .i64 c, .int .i64 dn, .int .i64 en]] := Sep.comp (ps := [.blk g 87 cs2]) (rs := [.blk (aP) 25 #[.int .i64 a, .int .i64 b, .int .i64 c, .int .i64 dn, .int .i64 en]]) M k2
    clear k2 hc
    have hc := hc2
    clear hc2 hHeld
    replace hpo := hide hpo
    have htq : tn ≤ 5000 := by omega
    replace htn := hide htq
    clear htq
    go_wp2_with fail
    refine hK.out _ _ ?_ (fun hHeld => ?_)
    ·exact ⟨M.cell 4 0 rfl, M.cell 4 1 rfl, M.cell 4 2 rfl, M.cell 4 3 rfl, M.cell 4 4 rfl⟩
    clear hK K
    try simp only [Act.put, List.setIfInBounds_toArray, List.set_cons_zero, List.set_cons_succ]
    refine wpAnyT_callL (i := 5) rfl (by kernel_rfl) (fun K hK => ?_)
    go_simp
    clear hHeld
    have N := M.galloc 30 #[.slice none 0 0, .slice none 0 0, .slice none 0 0, .int .i64 0, .bool false]
    clear M
    obtain ⟨W7, eW, M⟩ := N
    rw [eW]
    clear eW
    refine hK.out _ _ ?_ (fun hHeld => ?_)
    ·exact ⟨M.cell 5 0 rfl, M.cell 5 1 rfl, M.cell 5 2 rfl, M.cell 5 3 rfl, M.cell 5 4 rfl⟩
    clear hK K
    try simp only [Act.put, List.setIfInBounds_toArray, List.set_cons_zero, List.set_cons_succ]
    obtain ⟨tX, Ab, Aw, Aa, Au, Ae, As, Ad, Av, Ac, At⟩ := M.f5 0 rfl
    refine wpAnyT_oneL (i := 6) rfl (by kernel_rfl) (by kernel_rfl) (fun K hK => ?_)
    go_simp
    refine hK.out _ _ ?_
    clear hK K
    try simp only [Act.put, List.setIfInBounds_toArray, List.set_cons_zero, List.set_cons_succ]
    clear tX Ab Aw Aa Au Ae As Ad Av Ac At
    have N := M.gset5 0 rfl (.slice B0 ts.length e0) (.slice B1 ks.length e1) (.slice B2 fs.length e2) (.int .i64 tn) (.bool st)
    clear M
    obtain ⟨W8, eW, M⟩ := N
    rw [eW]
    clear eW
    simp only [List.set_cons_zero] at M
    refine wpAnyT_done (by kernel_rfl) ?_ _
    replace M := M.front 4 rfl
    simp only [List.eraseIdx_cons_succ, List.eraseIdx_cons_zero] at M
    replace M := M.front 4 rfl
    simp only [List.eraseIdx_cons_succ, List.eraseIdx_cons_zero] at M
    replace M := M.front 4 rfl
    simp only [List.eraseIdx_cons_succ, List.eraseIdx_cons_zero] at M
    replace M := M.front 4 rfl
    simp only [List.eraseIdx_cons_succ, List.eraseIdx_cons_zero] at M
    replace M := M.front 4 rfl
    simp only [List.eraseIdx_cons_succ, List.eraseIdx_cons_zero] at M
    go_wp2_with fail
    go_meet
    exact ⟨_, ts, ks, fs, tn, st, B0, B1, B2, e0, e1, e2, _, rfl, hpo, htn, hc, M⟩
   ·go_simp
    clear hHeld
    have N := M.galloc 30 #[.slice none 0 0, .slice none 0 0, .slice none 0 0, .int .i64 0, .bool false]
    clear M
    obtain ⟨W9, eW, M⟩ := N
    rw [eW]
    clear eW
    refine hK.out _ _ ?_ (fun hHeld => ?_)
    ·exact ⟨M.cell 1 0 rfl, M.cell 1 1 rfl, M.cell 1 2 rfl, M.cell 1 3 rfl, M.cell 1 4 rfl⟩
    clear hK K
    try simp only [Act.put, List.setIfInBounds_toArray, List.set_cons_zero, List.set_cons_succ]
    replace M := M.front 2 rfl
    simp only [List.eraseIdx_cons_succ, List.eraseIdx_cons_zero] at M
    refine wpAnyT_callL (i := 4) rfl (by kernel_rfl) (fun K hK => ?_)
    go_simp
    refine Calls.mono (by with_reducible exact (usedT_any g _ g A len cap a b c dn en nq (by omega) HP.out (by omega) (by omega) (M.diceAt 0 rfl d0 hc))) ?_
    rintro r W10 ⟨ts, ks, fs, tn, st, B0, B1, B2, e0, e1, e2, cs3, rfl, hpo, htn, hc2, k2⟩
    replace M : Sep [g] W1 W10 [rT ts.length B0 e0 ts, rK ks.length B1 e1 ks, rF fs.length B2 e2 fs, .blk g 87 cs3, .blk (W5.heap.size) 30 #[.slice none 0 0, .slice none 0 0, .slice none 0 0, .int .i64 0, .bool false], .blk (aP) 25 #[.int .i64 a, .int .i64 b, .int .i64 c, .int .i64 dn, .int .i64 en]] := Sep.comp (ps := [.blk g 87 cs2]) (rs := [.blk (W5.heap.size) 30 #[.slice none 0 0, .slice none 0 0, .slice none 0 0, .int .i64 0, .bool false], .blk (aP) 25 #[.int .i64 a, .int .i64 b, .int .i64 c, .int .i64 dn, .int .i64 en]]) M k2
    clear k2 hc
    have hc := hc2
    clear hc2 hHeld
    replace hpo := hide hpo
    have htq : tn ≤ 5000 := by omega
    replace htn := hide htq
    clear htq
    go_wp2_with fail
    refine hK.out _ _ ?_ (fun hHeld => ?_)
    ·exact ⟨M.cell 5 0 rfl, M.cell 5 1 rfl, M.cell 5 2 rfl, M.cell 5 3 rfl, M.cell 5 4 rfl⟩
    clear hK K
    try simp only [Act.put, List.setIfInBounds_toArray, List.set_cons_zero, List.set_cons_succ]
    obtain ⟨tX, Ab, Aw, Aa, Au, Ae, As, Ad, Av, Ac, At⟩ := M.f5 4 rfl
    refine wpAnyT_oneL (i := 6) rfl (by kernel_rfl) (by kernel_rfl) (fun K hK => ?_)
    go_simp
    refine hK.out _ _ ?_
    clear hK K
    try simp only [Act.put, List.setIfInBounds_toArray, List.set_cons_zero, List.set_cons_succ]
    clear tX Ab Aw Aa Au Ae As Ad Av Ac At
    have N := M.gset5 4 rfl (.slice B0 ts.length e0) (.slice B1 ks.length e1) (.slice B2 fs.length e2) (.int .i64 tn) (.bool st)
    clear M
    obtain ⟨W11, eW, M⟩ := N
    rw [eW]
    clear eW
    simp only [List.set_cons_zero, List.set_cons_succ] at M
    refine wpAnyT_done (by kernel_rfl) ?_ _
    replace M := M.front 3 rfl
    simp only [List.eraseIdx_cons_succ, List.eraseIdx_cons_zero] at M
    replace M := M.front 3 rfl
    simp only [List.eraseIdx_cons_succ, List.eraseIdx_cons_zero] at M
    replace M := M.front 3 rfl
    simp only [List.eraseIdx_cons_succ, List.eraseIdx_cons_zero] at M
    replace M := M.front 3 rfl
    simp only [List.eraseIdx_cons_succ, List.eraseIdx_cons_zero] at M
    replace M := M.front 4 rfl
    simp only [List.eraseIdx_cons_succ, List.eraseIdx_cons_zero] at M
    go_wp2_with fail
    go_meet
    exact ⟨_, ts, ks, fs, tn, st, B0, B1, B2, e0, e1, e2, _, rfl, hpo, htn, hc, M⟩
  ·go_simp
   clear hHeld
   have N := M.galloc 30 #[.slice none 0 0, .slice none 0 0, .slice none 0 0, .int .i64 0, .bool false]
   clear M
   obtain ⟨W12, eW, M⟩ := N
   rw [eW]
   clear eW
   refine hK.out _ _ ?_ (fun hHeld => ?_)
   ·exact ⟨M.cell 1 0 rfl, M.cell 1 1 rfl, M.cell 1 2 rfl, M.cell 1 3 rfl, M.cell 1 4 rfl⟩
   clear hK K
   try simp only [Act.put, List.setIfInBounds_toArray, List.set_cons_zero, List.set_cons_succ]
   refine wpAnyT_callL (i := 3) rfl (by kernel_rfl) (fun K hK => ?_)
   go_simp
   refine Calls.mono (by with_reducible exact (below_any g _ g A len cap 40 (by omega) (by omega) (M.diceAt 2 rfl d0 hc))) ?_
   rintro r W13 ⟨nn, rfl, nn1, nn2, gg, d⟩
   have MM := M.diceMoved 2 rfl gg d
   clear M hc gg d
   obtain ⟨cs2, hc, M⟩ := MM
   simp only [List.set_cons_zero, List.set_cons_succ] at M
   obtain ⟨nq, rfl⟩ : ∃ n : Nat, nn = n := ⟨nn.toNat, by omega⟩
   clear hHeld
   go_wp2_with fail
   refine hK.out _ _ ?_ (fun hHeld => ?_)
   ·exact ⟨M.cell 1 0 rfl, M.cell 1 1 rfl, M.cell 1 2 rfl, M.cell 1 3 rfl, M.cell 1 4 rfl⟩
   clear hK K
   try simp only [Act.put, List.setIfInBounds_toArray, List.set_cons_zero, List.set_cons_succ]
   replace M := M.front 2 rfl
   simp only [List.eraseIdx_cons_succ, List.eraseIdx_cons_zero] at M
   refine wpAnyT_callL (i := 4) rfl (by kernel_rfl) (fun K hK => ?_)
   go_simp
   refine Calls.mono (by with_reducible exact (usedT_any g _ g A len cap a b c dn en nq (by omega) HP.out (by omega) (by omega) (M.diceAt 0 rfl d0 hc))) ?_
   rintro r W14 ⟨ts, ks, fs, tn, st, B0, B1, B2, e0, e1, e2, cs3, rfl, hpo, htn, hc2, k2⟩
   replace M : Sep [g] W1 W14 [rT ts.length B0 e0 ts, rK ks.length B1 e1 ks, rF fs.length B2 e2 fs, .blk g 87 cs3, .blk (W4.heap.size) 30 #[.slice none 0 0, .slice none 0 0, .slice none 0 0, .int .i64 0, .bool false], .blk (aP) 25 #[.int .i64 a, .int .i64 b, .int .i64 c, .int .i64 dn, .int .i64 en]] := Sep.comp (ps := [.blk g 87 cs2]) (rs := [.blk (W4.heap.size) 30 #[.slice none 0 0, .slice none 0 0, .slice none 0 0, .int .i64 0, .bool false], .blk (aP) 25 #[.int .i64 a, .int .i64 b, .int .i64 c, .int .i64 dn, .int .i64 en]]) M k2
   clear k2 hc
   have hc := hc2
   clear hc2 hHeld
   replace hpo := hide hpo
   have htq : tn ≤ 5000 := by omega
   replace htn := hide htq
   clear htq
   go_wp2_with fail
   refine hK.out _ _ ?_ (fun hHeld => ?_)
   ·exact ⟨M.cell 5 0 rfl, M.cell 5 1 rfl, M.cell 5 2 rfl, M.cell 5 3 rfl, M.cell 5 4 rfl⟩
   clear hK K
   try simp only [Act.put, List.setIfInBounds_toArray, List.set_cons_zero, List.set_cons_succ]
   obtain ⟨tX, Ab, Aw, Aa, Au, Ae, As, Ad, Av, Ac, At⟩ := M.f5 4 rfl
   refine wpAnyT_oneL (i := 6) rfl (by kernel_rfl) (by kernel_rfl) (fun K hK => ?_)
   go_simp
   refine hK.out _ _ ?_
   clear hK K
   try simp only [Act.put, List.setIfInBounds_toArray, List.set_cons_zero, List.set_cons_succ]
   clear tX Ab Aw Aa Au Ae As Ad Av Ac At
   have N := M.gset5 4 rfl (.slice B0 ts.length e0) (.slice B1 ks.length e1) (.slice B2 fs.length e2) (.int .i64 tn) (.bool st)
   clear M
   obtain ⟨W15, eW, M⟩ := N
   rw [eW]
   clear eW
   simp only [List.set_cons_zero, List.set_cons_succ] at M
   refine wpAnyT_done (by kernel_rfl) ?_ _
   replace M := M.front 3 rfl
   simp only [List.eraseIdx_cons_succ, List.eraseIdx_cons_zero] at M
   replace M := M.front 3 rfl
   simp only [List.eraseIdx_cons_succ, List.eraseIdx_cons_zero] at M
   replace M := M.front 3 rfl
   simp only [List.eraseIdx_cons_succ, List.eraseIdx_cons_zero] at M
   replace M := M.front 3 rfl
   simp only [List.eraseIdx_cons_succ, List.eraseIdx_cons_zero] at M
   replace M := M.front 4 rfl
   simp only [List.eraseIdx_cons_succ, List.eraseIdx_cons_zero] at M
   go_wp2_with fail
   go_meet
   exact ⟨_, ts, ks, fs, tn, st, B0, B1, B2, e0, e1, e2, _, rfl, hpo, htn, hc, M⟩
 case rest =>
  clear M hc
  obtain ⟨xb, ts, ks, fs, tn, st, B0, B1, B2, e0, e1, e2, cs9, rfl, hpo, htn, hc, M⟩ := hcut
  rename World => W16
  obtain ⟨tP, Ah, Ai, Aj, Ag, Af⟩ := M.q5 5 rfl
  go_wp2_with fail
  go_call (below_any g _ g A len cap a (by omega) (by omega) (M.diceAt 4 rfl d0 hc)) as r W17 ⟨wk, rfl, wk1, wk2, gg, d⟩
  clear tP Ah Ai Aj Ag Af
  have MM := M.diceMoved 4 rfl gg d
  clear M hc gg d
  obtain ⟨cs11, hc, M⟩ := MM
  simp only [List.set_cons_zero, List.set_cons_succ] at M
  replace M := M.sub ((List.Sublist.slnil) |>.cons_cons _ |>.cons _ |>.cons_cons _ |>.cons_cons _ |>.cons_cons _ |>.cons_cons _)
  clear hc
  have hl := poolB_lens hpo.out
  obtain ⟨hl0, hl1, hl2⟩ := hl
  have hwb : btw wk 0 (a - 1) = true := by simp [btw]; omega
  obtain ⟨us, ks2, fs2, tn2, st2, rp, ou, hle, hE, hS, hI⟩ := taken_told a b c dn en ts ks fs tn st wk (by omega)
  by_cases hr : rp = 1
  ·subst hr
   obtain ⟨k, ⟨s, l, o, w1, o1, v, t⟩, rfl, hf, hx, hs, hus, hk2, hf2, ht2, hst2, hrn, hpu⟩ := hE.1 rfl
   clear hk2 hf2 hst2
   clear hE
   simp only at hs hus
   subst hs
   have hkl := get_lt hx
   have hux : us[k]? = some ⟨2, l, wk, w1, o1, v, t⟩ := by rw [hus]; exact List.getElem?_set_self hkl
   have hru : runM us wk 0 = k := by rw [hus]; exact run_taken hrn hx rfl rfl
   have hul : us.length ≤ 30 := by rw [hus, List.length_set]; exact hl0
   obtain ⟨us2, ks3, fs3, tn3, st3, rp2, ou2, hle2, hE2, _, hI2⟩ := taken_told a b c dn en us ks2 fs2 tn2 st2 wk (by omega)
   have hr2 : rp2 = 3 := by
    by_cases h1 : rp2 = 1
    ·obtain ⟨_, _, _, _, _, _, _, _, _, _, _, h2, _⟩ := hE2.1 h1
     omega
    ·exact (((hE2.2 h1 hpu).2.2.2.2.2 hwb).2 (by omega))
   subst hr2
   clear hE2
   obtain ⟨us3, ks4, fs4, tn4, st4, rp3, ou3, hle3, hE3, _, hI3⟩ := yielded_told a b c dn en us ks2 fs2 tn2 st2 wk (by omega)
   obtain ⟨hr3, ho3, hus3, hk4, hf4, ht4, hst4, hpu3⟩ := (hE3 hpu hwb).2 k _ hru hux (by have := htn.out; omega)
   clear hE3 ht2 hk4 hf4 ht4 hst4
   subst hr3 ho3
   simp only at hus3
   have hkz : us3[k]? = some ⟨1, l, -1, w1, o1, v, tn2⟩ := by rw [hus3]; exact List.getElem?_set_self (get_lt hux)
   have hr0 : runM us3 wk 0 = -1 := by rw [hus3]; exact run_free hpu hux rfl (by simp)
   have hord := fun (i : Nat) (h : i + 1 < (readyM us3).length) => give_order (z := ⟨1, l, -1, w1, o1, v, tn2⟩) hkz (fun j y hj hy => by
    rw [hus3, List.getElem?_set_ne (by omega)] at hy
    exact right_turn hpu hy) h
   have hcnt : (readyM us3).length = (readyM ts).length := by
    rw [ready_count, ready_count, hus3, hus, List.set_set]
    exact countM_same ts hx rfl
   have hul3 : us3.length ≤ 30 := by rw [hus3, List.length_set]; exact hul
   obtain ⟨us4, ks5, fs5, tn5, st5, rp4, ou4, hle4, hE4, _, hI4⟩ := yielded_told a b c dn en us3 ks4 fs4 tn4 st4 wk (by omega)
   have hr4 : rp4 = 2 := (hE4 hpu3 hwb).1 hr0
   subst hr4
   clear hE4 hpu3 hpu hus hus3 hux hx
   replace hord := hide hord
   replace hcnt := hide hcnt
   replace hru := hide hru
   replace hr0 := hide hr0
   replace hf := hide hf
   have hk0 : (0 : Int) ≤ (k : Int) := by omega
   have hk3 : (k : Int) < (us3.length : Int) := by have := get_lt hkz; omega
   replace hkz := hide hkz
   clear hrn
   obtain ⟨tX, Ab, Aa, Ae, Ad, Ac⟩ := M.q5 0 rfl
   go_wp2_with fail
   go_call (gFirst_v ts ks fs B0 B1 B2 e0 e1 e2 tn st k hf.out _ (by omega) (M.rowS 1 rfl)) as r W18 ⟨rfl, g1⟩
   clear tX Ab Aa Ae Ad Ac
   replace M := M.call g1
   clear g1
   obtain ⟨tX, Ab, Aa, Ae, Ad, Ac⟩ := M.q5 0 rfl
   obtain ⟨tP, Ah, Ai, Aj, Ag, Af⟩ := M.q5 4 rfl
   go_wp2_with fail
   go_call (hI.out B0 B1 B2 e0 e1 e2 _ ⟨M.rowS 1 rfl, M.rowS 2 rfl, M.rowS 3 rfl⟩) as r W19 ⟨C0, C1, C2, f0, f1, f2, rfl, g1⟩
   clear tX Ab Aa Ae Ad Ac tP Ah Ai Aj Ag Af
   replace M := Sep.new M g1
   simp only [List.cons_append, List.nil_append] at M
   clear g1
   obtain ⟨tX, Ab, Aa, Ae, Ad, Ac⟩ := M.q5 3 rfl
   obtain ⟨tP, Ah, Ai, Aj, Ag, Af⟩ := M.q5 7 rfl
   go_wp2_with fail
   clear tX Ab Aa Ae Ad Ac tP Ah Ai Aj Ag Af
   have N := M.al2 30 #[.slice C0 us.length f0, .slice C1 ks2.length f1, .slice C2 fs2.length f2, .int .i64 tn2, .bool st2] 55 #[.int .i64 1, .int .i64 k]
   clear M
   obtain ⟨aY, aYa, W20, e1, e2, e3, M⟩ := N
   rw [e3, e2, e1]
   clear e1 e2 e3
   obtain ⟨tX, Ab, Aa, Ae, Ad, Ac⟩ := M.q5 5 rfl
   obtain ⟨tP, Ah, Ai, Aj, Ag, Af⟩ := M.q5 9 rfl
   go_wp2_with fail
   go_call (hS.out B0 B1 B2 e0 e1 e2 _ ⟨M.rowS 6 rfl, M.rowS 7 rfl, M.rowS 8 rfl⟩) as r W21 ⟨D0, D1, D2, m0, m1, m2, rfl, g1⟩
   clear tX Ab Aa Ae Ad Ac tP Ah Ai Aj Ag Af
   replace M := Sep.new M g1
   simp only [List.cons_append, List.nil_append] at M
   clear g1
   clear hS hI
   obtain ⟨Ar, Al, Ak⟩ := M.q2 3 rfl
   obtain ⟨tY, Ao, Aq, An, Am, Ap⟩ := M.q5 4 rfl
   go_wp2_with fail
   clear Ar Al Ak tY Ao Aq An Am Ap
   have N := M.al2 30 #[.slice D0 us.length m0, .slice D1 ks2.length m1, .slice D2 fs2.length m2, .int .i64 tn2, .bool st2] 55 #[.int .i64 1, .int .i64 k]
   clear M
   obtain ⟨aZ, aZa, W22, e1, e2, e3, M⟩ := N
   rw [e3, e2, e1]
   clear e1 e2 e3
   obtain ⟨Bg, Bd, Bf⟩ := M.q2 0 rfl
   obtain ⟨tZ, Ba, Bb, Bc, Be, Bh⟩ := M.q5 1 rfl
   obtain ⟨Ar, Al, Ak⟩ := M.q2 5 rfl
   obtain ⟨tY, Ao, Aq, An, Am, Ap⟩ := M.q5 6 rfl
   go_wp2_with fail
   go_call (likePool_same us ks2 fs2 C0 C1 C2 D0 D1 D2 f0 f1 f2 m0 m1 m2 tn2 st2 _ hle ⟨M.rowS 7 rfl, M.rowS 8 rfl, M.rowS 9 rfl⟩ ⟨M.rowS 2 rfl, M.rowS 3 rfl, M.rowS 4 rfl⟩) as r W23 ⟨rfl, g1⟩
   clear Bg Bd Bf tZ Ba Bb Bc Be Bh Ar Al Ak tY Ao Aq An Am Ap
   replace M := M.call g1
   clear g1
   clear hf
   obtain ⟨Ar, Al, Ak⟩ := M.q2 5 rfl
   obtain ⟨tY, Ao, Aq, An, Am, Ap⟩ := M.q5 6 rfl
   obtain ⟨tP, Ah, Ai, Aj, Ag, Af⟩ := M.q5 14 rfl
   go_wp2_with fail
   go_call (hI2.out C0 C1 C2 f0 f1 f2 _ ⟨M.rowS 7 rfl, M.rowS 8 rfl, M.rowS 9 rfl⟩) as r W24 ⟨E0, E1, E2, i0, i1, i2, rfl, g1⟩
   clear Ar Al Ak tY Ao Aq An Am Ap tP Ah Ai Aj Ag Af
   replace M := Sep.new M g1
   simp only [List.cons_append, List.nil_append] at M
   clear g1
   obtain ⟨Ar, Al, Ak⟩ := M.q2 8 rfl
   obtain ⟨tY, Ao, Aq, An, Am, Ap⟩ := M.q5 9 rfl
   obtain ⟨tP, Ah, Ai, Aj, Ag, Af⟩ := M.q5 17 rfl
   go_wp2_with fail
   clear Ar Al Ak tY Ao Aq An Am Ap tP Ah Ai Aj Ag Af
   have N := M.al2 30 #[.slice E0 us2.length i0, .slice E1 ks3.length i1, .slice E2 fs3.length i2, .int .i64 tn3, .bool st3] 55 #[.int .i64 3, .int .i64 ou2]
   clear M
   obtain ⟨aA, aAa, W25, e1, e2, e3, M⟩ := N
   rw [e3, e2, e1]
   clear e1 e2 e3
   obtain ⟨Ar, Al, Ak⟩ := M.q2 10 rfl
   obtain ⟨tY, Ao, Aq, An, Am, Ap⟩ := M.q5 11 rfl
   obtain ⟨tP, Ah, Ai, Aj, Ag, Af⟩ := M.q5 19 rfl
   go_wp2_with fail
   go_call (hI3.out C0 C1 C2 f0 f1 f2 _ ⟨M.rowS 12 rfl, M.rowS 13 rfl, M.rowS 14 rfl⟩) as r W26 ⟨G0, G1, G2, j0, j1, j2, rfl, g1⟩
   clear Ar Al Ak tY Ao Aq An Am Ap tP Ah Ai Aj Ag Af
   replace M := Sep.new M g1
   simp only [List.cons_append, List.nil_append] at M
   clear g1
   clear hI2 hI3
   obtain ⟨Az, Ax, Ay⟩ := M.q2 3 rfl
   obtain ⟨Ar, Al, Ak⟩ := M.q2 13 rfl
   obtain ⟨tY, Ao, Aq, An, Am, Ap⟩ := M.q5 14 rfl
   obtain ⟨tP, Ah, Ai, Aj, Ag, Af⟩ := M.q5 22 rfl
   go_wp2_with fail
   clear Az Ax Ay Ar Al Ak tY Ao Aq An Am Ap tP Ah Ai Aj Ag Af
   have N := M.al2 30 #[.slice G0 us3.length j0, .slice G1 ks4.length j1, .slice G2 fs4.length j2, .int .i64 tn4, .bool st4] 55 #[.int .i64 1, .int .i64 k]
   clear M
   obtain ⟨aU, aUa, W27, e1, e2, e3, M⟩ := N
   rw [e3, e2, e1]
   clear e1 e2 e3
   have HV := hide (G.trans (Sep.belowB M (by intro q hq; have := HG.out; simp at hq; omega) G.size) : Below w.heap.size w W27)
   have HX := hide (⟨M.rowS 21 rfl, M.rowS 22 rfl, M.rowS 23 rfl⟩ : InPool W27 ts ks fs B0 B1 B2)
   have HY := hide (⟨M.rowS 17 rfl, M.rowS 18 rfl, M.rowS 19 rfl⟩ : InPool W27 us ks2 fs2 C0 C1 C2)
   have HU := hide (⟨M.rowS 2 rfl, M.rowS 3 rfl, M.rowS 4 rfl⟩ : InPool W27 us3 ks4 fs4 G0 G1 G2)
   obtain ⟨tP, Ah, Ai, Aj, Ag, Af⟩ := M.q5 24 rfl
   obtain ⟨tX, Ab, Aa, Ae, Ad, Ac⟩ := M.q5 20 rfl
   obtain ⟨tY, Ao, Aq, An, Am, Ap⟩ := M.q5 16 rfl
   obtain ⟨Ar, Al, Ak⟩ := M.q2 15 rfl
   obtain ⟨Az, Ax, Ay⟩ := M.q2 5 rfl
   obtain ⟨tU, Bi, Bj, Bp, Bm, Bo⟩ := M.q5 1 rfl
   obtain ⟨Bx, Br, Bu⟩ := M.q2 0 rfl
   clear M
   have cP0 := fun (x : KeptW W27) => KeptW.cell Ah x
   have cP1 := fun (x : KeptW W27) => KeptW.cell Ai x
   have cP2 := fun (x : KeptW W27) => KeptW.cell Aj x
   have cP3 := fun (x : KeptW W27) => KeptW.cell Ag x
   have cP4 := fun (x : KeptW W27) => KeptW.cell Af x
   clear tP Ah Ai Aj Ag Af
   have cX0 := fun (x : KeptW W27) => KeptW.cell Ab x
   have cX1 := fun (x : KeptW W27) => KeptW.cell Aa x
   have cX2 := fun (x : KeptW W27) => KeptW.cell Ae x
   have cX3 := fun (x : KeptW W27) => KeptW.cell Ad x
   have cX4 := fun (x : KeptW W27) => KeptW.cell Ac x
   clear tX Ab Aa Ae Ad Ac
   have cY0 := fun (x : KeptW W27) => KeptW.cell Ao x
   have cY1 := fun (x : KeptW W27) => KeptW.cell Aq x
   have cY2 := fun (x : KeptW W27) => KeptW.cell An x
   have cY3 := fun (x : KeptW W27) => KeptW.cell Am x
   have cY4 := fun (x : KeptW W27) => KeptW.cell Ap x
   clear tY Ao Aq An Am Ap
   have cYa0 := fun (x : KeptW W27) => KeptW.cell Al x
   have cYa1 := fun (x : KeptW W27) => KeptW.cell Ak x
   clear Ar Al Ak
   have cAa0 := fun (x : KeptW W27) => KeptW.cell Ax x
   have cAa1 := fun (x : KeptW W27) => KeptW.cell Ay x
   clear Az Ax Ay
   have cU0 := fun (x : KeptW W27) => KeptW.cell Bi x
   have cU1 := fun (x : KeptW W27) => KeptW.cell Bj x
   have cU2 := fun (x : KeptW W27) => KeptW.cell Bp x
   have cU3 := fun (x : KeptW W27) => KeptW.cell Bm x
   have cU4 := fun (x : KeptW W27) => KeptW.cell Bo x
   clear tU Bi Bj Bp Bm Bo
   have cUa0 := fun (x : KeptW W27) => KeptW.cell Br x
   have cUa1 := fun (x : KeptW W27) => KeptW.cell Bu x
   clear Bx Br Bu
   have hx0 := KeptW.mk'_w (Below.refl W27.heap.size W27)
   generalize KeptW.mk' (Below.refl W27.heap.size W27) = x0 at hx0
   rw [← hx0]
   clear hx0
   go_wp2_with fail
   go_call (kept_call (x := x0) (gRunBy_k C0 C1 C2 f0 ks2.length f1 fs2.length f2 tn2 st2 x0.w (by omega) (InPool.below HY.out x0.below).1 hru.out)) as r wq ⟨rfl, x1, rfl⟩
   go_wp2_with fail
   go_call (kept_call (x := x1) (gRunBy_k G0 G1 G2 j0 ks4.length j1 fs4.length j2 tn4 st4 x1.w (by omega) (InPool.below HU.out x1.below).1 hr0.out)) as r wq ⟨rfl, x2, rfl⟩
   go_wp2_with fail
   go_call (gReadyLine_any us3 ks4 fs4 G0 G1 G2 j0 j1 j2 tn4 st4 x2.w (by omega) (InPool.below HU.out x2.below).1) as r wq ⟨LB, ld, rfl, g1⟩
   have HL := hide (g1.rowS 0 rfl : Row wq LB (icells (readyM us3)))
   have g2 := g1.below
   obtain ⟨x3, rfl⟩ : ∃ y : KeptW W27, wq = y.w := ⟨KeptW.mk' (x2.below.trans (g2.mono x2.below.size)), rfl⟩
   clear g1 g2
   have hrl := hide (ready_lt2 us3)
   have hKL := hkz
   obtain ⟨bu, ob, eG, _, zl, _⟩ := HU.out.1.cells7' hkz.out
   subst eG
   have cK := fun (x : KeptW W27) => KeptW.cell (zl) x
   clear zl hkz
   clear cY0 cY1 cY2 cY3 cY4
   clear cYa0 cYa1
   clear cAa0 cAa1
   clear cUa0 cUa1
   clear HY
   have hB := x3.below
   generalize x3.w = W28 at hB HL ⊢
   replace HV := hide (HV.out.trans (hB.mono HV.out.size))
   replace HX := hide (InPool.below HX.out hB)
   replace HU := hide (InPool.below HU.out hB)
   replace cP0 := fun (x : KeptW W28) => KeptW.cell (W0 := W28) (cP0 (KeptW.mk' hB)) x
   replace cP1 := fun (x : KeptW W28) => KeptW.cell (W0 := W28) (cP1 (KeptW.mk' hB)) x
   replace cP2 := fun (x : KeptW W28) => KeptW.cell (W0 := W28) (cP2 (KeptW.mk' hB)) x
   replace cP3 := fun (x : KeptW W28) => KeptW.cell (W0 := W28) (cP3 (KeptW.mk' hB)) x
   replace cP4 := fun (x : KeptW W28) => KeptW.cell (W0 := W28) (cP4 (KeptW.mk' hB)) x
   replace cX0 := fun (x : KeptW W28) => KeptW.cell (W0 := W28) (cX0 (KeptW.mk' hB)) x
   replace cX1 := fun (x : KeptW W28) => KeptW.cell (W0 := W28) (cX1 (KeptW.mk' hB)) x
   replace cX2 := fun (x : KeptW W28) => KeptW.cell (W0 := W28) (cX2 (KeptW.mk' hB)) x
   replace cX3 := fun (x : KeptW W28) => KeptW.cell (W0 := W28) (cX3 (KeptW.mk' hB)) x
   replace cX4 := fun (x : KeptW W28) => KeptW.cell (W0 := W28) (cX4 (KeptW.mk' hB)) x
   replace cU0 := fun (x : KeptW W28) => KeptW.cell (W0 := W28) (cU0 (KeptW.mk' hB)) x
   replace cU1 := fun (x : KeptW W28) => KeptW.cell (W0 := W28) (cU1 (KeptW.mk' hB)) x
   replace cU2 := fun (x : KeptW W28) => KeptW.cell (W0 := W28) (cU2 (KeptW.mk' hB)) x
   replace cU3 := fun (x : KeptW W28) => KeptW.cell (W0 := W28) (cU3 (KeptW.mk' hB)) x
   replace cU4 := fun (x : KeptW W28) => KeptW.cell (W0 := W28) (cU4 (KeptW.mk' hB)) x
   replace cK := fun (x : KeptW W28) => KeptW.cell (W0 := W28) (cK (KeptW.mk' hB)) x
   clear hB
   have hx0 := KeptW.mk'_w (Below.refl W28.heap.size W28)
   generalize KeptW.mk' (Below.refl W28.heap.size W28) = yW28 at hx0
   rw [← hx0]
   clear hx0
   obtain ⟨L, hR⟩ : ∃ L, readyM us3 = L := ⟨_, rfl⟩
   rw [hR] at HL hrl hord hcnt ⊢
   clear hR
   go_wp2_with fail
   go_loopw [17] (fun i wr => ∃ (n : Nat) (x : KeptW W28), i = .int .i64 ((n + 1 : Nat) : Int) ∧ wr = x.w) (fun i _ => L.length - (intOf i).toNat)
   case atStart => exact ⟨0, yW28, rfl, rfl⟩
   case round =>
    obtain ⟨n, x, rfl, rfl⟩ := hrel
    by_cases hlt : n + 1 < L.length
    ·obtain ⟨xi, yi, tx, ty, ex, ey, htx, hty, hne⟩ := hord.out n hlt
     obtain ⟨bl, ol, u1, eL, _, hu1, _, zL⟩ := (Row.below HL.out x.below).ks_at (show n < L.length by omega)
     obtain ⟨bl2, ol2, u2, eL2, _, hu2, _, zM⟩ := (Row.below HL.out x.below).ks_at hlt
     rw [ex] at hu1
     rw [ey] at hu2
     injection hu1 with hu1
     injection hu2 with hu2
     subst hu1 hu2 eL
     injection eL2 with eL2
     injection eL2 with u3 u4
     subst u3 u4
     obtain ⟨s8, l8, o8, w8, n8, v8, t8⟩ := ty
     obtain ⟨s9, l9, o9, w9, n9, v9, t9⟩ := tx
     have y1 := (Row.cells7 (InPool.below HU.out x.below).1 hty)
     have hyy : yi < us3.length := get_lt hty
     obtain ⟨_, yl, _⟩ := y1
     have cL := fun (y : KeptW x.w) => KeptW.cell zL y
     have cM := fun (y : KeptW x.w) => KeptW.cell zM y
     have cl := fun (y : KeptW x.w) => KeptW.cell yl y
     have dK := fun (y : KeptW x.w) => KeptW.cell (cK x) y
     have dU0 := fun (y : KeptW x.w) => KeptW.cell (cU0 x) y
     have hn0 : (0 : Int) ≤ (n : Int) := by omega
     have hn1 : (n : Int) < (L.length : Int) := by omega
     have hn2 : (n : Int) + 1 < (L.length : Int) := by omega
     have hn3 : (0 : Int) ≤ (n : Int) + 1 := by omega
     have hy0 : (0 : Int) ≤ (yi : Int) := by omega
     have hy1 : (yi : Int) < (us3.length : Int) := by omega
     have hn31 := hrl.out
     have hwr : IntKind.i64.wrap (n : Int) = (n : Int) := IntWalk.i64_in _ (by omega)
     have hlk : xi = k → l8 ≠ l := fun e => by
      subst e
      have h1 := hne rfl
      have h2 := hKL.out
      simp only at h1
      have h3 := htx.symm.trans h2
      injection h3 with h3
      injection h3 with _ h3
      rw [← h3]
      exact h1
     clear zL zM yl hty htx ex ey hne
     by_cases hxk : xi = k
     ·have hl9 : (l8 == l) = false := by rw [beq_eq_false_iff_ne]; exact hlk hxk
      subst hxk
      clear hlk
      go_wp2_with fail
      have hx0 := KeptW.mk'_w (Below.refl x.w.heap.size x.w)
      generalize KeptW.mk' (Below.refl x.w.heap.size x.w) = x2 at hx0
      rw [← hx0]
      clear hx0
      refine region_kept (by kernel_rfl) (by kernel_rfl) ?_
      repeat (go_big_quiet_step (fail))
      refine wpQuiet_nil ?_
      rintro _ ⟨x2, rfl⟩
      obtain ⟨y, hy⟩ : ∃ y : KeptW W28, x2.w = y.w := ⟨KeptW.mk' (x.below.trans (x2.below.mono x.below.size)), rfl⟩
      rw [hy]
      clear hy
      go_wp2
      go_roundw
      case rel => exact ⟨n + 1, y, by go_num, rfl⟩
      case measure => simp [intOf]; omega
     ·have hne : ((xi : Int) == (k : Int)) = false := by rw [beq_eq_false_iff_ne]; omega
      clear hlk
      go_wp2_with fail
      have hx0 := KeptW.mk'_w (Below.refl x.w.heap.size x.w)
      generalize KeptW.mk' (Below.refl x.w.heap.size x.w) = x2 at hx0
      rw [← hx0]
      clear hx0
      refine region_kept (by kernel_rfl) (by kernel_rfl) ?_
      repeat (go_big_quiet_step (fail))
      refine wpQuiet_nil ?_
      rintro _ ⟨x2, rfl⟩
      obtain ⟨y, hy⟩ : ∃ y : KeptW W28, x2.w = y.w := ⟨KeptW.mk' (x.below.trans (x2.below.mono x.below.size)), rfl⟩
      rw [hy]
      clear hy
      go_wp2
      go_roundw
      case rel => exact ⟨n + 1, y, by go_num, rfl⟩
      case measure => simp [intOf]; omega
    ·go_wp2_with fail
     go_call (hI4.out (some ⟨bu, ob, none⟩) G1 G2 j0 j1 j2 x.w (InPool.below HU.out x.below)) as r wq ⟨N0, N1, N2, p0, p1, p2, rfl, g9⟩
     have g8 := g9.below
     obtain ⟨x41, rfl⟩ : ∃ y : KeptW W28, wq = y.w := ⟨KeptW.mk' (x.below.trans (g8.mono x.below.size)), rfl⟩
     clear g9 g8
     have tX := World.block_lt_of_cell? x41.w _ (cX0 x41)
     have tX2 : xb < x41.w.heap.size := tX
     clear tX
     go_wp2_with fail
     clear tX2
     obtain ⟨aN, aNa, W29, e1, e2, e3, M⟩ := (Sep.start x41.w).al2 30 #[.slice N0 us4.length p0, .slice N1 ks5.length p1, .slice N2 fs5.length p2, .int .i64 tn5, .bool st5] 55 #[.int .i64 2, .int .i64 ou4]
     rw [e3, e2, e1]
     clear e1 e2 e3
     have hB : Below W28.heap.size W28 W29 := x41.below.trans (M.below.mono x41.below.size)
     obtain ⟨tN, Bs, Bt, Bv, Bk, Bl⟩ := M.q5 1 rfl
     obtain ⟨Bw, Bn, Bq⟩ := M.q2 0 rfl
     replace HV := hide (HV.out.trans (hB.mono HV.out.size))
     replace HX := hide (InPool.below HX.out hB)
     replace HU := hide (InPool.below HU.out hB)
     replace cP0 := fun (x : KeptW W29) => KeptW.cell (W0 := W29) (cP0 (KeptW.mk' hB)) x
     replace cP1 := fun (x : KeptW W29) => KeptW.cell (W0 := W29) (cP1 (KeptW.mk' hB)) x
     replace cP2 := fun (x : KeptW W29) => KeptW.cell (W0 := W29) (cP2 (KeptW.mk' hB)) x
     replace cP3 := fun (x : KeptW W29) => KeptW.cell (W0 := W29) (cP3 (KeptW.mk' hB)) x
     replace cP4 := fun (x : KeptW W29) => KeptW.cell (W0 := W29) (cP4 (KeptW.mk' hB)) x
     replace cX0 := fun (x : KeptW W29) => KeptW.cell (W0 := W29) (cX0 (KeptW.mk' hB)) x
     replace cX1 := fun (x : KeptW W29) => KeptW.cell (W0 := W29) (cX1 (KeptW.mk' hB)) x
     replace cX2 := fun (x : KeptW W29) => KeptW.cell (W0 := W29) (cX2 (KeptW.mk' hB)) x
     replace cX3 := fun (x : KeptW W29) => KeptW.cell (W0 := W29) (cX3 (KeptW.mk' hB)) x
     replace cX4 := fun (x : KeptW W29) => KeptW.cell (W0 := W29) (cX4 (KeptW.mk' hB)) x
     replace cU0 := fun (x : KeptW W29) => KeptW.cell (W0 := W29) (cU0 (KeptW.mk' hB)) x
     replace cU1 := fun (x : KeptW W29) => KeptW.cell (W0 := W29) (cU1 (KeptW.mk' hB)) x
     replace cU2 := fun (x : KeptW W29) => KeptW.cell (W0 := W29) (cU2 (KeptW.mk' hB)) x
     replace cU3 := fun (x : KeptW W29) => KeptW.cell (W0 := W29) (cU3 (KeptW.mk' hB)) x
     replace cU4 := fun (x : KeptW W29) => KeptW.cell (W0 := W29) (cU4 (KeptW.mk' hB)) x
     replace cK := fun (x : KeptW W29) => KeptW.cell (W0 := W29) (cK (KeptW.mk' hB)) x
     have cN0 := fun (x : KeptW W29) => KeptW.cell Bs x
     have cN1 := fun (x : KeptW W29) => KeptW.cell Bt x
     have cN2 := fun (x : KeptW W29) => KeptW.cell Bv x
     have cN3 := fun (x : KeptW W29) => KeptW.cell Bk x
     have cN4 := fun (x : KeptW W29) => KeptW.cell Bl x
     clear tN Bs Bt Bv Bk Bl
     have cNa0 := fun (x : KeptW W29) => KeptW.cell Bn x
     have cNa1 := fun (x : KeptW W29) => KeptW.cell Bq x
     clear Bw Bn Bq
     clear M
     clear hB
     have hx0 := KeptW.mk'_w (Below.refl W29.heap.size W29)
     generalize KeptW.mk' (Below.refl W29.heap.size W29) = yW29 at hx0
     rw [← hx0]
     clear hx0
     go_wp2_with fail
     go_call (gReadyLine_any ts ks fs B0 B1 B2 e0 e1 e2 tn st yW29.w (by omega) (InPool.below HX.out yW29.below).1) as r wq ⟨LB3, ld3, rfl, g1⟩
     have HL3 := hide (g1.rowS 0 rfl : Row wq LB3 (icells (readyM ts)))
     have g2 := g1.below
     obtain ⟨x41, rfl⟩ : ∃ y : KeptW W29, wq = y.w := ⟨KeptW.mk' (yW29.below.trans (g2.mono yW29.below.size)), rfl⟩
     clear g1 g2
     rw [← hcnt.out]
     go_wp2
     go_ret
     exact ⟨rfl, HV.out.trans (x41.below.mono HV.out.size)⟩
  ·have hr9 : (rp == 1) = false := by simpa using hr
   obtain ⟨e1', e2', e3', e4', e5', hW⟩ := hE.2 hr hpo.out
   have hOr := (hW hwb).1
   have HEQ := hide (⟨e1', e2', e3', e4', e5'⟩ : us = ts ∧ ks2 = ks ∧ fs2 = fs ∧ tn2 = tn ∧ st2 = st)
   clear e1' e2' e3' e4' e5' hW hE
   obtain ⟨ff, hff⟩ : ∃ z, firstM ts = z := ⟨_, rfl⟩
   rw [hff] at hOr
   replace hff := hide hff
   replace hOr := hide hOr
   obtain ⟨tX, Ab, Aa, Ae, Ad, Ac⟩ := M.q5 0 rfl
   go_wp2_with fail
   go_call (gFirst_v ts ks fs B0 B1 B2 e0 e1 e2 tn st ff hff.out _ (by omega) (M.rowS 1 rfl)) as r W18 ⟨rfl, g1⟩
   clear tX Ab Aa Ae Ad Ac
   replace M := M.call g1
   clear g1
   obtain ⟨tX, Ab, Aa, Ae, Ad, Ac⟩ := M.q5 0 rfl
   obtain ⟨tP, Ah, Ai, Aj, Ag, Af⟩ := M.q5 4 rfl
   go_wp2_with fail
   go_call (hI.out B0 B1 B2 e0 e1 e2 _ ⟨M.rowS 1 rfl, M.rowS 2 rfl, M.rowS 3 rfl⟩) as r W19 ⟨C0, C1, C2, f0, f1, f2, rfl, g1⟩
   clear tX Ab Aa Ae Ad Ac tP Ah Ai Aj Ag Af
   replace M := Sep.new M g1
   simp only [List.cons_append, List.nil_append] at M
   clear g1
   obtain ⟨tX, Ab, Aa, Ae, Ad, Ac⟩ := M.q5 3 rfl
   obtain ⟨tP, Ah, Ai, Aj, Ag, Af⟩ := M.q5 7 rfl
   go_wp2_with fail
   clear tX Ab Aa Ae Ad Ac tP Ah Ai Aj Ag Af
   have N := M.al2 30 #[.slice C0 us.length f0, .slice C1 ks2.length f1, .slice C2 fs2.length f2, .int .i64 tn2, .bool st2] 55 #[.int .i64 rp, .int .i64 ou]
   clear M
   obtain ⟨aY, aYa, W20, e1, e2, e3, M⟩ := N
   rw [e3, e2, e1]
   clear e1 e2 e3
   obtain ⟨tX, Ab, Aa, Ae, Ad, Ac⟩ := M.q5 5 rfl
   obtain ⟨tP, Ah, Ai, Aj, Ag, Af⟩ := M.q5 9 rfl
   go_wp2_with fail
   go_call (hS.out B0 B1 B2 e0 e1 e2 _ ⟨M.rowS 6 rfl, M.rowS 7 rfl, M.rowS 8 rfl⟩) as r W21 ⟨D0, D1, D2, m0, m1, m2, rfl, g1⟩
   clear tX Ab Aa Ae Ad Ac tP Ah Ai Aj Ag Af
   replace M := Sep.new M g1
   simp only [List.cons_append, List.nil_append] at M
   clear g1
   clear hS hI
   obtain ⟨Ar, Al, Ak⟩ := M.q2 3 rfl
   obtain ⟨tY, Ao, Aq, An, Am, Ap⟩ := M.q5 4 rfl
   go_wp2_with fail
   clear Ar Al Ak tY Ao Aq An Am Ap
   have N := M.al2 30 #[.slice D0 us.length m0, .slice D1 ks2.length m1, .slice D2 fs2.length m2, .int .i64 tn2, .bool st2] 55 #[.int .i64 rp, .int .i64 ou]
   clear M
   obtain ⟨aZ, aZa, W22, e1, e2, e3, M⟩ := N
   rw [e3, e2, e1]
   clear e1 e2 e3
   obtain ⟨Bg, Bd, Bf⟩ := M.q2 0 rfl
   obtain ⟨tZ, Ba, Bb, Bc, Be, Bh⟩ := M.q5 1 rfl
   obtain ⟨Ar, Al, Ak⟩ := M.q2 5 rfl
   obtain ⟨tY, Ao, Aq, An, Am, Ap⟩ := M.q5 6 rfl
   go_wp2_with fail
   go_call (likePool_same us ks2 fs2 C0 C1 C2 D0 D1 D2 f0 f1 f2 m0 m1 m2 tn2 st2 _ hle ⟨M.rowS 7 rfl, M.rowS 8 rfl, M.rowS 9 rfl⟩ ⟨M.rowS 2 rfl, M.rowS 3 rfl, M.rowS 4 rfl⟩) as r W23 ⟨rfl, g1⟩
   clear Bg Bd Bf tZ Ba Bb Bc Be Bh Ar Al Ak tY Ao Aq An Am Ap
   replace M := M.call g1
   clear g1
   obtain ⟨Ar, Al, Ak⟩ := M.q2 5 rfl
   obtain ⟨tY, Ao, Aq, An, Am, Ap⟩ := M.q5 6 rfl
   obtain ⟨tX, Ab, Aa, Ae, Ad, Ac⟩ := M.q5 10 rfl
   go_wp2_with fail
   go_call (likePool_eq HEQ.out C0 C1 C2 B0 B1 B2 f0 f1 f2 e0 e1 e2 _ hle ⟨M.rowS 7 rfl, M.rowS 8 rfl, M.rowS 9 rfl⟩ ⟨M.rowS 11 rfl, M.rowS 12 rfl, M.rowS 13 rfl⟩) as r W24 ⟨rfl, g1⟩
   clear Ar Al Ak tY Ao Aq An Am Ap tX Ab Aa Ae Ad Ac
   replace M := M.call g1
   clear g1
   by_cases hf1 : ff = -1
   ·subst hf1
    obtain ⟨tX, Ab, Aa, Ae, Ad, Ac⟩ := M.q5 10 rfl
    go_wp2_with fail
    go_ret
    exact ⟨rfl, G.trans (Sep.belowB M (by intro q hq; have := HG.out; simp at hq; omega) G.size)⟩
   ·have hf2 : (ff == -1) = false := by simpa using hf1
    have hrn : 0 ≤ runM ts wk 0 := hOr.out.resolve_left hf1
    obtain ⟨rr, hrr⟩ : ∃ z, runM ts wk 0 = z := ⟨_, rfl⟩
    rw [hrr] at hrn
    replace hrr := hide hrr
    obtain ⟨tX, Ab, Aa, Ae, Ad, Ac⟩ := M.q5 10 rfl
    go_wp2_with fail
    go_call (gRunBy_k B0 B1 B2 e0 ks.length e1 fs.length e2 tn st _ (by omega) (M.rowS 11 rfl) hrr.out) as r W25 ⟨rfl, g1⟩
    clear tX Ab Aa Ae Ad Ac
    replace M := M.call g1
    clear g1
    go_wp2
    go_ret
    exact ⟨rfl, G.trans (Sep.belowB M (by intro q hq; have := HG.out; simp at hq; omega) G.size)⟩
set_option maxRecDepth 100000
open Go.ChangeShapes Go.WideShapes Go.ChangeAt Go.RowKit Go.Joins Go.Deep
set_option maxHeartbeats 1600000 in
theorem fnTaken_all (w : World) (A : Option Addr) (len cap : Nat) (hby : Bytes w w.heap.size A len) :
 Calls Tryz.prog 5 #[.slice A len cap] w fun r w' => r = .returned (.bool true) ∧ Below w.heap.size w w' := by
 by_cases hl : len ≤ 4096
 ·exact fnTaken_any w A len cap hby hl
 ·go_enter Tryz.func5, Tryz.ntmps5
  go_wp2_with fail
  go_call (big_any A len cap _) as r w' ⟨rfl, rfl⟩
  go_wp2_with fail
  go_ret
  exact ⟨rfl, Below.refl _ _⟩
theorem fnTaken_lifted (os : Os) (started : os.Started) (H : Type) (enc : TypeId × Value → H) :
 ReturnsInHanded {} Tryz.checked os 5 .any (Rows.fnTakenSpec.pre6 enc Tryz.prog Tryz.f5 Rows.fnTakenRow.domain false) (Rows.fnTakenSpec.post enc Tryz.prog Tryz.f5 false true false false) := by
 refine returnsInHanded_of_change (C := Tryz.checked) own started (by kernel_rfl) Tryz.func5
  (ChangeSpec.witness6 (enc := enc) (C := Tryz.checked) false ⟨#[], #[.slice none 0 0], []⟩ 8 (by kernel_rfl) (by kernel_rfl) (by kernel_rfl) (by kernel_rfl)) ?_
 intro W base args ds gs before hval0 hW hcnd _
 have hval : ∀ (j : Nat) t v, Tryz.f5.params[j]? = some t → args[j]? = some v → Value.okWide Tryz.prog W .any base t v := hval0
 have hW' := hW
 obtain ⟨p, q, hA0, hV, rfl, hfz, hnd⟩ := hW
 have hA : DataW.TrodAll enc Tryz.prog W 0 (fun _ => true) true Tryz.f5.params.toList args.toList ds p := hA0
 rw [Tryz.params5] at hA hval
 obtain ⟨v0, vs0, d0, ds0, p0, q0, hargs, rfl, rfl, h0, r0⟩ := trodAll_cons hA
 obtain ⟨rfl, rfl, rfl⟩ := trodAll_nil r0
 obtain rfl : args = #[v0] := by cases args; simp_all
 obtain ⟨rfl, rfl⟩ := trodVars_none hV
 have k0 := h0
 have lt0 : ∀ x ∈ p0, x.block < W.heap.size := by obtain ⟨m, hm⟩ := k0; exact DataW.trod_lt m _ _ _ hm
 obtain ⟨a0, len0, cap0, rfl⟩ := okWide_slice Tryz.underlying22 (hval 0 22 v0 rfl rfl)
 have w0 : Bytes W W.heap.size a0 len0 := by
  obtain ⟨fuel, hf⟩ := h0
  rcases open_ints Tryz.underlying22 Tryz.underlying5 (by kernel_rfl) hf with ⟨hcs, _⟩ | ⟨x, l, c, zs, hcs, _, hl, hm, hz, hx, hcell, hwz⟩
  ·simp [Value.cells] at hcs
   obtain ⟨rfl, rfl, rfl⟩ := hcs
   exact fun h => absurd h (by omega)
  ·simp [Value.cells] at hcs
   obtain ⟨rfl, rfl, rfl⟩ := hcs
   exact bytes_of_row hl hz hcell hwz
 clear hA0 hval0
 refine (fnTaken_all W a0 len0 cap0 w0).mono fun e W' ⟨he, bel⟩ => ?_
 subst he
 exact ⟨_, rfl, _, _, _, [], _, [], hW', trodAll_mk1 (shut_bool Tryz.underlying4 _), (trodAll_cons_mk (Below.trod laidOut (by kernel_rfl) (of_decide_eq_true (by kernel_rfl)) k0 bel lt0) trodAll_mk0), rfl, bel.frame _, fun h => by cases h⟩
theorem fnTaken_holds : Rows.FnTakenSaid :=
 OpenClaim.holds_of_wide 5 Tryz.f5 rfl rfl rfl rfl rfl rfl rfl ⟨rfl, rfl, rfl, rfl, rfl⟩ rfl rfl rfl rfl rfl (by kernel_rfl) Tryz.func5 (by kernel_rfl)
  (of_decide_eq_true (by kernel_rfl)) (by unfold Func.isWrapper; first | (rw [if_pos (by decide +kernel)]; kernel_rfl) | (rw [if_neg (by decide +kernel)]; exact ⟨rfl, rfl⟩))
  (fun os started H enc _ => fnTaken_lifted os started H enc)
#print axioms fnTaken_holds
end Go.Proofs.YtfjgelegojbmgaaGreat
