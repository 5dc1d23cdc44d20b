/- Chapter 3's law of pools: the walk. The code no longer than it may be. -/
import Derived.Test.YtgncjcnobojgbaaQFnPools45
import Derived.Test.YtgncjcnobojgbaaQFnPools51
import Derived.Test.YtgncjcnobojgbaaQFnPools52
import Derived.Test.YtgncjcnobojgbaaQFnPools11
import Derived.Test.YtgncjcnobojgbaaQFnPools12
import Derived.Test.YtgncjcnobojgbaaQFnPools54
import Derived.Test.YtgncjcnobojgbaaQFnPools50
import Derived.Test.YtgncjcnobojgbaaQFnPools07
import Derived.Deep.RegionHeld3
import Derived.Deep.DeepCutAuto

namespace Go.Proofs.Ytgncjcnobojgbaa
open Go.RowKit
set_option linter.unusedVariables false

theorem gNewPool_s (a b c : Int) (d e : Nat) (w : World) (hp : planB a b c d e = true) :
    Calls Try.prog 13 #[.agg #[.int .i64 a, .int .i64 b, .int .i64 c, .int .i64 d, .int .i64 e]] w fun r w' => ∃ (ts : List T7) (ks : List Int) (fs : List F2) (B0 B1 B2 : Option Addr) (e0 e1 e2 : Nat), r = .returned (.agg #[.slice B0 ts.length e0, .slice B1 ks.length e1, .slice B2 fs.length e2, .int .i64 1, .bool false]) ∧ ts = [] ∧ Hid (poolB a b c d e ts ks fs 1 = true) ∧ Sep [] w w' [rT ts.length B0 e0 ts, rK ks.length B1 e1 ks, rF fs.length B2 e2 fs] :=
  (gNewPool_any a b c d e w hp).mono fun r w' ⟨B0, B1, B2, d0, d1, d2, hr, ho, hb⟩ => ⟨[], _, _, B0, B1, B2, d0, d1, d2, hr, rfl, hide (newPool_right hp), sepPool (Nat.le_refl _) hb ho⟩
def sumC (ts : List T7) : Nat → Nat
  | 0 => 0
  | k + 1 => sumC ts k + (if k = 0 then 0 else countM ts (k : Int))
theorem sumC_le (ts : List T7) (k : Nat) : sumC ts k ≤ k * ts.length := by
  induction k with
  | zero => simp [sumC]
  | succ k ih =>
    have := countM_le ts (k : Int)
    simp only [sumC]
    rw [Nat.succ_mul]
    split <;> omega
theorem sumC_six {a b c d e : Int} {ts : List T7} {ks : List Int} {fs : List F2} {tn : Int} (h : poolB a b c d e ts ks fs tn = true) : sumC ts 6 = ts.length := by
  have := count_states ts (right_states (poolB_parts h).2.2.2)
  simp [sumC]
  omega
def ranN (ts : List T7) (k : Nat) : Nat := sumW (fun w => if hasRun ts w = true then 1 else 0) k
theorem ranN_le (ts : List T7) (k : Nat) : ranN ts k ≤ k := by
  induction k with
  | zero => exact Nat.le_refl _
  | succ k ih =>
    have h : ranN ts (k + 1) = ranN ts k + (if hasRun ts (k : Int) = true then 1 else 0) := rfl
    rw [h]
    split <;> omega
theorem ranN_yes {ts : List T7} {k : Nat} (h : 0 ≤ runM ts k 0) : ranN ts (k + 1) = ranN ts k + 1 := by
  have h1 := runM_has ts k 0 (Int.le_refl _)
  have h2 : ranN ts (k + 1) = ranN ts k + (if hasRun ts (k : Int) = true then 1 else 0) := rfl
  rw [h2, ← h1]; simp [h]
theorem ranN_no {ts : List T7} {k : Nat} (h : ¬ 0 ≤ runM ts k 0) : ranN ts (k + 1) = ranN ts k := by
  have h1 := runM_has ts k 0 (Int.le_refl _)
  have h2 : ranN ts (k + 1) = ranN ts k + (if hasRun ts (k : Int) = true then 1 else 0) := rfl
  rw [h2, ← h1]; simp [h]
theorem ranN_all {a : Nat} {b c d e : Int} {ts : List T7} {ks : List Int} {fs : List F2} {tn : Int} (h : poolB a b c d e ts ks fs tn = true) : ranN ts a = countM ts 2 :=
  ran_count ts a (right_owner (poolB_parts h).2.2.2) (right_solo (poolB_parts h).2.2.2)
theorem sumC_next {ts : List T7} {k : Nat} (h : 1 ≤ k) : sumC ts (k + 1) = sumC ts k + countM ts (k : Int) := by
  simp only [sumC]
  rw [if_neg (by omega)]
theorem sepBelow {S : List Nat} {w W : World} {rs : List Res} {B : Nat} (h : Sep S w W rs) (hS : ∀ g ∈ S, B ≤ g) (hB : B ≤ w.heap.size) : Below B w W :=
  ⟨h.os, h.tape, h.output, h.size, fun b hb => h.block b (Nat.lt_of_lt_of_le hb hB) (fun hm => by have := hS b hm; omega)⟩
theorem gRunBy_none {ts : List T7} (h : ts = []) (A0 A1 A2 : Option Addr) (c0 n1 c1 n2 c2 : Nat) (tn : Int) (st : Bool) (wk : Int) (w : World) (h0 : Row w A0 (tcells ts)) :
    Calls Try.prog 17 #[.agg #[.slice A0 0 c0, .slice A1 n1 c1, .slice A2 n2 c2, .int .i64 tn, .bool st], .int .i64 wk] w fun r w' => r = .returned (.int .i64 (-1)) ∧ Below w.heap.size w w' := by
  subst h
  exact gRunBy_any [] A0 A1 A2 c0 n1 c1 n2 c2 tn st wk w (by simp) h0
theorem gPoolOk_v {a b c d e : Int} {ts : List T7} {ks : List Int} {fs : List F2} {A0 A1 A2 : Option Addr} (c0 c1 c2 n0 : Nat) {tn : Int} (st y : Bool) (w : World) (hn : ts.length = n0) (hk : ks.length ≤ 1048576) (hf : fs.length ≤ 1048576) (h : InPool w ts ks fs A0 A1 A2) (hy : poolB a b c d e ts ks fs tn = y) :
    Calls Try.prog 20 #[.agg #[.int .i64 a, .int .i64 b, .int .i64 c, .int .i64 d, .int .i64 e], .agg #[.slice A0 n0 c0, .slice A1 ks.length c1, .slice A2 fs.length c2, .int .i64 tn, .bool st]] w fun r w' => r = .returned (.bool y) ∧ Below w.heap.size w w' := by
  subst hn hy
  exact gPoolOk_any a b c d e ts ks fs A0 A1 A2 c0 c1 c2 tn st w hk hf h
theorem sPoolOk_w {a b c d e : Int} {ts : List T7} {ks : List Int} {fs : List F2} {A0 A1 A2 : Option Addr} (c0 c1 c2 : Nat) {tn : Int} (st y : Bool) (w : World) (ht : ts.length ≤ 1048576) (hk : ks.length ≤ 1048576) (hf : fs.length ≤ 1048576) (h : InPool w ts ks fs A0 A1 A2) (hy : poolB a b c d e ts ks fs tn = y) :
    Calls Try.prog 21 #[.agg #[.int .i64 a, .int .i64 b, .int .i64 c, .int .i64 d, .int .i64 e], .agg #[.slice A0 ts.length c0, .slice A1 ks.length c1, .slice A2 fs.length c2, .int .i64 tn, .bool st]] w fun r w' => r = .returned (.bool y) ∧ Below w.heap.size w w' := by
  subst hy
  exact sPoolOk_any a b c d e ts ks fs A0 A1 A2 c0 c1 c2 tn st w ht hk hf h

set_option maxRecDepth 100000 in
set_option maxHeartbeats 1600000 in
theorem fnPools_any (w : World) (A : Option Addr) (len cap : Nat) (hby : Bytes w w.heap.size A len) (hl : len ≤ 4096) :
    Calls Try.prog 3 #[.slice A len cap] w fun r w' => r = .returned (.bool true) ∧ Below w.heap.size w w' := by
  go_enter Try.func3, Try.ntmps3
  go_wp2_with fail
  go_call (big_any A len cap _) as r w' ⟨rfl, rfl⟩
  go_wp2_with fail
  go_call (roll_any w.heap.size w A len cap 4 (Nat.le_refl _) hl hby) as r W1 ⟨rfl, G, d0⟩
  obtain ⟨g, hg⟩ : ∃ g, g = w.heap.size := ⟨_, rfl⟩
  rw [← hg] at d0 ⊢
  have HG := hide hg
  clear hg
  obtain ⟨cs0, hc, M⟩ := dice_start d0
  go_wp2_with fail
  go_call (scheme_any g _ g A len cap (M.diceAt 0 rfl d0 hc)) as r W2 ⟨a, b, c, dd, ee, rfl, a1, a2, b1, b2, c1, c2, p1, p2, q1, q2, gg, d⟩
  have MM := M.diceMoved 0 rfl gg d
  clear M hc gg d
  obtain ⟨cs1, hc, M⟩ := MM
  simp only [List.set_cons_zero] at M
  obtain ⟨dn, rfl⟩ : ∃ n : Nat, dd = n := ⟨dd.toNat, by omega⟩
  obtain ⟨en, rfl⟩ : ∃ n : Nat, ee = n := ⟨ee.toNat, by omega⟩
  have hp : planB a b c dn en = true := by simp [planB, btw]; omega
  have HP := hide hp
  clear hp
  go_wp2_with fail
  have N := M.galloc 28 #[.int .i64 a, .int .i64 b, .int .i64 c, .int .i64 dn, .int .i64 en]
  clear M
  obtain ⟨W3, eW, M⟩ := N
  rw [eW]
  clear eW
  obtain ⟨tP, qP0, fP0, qP1, fP1, qP2, fP2, qP3, fP3, qP4, fP4⟩ := M.f5 0 rfl
  go_wp2_with fail
  go_call (gNewPool_s a b c dn en _ HP.out) as r W4 ⟨tz, kz, fz, N0, N1, N2, m0, m1, m2, rfl, htz, hpz, g1⟩
  clear tP qP0 fP0 qP1 fP1 qP2 fP2 qP3 fP3 qP4 fP4
  replace M : Sep [g] W1 W4 [rT tz.length N0 m0 tz, rK kz.length N1 m1 kz, rF fz.length N2 m2 fz, .blk (W2.heap.size) 28 #[.int .i64 a, .int .i64 b, .int .i64 c, .int .i64 dn, .int .i64 en], .blk g 73 cs1] := Sep.comp (ps := []) (rs := [.blk (W2.heap.size) 28 #[.int .i64 a, .int .i64 b, .int .i64 c, .int .i64 dn, .int .i64 en], .blk g 73 cs1]) M g1
  clear g1
  replace htz := hide htz
  obtain ⟨tP, qP0, fP0, qP1, fP1, qP2, fP2, qP3, fP3, qP4, fP4⟩ := M.f5 3 rfl
  go_wp2_with fail
  clear tP qP0 fP0 qP1 fP1 qP2 fP2 qP3 fP3 qP4 fP4
  have N := M.galloc 34 #[.slice N0 tz.length m0, .slice N1 kz.length m1, .slice N2 fz.length m2, .int .i64 1, .bool false]
  clear M
  obtain ⟨W5, eW, M⟩ := N
  rw [eW]
  clear eW
  obtain ⟨nb, hnb⟩ : ∃ nb, nb = W4.heap.size := ⟨_, rfl⟩
  rw [← hnb] at M ⊢
  clear hnb
  obtain ⟨tN, qN0, fN0, qN1, fN1, qN2, fN2, qN3, fN3, qN4, fN4⟩ := M.f5 0 rfl
  obtain ⟨tP, qP0, fP0, qP1, fP1, qP2, fP2, qP3, fP3, qP4, fP4⟩ := M.f5 4 rfl
  go_wp2_with fail
  clear tN qN0 fN0 qN1 fN1 qN2 fN2 qN3 fN3 qN4 fN4 tP qP0 fP0 qP1 fP1 qP2 fP2 qP3 fP3 qP4 fP4
  go_cut [6] (fun x' wc => ∃ (xb : Nat) (ts : List T7) (ks : List Int) (fs : List F2) (tn : Int) (st : Bool) (B0 B1 B2 : Option Addr) (e0 e1 e2 : Nat), x' = .pointer (some ⟨xb, 0, none⟩) ∧ Hid (poolB a b c dn en ts ks fs tn = true) ∧ Sep [g] W1 wc [.blk (xb) 34 #[.slice B0 ts.length e0, .slice B1 ks.length e1, .slice B2 fs.length e2, .int .i64 tn, .bool st], rT ts.length B0 e0 ts, rK ks.length B1 e1 ks, rF fs.length B2 e2 fs, .blk (nb) 34 #[.slice N0 tz.length m0, .slice N1 kz.length m1, .slice N2 fz.length m2, .int .i64 1, .bool false], rT tz.length N0 m0 tz, rK kz.length N1 m1 kz, rF fz.length N2 m2 fz, .blk (W2.heap.size) 28 #[.int .i64 a, .int .i64 b, .int .i64 c, .int .i64 dn, .int .i64 en]])
  case first =>
    refine wp_region_T (S := (fun w' => w'.cell? ⟨W2.heap.size, 0, none⟩ = some (.int .i64 a) ∧ w'.cell? ⟨W2.heap.size, 1, none⟩ = some (.int .i64 b) ∧ w'.cell? ⟨W2.heap.size, 2, none⟩ = some (.int .i64 c) ∧ w'.cell? ⟨W2.heap.size, 3, none⟩ = some (.int .i64 dn) ∧ w'.cell? ⟨W2.heap.size, 4, none⟩ = some (.int .i64 en))) (ks := [6]) (by kernel_rfl) ⟨M.cell 4 0 rfl, M.cell 4 1 rfl, M.cell 4 2 rfl, M.cell 4 3 rfl, M.cell 4 4 rfl⟩ (fun hHeld => ?_)
    replace M := M.drew
    generalize W5.drew = W6 at M hHeld ⊢
    refine wpAnyT_takeY (i := 0) (v := ?v0u1) rfl (by kernel_rfl) (by kernel_rfl) (by kernel_rfl) (by kernel_rfl) (fun _ _ _ h => h) (by rfl) ?hy0u1 (fun _ => hHeld) ?rest0u1
    case hy0u1 => (intro w; go_simp; all_goals with_reducible rfl)
    try simp only [Act.put, List.setIfInBounds_toArray, List.set_cons_zero, List.set_cons_succ]
    refine wpAnyT_takeL (i := 1) (v := ?v1u2) rfl (by kernel_rfl) (by kernel_rfl) (by kernel_rfl) (by kernel_rfl) (by kernel_rfl) (fun _ _ _ h => h) (by rfl) ?hy1u2 hHeld ?rest1u2
    case hy1u2 => (intro w hSw; (try dsimp only at hSw); go_split_ands; go_simp; all_goals with_reducible rfl)
    try simp only [Act.put, List.setIfInBounds_toArray, List.set_cons_zero, List.set_cons_succ]
    refine wpAnyT_takeY (i := 2) (v := ?v2u3) rfl (by kernel_rfl) (by kernel_rfl) (by kernel_rfl) (by kernel_rfl) (fun _ _ _ h => h) (by rfl) ?hy2u3 (fun _ => hHeld) ?rest2u3
    case hy2u3 => (intro w; go_simp; all_goals with_reducible rfl)
    try simp only [Act.put, List.setIfInBounds_toArray, List.set_cons_zero, List.set_cons_succ]
    refine wpAnyT_ready (rs := [3, 5]) (by kernel_rfl) (by simp) ?_
    refine AllReadyT.consS (i := 3) rfl (fun K hK => ?_) (AllReadyT.consS (i := 5) rfl (fun K hK => ?_) AllReadyT.nil)
    · go_simp
      refine Calls.mono (by with_reducible exact (below_any g _ g A len cap 40 (by omega) (by omega) (M.diceAt 5 rfl d0 hc))) ?_
      rintro r W7 ⟨nn, rfl, nn1, nn2, gg, d⟩
      have MM := M.diceMoved 5 rfl gg d
      clear M hc gg d
      obtain ⟨cs2, hc, M⟩ := MM
      simp only [List.set_cons_zero, List.set_cons_succ] at M
      obtain ⟨nq, rfl⟩ : ∃ n : Nat, nn = n := ⟨nn.toNat, by omega⟩
      clear hHeld
      go_wp2_with fail
      refine hK.out _ _ ?_ (fun hHeld => ?_)
      · exact ⟨M.cell 4 0 rfl, M.cell 4 1 rfl, M.cell 4 2 rfl, M.cell 4 3 rfl, M.cell 4 4 rfl⟩
      clear hK K
      try simp only [Act.put, List.setIfInBounds_toArray, List.set_cons_zero, List.set_cons_succ]
      refine wpAnyT_ready (rs := [4, 5]) (by kernel_rfl) (by simp) ?_
      refine AllReadyT.consS (i := 4) rfl (fun K hK => ?_) (AllReadyT.consS (i := 5) rfl (fun K hK => ?_) AllReadyT.nil)
      · replace M := M.front 5 rfl
        simp only [List.eraseIdx_cons_succ, List.eraseIdx_cons_zero] at M
        go_simp
        refine Calls.mono (by with_reducible exact (used_any g _ g A len cap a b c dn en nq (by omega) HP.out (by omega) (by omega) (M.diceAt 0 rfl d0 hc))) ?_
        rintro r W8 ⟨ts, ks, fs, tn, st, B0, B1, B2, e0, e1, e2, cs3, rfl, hpo, hc2, k2⟩
        replace M : Sep [g] W1 W8 [rT ts.length B0 e0 ts, rK ks.length B1 e1 ks, rF fs.length B2 e2 fs, .blk g 73 cs3, .blk (nb) 34 #[.slice N0 tz.length m0, .slice N1 kz.length m1, .slice N2 fz.length m2, .int .i64 1, .bool false], rT tz.length N0 m0 tz, rK kz.length N1 m1 kz, rF fz.length N2 m2 fz, .blk (W2.heap.size) 28 #[.int .i64 a, .int .i64 b, .int .i64 c, .int .i64 dn, .int .i64 en]] := Sep.comp (ps := [.blk g 73 cs2]) (rs := [.blk (nb) 34 #[.slice N0 tz.length m0, .slice N1 kz.length m1, .slice N2 fz.length m2, .int .i64 1, .bool false], rT tz.length N0 m0 tz, rK kz.length N1 m1 kz, rF fz.length N2 m2 fz, .blk (W2.heap.size) 28 #[.int .i64 a, .int .i64 b, .int .i64 c, .int .i64 dn, .int .i64 en]]) M k2
        clear k2 hc
        have hc := hc2
        clear hc2 hHeld
        replace hpo := hide hpo
        go_wp2_with fail
        refine hK.out _ _ ?_ (fun hHeld => ?_)
        · exact ⟨M.cell 8 0 rfl, M.cell 8 1 rfl, M.cell 8 2 rfl, M.cell 8 3 rfl, M.cell 8 4 rfl⟩
        clear hK K
        try simp only [Act.put, List.setIfInBounds_toArray, List.set_cons_zero, List.set_cons_succ]
        refine wpAnyT_callL (i := 5) rfl (by kernel_rfl) (fun K hK => ?_)
        go_simp
        clear hHeld
        have N := M.galloc 34 #[.slice none 0 0, .slice none 0 0, .slice none 0 0, .int .i64 0, .bool false]
        clear M
        obtain ⟨W9, eW, M⟩ := N
        rw [eW]
        clear eW
        refine hK.out _ _ ?_ (fun hHeld => ?_)
        · exact ⟨M.cell 9 0 rfl, M.cell 9 1 rfl, M.cell 9 2 rfl, M.cell 9 3 rfl, M.cell 9 4 rfl⟩
        clear hK K
        try simp only [Act.put, List.setIfInBounds_toArray, List.set_cons_zero, List.set_cons_succ]
        obtain ⟨tX, qX0, fX0, qX1, fX1, qX2, fX2, qX3, fX3, qX4, fX4⟩ := M.f5 0 rfl
        refine wpAnyT_oneL (i := 6) rfl (by kernel_rfl) (by kernel_rfl) (fun K hK => ?_)
        go_simp
        refine hK.out _ _ ?_
        clear hK K
        try simp only [Act.put, List.setIfInBounds_toArray, List.set_cons_zero, List.set_cons_succ]
        clear tX qX0 fX0 qX1 fX1 qX2 fX2 qX3 fX3 qX4 fX4
        have N := M.gset5 0 rfl (.slice B0 ts.length e0) (.slice B1 ks.length e1) (.slice B2 fs.length e2) (.int .i64 tn) (.bool st)
        clear M
        obtain ⟨W10, eW, M⟩ := N
        rw [eW]
        clear eW
        simp only [List.set_cons_zero] at M
        refine wpAnyT_done (by kernel_rfl) ?_ _
        replace M := M.front 3 rfl
        simp only [List.eraseIdx_cons_succ, List.eraseIdx_cons_zero] at M
        replace M := M.front 3 rfl
        simp only [List.eraseIdx_cons_succ, List.eraseIdx_cons_zero] at M
        replace M := M.front 3 rfl
        simp only [List.eraseIdx_cons_succ, List.eraseIdx_cons_zero] at M
        replace M := M.front 3 rfl
        simp only [List.eraseIdx_cons_succ, List.eraseIdx_cons_zero] at M
        replace M := M.sub ((List.Sublist.slnil) |>.cons_cons _ |>.cons_cons _ |>.cons_cons _ |>.cons_cons _ |>.cons_cons _ |>.cons _ |>.cons_cons _ |>.cons_cons _ |>.cons_cons _ |>.cons_cons _)
        go_wp2_with fail
        go_meet
        exact ⟨_, ts, ks, fs, tn, st, B0, B1, B2, e0, e1, e2, rfl, hpo, M⟩
      · go_simp
        clear hHeld
        have N := M.galloc 34 #[.slice none 0 0, .slice none 0 0, .slice none 0 0, .int .i64 0, .bool false]
        clear M
        obtain ⟨W11, eW, M⟩ := N
        rw [eW]
        clear eW
        refine hK.out _ _ ?_ (fun hHeld => ?_)
        · exact ⟨M.cell 5 0 rfl, M.cell 5 1 rfl, M.cell 5 2 rfl, M.cell 5 3 rfl, M.cell 5 4 rfl⟩
        clear hK K
        try simp only [Act.put, List.setIfInBounds_toArray, List.set_cons_zero, List.set_cons_succ]
        replace M := M.front 6 rfl
        simp only [List.eraseIdx_cons_succ, List.eraseIdx_cons_zero] at M
        refine wpAnyT_callL (i := 4) rfl (by kernel_rfl) (fun K hK => ?_)
        go_simp
        refine Calls.mono (by with_reducible exact (used_any g _ g A len cap a b c dn en nq (by omega) HP.out (by omega) (by omega) (M.diceAt 0 rfl d0 hc))) ?_
        rintro r W12 ⟨ts, ks, fs, tn, st, B0, B1, B2, e0, e1, e2, cs3, rfl, hpo, hc2, k2⟩
        replace M : Sep [g] W1 W12 [rT ts.length B0 e0 ts, rK ks.length B1 e1 ks, rF fs.length B2 e2 fs, .blk g 73 cs3, .blk (W7.heap.size) 34 #[.slice none 0 0, .slice none 0 0, .slice none 0 0, .int .i64 0, .bool false], .blk (nb) 34 #[.slice N0 tz.length m0, .slice N1 kz.length m1, .slice N2 fz.length m2, .int .i64 1, .bool false], rT tz.length N0 m0 tz, rK kz.length N1 m1 kz, rF fz.length N2 m2 fz, .blk (W2.heap.size) 28 #[.int .i64 a, .int .i64 b, .int .i64 c, .int .i64 dn, .int .i64 en]] := Sep.comp (ps := [.blk g 73 cs2]) (rs := [.blk (W7.heap.size) 34 #[.slice none 0 0, .slice none 0 0, .slice none 0 0, .int .i64 0, .bool false], .blk (nb) 34 #[.slice N0 tz.length m0, .slice N1 kz.length m1, .slice N2 fz.length m2, .int .i64 1, .bool false], rT tz.length N0 m0 tz, rK kz.length N1 m1 kz, rF fz.length N2 m2 fz, .blk (W2.heap.size) 28 #[.int .i64 a, .int .i64 b, .int .i64 c, .int .i64 dn, .int .i64 en]]) M k2
        clear k2 hc
        have hc := hc2
        clear hc2 hHeld
        replace hpo := hide hpo
        go_wp2_with fail
        refine hK.out _ _ ?_ (fun hHeld => ?_)
        · exact ⟨M.cell 9 0 rfl, M.cell 9 1 rfl, M.cell 9 2 rfl, M.cell 9 3 rfl, M.cell 9 4 rfl⟩
        clear hK K
        try simp only [Act.put, List.setIfInBounds_toArray, List.set_cons_zero, List.set_cons_succ]
        obtain ⟨tX, qX0, fX0, qX1, fX1, qX2, fX2, qX3, fX3, qX4, fX4⟩ := M.f5 4 rfl
        refine wpAnyT_oneL (i := 6) rfl (by kernel_rfl) (by kernel_rfl) (fun K hK => ?_)
        go_simp
        refine hK.out _ _ ?_
        clear hK K
        try simp only [Act.put, List.setIfInBounds_toArray, List.set_cons_zero, List.set_cons_succ]
        clear tX qX0 fX0 qX1 fX1 qX2 fX2 qX3 fX3 qX4 fX4
        have N := M.gset5 4 rfl (.slice B0 ts.length e0) (.slice B1 ks.length e1) (.slice B2 fs.length e2) (.int .i64 tn) (.bool st)
        clear M
        obtain ⟨W13, eW, M⟩ := N
        rw [eW]
        clear eW
        simp only [List.set_cons_zero, List.set_cons_succ] at M
        refine wpAnyT_done (by kernel_rfl) ?_ _
        replace M := M.front 2 rfl
        simp only [List.eraseIdx_cons_succ, List.eraseIdx_cons_zero] at M
        replace M := M.front 2 rfl
        simp only [List.eraseIdx_cons_succ, List.eraseIdx_cons_zero] at M
        replace M := M.front 2 rfl
        simp only [List.eraseIdx_cons_succ, List.eraseIdx_cons_zero] at M
        replace M := M.front 4 rfl
        simp only [List.eraseIdx_cons_succ, List.eraseIdx_cons_zero] at M
        replace M := M.sub ((List.Sublist.slnil) |>.cons_cons _ |>.cons_cons _ |>.cons_cons _ |>.cons_cons _ |>.cons_cons _ |>.cons _ |>.cons_cons _ |>.cons_cons _ |>.cons_cons _ |>.cons_cons _)
        go_wp2_with fail
        go_meet
        exact ⟨_, ts, ks, fs, tn, st, B0, B1, B2, e0, e1, e2, rfl, hpo, M⟩
    · go_simp
      clear hHeld
      have N := M.galloc 34 #[.slice none 0 0, .slice none 0 0, .slice none 0 0, .int .i64 0, .bool false]
      clear M
      obtain ⟨W14, eW, M⟩ := N
      rw [eW]
      clear eW
      refine hK.out _ _ ?_ (fun hHeld => ?_)
      · exact ⟨M.cell 5 0 rfl, M.cell 5 1 rfl, M.cell 5 2 rfl, M.cell 5 3 rfl, M.cell 5 4 rfl⟩
      clear hK K
      try simp only [Act.put, List.setIfInBounds_toArray, List.set_cons_zero, List.set_cons_succ]
      refine wpAnyT_callL (i := 3) rfl (by kernel_rfl) (fun K hK => ?_)
      go_simp
      refine Calls.mono (by with_reducible exact (below_any g _ g A len cap 40 (by omega) (by omega) (M.diceAt 6 rfl d0 hc))) ?_
      rintro r W15 ⟨nn, rfl, nn1, nn2, gg, d⟩
      have MM := M.diceMoved 6 rfl gg d
      clear M hc gg d
      obtain ⟨cs2, hc, M⟩ := MM
      simp only [List.set_cons_zero, List.set_cons_succ] at M
      obtain ⟨nq, rfl⟩ : ∃ n : Nat, nn = n := ⟨nn.toNat, by omega⟩
      clear hHeld
      go_wp2_with fail
      refine hK.out _ _ ?_ (fun hHeld => ?_)
      · exact ⟨M.cell 5 0 rfl, M.cell 5 1 rfl, M.cell 5 2 rfl, M.cell 5 3 rfl, M.cell 5 4 rfl⟩
      clear hK K
      try simp only [Act.put, List.setIfInBounds_toArray, List.set_cons_zero, List.set_cons_succ]
      replace M := M.front 6 rfl
      simp only [List.eraseIdx_cons_succ, List.eraseIdx_cons_zero] at M
      refine wpAnyT_callL (i := 4) rfl (by kernel_rfl) (fun K hK => ?_)
      go_simp
      refine Calls.mono (by with_reducible exact (used_any g _ g A len cap a b c dn en nq (by omega) HP.out (by omega) (by omega) (M.diceAt 0 rfl d0 hc))) ?_
      rintro r W16 ⟨ts, ks, fs, tn, st, B0, B1, B2, e0, e1, e2, cs3, rfl, hpo, hc2, k2⟩
      replace M : Sep [g] W1 W16 [rT ts.length B0 e0 ts, rK ks.length B1 e1 ks, rF fs.length B2 e2 fs, .blk g 73 cs3, .blk (W6.heap.size) 34 #[.slice none 0 0, .slice none 0 0, .slice none 0 0, .int .i64 0, .bool false], .blk (nb) 34 #[.slice N0 tz.length m0, .slice N1 kz.length m1, .slice N2 fz.length m2, .int .i64 1, .bool false], rT tz.length N0 m0 tz, rK kz.length N1 m1 kz, rF fz.length N2 m2 fz, .blk (W2.heap.size) 28 #[.int .i64 a, .int .i64 b, .int .i64 c, .int .i64 dn, .int .i64 en]] := Sep.comp (ps := [.blk g 73 cs2]) (rs := [.blk (W6.heap.size) 34 #[.slice none 0 0, .slice none 0 0, .slice none 0 0, .int .i64 0, .bool false], .blk (nb) 34 #[.slice N0 tz.length m0, .slice N1 kz.length m1, .slice N2 fz.length m2, .int .i64 1, .bool false], rT tz.length N0 m0 tz, rK kz.length N1 m1 kz, rF fz.length N2 m2 fz, .blk (W2.heap.size) 28 #[.int .i64 a, .int .i64 b, .int .i64 c, .int .i64 dn, .int .i64 en]]) M k2
      clear k2 hc
      have hc := hc2
      clear hc2 hHeld
      replace hpo := hide hpo
      go_wp2_with fail
      refine hK.out _ _ ?_ (fun hHeld => ?_)
      · exact ⟨M.cell 9 0 rfl, M.cell 9 1 rfl, M.cell 9 2 rfl, M.cell 9 3 rfl, M.cell 9 4 rfl⟩
      clear hK K
      try simp only [Act.put, List.setIfInBounds_toArray, List.set_cons_zero, List.set_cons_succ]
      obtain ⟨tX, qX0, fX0, qX1, fX1, qX2, fX2, qX3, fX3, qX4, fX4⟩ := M.f5 4 rfl
      refine wpAnyT_oneL (i := 6) rfl (by kernel_rfl) (by kernel_rfl) (fun K hK => ?_)
      go_simp
      refine hK.out _ _ ?_
      clear hK K
      try simp only [Act.put, List.setIfInBounds_toArray, List.set_cons_zero, List.set_cons_succ]
      clear tX qX0 fX0 qX1 fX1 qX2 fX2 qX3 fX3 qX4 fX4
      have N := M.gset5 4 rfl (.slice B0 ts.length e0) (.slice B1 ks.length e1) (.slice B2 fs.length e2) (.int .i64 tn) (.bool st)
      clear M
      obtain ⟨W17, eW, M⟩ := N
      rw [eW]
      clear eW
      simp only [List.set_cons_zero, List.set_cons_succ] at M
      refine wpAnyT_done (by kernel_rfl) ?_ _
      replace M := M.front 2 rfl
      simp only [List.eraseIdx_cons_succ, List.eraseIdx_cons_zero] at M
      replace M := M.front 2 rfl
      simp only [List.eraseIdx_cons_succ, List.eraseIdx_cons_zero] at M
      replace M := M.front 2 rfl
      simp only [List.eraseIdx_cons_succ, List.eraseIdx_cons_zero] at M
      replace M := M.front 4 rfl
      simp only [List.eraseIdx_cons_succ, List.eraseIdx_cons_zero] at M
      replace M := M.sub ((List.Sublist.slnil) |>.cons_cons _ |>.cons_cons _ |>.cons_cons _ |>.cons_cons _ |>.cons_cons _ |>.cons _ |>.cons_cons _ |>.cons_cons _ |>.cons_cons _ |>.cons_cons _)
      go_wp2_with fail
      go_meet
      exact ⟨_, ts, ks, fs, tn, st, B0, B1, B2, e0, e1, e2, rfl, hpo, M⟩
  case rest =>
    clear M hc
    obtain ⟨xb, ts, ks, fs, tn, st, B0, B1, B2, e0, e1, e2, rfl, hpo, M⟩ := hcut
    rename World => W18
    obtain ⟨an, rfl⟩ : ∃ n : Nat, a = n := ⟨a.toNat, by omega⟩
    have hl := poolB_lens hpo.out
    obtain ⟨hl0, hl1, hl2⟩ := hl
    have hz : tz.length = 0 := by rw [htz.out]; rfl
    have hln := poolB_lens hpz.out
    have HX := hide (⟨M.rowS 1 rfl, M.rowS 2 rfl, M.rowS 3 rfl⟩ : InPool W18 ts ks fs B0 B1 B2)
    have HN := hide (⟨M.rowS 5 rfl, M.rowS 6 rfl, M.rowS 7 rfl⟩ : InPool W18 tz kz fz N0 N1 N2)
    have HV := hide (G.trans (sepBelow M (by intro q hq; have := HG.out; simp at hq; omega) G.size) : Below w.heap.size w W18)
    obtain ⟨tX, qX0, qX1, qX2, qX3, qX4⟩ := M.q5 0 rfl
    obtain ⟨tN, qN0, qN1, qN2, qN3, qN4⟩ := M.q5 4 rfl
    obtain ⟨tP, qP0, qP1, qP2, qP3, qP4⟩ := M.q5 8 rfl
    rw [hz] at qN0
    obtain ⟨hn1, hn2⟩ := hln.2
    have HZ := hide (And.intro htz.out hz)
    generalize W2.heap.size = pb at *
    clear hz hln htz M
    have cX0 := fun (x : KeptW W18) => KeptW.cell qX0 x
    have cX1 := fun (x : KeptW W18) => KeptW.cell qX1 x
    have cX2 := fun (x : KeptW W18) => KeptW.cell qX2 x
    have cX3 := fun (x : KeptW W18) => KeptW.cell qX3 x
    have cX4 := fun (x : KeptW W18) => KeptW.cell qX4 x
    have cN0 := fun (x : KeptW W18) => KeptW.cell qN0 x
    have cN1 := fun (x : KeptW W18) => KeptW.cell qN1 x
    have cN2 := fun (x : KeptW W18) => KeptW.cell qN2 x
    have cN3 := fun (x : KeptW W18) => KeptW.cell qN3 x
    have cN4 := fun (x : KeptW W18) => KeptW.cell qN4 x
    have cP0 := fun (x : KeptW W18) => KeptW.cell qP0 x
    have cP1 := fun (x : KeptW W18) => KeptW.cell qP1 x
    have cP2 := fun (x : KeptW W18) => KeptW.cell qP2 x
    have cP3 := fun (x : KeptW W18) => KeptW.cell qP3 x
    have cP4 := fun (x : KeptW W18) => KeptW.cell qP4 x
    clear tX qX0 qX1 qX2 qX3 qX4 tN qN0 qN1 qN2 qN3 qN4 tP qP0 qP1 qP2 qP3 qP4
    go_wp2_with fail
    go_loopw [7, 8] (fun h i wr => ∃ (k : Nat) (x : KeptW W18), 1 ≤ k ∧ k ≤ 6 ∧ h = .int .i64 (sumC ts k : Nat) ∧ i = .int .i64 k ∧ wr = x.w) (fun _ i _ => 6 - (intOf i).toNat)
    case atStart => exact ⟨1, KeptW.mk' (Below.refl _ _), by omega, by omega, rfl, rfl, rfl⟩
    case round =>
      obtain ⟨k, x, k1, k2, rfl, rfl, rfl⟩ := hrel
      by_cases hlt : k ≤ 5
      · have HS := hide (sumC_next (ts := ts) k1)
        have b1 : sumC ts k ≤ 180 := Nat.le_trans (sumC_le ts k) (Nat.mul_le_mul k2 hl0)
        have b2 : countM ts (k : Int) ≤ 30 := Nat.le_trans (countM_le ts k) hl0
        have HC := fun (y : KeptW W18) => kept_call (gCountOf_any ts B0 B1 B2 e0 ks.length e1 fs.length e2 tn st k y.w (by omega) ((InPool.below HX.out y.below).1))
        generalize sumC ts k = m at *
        generalize countM ts (k : Int) = q at *
        replace HC := hide HC
        go_wp2_with fail
        go_call (HC.out x) as r wq ⟨rfl, y, rfl⟩
        go_wp2_with fail
        go_roundw
        case rel => exact ⟨k + 1, y, by omega, by omega, by rw [HS.out]; go_num, by go_num, rfl⟩
        case measure => simp [intOf]; omega
      · have hs6 : sumC ts k = ts.length := by
          obtain rfl : k = 6 := by omega
          exact sumC_six hpo.out
        rw [hs6]
        clear hs6
        go_wp2_with fail
        go_loopw [9, 10] (fun h i wr => ∃ (k : Nat) (x : KeptW W18), k ≤ an ∧ h = .int .i64 (ranN ts k : Nat) ∧ i = .int .i64 k ∧ wr = x.w) (fun _ i _ => an - (intOf i).toNat)
        case atStart => exact ⟨0, x, by omega, rfl, rfl, rfl⟩
        case round =>
          clear k1 k2 hlt
          obtain ⟨k, x, k2, rfl, rfl, rfl⟩ := hrel
          by_cases hlt : k < an
          · have b1 := ranN_le ts k
            have HY := hide (ranN_yes (ts := ts) (k := k))
            have HO := hide (ranN_no (ts := ts) (k := k))
            have HR := fun (y : KeptW W18) => kept_call (gRunBy_any ts B0 B1 B2 e0 ks.length e1 fs.length e2 tn st k y.w (by omega) ((InPool.below HX.out y.below).1))
            have HT := fun (y : KeptW W18) => kept_call (sRunBy_any ts B0 B1 B2 e0 ks.length e1 fs.length e2 tn st k y.w (by omega) ((InPool.below HX.out y.below).1))
            have HQ := hide (fun (y : KeptW W18) => kept_call (gRunBy_none HZ.out.1 N0 N1 N2 m0 kz.length m1 fz.length m2 1 false k y.w ((InPool.below HN.out y.below).1)))
            generalize ranN ts k = m at *
            generalize runM ts (k : Int) 0 = q at *
            replace HR := hide HR
            replace HT := hide HT
            go_wp2_with fail
            go_call (HR.out x) as r wq ⟨rfl, x1, rfl⟩
            go_wp2_with fail
            go_call (HT.out x1) as r wq ⟨rfl, x2, rfl⟩
            go_wp2_with fail
            go_call (HQ.out x2) as r wq ⟨rfl, x3, rfl⟩
            by_cases h0 : 0 ≤ q
            · go_wp2_with fail
              go_roundw
              case rel => exact ⟨k + 1, x3, by omega, by rw [HY.out h0]; go_num, by go_num, rfl⟩
              case measure => simp [intOf]; omega
            · go_wp2_with fail
              go_roundw
              case rel => exact ⟨k + 1, x3, by omega, by rw [HO.out h0], by go_num, rfl⟩
              case measure => simp [intOf]; omega
          · have hr : ranN ts k = countM ts 2 := by
              obtain rfl : k = an := by omega
              exact ranN_all hpo.out
            rw [hr]
            clear hr
            have hby2 : Bytes x.w w.heap.size A len := hby.keep fun b hb => (HV.out.trans (x.below.mono HV.out.size)).block b hb
            go_wp2_with fail
            go_call (drawPoolOk_any w.heap.size _ A len cap (by have h1 := HV.out.size; have h2 := x.below.size; omega) hl hby2) as r Wd ⟨qa, qb2, qc, qd, qe, ys, yk, yf, yn, yt, Y0, Y1, Y2, i0, i1, i2, rfl, h0, h1, h2, hiy, g1⟩
            obtain ⟨y, rfl⟩ : ∃ y : KeptW W18, Wd = y.w := ⟨KeptW.mk' (x.below.trans (g1.mono x.below.size)), rfl⟩
            clear g1 hby2
            have HI := hide hiy
            clear hiy
            go_wp2_with fail
            obtain ⟨qb, hqb⟩ : ∃ qb, qb = y.w.heap.size := ⟨_, rfl⟩
            obtain ⟨yb, hyb⟩ : ∃ yb, yb = y.w.heap.size + 1 := ⟨_, rfl⟩
            rw [← hyb, ← hqb]
            have M := ((Sep.start y.w).alloc 28 #[.int .i64 qa, .int .i64 qb2, .int .i64 qc, .int .i64 qd, .int .i64 qe] qb hqb.symm).alloc 34 #[.slice Y0 ys.length i0, .slice Y1 yk.length i1, .slice Y2 yf.length i2, .int .i64 yn, .bool yt] yb (by simp [hyb])
            clear hqb hyb
            generalize (y.w.alloc (.cells #[.int .i64 qa, .int .i64 qb2, .int .i64 qc, .int .i64 qd, .int .i64 qe] 28)).alloc (.cells #[.slice Y0 ys.length i0, .slice Y1 yk.length i1, .slice Y2 yf.length i2, .int .i64 yn, .bool yt] 34) = We at M ⊢
            have gE := M.below
            obtain ⟨tQ, qQ0, qQ1, qQ2, qQ3, qQ4⟩ := M.q5 1 rfl
            obtain ⟨tY, qY0, qY1, qY2, qY3, qY4⟩ := M.q5 0 rfl
            obtain ⟨z, rfl⟩ : ∃ z : KeptW W18, We = z.w := ⟨KeptW.mk' (y.below.trans (gE.mono y.below.size)), rfl⟩
            have HW := hide (HV.out.trans (z.below.mono HV.out.size))
            have HJ := hide (InPool.below HI.out gE)
            have HX2 := hide (InPool.below HX.out z.below)
            have HX3 := hide (InPool.below HX.out z.below).1
            have HN2 := hide (InPool.below HN.out z.below)
            clear M gE HI HX HN HV
            replace cX0 := fun (x : KeptW z.w) => KeptW.cell (cX0 z) x
            replace cX1 := fun (x : KeptW z.w) => KeptW.cell (cX1 z) x
            replace cX2 := fun (x : KeptW z.w) => KeptW.cell (cX2 z) x
            replace cX3 := fun (x : KeptW z.w) => KeptW.cell (cX3 z) x
            replace cX4 := fun (x : KeptW z.w) => KeptW.cell (cX4 z) x
            replace cN0 := fun (x : KeptW z.w) => KeptW.cell (cN0 z) x
            replace cN1 := fun (x : KeptW z.w) => KeptW.cell (cN1 z) x
            replace cN2 := fun (x : KeptW z.w) => KeptW.cell (cN2 z) x
            replace cN3 := fun (x : KeptW z.w) => KeptW.cell (cN3 z) x
            replace cN4 := fun (x : KeptW z.w) => KeptW.cell (cN4 z) x
            replace cP0 := fun (x : KeptW z.w) => KeptW.cell (cP0 z) x
            replace cP1 := fun (x : KeptW z.w) => KeptW.cell (cP1 z) x
            replace cP2 := fun (x : KeptW z.w) => KeptW.cell (cP2 z) x
            replace cP3 := fun (x : KeptW z.w) => KeptW.cell (cP3 z) x
            replace cP4 := fun (x : KeptW z.w) => KeptW.cell (cP4 z) x
            have cQ0 := fun (x : KeptW z.w) => KeptW.cell qQ0 x
            have cQ1 := fun (x : KeptW z.w) => KeptW.cell qQ1 x
            have cQ2 := fun (x : KeptW z.w) => KeptW.cell qQ2 x
            have cQ3 := fun (x : KeptW z.w) => KeptW.cell qQ3 x
            have cQ4 := fun (x : KeptW z.w) => KeptW.cell qQ4 x
            have cY0 := fun (x : KeptW z.w) => KeptW.cell qY0 x
            have cY1 := fun (x : KeptW z.w) => KeptW.cell qY1 x
            have cY2 := fun (x : KeptW z.w) => KeptW.cell qY2 x
            have cY3 := fun (x : KeptW z.w) => KeptW.cell qY3 x
            have cY4 := fun (x : KeptW z.w) => KeptW.cell qY4 x
            clear tQ qQ0 qQ1 qQ2 qQ3 qQ4 tY qY0 qY1 qY2 qY3 qY4
            obtain ⟨yy, hyy⟩ : ∃ yy, poolB qa qb2 qc qd qe ys yk yf yn = yy := ⟨_, rfl⟩
            replace hyy := hide hyy
            clear x y
            have hx0 := KeptW.mk'_w (Below.refl z.w.heap.size z.w)
            generalize KeptW.mk' (Below.refl z.w.heap.size z.w) = x at hx0
            rw [← hx0]
            clear hx0
            refine region_kept (by kernel_rfl) (by kernel_rfl) ?_
            repeat (go_big_quiet_step (first | (go_at_call 20; with_reducible exact (kept_call (gPoolOk_v m0 m1 m2 0 false true _ HZ.out.2 (by omega) (by omega) (InPool.below HN2.out (KeptW.below _)) hpz.out))) | (go_at_call 20; with_reducible exact (kept_call (gPoolOk_v e0 e1 e2 ts.length st true _ rfl (by omega) (by omega) (InPool.below HX2.out (KeptW.below _)) hpo.out))) | (go_at_call 16; with_reducible exact (kept_call (gCountOf_any ts B0 B1 B2 e0 ks.length e1 fs.length e2 tn st 2 _ (by omega) (Row.below HX3.out (KeptW.below _))))) | (go_at_call 20; with_reducible exact (kept_call (gPoolOk_v i0 i1 i2 ys.length yt yy _ rfl (by omega) (by omega) (InPool.below HJ.out (KeptW.below _)) hyy.out))) | (go_at_call 21; with_reducible exact (kept_call (sPoolOk_w i0 i1 i2 yt yy _ (by omega) (by omega) (by omega) (InPool.below HJ.out (KeptW.below _)) hyy.out)))))
            refine wpQuiet_nil ?_
            rintro _ ⟨x, rfl⟩
            go_wp2
            go_ret
            exact ⟨rfl, HW.out.trans (x.below.mono HW.out.size)⟩
end Go.Proofs.Ytgncjcnobojgbaa
