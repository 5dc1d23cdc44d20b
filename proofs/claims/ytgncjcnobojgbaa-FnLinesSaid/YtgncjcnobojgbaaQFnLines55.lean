/- Chapter 4's law of lines: the walk. The code no longer than it may be. -/
import Derived.Test.YtgncjcnobojgbaaQFnLines48
import Derived.Test.YtgncjcnobojgbaaQFnLines53
import Derived.Test.YtgncjcnobojgbaaQFnLines54
import Derived.Test.YtgncjcnobojgbaaQFnLines06
import Derived.Test.YtgncjcnobojgbaaQFnLines39
import Derived.Deep.RegionHeld3
import Derived.Deep.DeepCutAuto

namespace Go.Proofs.Ytgncjcnobojgbaa
open Go.RowKit
set_option linter.unusedVariables false

theorem wpAnyT_takeN {P : Program} {md : Region.Mode} {Q : Exit → Act → World → Prop} {S : World → Prop} {ks : List Nat} {l : List Oper} {i : Nat} {oi : Oper} {fuel : Nat} {listed : Array Bool} {a : Act} {w : World} (hi : l[i]? = some oi)
    (hs : Region.noSelect l.toArray = true) (hf : Region.free md l.toArray listed i = true) (hr : (Region.ready md l.toArray listed).contains i = true) (hk : ks.contains i = false)
    (hQ : ∀ c a w, Q (.panic c) (a.put oi.dst undef) w → Q (.panic c) a w) (hw : Region.wanted oi (yielded l.toArray a.tmps) = false) (hS : calmB ks listed = true → S w)
    (h : wpAnyT P md l.toArray Q S ks fuel (listed.setIfInBounds i true) (a.put oi.dst undef) w) : wpAnyT P md l.toArray Q S ks (fuel + 1) listed a w :=
  wpAnyT_firstY (by simpa using hi) (Region.noSelect_spec hs) hQ (by simpa using hk) fuel listed a w (Region.free_spec (by simpa using hi) hf) (by simpa using hr) (.inr ⟨hw, rfl⟩) hS h
theorem cell_at_below {w W : World} {b o : Nat} {u : Value} (h : Below w.heap.size w W) (k : w.cell? ⟨b, o, none⟩ = some u) : W.cell? ⟨b, o, none⟩ = some u := KeptW.cell k ⟨W, h⟩
def PairAt (ts : List T7) (L : List Int) (i : Nat) : Prop := ∃ (x y : Nat) (tx ty : T7), L[i]? = some (x : Int) ∧ L[i + 1]? = some (y : Int) ∧ x < ts.length ∧ y < ts.length ∧ ts[x]? = some tx ∧ ts[y]? = some ty ∧ ty.l ≤ tx.l ∧ (tx.l = ty.l → tx.t ≤ ty.t)
/-- Two neighbours in the line, as they lie in memory. -/
theorem line_cells {W : World} {ts : List T7} {L : List Int} {LB B0 : Option Addr} {k : Nat} (hL : Row W LB (icells L)) (hT : Row W B0 (tcells ts)) (hk : k + 1 < L.length) (hp : PairAt ts L k) :
    ∃ (lb lo b off x y : Nat) (s l o wt on v t s' l' o' wt' on' v' t' : Int), LB = some ⟨lb, lo, none⟩ ∧ B0 = some ⟨b, off, none⟩ ∧ x < ts.length ∧ y < ts.length ∧ l' ≤ l ∧ (l = l' → t ≤ t') ∧
      (∀ w', Below W.heap.size W w' → w'.cell? ⟨lb, lo + k, none⟩ = some (.int .i64 x) ∧ w'.cell? ⟨lb, lo + (k + 1), none⟩ = some (.int .i64 y) ∧
        w'.cell? ⟨b, off + x * 7, none⟩ = some (.int .i64 s) ∧ w'.cell? ⟨b, off + x * 7 + 1, none⟩ = some (.int .i64 l) ∧ w'.cell? ⟨b, off + x * 7 + 2, none⟩ = some (.int .i64 o) ∧ w'.cell? ⟨b, off + x * 7 + 3, none⟩ = some (.int .i64 wt) ∧ w'.cell? ⟨b, off + x * 7 + 4, none⟩ = some (.int .i64 on) ∧ w'.cell? ⟨b, off + x * 7 + 5, none⟩ = some (.int .i64 v) ∧ w'.cell? ⟨b, off + x * 7 + 6, none⟩ = some (.int .i64 t) ∧
        w'.cell? ⟨b, off + y * 7, none⟩ = some (.int .i64 s') ∧ w'.cell? ⟨b, off + y * 7 + 1, none⟩ = some (.int .i64 l') ∧ w'.cell? ⟨b, off + y * 7 + 2, none⟩ = some (.int .i64 o') ∧ w'.cell? ⟨b, off + y * 7 + 3, none⟩ = some (.int .i64 wt') ∧ w'.cell? ⟨b, off + y * 7 + 4, none⟩ = some (.int .i64 on') ∧ w'.cell? ⟨b, off + y * 7 + 5, none⟩ = some (.int .i64 v') ∧ w'.cell? ⟨b, off + y * 7 + 6, none⟩ = some (.int .i64 t')) := by
  obtain ⟨x, y, tx, ty, ex, ey, hx, hy, etx, ety, h1, h2⟩ := hp
  obtain ⟨lb, lo, u1, rfl, _, hu1, _, z1⟩ := hL.ks_at (k := k) (by omega)
  obtain ⟨lb2, lo2, u2, e2, _, hu2, _, z2⟩ := hL.ks_at (k := k + 1) hk
  injection e2 with e2
  injection e2 with e3 e4
  subst e3 e4
  rw [ex] at hu1
  rw [ey] at hu2
  injection hu1 with hu1
  injection hu2 with hu2
  subst hu1 hu2
  obtain ⟨b, off, s, l, o, wt, on, v, t, rfl, _, ha, _, a0, a1, a2, a3, a4, a5, a6⟩ := hT.ts_at hx
  obtain ⟨b2, off2, s', l', o', wt', on', v', t', e5, _, hb, _, b0, b1, b2', b3, b4, b5, b6⟩ := hT.ts_at hy
  injection e5 with e5
  injection e5 with e6 e7
  subst e6 e7
  rw [etx] at ha
  rw [ety] at hb
  injection ha with ha
  injection hb with hb
  subst ha hb
  exact ⟨lb, lo, b, off, x, y, s, l, o, wt, on, v, t, s', l', o', wt', on', v', t', rfl, rfl, hx, hy, h1, h2, fun w' hw => ⟨KeptW.cell z1 ⟨w', hw⟩, KeptW.cell z2 ⟨w', hw⟩, KeptW.cell a0 ⟨w', hw⟩, KeptW.cell a1 ⟨w', hw⟩, KeptW.cell a2 ⟨w', hw⟩, KeptW.cell a3 ⟨w', hw⟩, KeptW.cell a4 ⟨w', hw⟩, KeptW.cell a5 ⟨w', hw⟩, KeptW.cell a6 ⟨w', hw⟩, KeptW.cell b0 ⟨w', hw⟩, KeptW.cell b1 ⟨w', hw⟩, KeptW.cell b2' ⟨w', hw⟩, KeptW.cell b3 ⟨w', hw⟩, KeptW.cell b4 ⟨w', hw⟩, KeptW.cell b5 ⟨w', hw⟩, KeptW.cell b6 ⟨w', hw⟩⟩⟩

set_option maxRecDepth 100000 in
set_option maxHeartbeats 1600000 in
theorem fnLines_any (w : World) (A : Option Addr) (len cap : Nat) (hby : Bytes w w.heap.size A len) (hl : len ≤ 4096) :
    Calls Try.prog 4 #[.slice A len cap] w fun r w' => r = .returned (.bool true) ∧ Below w.heap.size w w' := by
  go_enter Try.func4, Try.ntmps4
  go_wp2_with fail
  go_call (big_any A len cap _) as r w' ⟨rfl, rfl⟩
  go_wp2_with fail
  go_call (drawReady_any w.heap.size w A len cap (Nat.le_refl _) hl hby) as r W1 ⟨ts, ks, fs, tn, st, B0, B1, B2, e0, e1, e2, rfl, h0, h1, h2, M⟩
  go_wp2_with fail
  have N := M.galloc 34 #[.slice B0 ts.length e0, .slice B1 ks.length e1, .slice B2 fs.length e2, .int .i64 tn, .bool st]
  clear M
  obtain ⟨W2, eW, M⟩ := N
  rw [eW]
  clear eW
  obtain ⟨xb, hxb⟩ : ∃ xb, xb = W1.heap.size := ⟨_, rfl⟩
  rw [← hxb] at M ⊢
  clear hxb
  obtain ⟨tX, qX0, qX1, qX2, qX3, qX4⟩ := M.q5 0 rfl
  go_wp2_with fail
  go_call (gReadyLine_any ts ks fs B0 B1 B2 e0 e1 e2 tn st _ (by omega) (M.rowS 1 rfl)) as r W3 ⟨LB, ld, rfl, g2⟩
  clear tX qX0 qX1 qX2 qX3 qX4
  replace M := Sep.new M g2
  clear g2
  simp only [List.cons_append, List.nil_append] at M
  have HV := hide (M.below : Below w.heap.size w W3)
  have HX := hide (⟨M.rowS 2 rfl, M.rowS 3 rfl, M.rowS 4 rfl⟩ : InPool W3 ts ks fs B0 B1 B2)
  have HL := hide (M.rowS 0 rfl : Row W3 LB (icells (readyM ts)))
  have HR := fun (y : KeptW W3) => sReadyLine_s ts ks fs B0 B1 B2 e0 e1 e2 tn st y.w (by omega) ((InPool.below HX.out y.below).1)
  have HC := fun (y : KeptW W3) => kept_call (gCountOf_any ts B0 B1 B2 e0 ks.length e1 fs.length e2 tn st 1 y.w (by omega) ((InPool.below HX.out y.below).1))
  have HF := fun (y : KeptW W3) => (gFirstReady_any ts ks fs B0 B1 B2 e0 e1 e2 tn st y.w (by omega) ((InPool.below HX.out y.below).1))
  have HP : ∀ i, i + 1 < (readyM ts).length → PairAt ts (readyM ts) i := fun i h => ready_pair h
  have h34 : (readyM ts).length ≤ 34 := by have := countM_le ts 1; have := ready_count ts; omega
  have hN : readyM ts = [] → firstM ts = -1 := first_none
  have hS : 0 < (readyM ts).length → (readyM ts)[0]? = some (firstM ts) := first_some
  rw [← ready_count ts] at HC
  obtain ⟨tX, qX0, qX1, qX2, qX3, qX4⟩ := M.q5 1 rfl
  clear M
  generalize readyM ts = L at *
  generalize firstM ts = f0 at *
  replace HR := hide HR
  replace HC := hide HC
  replace HF := hide HF
  replace HP := hide HP
  replace hN := hide hN
  replace hS := hide hS
  have cX0 := fun (x : KeptW W3) => KeptW.cell qX0 x
  have cX1 := fun (x : KeptW W3) => KeptW.cell qX1 x
  have cX2 := fun (x : KeptW W3) => KeptW.cell qX2 x
  have cX3 := fun (x : KeptW W3) => KeptW.cell qX3 x
  have cX4 := fun (x : KeptW W3) => KeptW.cell qX4 x
  clear qX0 qX1 qX2 qX3 qX4
  have hx0 := KeptW.mk'_w (Below.refl W3.heap.size W3)
  generalize KeptW.mk' (Below.refl W3.heap.size W3) = x0 at hx0
  rw [← hx0]
  clear hx0
  go_wp2_with fail
  go_call (HR.out x0) as r Wq ⟨LB2, ld2, rfl, g3⟩
  have g4 := g3.below
  have hr2 : Row Wq LB2 (icells L) := g3.rowS 0 rfl
  obtain ⟨x1, rfl⟩ : ∃ y : KeptW W3, Wq = y.w := ⟨KeptW.mk' (x0.below.trans (g4.mono x0.below.size)), rfl⟩
  clear g3 g4
  have HK := hide (kept_call (likeInts_same L LB LB2 ld ld2 x1.w (by omega) (Row.below HL.out x1.below) hr2))
  clear hr2
  go_wp2_with fail
  go_call (HK.out) as r Wq ⟨rfl, x2, rfl⟩
  clear HK
  go_wp2_with fail
  go_call (HC.out x2) as r Wq ⟨rfl, x3, rfl⟩
  go_wp2_with fail
  go_loopw [5] (fun i wr => ∃ (k : Nat) (x : KeptW W3), i = .int .i64 ((k + 1 : Nat) : Int) ∧ wr = x.w) (fun i _ => L.length - (intOf i).toNat)
  case atStart => exact ⟨0, x3, rfl, rfl⟩
  case round =>
    obtain ⟨k, x, rfl, rfl⟩ := hrel
    by_cases hlt : k + 1 < L.length
    · obtain ⟨lb, lo, b, off, xi, yi, s, l, o, wt, on, v, t, s', l', o', wt', on', v', t', eLB, eB0, hxi, hyi, hll, htt, hcell⟩ := line_cells (Row.below HL.out x.below) (InPool.below HX.out x.below).1 hlt (HP.out k hlt)
      have Hc := hide hcell
      clear hcell
      subst eLB eB0
      have M := Sep.start x.w
      go_wp2_with fail
      have hwr : IntKind.i64.wrap (k : Int) = (k : Int) := IntWalk.i64_in _ (by omega)
      have bk0 : (0 : Int) ≤ (k : Int) := by omega
      have bk1 : (k : Int) < (L.length : Int) := by omega
      have bk2 : (k : Int) + 1 < (L.length : Int) := by omega
      have bk3 : (0 : Int) ≤ (k : Int) + 1 := by omega
      have bx0 : (0 : Int) ≤ (xi : Int) := by omega
      have bx1 : (xi : Int) < (ts.length : Int) := by omega
      have by0 : (0 : Int) ≤ (yi : Int) := by omega
      have by1 : (yi : Int) < (ts.length : Int) := by omega
      have HS : Hid (∀ w', Below x.w.heap.size x.w w' → w'.cell? ⟨xb, 0, none⟩ = some (.slice (some ⟨b, off, none⟩) ts.length e0) ∧ w'.cell? ⟨lb, lo + k, none⟩ = some (.int .i64 xi) ∧ w'.cell? ⟨lb, lo + (k + 1), none⟩ = some (.int .i64 yi) ∧ w'.cell? ⟨b, off + xi * 7, none⟩ = some (.int .i64 s) ∧ w'.cell? ⟨b, off + xi * 7 + 1, none⟩ = some (.int .i64 l) ∧ w'.cell? ⟨b, off + xi * 7 + 2, none⟩ = some (.int .i64 o) ∧ w'.cell? ⟨b, off + xi * 7 + 3, none⟩ = some (.int .i64 wt) ∧ w'.cell? ⟨b, off + xi * 7 + 4, none⟩ = some (.int .i64 on) ∧ w'.cell? ⟨b, off + xi * 7 + 5, none⟩ = some (.int .i64 v) ∧ w'.cell? ⟨b, off + xi * 7 + 6, none⟩ = some (.int .i64 t) ∧ w'.cell? ⟨b, off + yi * 7, none⟩ = some (.int .i64 s') ∧ w'.cell? ⟨b, off + yi * 7 + 1, none⟩ = some (.int .i64 l') ∧ w'.cell? ⟨b, off + yi * 7 + 2, none⟩ = some (.int .i64 o') ∧ w'.cell? ⟨b, off + yi * 7 + 3, none⟩ = some (.int .i64 wt') ∧ w'.cell? ⟨b, off + yi * 7 + 4, none⟩ = some (.int .i64 on') ∧ w'.cell? ⟨b, off + yi * 7 + 5, none⟩ = some (.int .i64 v') ∧ w'.cell? ⟨b, off + yi * 7 + 6, none⟩ = some (.int .i64 t')) := hide (fun w' hw => ⟨KeptW.cell (cX0 x) ⟨w', hw⟩, Hc.out w' hw⟩)
      clear Hc
      refine wp_region_T (S := (fun w' => w'.cell? ⟨xb, 0, none⟩ = some (.slice (some ⟨b, off, none⟩) ts.length e0) ∧ w'.cell? ⟨lb, lo + k, none⟩ = some (.int .i64 xi) ∧ w'.cell? ⟨lb, lo + (k + 1), none⟩ = some (.int .i64 yi) ∧ w'.cell? ⟨b, off + xi * 7, none⟩ = some (.int .i64 s) ∧ w'.cell? ⟨b, off + xi * 7 + 1, none⟩ = some (.int .i64 l) ∧ w'.cell? ⟨b, off + xi * 7 + 2, none⟩ = some (.int .i64 o) ∧ w'.cell? ⟨b, off + xi * 7 + 3, none⟩ = some (.int .i64 wt) ∧ w'.cell? ⟨b, off + xi * 7 + 4, none⟩ = some (.int .i64 on) ∧ w'.cell? ⟨b, off + xi * 7 + 5, none⟩ = some (.int .i64 v) ∧ w'.cell? ⟨b, off + xi * 7 + 6, none⟩ = some (.int .i64 t) ∧ w'.cell? ⟨b, off + yi * 7, none⟩ = some (.int .i64 s') ∧ w'.cell? ⟨b, off + yi * 7 + 1, none⟩ = some (.int .i64 l') ∧ w'.cell? ⟨b, off + yi * 7 + 2, none⟩ = some (.int .i64 o') ∧ w'.cell? ⟨b, off + yi * 7 + 3, none⟩ = some (.int .i64 wt') ∧ w'.cell? ⟨b, off + yi * 7 + 4, none⟩ = some (.int .i64 on') ∧ w'.cell? ⟨b, off + yi * 7 + 5, none⟩ = some (.int .i64 v') ∧ w'.cell? ⟨b, off + yi * 7 + 6, none⟩ = some (.int .i64 t'))) (ks := [10]) (by kernel_rfl) (HS.out _ M.drew.below) (fun hHeld => ?_)
      replace M := M.drew
      generalize x.w.drew = W21 at M hHeld ⊢
      refine wpAnyT_takeY (i := 0) (v := ?v0u1) rfl (by kernel_rfl) (by kernel_rfl) (by kernel_rfl) (by kernel_rfl) (fun _ _ _ h => h) (by rfl) ?hy0u1 (fun _ => hHeld) ?rest0u1
      case hy0u1 => (intro w; go_simp; all_goals with_reducible rfl)
      try simp only [Act.put, List.setIfInBounds_toArray, List.set_cons_zero, List.set_cons_succ]
      refine wpAnyT_takeY (i := 2) (v := ?v2u2) rfl (by kernel_rfl) (by kernel_rfl) (by kernel_rfl) (by kernel_rfl) (fun _ _ _ h => h) (by rfl) ?hy2u2 (fun _ => hHeld) ?rest2u2
      case hy2u2 => (intro w; go_simp; all_goals with_reducible rfl)
      try simp only [Act.put, List.setIfInBounds_toArray, List.set_cons_zero, List.set_cons_succ]
      refine wpAnyT_takeY (i := 3) (v := ?v3u3) rfl (by kernel_rfl) (by kernel_rfl) (by kernel_rfl) (by kernel_rfl) (fun _ _ _ h => h) (by rfl) ?hy3u3 (fun _ => hHeld) ?rest3u3
      case hy3u3 => (intro w; go_simp; all_goals with_reducible rfl)
      try simp only [Act.put, List.setIfInBounds_toArray, List.set_cons_zero, List.set_cons_succ]
      refine wpAnyT_takeL (i := 1) (v := ?v1u4) rfl (by kernel_rfl) (by kernel_rfl) (by kernel_rfl) (by kernel_rfl) (by kernel_rfl) (fun _ _ _ h => h) (by rfl) ?hy1u4 hHeld ?rest1u4
      case hy1u4 => (intro w hSw; (try dsimp only at hSw); go_split_ands; go_simp; all_goals with_reducible rfl)
      try simp only [Act.put, List.setIfInBounds_toArray, List.set_cons_zero, List.set_cons_succ]
      refine wpAnyT_takeY (i := 4) (v := ?v4u5) rfl (by kernel_rfl) (by kernel_rfl) (by kernel_rfl) (by kernel_rfl) (fun _ _ _ h => h) (by rfl) ?hy4u5 (fun _ => hHeld) ?rest4u5
      case hy4u5 => (intro w; go_simp; all_goals with_reducible rfl)
      try simp only [Act.put, List.setIfInBounds_toArray, List.set_cons_zero, List.set_cons_succ]
      refine wpAnyT_takeY (i := 5) (v := ?v5u6) rfl (by kernel_rfl) (by kernel_rfl) (by kernel_rfl) (by kernel_rfl) (fun _ _ _ h => h) (by rfl) ?hy5u6 (fun _ => hHeld) ?rest5u6
      case hy5u6 => (intro w; go_simp; all_goals with_reducible rfl)
      try simp only [Act.put, List.setIfInBounds_toArray, List.set_cons_zero, List.set_cons_succ]
      refine wpAnyT_takeL (i := 6) (v := ?v6u7) rfl (by kernel_rfl) (by kernel_rfl) (by kernel_rfl) (by kernel_rfl) (by kernel_rfl) (fun _ _ _ h => h) (by rfl) ?hy6u7 hHeld ?rest6u7
      case hy6u7 => (intro w hSw; (try dsimp only at hSw); go_split_ands; go_simp; all_goals with_reducible rfl)
      try simp only [Act.put, List.setIfInBounds_toArray, List.set_cons_zero, List.set_cons_succ]
      refine wpAnyT_takeY (i := 7) (v := ?v7u8) rfl (by kernel_rfl) (by kernel_rfl) (by kernel_rfl) (by kernel_rfl) (fun _ _ _ h => h) (by rfl) ?hy7u8 (fun _ => hHeld) ?rest7u8
      case hy7u8 => (intro w; go_simp; all_goals with_reducible rfl)
      try simp only [Act.put, List.setIfInBounds_toArray, List.set_cons_zero, List.set_cons_succ]
      refine wpAnyT_takeL (i := 8) (v := ?v8u9) rfl (by kernel_rfl) (by kernel_rfl) (by kernel_rfl) (by kernel_rfl) (by kernel_rfl) (fun _ _ _ h => h) (by rfl) ?hy8u9 hHeld ?rest8u9
      case hy8u9 => (intro w hSw; (try dsimp only at hSw); go_split_ands; go_simp; all_goals with_reducible rfl)
      try simp only [Act.put, List.setIfInBounds_toArray, List.set_cons_zero, List.set_cons_succ]
      refine wpAnyT_callL (i := 9) rfl (by kernel_rfl) (fun K hK => ?_)
      go_simp
      clear hHeld
      have N := M.galloc 46 #[.int .i64 0, .int .i64 0, .int .i64 0, .int .i64 0, .int .i64 0, .int .i64 0, .int .i64 0]
      clear M
      obtain ⟨W22, eW, M⟩ := N
      rw [eW]
      clear eW
      refine hK.out _ _ (HS.out _ M.below) (fun hHeld => ?_)
      clear hK K
      try simp only [Act.put, List.setIfInBounds_toArray, List.set_cons_zero, List.set_cons_succ]
      obtain ⟨ta, qa0, fa0, qa1, fa1, qa2, fa2, qa3, fa3, qa4, fa4, qa5, fa5, qa6, fa6⟩ := M.f7 0 rfl
      refine wpAnyT_oneL (i := 10) rfl (by kernel_rfl) (by kernel_rfl) (fun K hK => ?_)
      go_simp
      refine hK.out _ _ ?_
      clear hK K
      try simp only [Act.put, List.setIfInBounds_toArray, List.set_cons_zero, List.set_cons_succ]
      clear ta qa0 fa0 qa1 fa1 qa2 fa2 qa3 fa3 qa4 fa4 qa5 fa5 qa6 fa6
      replace M : Sep [] x.w (((((((W22.setCell ⟨W21.heap.size, 0, none⟩ (.int .i64 s)).setCell ⟨W21.heap.size, 1, none⟩ (.int .i64 l)).setCell ⟨W21.heap.size, 2, none⟩ (.int .i64 o)).setCell ⟨W21.heap.size, 3, none⟩ (.int .i64 wt)).setCell ⟨W21.heap.size, 4, none⟩ (.int .i64 on)).setCell ⟨W21.heap.size, 5, none⟩ (.int .i64 v)).setCell ⟨W21.heap.size, 6, none⟩ (.int .i64 t)) [.blk (W21.heap.size) 46 #[.int .i64 s, .int .i64 l, .int .i64 o, .int .i64 wt, .int .i64 on, .int .i64 v, .int .i64 t]] := (((((((M.set 0 rfl 0 (.int .i64 s)).set 0 rfl 1 (.int .i64 l)).set 0 rfl 2 (.int .i64 o)).set 0 rfl 3 (.int .i64 wt)).set 0 rfl 4 (.int .i64 on)).set 0 rfl 5 (.int .i64 v)).set 0 rfl 6 (.int .i64 t))
      generalize ((((((W22.setCell ⟨W21.heap.size, 0, none⟩ (.int .i64 s)).setCell ⟨W21.heap.size, 1, none⟩ (.int .i64 l)).setCell ⟨W21.heap.size, 2, none⟩ (.int .i64 o)).setCell ⟨W21.heap.size, 3, none⟩ (.int .i64 wt)).setCell ⟨W21.heap.size, 4, none⟩ (.int .i64 on)).setCell ⟨W21.heap.size, 5, none⟩ (.int .i64 v)).setCell ⟨W21.heap.size, 6, none⟩ (.int .i64 t) = W23 at M ⊢
      refine wpAnyT_done (by kernel_rfl) ?_ _
      go_wp2_with fail
      refine wp_region_T (S := (fun w' => w'.cell? ⟨xb, 0, none⟩ = some (.slice (some ⟨b, off, none⟩) ts.length e0) ∧ w'.cell? ⟨lb, lo + k, none⟩ = some (.int .i64 xi) ∧ w'.cell? ⟨lb, lo + (k + 1), none⟩ = some (.int .i64 yi) ∧ w'.cell? ⟨b, off + xi * 7, none⟩ = some (.int .i64 s) ∧ w'.cell? ⟨b, off + xi * 7 + 1, none⟩ = some (.int .i64 l) ∧ w'.cell? ⟨b, off + xi * 7 + 2, none⟩ = some (.int .i64 o) ∧ w'.cell? ⟨b, off + xi * 7 + 3, none⟩ = some (.int .i64 wt) ∧ w'.cell? ⟨b, off + xi * 7 + 4, none⟩ = some (.int .i64 on) ∧ w'.cell? ⟨b, off + xi * 7 + 5, none⟩ = some (.int .i64 v) ∧ w'.cell? ⟨b, off + xi * 7 + 6, none⟩ = some (.int .i64 t) ∧ w'.cell? ⟨b, off + yi * 7, none⟩ = some (.int .i64 s') ∧ w'.cell? ⟨b, off + yi * 7 + 1, none⟩ = some (.int .i64 l') ∧ w'.cell? ⟨b, off + yi * 7 + 2, none⟩ = some (.int .i64 o') ∧ w'.cell? ⟨b, off + yi * 7 + 3, none⟩ = some (.int .i64 wt') ∧ w'.cell? ⟨b, off + yi * 7 + 4, none⟩ = some (.int .i64 on') ∧ w'.cell? ⟨b, off + yi * 7 + 5, none⟩ = some (.int .i64 v') ∧ w'.cell? ⟨b, off + yi * 7 + 6, none⟩ = some (.int .i64 t'))) (ks := [9]) (by kernel_rfl) (HS.out _ M.drew.below) (fun hHeld => ?_)
      replace M := M.drew
      generalize W23.drew = W24 at M hHeld ⊢
      refine wpAnyT_takeY (i := 0) (v := ?v0u10) rfl (by kernel_rfl) (by kernel_rfl) (by kernel_rfl) (by kernel_rfl) (fun _ _ _ h => h) (by rfl) ?hy0u10 (fun _ => hHeld) ?rest0u10
      case hy0u10 => (intro w; go_simp; all_goals with_reducible rfl)
      try simp only [Act.put, List.setIfInBounds_toArray, List.set_cons_zero, List.set_cons_succ]
      refine wpAnyT_takeY (i := 2) (v := ?v2u11) rfl (by kernel_rfl) (by kernel_rfl) (by kernel_rfl) (by kernel_rfl) (fun _ _ _ h => h) (by rfl) ?hy2u11 (fun _ => hHeld) ?rest2u11
      case hy2u11 => (intro w; go_simp; all_goals with_reducible rfl)
      try simp only [Act.put, List.setIfInBounds_toArray, List.set_cons_zero, List.set_cons_succ]
      refine wpAnyT_takeY (i := 3) (v := ?v3u12) rfl (by kernel_rfl) (by kernel_rfl) (by kernel_rfl) (by kernel_rfl) (fun _ _ _ h => h) (by rfl) ?hy3u12 (fun _ => hHeld) ?rest3u12
      case hy3u12 => (intro w; go_simp; all_goals with_reducible rfl)
      try simp only [Act.put, List.setIfInBounds_toArray, List.set_cons_zero, List.set_cons_succ]
      refine wpAnyT_takeL (i := 1) (v := ?v1u13) rfl (by kernel_rfl) (by kernel_rfl) (by kernel_rfl) (by kernel_rfl) (by kernel_rfl) (fun _ _ _ h => h) (by rfl) ?hy1u13 hHeld ?rest1u13
      case hy1u13 => (intro w hSw; (try dsimp only at hSw); go_split_ands; go_simp; all_goals with_reducible rfl)
      try simp only [Act.put, List.setIfInBounds_toArray, List.set_cons_zero, List.set_cons_succ]
      refine wpAnyT_takeY (i := 4) (v := ?v4u14) rfl (by kernel_rfl) (by kernel_rfl) (by kernel_rfl) (by kernel_rfl) (fun _ _ _ h => h) (by rfl) ?hy4u14 (fun _ => hHeld) ?rest4u14
      case hy4u14 => (intro w; go_simp; all_goals with_reducible rfl)
      try simp only [Act.put, List.setIfInBounds_toArray, List.set_cons_zero, List.set_cons_succ]
      refine wpAnyT_takeL (i := 5) (v := ?v5u15) rfl (by kernel_rfl) (by kernel_rfl) (by kernel_rfl) (by kernel_rfl) (by kernel_rfl) (fun _ _ _ h => h) (by rfl) ?hy5u15 hHeld ?rest5u15
      case hy5u15 => (intro w hSw; (try dsimp only at hSw); go_split_ands; go_simp; all_goals with_reducible rfl)
      try simp only [Act.put, List.setIfInBounds_toArray, List.set_cons_zero, List.set_cons_succ]
      refine wpAnyT_takeY (i := 6) (v := ?v6u16) rfl (by kernel_rfl) (by kernel_rfl) (by kernel_rfl) (by kernel_rfl) (fun _ _ _ h => h) (by rfl) ?hy6u16 (fun _ => hHeld) ?rest6u16
      case hy6u16 => (intro w; go_simp; all_goals with_reducible rfl)
      try simp only [Act.put, List.setIfInBounds_toArray, List.set_cons_zero, List.set_cons_succ]
      refine wpAnyT_takeL (i := 7) (v := ?v7u17) rfl (by kernel_rfl) (by kernel_rfl) (by kernel_rfl) (by kernel_rfl) (by kernel_rfl) (fun _ _ _ h => h) (by rfl) ?hy7u17 hHeld ?rest7u17
      case hy7u17 => (intro w hSw; (try dsimp only at hSw); go_split_ands; go_simp; all_goals with_reducible rfl)
      try simp only [Act.put, List.setIfInBounds_toArray, List.set_cons_zero, List.set_cons_succ]
      refine wpAnyT_callL (i := 8) rfl (by kernel_rfl) (fun K hK => ?_)
      go_simp
      clear hHeld
      have N := M.galloc 46 #[.int .i64 0, .int .i64 0, .int .i64 0, .int .i64 0, .int .i64 0, .int .i64 0, .int .i64 0]
      clear M
      obtain ⟨W25, eW, M⟩ := N
      rw [eW]
      clear eW
      refine hK.out _ _ (HS.out _ M.below) (fun hHeld => ?_)
      clear hK K
      try simp only [Act.put, List.setIfInBounds_toArray, List.set_cons_zero, List.set_cons_succ]
      obtain ⟨tb, qb0, fb0, qb1, fb1, qb2, fb2, qb3, fb3, qb4, fb4, qb5, fb5, qb6, fb6⟩ := M.f7 0 rfl
      refine wpAnyT_oneL (i := 9) rfl (by kernel_rfl) (by kernel_rfl) (fun K hK => ?_)
      go_simp
      refine hK.out _ _ ?_
      clear hK K
      try simp only [Act.put, List.setIfInBounds_toArray, List.set_cons_zero, List.set_cons_succ]
      clear tb qb0 fb0 qb1 fb1 qb2 fb2 qb3 fb3 qb4 fb4 qb5 fb5 qb6 fb6
      replace M : Sep [] x.w (((((((W25.setCell ⟨W24.heap.size, 0, none⟩ (.int .i64 s')).setCell ⟨W24.heap.size, 1, none⟩ (.int .i64 l')).setCell ⟨W24.heap.size, 2, none⟩ (.int .i64 o')).setCell ⟨W24.heap.size, 3, none⟩ (.int .i64 wt')).setCell ⟨W24.heap.size, 4, none⟩ (.int .i64 on')).setCell ⟨W24.heap.size, 5, none⟩ (.int .i64 v')).setCell ⟨W24.heap.size, 6, none⟩ (.int .i64 t')) [.blk (W24.heap.size) 46 #[.int .i64 s', .int .i64 l', .int .i64 o', .int .i64 wt', .int .i64 on', .int .i64 v', .int .i64 t'], .blk (W21.heap.size) 46 #[.int .i64 s, .int .i64 l, .int .i64 o, .int .i64 wt, .int .i64 on, .int .i64 v, .int .i64 t]] := (((((((M.set 0 rfl 0 (.int .i64 s')).set 0 rfl 1 (.int .i64 l')).set 0 rfl 2 (.int .i64 o')).set 0 rfl 3 (.int .i64 wt')).set 0 rfl 4 (.int .i64 on')).set 0 rfl 5 (.int .i64 v')).set 0 rfl 6 (.int .i64 t'))
      generalize ((((((W25.setCell ⟨W24.heap.size, 0, none⟩ (.int .i64 s')).setCell ⟨W24.heap.size, 1, none⟩ (.int .i64 l')).setCell ⟨W24.heap.size, 2, none⟩ (.int .i64 o')).setCell ⟨W24.heap.size, 3, none⟩ (.int .i64 wt')).setCell ⟨W24.heap.size, 4, none⟩ (.int .i64 on')).setCell ⟨W24.heap.size, 5, none⟩ (.int .i64 v')).setCell ⟨W24.heap.size, 6, none⟩ (.int .i64 t') = W26 at M ⊢
      refine wpAnyT_done (by kernel_rfl) ?_ _
      obtain ⟨tb, qb0, qb1, qb2, qb3, qb4, qb5, qb6⟩ := M.q7 0 rfl
      obtain ⟨ta, qa0, qa1, qa2, qa3, qa4, qa5, qa6⟩ := M.q7 1 rfl
      have hll2 : ¬ l < l' := by omega
      by_cases hq : l = l'
      · have htt2 : ¬ t > t' := by have := htt hq; omega
        subst hq
        go_wp2_with fail
        go_roundw
        case rel => exact ⟨k + 1, KeptW.mk' (x.below.trans (M.below.mono x.below.size)), by go_num, rfl⟩
        case measure => simp [intOf]; omega
      · go_wp2_with fail
        go_roundw
        case rel => exact ⟨k + 1, KeptW.mk' (x.below.trans (M.below.mono x.below.size)), by go_num, rfl⟩
        case measure => simp [intOf]; omega
    · have hby2 : Bytes x.w w.heap.size A len := hby.keep fun b hb => (HV.out.trans (x.below.mono HV.out.size)).block b hb
      go_wp2_with fail
      go_call (drawWait_any w.heap.size _ A len cap (by have h1 := HV.out.size; have h2 := x.below.size; omega) hl hby2) as r Wd ⟨ys, yk, yf, yn, yt, Y0, Y1, Y2, i0, i1, i2, wt, on, rfl, g0, g1, g2, M⟩
      clear hby2
      have tXd : xb < Wd.heap.size := by have h1 := x.below.size; have h2 := M.size; omega
      have eX0 := cell_at_below M.below (cX0 x)
      have eX1 := cell_at_below M.below (cX1 x)
      have eX2 := cell_at_below M.below (cX2 x)
      have eX3 := cell_at_below M.below (cX3 x)
      have eX4 := cell_at_below M.below (cX4 x)
      go_wp2_with fail
      clear eX0 eX1 eX2 eX3 eX4
      have N := M.galloc 34 #[.slice Y0 ys.length i0, .slice Y1 yk.length i1, .slice Y2 yf.length i2, .int .i64 yn, .bool yt]
      clear M
      obtain ⟨W61, eW, M⟩ := N
      rw [eW]
      clear eW
      obtain ⟨yb, hyb⟩ : ∃ yb, yb = Wd.heap.size := ⟨_, rfl⟩
      rw [← hyb] at M ⊢
      clear hyb
      obtain ⟨y, hy⟩ : ∃ y : KeptW W3, y.w = W61 := ⟨KeptW.mk' (x.below.trans (M.below.mono x.below.size)), rfl⟩
      have HG : Calls Try.prog 27 #[.agg #[.slice B0 ts.length e0, .slice B1 ks.length e1, .slice B2 fs.length e2, .int .i64 tn, .bool st]] W61 fun r w' => r = .returned (.int .i64 f0) ∧ Below W61.heap.size W61 w' := by
        rw [← hy]
        exact HF.out y
      replace HG := hide HG
      go_call (HG.out) as r W62 ⟨rfl, g3⟩
      replace M := M.call g3
      clear g3 HG hy
      go_wp2_with fail
      by_cases hL0 : L = []
      · have hwl : (waitersM ys wt on).length ≤ 34 := by have := lineM_length (waitQ ys wt on) (waitP ys) ys.length; unfold waitersM; omega
        have hf := hN.out hL0
        subst hf hL0
        refine wp_region_T (S := (fun w' => w'.cell? ⟨yb, 0, none⟩ = some (.slice Y0 ys.length i0) ∧ w'.cell? ⟨yb, 1, none⟩ = some (.slice Y1 yk.length i1) ∧ w'.cell? ⟨yb, 2, none⟩ = some (.slice Y2 yf.length i2) ∧ w'.cell? ⟨yb, 3, none⟩ = some (.int .i64 yn) ∧ w'.cell? ⟨yb, 4, none⟩ = some (.bool yt))) (ks := []) (by kernel_rfl) ⟨M.cell 0 0 rfl, M.cell 0 1 rfl, M.cell 0 2 rfl, M.cell 0 3 rfl, M.cell 0 4 rfl⟩ (fun hHeld => ?_)
        replace M := M.drew
        generalize W62.drew = W63 at M hHeld ⊢
        refine wpAnyT_takeL (i := 0) (v := ?v0u18) rfl (by kernel_rfl) (by kernel_rfl) (by kernel_rfl) (by kernel_rfl) (by kernel_rfl) (fun _ _ _ h => h) (by rfl) ?hy0u18 hHeld ?rest0u18
        case hy0u18 => (intro w hSw; (try dsimp only at hSw); go_split_ands; go_simp; all_goals with_reducible rfl)
        try simp only [Act.put, List.setIfInBounds_toArray, List.set_cons_zero, List.set_cons_succ]
        refine wpAnyT_takeY (i := 1) (v := ?v1u19) rfl (by kernel_rfl) (by kernel_rfl) (by kernel_rfl) (by kernel_rfl) (fun _ _ _ h => h) (by rfl) ?hy1u19 (fun _ => hHeld) ?rest1u19
        case hy1u19 => (intro w; go_simp; all_goals with_reducible rfl)
        try simp only [Act.put, List.setIfInBounds_toArray, List.set_cons_zero, List.set_cons_succ]
        refine wpAnyT_takeY (i := 2) (v := ?v2u20) rfl (by kernel_rfl) (by kernel_rfl) (by kernel_rfl) (by kernel_rfl) (fun _ _ _ h => h) (by rfl) ?hy2u20 (fun _ => hHeld) ?rest2u20
        case hy2u20 => (intro w; go_simp; all_goals with_reducible rfl)
        try simp only [Act.put, List.setIfInBounds_toArray, List.set_cons_zero, List.set_cons_succ]
        refine wpAnyT_takeL (i := 4) (v := ?v4u21) rfl (by kernel_rfl) (by kernel_rfl) (by kernel_rfl) (by kernel_rfl) (by kernel_rfl) (fun _ _ _ h => h) (by rfl) ?hy4u21 hHeld ?rest4u21
        case hy4u21 => (intro w hSw; (try dsimp only at hSw); go_split_ands; go_simp; all_goals with_reducible rfl)
        try simp only [Act.put, List.setIfInBounds_toArray, List.set_cons_zero, List.set_cons_succ]
        refine wpAnyT_takeY (i := 5) (v := ?v5u22) rfl (by kernel_rfl) (by kernel_rfl) (by kernel_rfl) (by kernel_rfl) (fun _ _ _ h => h) (by rfl) ?hy5u22 (fun _ => hHeld) ?rest5u22
        case hy5u22 => (intro w; go_simp; all_goals with_reducible rfl)
        try simp only [Act.put, List.setIfInBounds_toArray, List.set_cons_zero, List.set_cons_succ]
        refine wpAnyT_takeY (i := 6) (v := ?v6u23) rfl (by kernel_rfl) (by kernel_rfl) (by kernel_rfl) (by kernel_rfl) (fun _ _ _ h => h) (by rfl) ?hy6u23 (fun _ => hHeld) ?rest6u23
        case hy6u23 => (intro w; go_simp; all_goals with_reducible rfl)
        try simp only [Act.put, List.setIfInBounds_toArray, List.set_cons_zero, List.set_cons_succ]
        refine wpAnyT_callL (i := 3) rfl (by kernel_rfl) (fun K hK => ?_)
        go_simp
        refine Calls.mono (by with_reducible exact (gWaitersOn_any ys yk yf Y0 Y1 Y2 i0 i1 i2 yn yt wt on _ (by omega) (M.rowS 1 rfl))) ?_
        rintro r W64 ⟨C1, d1, rfl, g1⟩
        replace M := Sep.new M g1
        simp only [List.cons_append, List.nil_append] at M
        clear g1 hHeld
        go_wp2_with fail
        refine hK.out _ _ ?_ (fun hHeld => ?_)
        · exact ⟨M.cell 1 0 rfl, M.cell 1 1 rfl, M.cell 1 2 rfl, M.cell 1 3 rfl, M.cell 1 4 rfl⟩
        clear hK K
        try simp only [Act.put, List.setIfInBounds_toArray, List.set_cons_zero, List.set_cons_succ]
        refine wpAnyT_callL (i := 7) rfl (by kernel_rfl) (fun K hK => ?_)
        go_simp
        refine Calls.mono (by with_reducible exact (sWaitersOn_s ys yk yf Y0 Y1 Y2 i0 i1 i2 yn yt wt on _ (by omega) (M.rowS 2 rfl))) ?_
        rintro r W65 ⟨C2, d2, rfl, g1⟩
        replace M := Sep.new M g1
        simp only [List.cons_append, List.nil_append] at M
        clear g1 hHeld
        go_wp2_with fail
        refine hK.out _ _ ?_ (fun hHeld => ?_)
        · exact ⟨M.cell 2 0 rfl, M.cell 2 1 rfl, M.cell 2 2 rfl, M.cell 2 3 rfl, M.cell 2 4 rfl⟩
        clear hK K
        try simp only [Act.put, List.setIfInBounds_toArray, List.set_cons_zero, List.set_cons_succ]
        refine wpAnyT_callL (i := 8) rfl (by kernel_rfl) (fun K hK => ?_)
        go_simp
        refine Calls.mono (by with_reducible exact (likeInts_same (waitersM ys wt on) C1 C2 d1 d2 _ (by omega) (M.rowS 1 rfl) (M.rowS 0 rfl))) ?_
        rintro r W66 ⟨rfl, g1⟩
        replace M := M.call g1
        clear g1 hHeld
        go_wp2_with fail
        refine hK.out _ _ ?_ (fun hHeld => ?_)
        · exact ⟨M.cell 2 0 rfl, M.cell 2 1 rfl, M.cell 2 2 rfl, M.cell 2 3 rfl, M.cell 2 4 rfl⟩
        clear hK K
        try simp only [Act.put, List.setIfInBounds_toArray, List.set_cons_zero, List.set_cons_succ]
        refine wpAnyT_takeY (i := 9) (v := ?v9u24) rfl (by kernel_rfl) (by kernel_rfl) (by kernel_rfl) (by kernel_rfl) (fun _ _ _ h => h) (by rfl) ?hy9u24 (fun _ => hHeld) ?rest9u24
        case hy9u24 => (intro w; go_simp; all_goals with_reducible rfl)
        try simp only [Act.put, List.setIfInBounds_toArray, List.set_cons_zero, List.set_cons_succ]
        refine wpAnyT_takeY (i := 10) (v := ?v10u25) rfl (by kernel_rfl) (by kernel_rfl) (by kernel_rfl) (by kernel_rfl) (fun _ _ _ h => h) (by rfl) ?hy10u25 (fun _ => hHeld) ?rest10u25
        case hy10u25 => (intro w; go_simp; all_goals with_reducible rfl)
        try simp only [Act.put, List.setIfInBounds_toArray, List.set_cons_zero, List.set_cons_succ]
        refine wpAnyT_takeY (i := 11) (v := ?v11u26) rfl (by kernel_rfl) (by kernel_rfl) (by kernel_rfl) (by kernel_rfl) (fun _ _ _ h => h) (by rfl) ?hy11u26 (fun _ => hHeld) ?rest11u26
        case hy11u26 => (intro w; go_simp; all_goals with_reducible rfl)
        try simp only [Act.put, List.setIfInBounds_toArray, List.set_cons_zero, List.set_cons_succ]
        refine wpAnyT_takeY (i := 12) (v := ?v12u27) rfl (by kernel_rfl) (by kernel_rfl) (by kernel_rfl) (by kernel_rfl) (fun _ _ _ h => h) (by rfl) ?hy12u27 (fun _ => hHeld) ?rest12u27
        case hy12u27 => (intro w; go_simp; all_goals with_reducible rfl)
        try simp only [Act.put, List.setIfInBounds_toArray, List.set_cons_zero, List.set_cons_succ]
        refine wpAnyT_takeY (i := 13) (v := ?v13u28) rfl (by kernel_rfl) (by kernel_rfl) (by kernel_rfl) (by kernel_rfl) (fun _ _ _ h => h) (by rfl) ?hy13u28 (fun _ => hHeld) ?rest13u28
        case hy13u28 => (intro w; go_simp; all_goals with_reducible rfl)
        try simp only [Act.put, List.setIfInBounds_toArray, List.set_cons_zero, List.set_cons_succ]
        refine wpAnyT_takeY (i := 14) (v := ?v14u29) rfl (by kernel_rfl) (by kernel_rfl) (by kernel_rfl) (by kernel_rfl) (fun _ _ _ h => h) (by rfl) ?hy14u29 (fun _ => hHeld) ?rest14u29
        case hy14u29 => (intro w; go_simp; all_goals with_reducible rfl)
        try simp only [Act.put, List.setIfInBounds_toArray, List.set_cons_zero, List.set_cons_succ]
        refine wpAnyT_takeY (i := 15) (v := ?v15u30) rfl (by kernel_rfl) (by kernel_rfl) (by kernel_rfl) (by kernel_rfl) (fun _ _ _ h => h) (by rfl) ?hy15u30 (fun _ => hHeld) ?rest15u30
        case hy15u30 => (intro w; go_simp; all_goals with_reducible rfl)
        try simp only [Act.put, List.setIfInBounds_toArray, List.set_cons_zero, List.set_cons_succ]
        refine wpAnyT_takeY (i := 16) (v := ?v16u31) rfl (by kernel_rfl) (by kernel_rfl) (by kernel_rfl) (by kernel_rfl) (fun _ _ _ h => h) (by rfl) ?hy16u31 (fun _ => hHeld) ?rest16u31
        case hy16u31 => (intro w; go_simp; all_goals with_reducible rfl)
        try simp only [Act.put, List.setIfInBounds_toArray, List.set_cons_zero, List.set_cons_succ]
        refine wpAnyT_takeY (i := 17) (v := ?v17u32) rfl (by kernel_rfl) (by kernel_rfl) (by kernel_rfl) (by kernel_rfl) (fun _ _ _ h => h) (by rfl) ?hy17u32 (fun _ => hHeld) ?rest17u32
        case hy17u32 => (intro w; go_simp; all_goals with_reducible rfl)
        try simp only [Act.put, List.setIfInBounds_toArray, List.set_cons_zero, List.set_cons_succ]
        refine wpAnyT_takeN (i := 18) rfl (by kernel_rfl) (by kernel_rfl) (by kernel_rfl) (by kernel_rfl) (fun _ _ _ h => h) (by rfl) (fun _ => hHeld) ?rest18u33
        try simp only [Act.put, List.setIfInBounds_toArray, List.set_cons_zero, List.set_cons_succ]
        refine wpAnyT_takeN (i := 19) rfl (by kernel_rfl) (by kernel_rfl) (by kernel_rfl) (by kernel_rfl) (fun _ _ _ h => h) (by rfl) (fun _ => hHeld) ?rest19u34
        try simp only [Act.put, List.setIfInBounds_toArray, List.set_cons_zero, List.set_cons_succ]
        refine wpAnyT_takeN (i := 20) rfl (by kernel_rfl) (by kernel_rfl) (by kernel_rfl) (by kernel_rfl) (fun _ _ _ h => h) (by rfl) (fun _ => hHeld) ?rest20u35
        try simp only [Act.put, List.setIfInBounds_toArray, List.set_cons_zero, List.set_cons_succ]
        refine wpAnyT_takeN (i := 21) rfl (by kernel_rfl) (by kernel_rfl) (by kernel_rfl) (by kernel_rfl) (fun _ _ _ h => h) (by rfl) (fun _ => hHeld) ?rest21u36
        try simp only [Act.put, List.setIfInBounds_toArray, List.set_cons_zero, List.set_cons_succ]
        refine wpAnyT_takeN (i := 22) rfl (by kernel_rfl) (by kernel_rfl) (by kernel_rfl) (by kernel_rfl) (fun _ _ _ h => h) (by rfl) (fun _ => hHeld) ?rest22u37
        try simp only [Act.put, List.setIfInBounds_toArray, List.set_cons_zero, List.set_cons_succ]
        refine wpAnyT_takeN (i := 23) rfl (by kernel_rfl) (by kernel_rfl) (by kernel_rfl) (by kernel_rfl) (fun _ _ _ h => h) (by rfl) (fun _ => hHeld) ?rest23u38
        try simp only [Act.put, List.setIfInBounds_toArray, List.set_cons_zero, List.set_cons_succ]
        refine wpAnyT_takeN (i := 24) rfl (by kernel_rfl) (by kernel_rfl) (by kernel_rfl) (by kernel_rfl) (fun _ _ _ h => h) (by rfl) (fun _ => hHeld) ?rest24u39
        try simp only [Act.put, List.setIfInBounds_toArray, List.set_cons_zero, List.set_cons_succ]
        refine wpAnyT_takeN (i := 25) rfl (by kernel_rfl) (by kernel_rfl) (by kernel_rfl) (by kernel_rfl) (fun _ _ _ h => h) (by rfl) (fun _ => hHeld) ?rest25u40
        try simp only [Act.put, List.setIfInBounds_toArray, List.set_cons_zero, List.set_cons_succ]
        refine wpAnyT_takeN (i := 26) rfl (by kernel_rfl) (by kernel_rfl) (by kernel_rfl) (by kernel_rfl) (fun _ _ _ h => h) (by rfl) (fun _ => hHeld) ?rest26u41
        try simp only [Act.put, List.setIfInBounds_toArray, List.set_cons_zero, List.set_cons_succ]
        refine wpAnyT_takeN (i := 27) rfl (by kernel_rfl) (by kernel_rfl) (by kernel_rfl) (by kernel_rfl) (fun _ _ _ h => h) (by rfl) (fun _ => hHeld) ?rest27u42
        try simp only [Act.put, List.setIfInBounds_toArray, List.set_cons_zero, List.set_cons_succ]
        refine wpAnyT_takeY (i := 28) (v := ?v28u43) rfl (by kernel_rfl) (by kernel_rfl) (by kernel_rfl) (by kernel_rfl) (fun _ _ _ h => h) (by rfl) ?hy28u43 (fun _ => hHeld) ?rest28u43
        case hy28u43 => (intro w; go_simp; all_goals with_reducible rfl)
        try simp only [Act.put, List.setIfInBounds_toArray, List.set_cons_zero, List.set_cons_succ]
        refine wpAnyT_takeY (i := 29) (v := ?v29u44) rfl (by kernel_rfl) (by kernel_rfl) (by kernel_rfl) (by kernel_rfl) (fun _ _ _ h => h) (by rfl) ?hy29u44 (fun _ => hHeld) ?rest29u44
        case hy29u44 => (intro w; go_simp; all_goals with_reducible rfl)
        try simp only [Act.put, List.setIfInBounds_toArray, List.set_cons_zero, List.set_cons_succ]
        refine wpAnyT_takeY (i := 30) (v := ?v30u45) rfl (by kernel_rfl) (by kernel_rfl) (by kernel_rfl) (by kernel_rfl) (fun _ _ _ h => h) (by rfl) ?hy30u45 (fun _ => hHeld) ?rest30u45
        case hy30u45 => (intro w; go_simp; all_goals with_reducible rfl)
        try simp only [Act.put, List.setIfInBounds_toArray, List.set_cons_zero, List.set_cons_succ]
        refine wpAnyT_done (by kernel_rfl) ?_ _
        go_wp2
        go_ret
        exact ⟨rfl, HV.out.trans ((x.below.trans (M.below.mono x.below.size)).mono HV.out.size)⟩
      · have hwl : (waitersM ys wt on).length ≤ 34 := by have := lineM_length (waitQ ys wt on) (waitP ys) ys.length; unfold waitersM; omega
        have hlp : 0 < L.length := List.length_pos_iff.2 hL0
        obtain ⟨lb, lo, u1, eLB, _, hu1, _, z1⟩ := (Row.below HL.out x.below).ks_at hlp
        rw [hS.out hlp] at hu1
        injection hu1 with hu1
        subst hu1 eLB
        replace z1 : x.w.cell? ⟨lb, lo, none⟩ = some (.int .i64 f0) := z1
        have hz1 : ¬ ((L.length : Int) = 0) := by omega
        have hz2 : (0 : Int) < (L.length : Int) := by omega
        have hz3 : ((L.length : Int) == 0) = false := beq_eq_false_iff_ne.2 hz1
        have HB := hide (fun (w' : World) (hw : Below x.w.heap.size x.w w') => KeptW.cell z1 ⟨w', hw⟩)
        clear z1
        refine wp_region_T (S := (fun w' => w'.cell? ⟨yb, 0, none⟩ = some (.slice Y0 ys.length i0) ∧ w'.cell? ⟨yb, 1, none⟩ = some (.slice Y1 yk.length i1) ∧ w'.cell? ⟨yb, 2, none⟩ = some (.slice Y2 yf.length i2) ∧ w'.cell? ⟨yb, 3, none⟩ = some (.int .i64 yn) ∧ w'.cell? ⟨yb, 4, none⟩ = some (.bool yt) ∧ w'.cell? ⟨lb, lo, none⟩ = some (.int .i64 f0))) (ks := []) (by kernel_rfl) ⟨M.cell 0 0 rfl, M.cell 0 1 rfl, M.cell 0 2 rfl, M.cell 0 3 rfl, M.cell 0 4 rfl, HB.out _ M.below⟩ (fun hHeld => ?_)
        replace M := M.drew
        generalize W62.drew = W63 at M hHeld ⊢
        refine wpAnyT_takeL (i := 0) (v := ?v0u46) rfl (by kernel_rfl) (by kernel_rfl) (by kernel_rfl) (by kernel_rfl) (by kernel_rfl) (fun _ _ _ h => h) (by rfl) ?hy0u46 hHeld ?rest0u46
        case hy0u46 => (intro w hSw; (try dsimp only at hSw); go_split_ands; go_simp; all_goals with_reducible rfl)
        try simp only [Act.put, List.setIfInBounds_toArray, List.set_cons_zero, List.set_cons_succ]
        refine wpAnyT_takeY (i := 1) (v := ?v1u47) rfl (by kernel_rfl) (by kernel_rfl) (by kernel_rfl) (by kernel_rfl) (fun _ _ _ h => h) (by rfl) ?hy1u47 (fun _ => hHeld) ?rest1u47
        case hy1u47 => (intro w; go_simp; all_goals with_reducible rfl)
        try simp only [Act.put, List.setIfInBounds_toArray, List.set_cons_zero, List.set_cons_succ]
        refine wpAnyT_takeY (i := 2) (v := ?v2u48) rfl (by kernel_rfl) (by kernel_rfl) (by kernel_rfl) (by kernel_rfl) (fun _ _ _ h => h) (by rfl) ?hy2u48 (fun _ => hHeld) ?rest2u48
        case hy2u48 => (intro w; go_simp; all_goals with_reducible rfl)
        try simp only [Act.put, List.setIfInBounds_toArray, List.set_cons_zero, List.set_cons_succ]
        refine wpAnyT_takeL (i := 4) (v := ?v4u49) rfl (by kernel_rfl) (by kernel_rfl) (by kernel_rfl) (by kernel_rfl) (by kernel_rfl) (fun _ _ _ h => h) (by rfl) ?hy4u49 hHeld ?rest4u49
        case hy4u49 => (intro w hSw; (try dsimp only at hSw); go_split_ands; go_simp; all_goals with_reducible rfl)
        try simp only [Act.put, List.setIfInBounds_toArray, List.set_cons_zero, List.set_cons_succ]
        refine wpAnyT_takeY (i := 5) (v := ?v5u50) rfl (by kernel_rfl) (by kernel_rfl) (by kernel_rfl) (by kernel_rfl) (fun _ _ _ h => h) (by rfl) ?hy5u50 (fun _ => hHeld) ?rest5u50
        case hy5u50 => (intro w; go_simp; all_goals with_reducible rfl)
        try simp only [Act.put, List.setIfInBounds_toArray, List.set_cons_zero, List.set_cons_succ]
        refine wpAnyT_takeY (i := 6) (v := ?v6u51) rfl (by kernel_rfl) (by kernel_rfl) (by kernel_rfl) (by kernel_rfl) (fun _ _ _ h => h) (by rfl) ?hy6u51 (fun _ => hHeld) ?rest6u51
        case hy6u51 => (intro w; go_simp; all_goals with_reducible rfl)
        try simp only [Act.put, List.setIfInBounds_toArray, List.set_cons_zero, List.set_cons_succ]
        refine wpAnyT_callL (i := 3) rfl (by kernel_rfl) (fun K hK => ?_)
        go_simp
        refine Calls.mono (by with_reducible exact (gWaitersOn_any ys yk yf Y0 Y1 Y2 i0 i1 i2 yn yt wt on _ (by omega) (M.rowS 1 rfl))) ?_
        rintro r W64 ⟨C1, d1, rfl, g1⟩
        replace M := Sep.new M g1
        simp only [List.cons_append, List.nil_append] at M
        clear g1 hHeld
        go_wp2_with fail
        refine hK.out _ _ ?_ (fun hHeld => ?_)
        · exact ⟨M.cell 1 0 rfl, M.cell 1 1 rfl, M.cell 1 2 rfl, M.cell 1 3 rfl, M.cell 1 4 rfl, HB.out _ M.below⟩
        clear hK K
        try simp only [Act.put, List.setIfInBounds_toArray, List.set_cons_zero, List.set_cons_succ]
        refine wpAnyT_callL (i := 7) rfl (by kernel_rfl) (fun K hK => ?_)
        go_simp
        refine Calls.mono (by with_reducible exact (sWaitersOn_s ys yk yf Y0 Y1 Y2 i0 i1 i2 yn yt wt on _ (by omega) (M.rowS 2 rfl))) ?_
        rintro r W65 ⟨C2, d2, rfl, g1⟩
        replace M := Sep.new M g1
        simp only [List.cons_append, List.nil_append] at M
        clear g1 hHeld
        go_wp2_with fail
        refine hK.out _ _ ?_ (fun hHeld => ?_)
        · exact ⟨M.cell 2 0 rfl, M.cell 2 1 rfl, M.cell 2 2 rfl, M.cell 2 3 rfl, M.cell 2 4 rfl, HB.out _ M.below⟩
        clear hK K
        try simp only [Act.put, List.setIfInBounds_toArray, List.set_cons_zero, List.set_cons_succ]
        refine wpAnyT_callL (i := 8) rfl (by kernel_rfl) (fun K hK => ?_)
        go_simp
        refine Calls.mono (by with_reducible exact (likeInts_same (waitersM ys wt on) C1 C2 d1 d2 _ (by omega) (M.rowS 1 rfl) (M.rowS 0 rfl))) ?_
        rintro r W66 ⟨rfl, g1⟩
        replace M := M.call g1
        clear g1 hHeld
        go_wp2_with fail
        refine hK.out _ _ ?_ (fun hHeld => ?_)
        · exact ⟨M.cell 2 0 rfl, M.cell 2 1 rfl, M.cell 2 2 rfl, M.cell 2 3 rfl, M.cell 2 4 rfl, HB.out _ M.below⟩
        clear hK K
        try simp only [Act.put, List.setIfInBounds_toArray, List.set_cons_zero, List.set_cons_succ]
        refine wpAnyT_takeY (i := 9) (v := ?v9u52) rfl (by kernel_rfl) (by kernel_rfl) (by kernel_rfl) (by kernel_rfl) (fun _ _ _ h => h) (by rfl) ?hy9u52 (fun _ => hHeld) ?rest9u52
        case hy9u52 => (intro w; go_simp; all_goals with_reducible rfl)
        try simp only [Act.put, List.setIfInBounds_toArray, List.set_cons_zero, List.set_cons_succ]
        refine wpAnyT_takeY (i := 10) (v := ?v10u53) rfl (by kernel_rfl) (by kernel_rfl) (by kernel_rfl) (by kernel_rfl) (fun _ _ _ h => h) (by rfl) ?hy10u53 (fun _ => hHeld) ?rest10u53
        case hy10u53 => (intro w; go_simp; all_goals with_reducible rfl)
        try simp only [Act.put, List.setIfInBounds_toArray, List.set_cons_zero, List.set_cons_succ]
        refine wpAnyT_takeY (i := 11) (v := ?v11u54) rfl (by kernel_rfl) (by kernel_rfl) (by kernel_rfl) (by kernel_rfl) (fun _ _ _ h => h) (by rfl) ?hy11u54 (fun _ => hHeld) ?rest11u54
        case hy11u54 => (intro w; go_simp; all_goals with_reducible rfl)
        try simp only [Act.put, List.setIfInBounds_toArray, List.set_cons_zero, List.set_cons_succ]
        refine wpAnyT_takeY (i := 12) (v := ?v12u55) rfl (by kernel_rfl) (by kernel_rfl) (by kernel_rfl) (by kernel_rfl) (fun _ _ _ h => h) (by rfl) ?hy12u55 (fun _ => hHeld) ?rest12u55
        case hy12u55 => (intro w; go_simp; all_goals with_reducible rfl)
        try simp only [Act.put, List.setIfInBounds_toArray, List.set_cons_zero, List.set_cons_succ]
        refine wpAnyT_takeY (i := 13) (v := ?v13u56) rfl (by kernel_rfl) (by kernel_rfl) (by kernel_rfl) (by kernel_rfl) (fun _ _ _ h => h) (by rfl) ?hy13u56 (fun _ => hHeld) ?rest13u56
        case hy13u56 => (intro w; go_simp; all_goals with_reducible rfl)
        try simp only [Act.put, List.setIfInBounds_toArray, List.set_cons_zero, List.set_cons_succ]
        refine wpAnyT_takeN (i := 14) rfl (by kernel_rfl) (by kernel_rfl) (by kernel_rfl) (by kernel_rfl) (fun _ _ _ h => h) (by rfl) (fun _ => hHeld) ?rest14u57
        try simp only [Act.put, List.setIfInBounds_toArray, List.set_cons_zero, List.set_cons_succ]
        refine wpAnyT_takeN (i := 15) rfl (by kernel_rfl) (by kernel_rfl) (by kernel_rfl) (by kernel_rfl) (fun _ _ _ h => h) (by rfl) (fun _ => hHeld) ?rest15u58
        try simp only [Act.put, List.setIfInBounds_toArray, List.set_cons_zero, List.set_cons_succ]
        refine wpAnyT_takeY (i := 16) (v := ?v16u59) rfl (by kernel_rfl) (by kernel_rfl) (by kernel_rfl) (by kernel_rfl) (fun _ _ _ h => h) (by rfl) ?hy16u59 (fun _ => hHeld) ?rest16u59
        case hy16u59 => (intro w; go_simp; all_goals with_reducible rfl)
        try simp only [Act.put, List.setIfInBounds_toArray, List.set_cons_zero, List.set_cons_succ]
        refine wpAnyT_takeY (i := 17) (v := ?v17u60) rfl (by kernel_rfl) (by kernel_rfl) (by kernel_rfl) (by kernel_rfl) (fun _ _ _ h => h) (by rfl) ?hy17u60 (fun _ => hHeld) ?rest17u60
        case hy17u60 => (intro w; go_simp; all_goals with_reducible rfl)
        try simp only [Act.put, List.setIfInBounds_toArray, List.set_cons_zero, List.set_cons_succ]
        refine wpAnyT_takeY (i := 18) (v := ?v18u61) rfl (by kernel_rfl) (by kernel_rfl) (by kernel_rfl) (by kernel_rfl) (fun _ _ _ h => h) (by rfl) ?hy18u61 (fun _ => hHeld) ?rest18u61
        case hy18u61 => (intro w; go_simp; all_goals with_reducible rfl)
        try simp only [Act.put, List.setIfInBounds_toArray, List.set_cons_zero, List.set_cons_succ]
        refine wpAnyT_takeY (i := 19) (v := ?v19u62) rfl (by kernel_rfl) (by kernel_rfl) (by kernel_rfl) (by kernel_rfl) (fun _ _ _ h => h) (by rfl) ?hy19u62 (fun _ => hHeld) ?rest19u62
        case hy19u62 => (intro w; go_simp; all_goals with_reducible rfl)
        try simp only [Act.put, List.setIfInBounds_toArray, List.set_cons_zero, List.set_cons_succ]
        refine wpAnyT_takeY (i := 20) (v := ?v20u63) rfl (by kernel_rfl) (by kernel_rfl) (by kernel_rfl) (by kernel_rfl) (fun _ _ _ h => h) (by rfl) ?hy20u63 (fun _ => hHeld) ?rest20u63
        case hy20u63 => (intro w; go_simp; all_goals with_reducible rfl)
        try simp only [Act.put, List.setIfInBounds_toArray, List.set_cons_zero, List.set_cons_succ]
        refine wpAnyT_takeY (i := 21) (v := ?v21u64) rfl (by kernel_rfl) (by kernel_rfl) (by kernel_rfl) (by kernel_rfl) (fun _ _ _ h => h) (by rfl) ?hy21u64 (fun _ => hHeld) ?rest21u64
        case hy21u64 => (intro w; go_simp; all_goals with_reducible rfl)
        try simp only [Act.put, List.setIfInBounds_toArray, List.set_cons_zero, List.set_cons_succ]
        refine wpAnyT_takeY (i := 22) (v := ?v22u65) rfl (by kernel_rfl) (by kernel_rfl) (by kernel_rfl) (by kernel_rfl) (fun _ _ _ h => h) (by rfl) ?hy22u65 (fun _ => hHeld) ?rest22u65
        case hy22u65 => (intro w; go_simp; all_goals with_reducible rfl)
        try simp only [Act.put, List.setIfInBounds_toArray, List.set_cons_zero, List.set_cons_succ]
        refine wpAnyT_takeY (i := 23) (v := ?v23u66) rfl (by kernel_rfl) (by kernel_rfl) (by kernel_rfl) (by kernel_rfl) (fun _ _ _ h => h) (by rfl) ?hy23u66 (fun _ => hHeld) ?rest23u66
        case hy23u66 => (intro w; go_simp; all_goals with_reducible rfl)
        try simp only [Act.put, List.setIfInBounds_toArray, List.set_cons_zero, List.set_cons_succ]
        refine wpAnyT_takeY (i := 24) (v := ?v24u67) rfl (by kernel_rfl) (by kernel_rfl) (by kernel_rfl) (by kernel_rfl) (fun _ _ _ h => h) (by rfl) ?hy24u67 (fun _ => hHeld) ?rest24u67
        case hy24u67 => (intro w; go_simp; all_goals with_reducible rfl)
        try simp only [Act.put, List.setIfInBounds_toArray, List.set_cons_zero, List.set_cons_succ]
        refine wpAnyT_takeL (i := 25) (v := ?v25u68) rfl (by kernel_rfl) (by kernel_rfl) (by kernel_rfl) (by kernel_rfl) (by kernel_rfl) (fun _ _ _ h => h) (by rfl) ?hy25u68 hHeld ?rest25u68
        case hy25u68 => (intro w hSw; (try dsimp only at hSw); go_split_ands; go_simp; all_goals with_reducible rfl)
        try simp only [Act.put, List.setIfInBounds_toArray, List.set_cons_zero, List.set_cons_succ]
        refine wpAnyT_takeY (i := 26) (v := ?v26u69) rfl (by kernel_rfl) (by kernel_rfl) (by kernel_rfl) (by kernel_rfl) (fun _ _ _ h => h) (by rfl) ?hy26u69 (fun _ => hHeld) ?rest26u69
        case hy26u69 => (intro w; go_simp; all_goals with_reducible rfl)
        try simp only [Act.put, List.setIfInBounds_toArray, List.set_cons_zero, List.set_cons_succ]
        refine wpAnyT_takeY (i := 27) (v := ?v27u70) rfl (by kernel_rfl) (by kernel_rfl) (by kernel_rfl) (by kernel_rfl) (fun _ _ _ h => h) (by rfl) ?hy27u70 (fun _ => hHeld) ?rest27u70
        case hy27u70 => (intro w; go_simp; all_goals with_reducible rfl)
        try simp only [Act.put, List.setIfInBounds_toArray, List.set_cons_zero, List.set_cons_succ]
        refine wpAnyT_takeY (i := 28) (v := ?v28u71) rfl (by kernel_rfl) (by kernel_rfl) (by kernel_rfl) (by kernel_rfl) (fun _ _ _ h => h) (by rfl) ?hy28u71 (fun _ => hHeld) ?rest28u71
        case hy28u71 => (intro w; go_simp; all_goals with_reducible rfl)
        try simp only [Act.put, List.setIfInBounds_toArray, List.set_cons_zero, List.set_cons_succ]
        refine wpAnyT_takeY (i := 29) (v := ?v29u72) rfl (by kernel_rfl) (by kernel_rfl) (by kernel_rfl) (by kernel_rfl) (fun _ _ _ h => h) (by rfl) ?hy29u72 (fun _ => hHeld) ?rest29u72
        case hy29u72 => (intro w; go_simp; all_goals with_reducible rfl)
        try simp only [Act.put, List.setIfInBounds_toArray, List.set_cons_zero, List.set_cons_succ]
        refine wpAnyT_takeY (i := 30) (v := ?v30u73) rfl (by kernel_rfl) (by kernel_rfl) (by kernel_rfl) (by kernel_rfl) (fun _ _ _ h => h) (by rfl) ?hy30u73 (fun _ => hHeld) ?rest30u73
        case hy30u73 => (intro w; go_simp; all_goals with_reducible rfl)
        try simp only [Act.put, List.setIfInBounds_toArray, List.set_cons_zero, List.set_cons_succ]
        refine wpAnyT_done (by kernel_rfl) ?_ _
        go_wp2
        go_ret
        exact ⟨rfl, HV.out.trans ((x.below.trans (M.below.mono x.below.size)).mono HV.out.size)⟩
end Go.Proofs.Ytgncjcnobojgbaa
