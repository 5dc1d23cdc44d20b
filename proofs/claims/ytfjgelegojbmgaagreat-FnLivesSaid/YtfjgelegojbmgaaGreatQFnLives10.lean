/- Chapter 6's law of lives: what is spawned is ready, and what is ended is done, with its value, its worker free: true at every code. No condition. -/
import Derived.Test.YtfjgelegojbmgaaGreatQFnLives01
import Derived.Test.YtfjgelegojbmgaaGreatQFnLives08
import Derived.Test.YtfjgelegojbmgaaGreatQFnLives09
import Derived.Test.YtfjgelegojbmgaaGreatQFnLives05
import Derived.Test.YtfjgelegojbmgaaGreatQB14
import Derived.Test.YtfjgelegojbmgaaGreatQB04
import Derived.Test.YtfjgelegojbmgaaGreatQB01

namespace Go.Proofs.YtfjgelegojbmgaaGreat
open Go.RowKit
set_option linter.unusedVariables false
set_option maxRecDepth 100000 in
set_option maxHeartbeats 1600000 in
theorem fnLives_any (w : World) (A : Option Addr) (len cap : Nat) (hby : Bytes w w.heap.size A len) (hl : len ≤ 4096) :
 Calls Tryz.prog 6 #[.slice A len cap] w fun r w' => r = .returned (.bool true) ∧ Below w.heap.size w w' := by
 go_enter Tryz.func6, Tryz.ntmps6
 go_wp2_with fail
 go_call (big_any A len cap _) as r w' ⟨rfl, rfl⟩
 go_wp2_with fail
 go_call (drawSpawned_any w.heap.size w A len cap (Nat.le_refl _) hl hby) as r W1 ⟨a, b, c, d, e, ts, ks, fs, tn, st, B0, B1, B2, e0, e1, e2, wk, lv, rfl, h0, h1, h2, M⟩
 obtain ⟨us, ks2, fs2, tn2, st2, rp, ou, hle, hE, hS, hI⟩ := spawned_told a b c d e ts ks fs tn st wk lv (by omega)
 replace hE := hide hE
 go_wp2_with fail
 have N := M.al2 25 #[.int .i64 a, .int .i64 b, .int .i64 c, .int .i64 d, .int .i64 e] 30 #[.slice B0 ts.length e0, .slice B1 ks.length e1, .slice B2 fs.length e2, .int .i64 tn, .bool st]
 clear M
 obtain ⟨aP, aX, W2, e1, e2, e3, M⟩ := N
 rw [e3, e2, e1]
 clear e1 e2 e3
 obtain ⟨tX, As, Aq, An, Ao, Aa⟩ := M.q5 0 rfl
 obtain ⟨tP, Ai, Ac, Ad, Af, Ah⟩ := M.q5 1 rfl
 go_wp2_with fail
 go_call (hI.out B0 B1 B2 e0 e1 e2 _ ⟨M.rowS 2 rfl, M.rowS 3 rfl, M.rowS 4 rfl⟩) as r W3 ⟨C0, C1, C2, f0, f1, f2, rfl, g1⟩
 clear tX As Aq An Ao Aa tP Ai Ac Ad Af Ah
 replace M := Sep.new M g1
 simp only [List.cons_append, List.nil_append] at M
 clear g1
 obtain ⟨tX, As, Aq, An, Ao, Aa⟩ := M.q5 3 rfl
 obtain ⟨tP, Ai, Ac, Ad, Af, Ah⟩ := M.q5 4 rfl
 go_wp2_with fail
 clear tX As Aq An Ao Aa tP Ai Ac Ad Af Ah
 have N := M.al2 30 #[.slice C0 us.length f0, .slice C1 ks2.length f1, .slice C2 fs2.length f2, .int .i64 tn2, .bool st2] 55 #[.int .i64 rp, .int .i64 ou]
 clear M
 obtain ⟨aY, aYa, W4, e1, e2, e3, M⟩ := N
 rw [e3, e2, e1]
 clear e1 e2 e3
 obtain ⟨tX, As, Aq, An, Ao, Aa⟩ := M.q5 5 rfl
 obtain ⟨tP, Ai, Ac, Ad, Af, Ah⟩ := M.q5 6 rfl
 go_wp2_with fail
 go_call (hS.out B0 B1 B2 e0 e1 e2 _ ⟨M.rowS 7 rfl, M.rowS 8 rfl, M.rowS 9 rfl⟩) as r W5 ⟨D0, D1, D2, m0, m1, m2, rfl, g1⟩
 clear tX As Aq An Ao Aa tP Ai Ac Ad Af Ah
 replace M := Sep.new M g1
 simp only [List.cons_append, List.nil_append] at M
 clear g1
 clear hS hI
 go_wp2_with fail
 have N := M.al2 30 #[.slice D0 us.length m0, .slice D1 ks2.length m1, .slice D2 fs2.length m2, .int .i64 tn2, .bool st2] 55 #[.int .i64 rp, .int .i64 ou]
 clear M
 obtain ⟨aZ, aZa, W6, e1, e2, e3, M⟩ := N
 rw [e3, e2, e1]
 clear e1 e2 e3
 go_wp2_with fail
 have hs2 := M.size
 have hby2 : Bytes W6 w.heap.size A len := hby.keep fun b hb => M.below.block b (by omega)
 go_call (drawEnded_any w.heap.size _ A len cap (by omega) hl hby2) as r W7 ⟨pa, pb, pc, pd, pe, ys, yk, yf, yn, yt, E0, E1, E2, i0, i1, i2, wv, vv, rfl, k0, k1, k2, g1⟩
 replace M := Sep.new M g1
 simp only [List.cons_append, List.nil_append] at M
 clear g1
 clear hby2 hs2
 obtain ⟨vs, vk, vf, vn, vt, rp2, ou2, hle2, hE2, hS, hI⟩ := ended_told pa pb pc pd pe ys yk yf yn yt wv vv (by omega)
 replace hE2 := hide hE2
 go_wp2_with fail
 have N := M.al2 25 #[.int .i64 pa, .int .i64 pb, .int .i64 pc, .int .i64 pd, .int .i64 pe] 30 #[.slice E0 ys.length i0, .slice E1 yk.length i1, .slice E2 yf.length i2, .int .i64 yn, .bool yt]
 clear M
 obtain ⟨aQ, aU, W8, e1, e2, e3, M⟩ := N
 rw [e3, e2, e1]
 clear e1 e2 e3
 obtain ⟨tU, Ae, Ap, Ak, Ab, Ag⟩ := M.q5 0 rfl
 obtain ⟨tQ, Aj, Al, Ar, At, Am⟩ := M.q5 1 rfl
 go_wp2_with fail
 go_call (hI.out E0 E1 E2 i0 i1 i2 _ ⟨M.rowS 2 rfl, M.rowS 3 rfl, M.rowS 4 rfl⟩) as r W9 ⟨G0, G1, G2, j0, j1, j2, rfl, g1⟩
 clear tU Ae Ap Ak Ab Ag tQ Aj Al Ar At Am
 replace M := Sep.new M g1
 simp only [List.cons_append, List.nil_append] at M
 clear g1
 obtain ⟨tU, Ae, Ap, Ak, Ab, Ag⟩ := M.q5 3 rfl
 obtain ⟨tQ, Aj, Al, Ar, At, Am⟩ := M.q5 4 rfl
 go_wp2_with fail
 clear tU Ae Ap Ak Ab Ag tQ Aj Al Ar At Am
 have N := M.al2 30 #[.slice G0 vs.length j0, .slice G1 vk.length j1, .slice G2 vf.length j2, .int .i64 vn, .bool vt] 55 #[.int .i64 rp2, .int .i64 ou2]
 clear M
 obtain ⟨aV, aVa, W10, e1, e2, e3, M⟩ := N
 rw [e3, e2, e1]
 clear e1 e2 e3
 obtain ⟨tU, Ae, Ap, Ak, Ab, Ag⟩ := M.q5 5 rfl
 obtain ⟨tQ, Aj, Al, Ar, At, Am⟩ := M.q5 6 rfl
 go_wp2_with fail
 go_call (hS.out E0 E1 E2 i0 i1 i2 _ ⟨M.rowS 7 rfl, M.rowS 8 rfl, M.rowS 9 rfl⟩) as r W11 ⟨H0, H1, H2, n0, n1, n2, rfl, g1⟩
 clear tU Ae Ap Ak Ab Ag tQ Aj Al Ar At Am
 replace M := Sep.new M g1
 simp only [List.cons_append, List.nil_append] at M
 clear g1
 clear hS hI
 obtain ⟨Bi, Be, Bd⟩ := M.q2 13 rfl
 obtain ⟨tZ, Bf, Bh, Bb, Bc, Av⟩ := M.q5 14 rfl
 obtain ⟨Bj, Au, Ba⟩ := M.q2 18 rfl
 obtain ⟨tY, Bg, Ay, Az, Aw, Ax⟩ := M.q5 19 rfl
 go_wp2_with fail
 clear Bi Be Bd tZ Bf Bh Bb Bc Av Bj Au Ba tY Bg Ay Az Aw Ax
 have N := M.al2 30 #[.slice H0 vs.length n0, .slice H1 vk.length n1, .slice H2 vf.length n2, .int .i64 vn, .bool vt] 55 #[.int .i64 rp2, .int .i64 ou2]
 clear M
 obtain ⟨aT, aTa, W12, e1, e2, e3, M⟩ := N
 rw [e3, e2, e1]
 clear e1 e2 e3
 have HV := hide (M.below : Below w.heap.size w W12)
 have HX := hide (⟨M.rowS 27 rfl, M.rowS 28 rfl, M.rowS 29 rfl⟩ : InPool W12 ts ks fs B0 B1 B2)
 have HY := hide (⟨M.rowS 22 rfl, M.rowS 23 rfl, M.rowS 24 rfl⟩ : InPool W12 us ks2 fs2 C0 C1 C2)
 have HZ := hide (⟨M.rowS 17 rfl, M.rowS 18 rfl, M.rowS 19 rfl⟩ : InPool W12 us ks2 fs2 D0 D1 D2)
 have HW := hide (⟨M.rowS 12 rfl, M.rowS 13 rfl, M.rowS 14 rfl⟩ : InPool W12 ys yk yf E0 E1 E2)
 have HU := hide (⟨M.rowS 7 rfl, M.rowS 8 rfl, M.rowS 9 rfl⟩ : InPool W12 vs vk vf G0 G1 G2)
 have HT := hide (⟨M.rowS 2 rfl, M.rowS 3 rfl, M.rowS 4 rfl⟩ : InPool W12 vs vk vf H0 H1 H2)
 obtain ⟨tP, Ai, Ac, Ad, Af, Ah⟩ := M.q5 26 rfl
 obtain ⟨tX, As, Aq, An, Ao, Aa⟩ := M.q5 25 rfl
 obtain ⟨tY, Bg, Ay, Az, Aw, Ax⟩ := M.q5 21 rfl
 obtain ⟨Bj, Au, Ba⟩ := M.q2 20 rfl
 obtain ⟨tZ, Bf, Bh, Bb, Bc, Av⟩ := M.q5 16 rfl
 obtain ⟨Bi, Be, Bd⟩ := M.q2 15 rfl
 obtain ⟨tQ, Aj, Al, Ar, At, Am⟩ := M.q5 11 rfl
 obtain ⟨tU, Ae, Ap, Ak, Ab, Ag⟩ := M.q5 10 rfl
 obtain ⟨tV, Bl, Bv, Bm, Bq, Bn⟩ := M.q5 6 rfl
 obtain ⟨Bz, Bx, Bu⟩ := M.q2 5 rfl
 obtain ⟨tT, Bk, Bo, Bt, Bp, Br⟩ := M.q5 1 rfl
 obtain ⟨By, Bs, Bw⟩ := M.q2 0 rfl
 clear M
 have cP0 := fun (x : KeptW W12) => KeptW.cell Ai x
 have cP1 := fun (x : KeptW W12) => KeptW.cell Ac x
 have cP2 := fun (x : KeptW W12) => KeptW.cell Ad x
 have cP3 := fun (x : KeptW W12) => KeptW.cell Af x
 have cP4 := fun (x : KeptW W12) => KeptW.cell Ah x
 clear tP Ai Ac Ad Af Ah
 have cX0 := fun (x : KeptW W12) => KeptW.cell As x
 have cX1 := fun (x : KeptW W12) => KeptW.cell Aq x
 have cX2 := fun (x : KeptW W12) => KeptW.cell An x
 have cX3 := fun (x : KeptW W12) => KeptW.cell Ao x
 have cX4 := fun (x : KeptW W12) => KeptW.cell Aa x
 clear tX As Aq An Ao Aa
 have cY0 := fun (x : KeptW W12) => KeptW.cell Bg x
 have cY1 := fun (x : KeptW W12) => KeptW.cell Ay x
 have cY2 := fun (x : KeptW W12) => KeptW.cell Az x
 have cY3 := fun (x : KeptW W12) => KeptW.cell Aw x
 have cY4 := fun (x : KeptW W12) => KeptW.cell Ax x
 clear tY Bg Ay Az Aw Ax
 have cYa0 := fun (x : KeptW W12) => KeptW.cell Au x
 have cYa1 := fun (x : KeptW W12) => KeptW.cell Ba x
 clear Bj Au Ba
 have cZ0 := fun (x : KeptW W12) => KeptW.cell Bf x
 have cZ1 := fun (x : KeptW W12) => KeptW.cell Bh x
 have cZ2 := fun (x : KeptW W12) => KeptW.cell Bb x
 have cZ3 := fun (x : KeptW W12) => KeptW.cell Bc x
 have cZ4 := fun (x : KeptW W12) => KeptW.cell Av x
 clear tZ Bf Bh Bb Bc Av
 have cZa0 := fun (x : KeptW W12) => KeptW.cell Be x
 have cZa1 := fun (x : KeptW W12) => KeptW.cell Bd x
 clear Bi Be Bd
 have cQ0 := fun (x : KeptW W12) => KeptW.cell Aj x
 have cQ1 := fun (x : KeptW W12) => KeptW.cell Al x
 have cQ2 := fun (x : KeptW W12) => KeptW.cell Ar x
 have cQ3 := fun (x : KeptW W12) => KeptW.cell At x
 have cQ4 := fun (x : KeptW W12) => KeptW.cell Am x
 clear tQ Aj Al Ar At Am
 have cU0 := fun (x : KeptW W12) => KeptW.cell Ae x
 have cU1 := fun (x : KeptW W12) => KeptW.cell Ap x
 have cU2 := fun (x : KeptW W12) => KeptW.cell Ak x
 have cU3 := fun (x : KeptW W12) => KeptW.cell Ab x
 have cU4 := fun (x : KeptW W12) => KeptW.cell Ag x
 clear tU Ae Ap Ak Ab Ag
 have cV0 := fun (x : KeptW W12) => KeptW.cell Bl x
 have cV1 := fun (x : KeptW W12) => KeptW.cell Bv x
 have cV2 := fun (x : KeptW W12) => KeptW.cell Bm x
 have cV3 := fun (x : KeptW W12) => KeptW.cell Bq x
 have cV4 := fun (x : KeptW W12) => KeptW.cell Bn x
 clear tV Bl Bv Bm Bq Bn
 have cVa0 := fun (x : KeptW W12) => KeptW.cell Bx x
 have cVa1 := fun (x : KeptW W12) => KeptW.cell Bu x
 clear Bz Bx Bu
 have cT0 := fun (x : KeptW W12) => KeptW.cell Bk x
 have cT1 := fun (x : KeptW W12) => KeptW.cell Bo x
 have cT2 := fun (x : KeptW W12) => KeptW.cell Bt x
 have cT3 := fun (x : KeptW W12) => KeptW.cell Bp x
 have cT4 := fun (x : KeptW W12) => KeptW.cell Br x
 clear tT Bk Bo Bt Bp Br
 have cTa0 := fun (x : KeptW W12) => KeptW.cell Bs x
 have cTa1 := fun (x : KeptW W12) => KeptW.cell Bw x
 clear By Bs Bw
 have hx0 := KeptW.mk'_w (Below.refl W12.heap.size W12)
 generalize KeptW.mk' (Below.refl W12.heap.size W12) = x0 at hx0
 rw [← hx0]
 clear hx0
 go_wp2_with fail
 go_call (kept_call (x := x0) (likePool_same us ks2 fs2 C0 C1 C2 D0 D1 D2 f0 f1 f2 m0 m1 m2 tn2 st2 x0.w hle (InPool.below HY.out x0.below) (InPool.below HZ.out x0.below))) as r wq ⟨rfl, x1, rfl⟩
 go_wp2_with fail
 go_call (kept_call (x := x1) (likePool_same vs vk vf G0 G1 G2 H0 H1 H2 j0 j1 j2 n0 n1 n2 vn vt x1.w hle2 (InPool.below HU.out x1.below) (InPool.below HT.out x1.below))) as r wq ⟨rfl, x2, rfl⟩
 clear cZ0 cZ1 cZ2 cZ3 cZ4
 clear cZa0 cZa1
 clear cT0 cT1 cT2 cT3 cT4
 clear cTa0 cTa1
 clear HZ
 clear HT
 by_cases hr : rp = 1
 ·subst hr
  obtain ⟨hus, hou⟩ := hE.out rfl
  clear hE
  subst hou
  have hul : us.length = ts.length + 1 := by rw [hus]; simp
  have huk : us[ts.length]? = some ⟨1, lv, -1, 0, 0, 0, tn⟩ := by rw [hus]; simp
  obtain ⟨bu, ob, eC, z0, z1, z2, z3, z4, z5, z6⟩ := HY.out.1.cells7' huk
  subst eC
  have hu0 : (0 : Int) ≤ (ts.length : Int) := by omega
  have hu1 : (ts.length : Int) < (ts.length : Int) + 1 := by omega
  have HUL := hide hul
  clear hus huk hul
  have cYs := fun (x : KeptW W12) => KeptW.cell (z0) x
  have cYl := fun (x : KeptW W12) => KeptW.cell (z1) x
  clear z0 z1 z2 z3 z4 z5 z6
  by_cases hr2 : rp2 = 1
  ·subst hr2
   obtain ⟨hpo, k, ⟨s, l, o, w1, o1, v, t⟩, hrun, hx, hs, ho, hvs, _⟩ := hE2.out.1 rfl
   clear hE2
   simp only at hs ho
   have hvk : vs[k]? = some ⟨4, l, -1, w1, o1, vv, t⟩ := by rw [hvs]; exact ended_get hx (by simp)
   have hfree := ended_free (vv := vv) (wt := 1) (on := (k : Int)) (tn' := yn) (y := ⟨4, l, -1, w1, o1, vv, t⟩) hpo hx hs (by simp)
   simp only [ho] at hfree
   rw [← hvs] at hfree
   replace hfree := hide hfree
   replace hrun := hide hrun
   have hkv : k < vs.length := get_lt hvk
   have hvl : vs.length ≤ 31 := by rw [hvs, wakeAllT_length, List.length_set]; exact k0
   have hk0 : (0 : Int) ≤ (k : Int) := by omega
   have hk1 : (k : Int) < (vs.length : Int) := by omega
   obtain ⟨bv, ov, eG, z0, z1, z2, z3, z4, z5, z6⟩ := HU.out.1.cells7' hvk
   subst eG
   clear hx hs ho hvs hpo hvk
   have cS := fun (x : KeptW W12) => KeptW.cell (z0) x
   have cV := fun (x : KeptW W12) => KeptW.cell (z5) x
   clear z0 z1 z2 z3 z4 z5 z6
   have hul := HUL.out
   go_wp2_with fail
   clear hul
   go_call (kept_call (x := x2) (sRunBy_v ys E0 E1 E2 i0 yk.length i1 yf.length i2 yn yt wv k hrun.out x2.w (by omega) (InPool.below HW.out x2.below).1)) as r wq ⟨rfl, x3, rfl⟩
   go_wp2_with fail
   go_call (kept_call (x := x3) (gRunBy_k (some ⟨bv, ov, none⟩) G1 G2 j0 vk.length j1 vf.length j2 vn vt x3.w (by omega) (InPool.below HU.out x3.below).1 hfree.out)) as r wq ⟨rfl, x4, rfl⟩
   go_wp2
   go_ret
   exact ⟨rfl, HV.out.trans (x4.below.mono HV.out.size)⟩
  ·have hr3 : (rp2 == 1) = false := by simpa using hr2
   have hE3 := hide (hE2.out.2 hr2)
   clear hE2
   obtain ⟨pz, hpz⟩ : ∃ z, poolB pa pb pc pd pe ys yk yf yn = z := ⟨_, rfl⟩
   replace hpz := hide hpz
   have hul := HUL.out
   go_wp2_with fail
   clear hul
   go_call (kept_call (x := x2) (sPoolOk_k i0 i1 i2 yt pz x2.w (by omega) (by omega) (by omega) (InPool.below HW.out x2.below) hpz.out)) as r wq ⟨rfl, x5, rfl⟩
   cases pz
   ·go_wp2_with fail
    go_wp2
    go_ret
    exact ⟨rfl, HV.out.trans (x5.below.mono HV.out.size)⟩
   ·go_wp2_with fail
    go_call (kept_call (x := x5) (likePool_eq (hE3.out hpz.out) G0 G1 G2 E0 E1 E2 j0 j1 j2 i0 i1 i2 x5.w hle2 (InPool.below HU.out x5.below) (InPool.below HW.out x5.below))) as r wq ⟨rfl, x6, rfl⟩
    go_wp2
    go_ret
    exact ⟨rfl, HV.out.trans (x6.below.mono HV.out.size)⟩
 ·have hr9 : (rp == 1) = false := by simpa using hr
  clear hE
  by_cases hr2 : rp2 = 1
  ·subst hr2
   obtain ⟨hpo, k, ⟨s, l, o, w1, o1, v, t⟩, hrun, hx, hs, ho, hvs, _⟩ := hE2.out.1 rfl
   clear hE2
   simp only at hs ho
   have hvk : vs[k]? = some ⟨4, l, -1, w1, o1, vv, t⟩ := by rw [hvs]; exact ended_get hx (by simp)
   have hfree := ended_free (vv := vv) (wt := 1) (on := (k : Int)) (tn' := yn) (y := ⟨4, l, -1, w1, o1, vv, t⟩) hpo hx hs (by simp)
   simp only [ho] at hfree
   rw [← hvs] at hfree
   replace hfree := hide hfree
   replace hrun := hide hrun
   have hkv : k < vs.length := get_lt hvk
   have hvl : vs.length ≤ 31 := by rw [hvs, wakeAllT_length, List.length_set]; exact k0
   have hk0 : (0 : Int) ≤ (k : Int) := by omega
   have hk1 : (k : Int) < (vs.length : Int) := by omega
   obtain ⟨bv, ov, eG, z0, z1, z2, z3, z4, z5, z6⟩ := HU.out.1.cells7' hvk
   subst eG
   clear hx hs ho hvs hpo hvk
   have cS := fun (x : KeptW W12) => KeptW.cell (z0) x
   have cV := fun (x : KeptW W12) => KeptW.cell (z5) x
   clear z0 z1 z2 z3 z4 z5 z6
   go_wp2_with fail
   go_call (kept_call (x := x2) (sRunBy_v ys E0 E1 E2 i0 yk.length i1 yf.length i2 yn yt wv k hrun.out x2.w (by omega) (InPool.below HW.out x2.below).1)) as r wq ⟨rfl, x7, rfl⟩
   go_wp2_with fail
   go_call (kept_call (x := x7) (gRunBy_k (some ⟨bv, ov, none⟩) G1 G2 j0 vk.length j1 vf.length j2 vn vt x7.w (by omega) (InPool.below HU.out x7.below).1 hfree.out)) as r wq ⟨rfl, x8, rfl⟩
   go_wp2
   go_ret
   exact ⟨rfl, HV.out.trans (x8.below.mono HV.out.size)⟩
  ·have hr3 : (rp2 == 1) = false := by simpa using hr2
   have hE3 := hide (hE2.out.2 hr2)
   clear hE2
   obtain ⟨pz, hpz⟩ : ∃ z, poolB pa pb pc pd pe ys yk yf yn = z := ⟨_, rfl⟩
   replace hpz := hide hpz
   go_wp2_with fail
   go_call (kept_call (x := x2) (sPoolOk_k i0 i1 i2 yt pz x2.w (by omega) (by omega) (by omega) (InPool.below HW.out x2.below) hpz.out)) as r wq ⟨rfl, x9, rfl⟩
   cases pz
   ·go_wp2_with fail
    go_wp2
    go_ret
    exact ⟨rfl, HV.out.trans (x9.below.mono HV.out.size)⟩
   ·go_wp2_with fail
    go_call (kept_call (x := x9) (likePool_eq (hE3.out hpz.out) G0 G1 G2 E0 E1 E2 j0 j1 j2 i0 i1 i2 x9.w hle2 (InPool.below HU.out x9.below) (InPool.below HW.out x9.below))) as r wq ⟨rfl, x10, rfl⟩
    go_wp2
    go_ret
    exact ⟨rfl, HV.out.trans (x10.below.mono HV.out.size)⟩
set_option maxRecDepth 100000
open Go.ChangeShapes Go.WideShapes Go.ChangeAt Go.RowKit Go.Joins Go.Deep
set_option maxHeartbeats 1600000 in
theorem fnLives_all (w : World) (A : Option Addr) (len cap : Nat) (hby : Bytes w w.heap.size A len) :
 Calls Tryz.prog 6 #[.slice A len cap] w fun r w' => r = .returned (.bool true) ∧ Below w.heap.size w w' := by
 by_cases hl : len ≤ 4096
 ·exact fnLives_any w A len cap hby hl
 ·go_enter Tryz.func6, Tryz.ntmps6
  go_wp2_with fail
  go_call (big_any A len cap _) as r w' ⟨rfl, rfl⟩
  go_wp2_with fail
  go_ret
  exact ⟨rfl, Below.refl _ _⟩
theorem fnLives_lifted (os : Os) (started : os.Started) (H : Type) (enc : TypeId × Value → H) :
 ReturnsInHanded {} Tryz.checked os 6 .any (Rows.fnLivesSpec.pre6 enc Tryz.prog Tryz.f6 Rows.fnLivesRow.domain false) (Rows.fnLivesSpec.post enc Tryz.prog Tryz.f6 false true false false) := by
 refine returnsInHanded_of_change (C := Tryz.checked) own started (by kernel_rfl) Tryz.func6
  (ChangeSpec.witness6 (enc := enc) (C := Tryz.checked) false ⟨#[], #[.slice none 0 0], []⟩ 8 (by kernel_rfl) (by kernel_rfl) (by kernel_rfl) (by kernel_rfl)) ?_
 intro W base args ds gs before hval0 hW hcnd _
 have hval : ∀ (j : Nat) t v, Tryz.f6.params[j]? = some t → args[j]? = some v → Value.okWide Tryz.prog W .any base t v := hval0
 have hW' := hW
 obtain ⟨p, q, hA0, hV, rfl, hfz, hnd⟩ := hW
 have hA : DataW.TrodAll enc Tryz.prog W 0 (fun _ => true) true Tryz.f6.params.toList args.toList ds p := hA0
 rw [Tryz.params6] at hA hval
 obtain ⟨v0, vs0, d0, ds0, p0, q0, hargs, rfl, rfl, h0, r0⟩ := trodAll_cons hA
 obtain ⟨rfl, rfl, rfl⟩ := trodAll_nil r0
 obtain rfl : args = #[v0] := by cases args; simp_all
 obtain ⟨rfl, rfl⟩ := trodVars_none hV
 have k0 := h0
 have lt0 : ∀ x ∈ p0, x.block < W.heap.size := by obtain ⟨m, hm⟩ := k0; exact DataW.trod_lt m _ _ _ hm
 obtain ⟨a0, len0, cap0, rfl⟩ := okWide_slice Tryz.underlying22 (hval 0 22 v0 rfl rfl)
 have w0 : Bytes W W.heap.size a0 len0 := by
  obtain ⟨fuel, hf⟩ := h0
  rcases open_ints Tryz.underlying22 Tryz.underlying5 (by kernel_rfl) hf with ⟨hcs, _⟩ | ⟨x, l, c, zs, hcs, _, hl, hm, hz, hx, hcell, hwz⟩
  ·simp [Value.cells] at hcs
   obtain ⟨rfl, rfl, rfl⟩ := hcs
   exact fun h => absurd h (by omega)
  ·simp [Value.cells] at hcs
   obtain ⟨rfl, rfl, rfl⟩ := hcs
   exact bytes_of_row hl hz hcell hwz
 clear hA0 hval0
 refine (fnLives_all W a0 len0 cap0 w0).mono fun e W' ⟨he, bel⟩ => ?_
 subst he
 exact ⟨_, rfl, _, _, _, [], _, [], hW', trodAll_mk1 (shut_bool Tryz.underlying4 _), (trodAll_cons_mk (Below.trod laidOut (by kernel_rfl) (of_decide_eq_true (by kernel_rfl)) k0 bel lt0) trodAll_mk0), rfl, bel.frame _, fun h => by cases h⟩
theorem fnLives_holds : Rows.FnLivesSaid :=
 OpenClaim.holds_of_wide 6 Tryz.f6 rfl rfl rfl rfl rfl rfl rfl ⟨rfl, rfl, rfl, rfl, rfl⟩ rfl rfl rfl rfl rfl (by kernel_rfl) Tryz.func6 (by kernel_rfl)
  (of_decide_eq_true (by kernel_rfl)) (by unfold Func.isWrapper; first | (rw [if_pos (by decide +kernel)]; kernel_rfl) | (rw [if_neg (by decide +kernel)]; exact ⟨rfl, rfl⟩))
  (fun os started H enc _ => fnLives_lifted os started H enc)
#print axioms fnLives_holds
end Go.Proofs.YtfjgelegojbmgaaGreat
