/- Chapter 5's law of waking: whoever is woken is ready, behind all others of its level, with what it was told; once all are woken nobody waits: true at every code. No condition. -/
import Derived.Test.YtfjgelegojbmgaaGreatQFnWoken10
import Derived.Test.YtfjgelegojbmgaaGreatQFnWoken01
import Derived.Test.YtfjgelegojbmgaaGreatQFnWoken05
import Derived.Test.YtfjgelegojbmgaaGreatQB01

namespace Go.Proofs.YtfjgelegojbmgaaGreat
open Go.RowKit
set_option linter.unusedVariables false
set_option maxRecDepth 100000
set_option maxHeartbeats 2000000 in
theorem gReadyLine_any (ts : List T7) (ks : List Int) (fs : List F2) (A0 A1 A2 : Option Addr) (c0 c1 c2 : Nat) (tn : Int) (st : Bool) (w : World) (hlen : ts.length ≤ 1048576) (h : Row w A0 (tcells ts)) :
 Calls Tryz.prog 17 #[.agg #[.slice A0 ts.length c0, .slice A1 ks.length c1, .slice A2 fs.length c2, .int .i64 tn, .bool st]] w fun r w' => ∃ (B : Option Addr) (d : Nat), r = .returned (.slice B (readyM ts).length d) ∧ Sep [] w w' [rK (readyM ts).length B d (readyM ts)] := by
 have H := hide h
 clear h
 go_enter Tryz.func17, Tryz.ntmps17
 go_wp2_with fail
 generalize hW : w.alloc _ = W1
 have M := Sep.e1 hW
 clear hW
 obtain ⟨tP, Aa, Ac, Ae, Ad, Ab⟩ := M.q5 0 rfl
 go_wp2_with fail
 go_call (readyLine_p ts w.heap.size A0 c0 _ hlen (M.cell 0 0 rfl) (H.out.below M.below)) as r W2 ⟨lb, A, c, ps, rfl, hle, hh, hp, g1⟩
 clear tP Aa Ac Ae Ad Ab
 replace M : Sep [] w W2 (lineL lb A c ps ++ [.blk (w.heap.size) 30 #[.slice A0 ts.length c0, .slice A1 ks.length c1, .slice A2 fs.length c2, .int .i64 tn, .bool st]]) := Sep.new M g1
 clear g1
 have HP := hide (⟨hh, hp⟩ : _ ∧ _)
 clear hh hp
 go_wp2_with fail
 go_call (leave_any ps lb A c (by omega) _ HP.out.1 (LineIn.of M)) as r W3 ⟨B, d, out, rfl, hs, hq, g1⟩
 replace M := Sep.comp (ps := lineL lb A c ps) M g1
 clear g1
 have hE : out.map P3.i = readyM ts := ready_eq hs (hq.trans HP.out.2)
 have hL : out.length = (readyM ts).length := by rw [← hE]; simp
 rw [hE, hL] at M
 rw [hL]
 clear hE hL hs hq HP
 go_wp2_with fail
 go_ret
 exact ⟨B, d, rfl, M.take 1⟩
set_option maxHeartbeats 2000000 in
theorem gWaitersOn_any (ts : List T7) (ks : List Int) (fs : List F2) (A0 A1 A2 : Option Addr) (c0 c1 c2 : Nat) (tn : Int) (st : Bool) (wk on2 : Int) (w : World) (hlen : ts.length ≤ 1048576) (h : Row w A0 (tcells ts)) :
 Calls Tryz.prog 15 #[.agg #[.slice A0 ts.length c0, .slice A1 ks.length c1, .slice A2 fs.length c2, .int .i64 tn, .bool st], .int .i64 wk, .int .i64 on2] w fun r w' => ∃ (B : Option Addr) (d : Nat), r = .returned (.slice B (waitersM ts wk on2).length d) ∧ Sep [] w w' [rK (waitersM ts wk on2).length B d (waitersM ts wk on2)] := by
 have H := hide h
 clear h
 go_enter Tryz.func15, Tryz.ntmps15
 go_wp2_with fail
 generalize hW : w.alloc _ = W1
 have M := Sep.e1 hW
 clear hW
 obtain ⟨tP, Aa, Ac, Ae, Ad, Ab⟩ := M.q5 0 rfl
 go_wp2_with fail
 go_call (waitersOn_p ts w.heap.size A0 c0 wk on2 _ hlen (M.cell 0 0 rfl) (H.out.below M.below)) as r W2 ⟨lb, A, c, ps, rfl, hle, hh, hp, g1⟩
 clear tP Aa Ac Ae Ad Ab
 replace M : Sep [] w W2 (lineL lb A c ps ++ [.blk (w.heap.size) 30 #[.slice A0 ts.length c0, .slice A1 ks.length c1, .slice A2 fs.length c2, .int .i64 tn, .bool st]]) := Sep.new M g1
 clear g1
 have HP := hide (⟨hh, hp⟩ : _ ∧ _)
 clear hh hp
 go_wp2_with fail
 go_call (leave_any ps lb A c (by omega) _ HP.out.1 (LineIn.of M)) as r W3 ⟨B, d, out, rfl, hs, hq, g1⟩
 replace M := Sep.comp (ps := lineL lb A c ps) M g1
 clear g1
 have hE : out.map P3.i = waitersM ts wk on2 := wait_eq hs (hq.trans HP.out.2)
 have hL : out.length = (waitersM ts wk on2).length := by rw [← hE]; simp
 rw [hE, hL] at M
 rw [hL]
 clear hE hL hs hq HP
 go_wp2_with fail
 go_ret
 exact ⟨B, d, rfl, M.take 1⟩
theorem ready_le (ts : List T7) : (readyM ts).length ≤ ts.length := lineM_length _ _ _
theorem wokenAll_none {ys vs : List T7} {yn vv wt on : Int} (h : vs = wakeAllT (waitersM ys wt on) ys yn vv) : (waitersM vs wt on).length = 0 := by
 rw [h, waiters_none]; rfl
theorem gWaitersOn_z (ts : List T7) (ks : List Int) (fs : List F2) (A0 A1 A2 : Option Addr) (c0 c1 c2 : Nat) (tn : Int) (st : Bool) (wk on2 : Int) (w : World) (hlen : ts.length ≤ 1048576) (hn : (waitersM ts wk on2).length = 0) (h : Row w A0 (tcells ts)) :
 Calls Tryz.prog 15 #[.agg #[.slice A0 ts.length c0, .slice A1 ks.length c1, .slice A2 fs.length c2, .int .i64 tn, .bool st], .int .i64 wk, .int .i64 on2] w fun r w' => ∃ (B : Option Addr) (d : Nat), r = .returned (.slice B 0 d) ∧ Sep [] w w' [rK (waitersM ts wk on2).length B d (waitersM ts wk on2)] :=
 (gWaitersOn_any ts ks fs A0 A1 A2 c0 c1 c2 tn st wk on2 w hlen h).mono fun r w' ⟨B, d, hr, hs⟩ => ⟨B, d, by rw [hr, hn], hs⟩
/-- Whoever stands in the line beside the one that was woken has an earlier turn. -/
theorem woken_order {a b c d e : Int} {ts us : List T7} {ks : List Int} {fs : List F2} {tn v : Int} {k : Nat} {x : T7} (h : poolB a b c d e ts ks fs tn = true) (hx : ts[k]? = some x) (hus : us = ts.set k (wakeT x tn v)) :
 ∀ j ∈ readyM us, ∃ (kk : Nat) (y : T7), j = kk ∧ us[kk]? = some y ∧ (kk ≠ k → y.t < tn) := fun j hj => by
 obtain ⟨kk, y, rfl, hy, _⟩ := ready_mem hj
 refine ⟨kk, y, rfl, hy, fun hne => ?_⟩
 rw [hus, List.getElem?_set_ne (by omega)] at hy
 exact right_turn h hy
theorem Row.cells7' {W : World} {ts : List T7} {A : Option Addr} {k : Nat} {s l o wt on v t : Int} (h : Row W A (tcells ts)) (hx : ts[k]? = some ⟨s, l, o, wt, on, v, t⟩) :
 ∃ (b off : Nat), A = some ⟨b, off, none⟩ ∧ W.cell? ⟨b, off + k * 7, none⟩ = some (.int .i64 s) ∧ W.cell? ⟨b, off + k * 7 + 1, none⟩ = some (.int .i64 l) ∧ W.cell? ⟨b, off + k * 7 + 2, none⟩ = some (.int .i64 o) ∧ W.cell? ⟨b, off + k * 7 + 3, none⟩ = some (.int .i64 wt) ∧
  W.cell? ⟨b, off + k * 7 + 4, none⟩ = some (.int .i64 on) ∧ W.cell? ⟨b, off + k * 7 + 5, none⟩ = some (.int .i64 v) ∧ W.cell? ⟨b, off + k * 7 + 6, none⟩ = some (.int .i64 t) := by
 obtain ⟨b, off, s', l', o', wt', on', v', t', e, _⟩ := h.ts_at (List.getElem?_eq_some_iff.1 hx).1
 subst e
 exact ⟨b, off, rfl, Row.cells7 h hx⟩
set_option maxRecDepth 100000 in
set_option maxHeartbeats 1600000 in
theorem fnWoken_any (w : World) (A : Option Addr) (len cap : Nat) (hby : Bytes w w.heap.size A len) (hl : len ≤ 4096) :
 Calls Tryz.prog 3 #[.slice A len cap] w fun r w' => r = .returned (.bool true) ∧ Below w.heap.size w w' := by
 go_enter Tryz.func3, Tryz.ntmps3
 go_wp2_with fail
 go_call (big_any A len cap _) as r w' ⟨rfl, rfl⟩
 go_wp2_with fail
 go_call (drawWoken_any w.heap.size w A len cap (Nat.le_refl _) hl hby) as r W1 ⟨a, b, c, d, e, ts, ks, fs, tn, st, B0, B1, B2, e0, e1, e2, id, v9, rfl, h0, h1, h2, M⟩
 obtain ⟨us, ks2, fs2, tn2, st2, zz, hle, hE, hS, hI⟩ := woken_told a b c d e ts ks fs tn st id v9 (by omega)
 replace hE := hide hE
 go_wp2_with fail
 have N := M.al2 25 #[.int .i64 a, .int .i64 b, .int .i64 c, .int .i64 d, .int .i64 e] 30 #[.slice B0 ts.length e0, .slice B1 ks.length e1, .slice B2 fs.length e2, .int .i64 tn, .bool st]
 clear M
 obtain ⟨aP, aX, W2, e1, e2, e3, M⟩ := N
 rw [e3, e2, e1]
 clear e1 e2 e3
 obtain ⟨tX, Aj, Ag, Aa, Ab, Ae⟩ := M.q5 0 rfl
 obtain ⟨tP, Ah, Af, Ad, Ac, Ai⟩ := M.q5 1 rfl
 go_wp2_with fail
 go_call (hI.out B0 B1 B2 e0 e1 e2 _ ⟨M.rowS 2 rfl, M.rowS 3 rfl, M.rowS 4 rfl⟩) as r W3 ⟨C0, C1, C2, f0, f1, f2, rfl, g1⟩
 clear tX Aj Ag Aa Ab Ae tP Ah Af Ad Ac Ai
 replace M := Sep.new M g1
 simp only [List.cons_append, List.nil_append] at M
 clear g1
 obtain ⟨tX, Aj, Ag, Aa, Ab, Ae⟩ := M.q5 3 rfl
 obtain ⟨tP, Ah, Af, Ad, Ac, Ai⟩ := M.q5 4 rfl
 go_wp2_with fail
 clear tX Aj Ag Aa Ab Ae tP Ah Af Ad Ac Ai
 have N := M.al1 30 #[.slice C0 us.length f0, .slice C1 ks2.length f1, .slice C2 fs2.length f2, .int .i64 tn2, .bool st2]
 clear M
 obtain ⟨aY, W4, e1, e3, M⟩ := N
 rw [e3, e1]
 clear e1 e3
 obtain ⟨tX, Aj, Ag, Aa, Ab, Ae⟩ := M.q5 4 rfl
 obtain ⟨tP, Ah, Af, Ad, Ac, Ai⟩ := M.q5 5 rfl
 go_wp2_with fail
 go_call (hS.out B0 B1 B2 e0 e1 e2 _ ⟨M.rowS 6 rfl, M.rowS 7 rfl, M.rowS 8 rfl⟩) as r W5 ⟨D0, D1, D2, m0, m1, m2, rfl, g1⟩
 clear tX Aj Ag Aa Ab Ae tP Ah Af Ad Ac Ai
 replace M := Sep.new M g1
 simp only [List.cons_append, List.nil_append] at M
 clear g1
 clear hS hI
 go_wp2_with fail
 have N := M.al1 30 #[.slice D0 us.length m0, .slice D1 ks2.length m1, .slice D2 fs2.length m2, .int .i64 tn2, .bool st2]
 clear M
 obtain ⟨aZ, W6, e1, e3, M⟩ := N
 rw [e3, e1]
 clear e1 e3
 go_wp2_with fail
 have hs2 := M.size
 have hby2 : Bytes W6 w.heap.size A len := hby.keep fun b hb => M.below.block b (by omega)
 go_call (drawWokenAll_any w.heap.size _ A len cap (by omega) hl hby2) as r W7 ⟨pa, pb, pc, pd, pe, ys, yk, yf, yn, yt, E0, E1, E2, i0, i1, i2, wt, on, vv, rfl, k0, k1, k2, g1⟩
 replace M := Sep.new M g1
 simp only [List.cons_append, List.nil_append] at M
 clear g1
 clear hby2 hs2
 obtain ⟨vs, vk, vf, vn, vt, mm, hle2, hE2, hS, hI⟩ := wokenAll_told pa pb pc pd pe ys yk yf yn yt wt on vv (by omega)
 replace hE2 := hide hE2
 go_wp2_with fail
 have N := M.al2 25 #[.int .i64 pa, .int .i64 pb, .int .i64 pc, .int .i64 pd, .int .i64 pe] 30 #[.slice E0 ys.length i0, .slice E1 yk.length i1, .slice E2 yf.length i2, .int .i64 yn, .bool yt]
 clear M
 obtain ⟨aQ, aU, W8, e1, e2, e3, M⟩ := N
 rw [e3, e2, e1]
 clear e1 e2 e3
 obtain ⟨tU, Be, Bs, Bl, Au, Bt⟩ := M.q5 0 rfl
 obtain ⟨tQ, Bu, Av, Bj, Bd, Bp⟩ := M.q5 1 rfl
 go_wp2_with fail
 go_call (hI.out E0 E1 E2 i0 i1 i2 _ ⟨M.rowS 2 rfl, M.rowS 3 rfl, M.rowS 4 rfl⟩) as r W9 ⟨G0, G1, G2, j0, j1, j2, rfl, g1⟩
 clear tU Be Bs Bl Au Bt tQ Bu Av Bj Bd Bp
 replace M := Sep.new M g1
 simp only [List.cons_append, List.nil_append] at M
 clear g1
 obtain ⟨tU, Be, Bs, Bl, Au, Bt⟩ := M.q5 3 rfl
 obtain ⟨tQ, Bu, Av, Bj, Bd, Bp⟩ := M.q5 4 rfl
 go_wp2_with fail
 clear tU Be Bs Bl Au Bt tQ Bu Av Bj Bd Bp
 have N := M.al1 30 #[.slice G0 vs.length j0, .slice G1 vk.length j1, .slice G2 vf.length j2, .int .i64 vn, .bool vt]
 clear M
 obtain ⟨aV, W10, e1, e3, M⟩ := N
 rw [e3, e1]
 clear e1 e3
 obtain ⟨tU, Be, Bs, Bl, Au, Bt⟩ := M.q5 4 rfl
 obtain ⟨tQ, Bu, Av, Bj, Bd, Bp⟩ := M.q5 5 rfl
 go_wp2_with fail
 go_call (hS.out E0 E1 E2 i0 i1 i2 _ ⟨M.rowS 6 rfl, M.rowS 7 rfl, M.rowS 8 rfl⟩) as r W11 ⟨H0, H1, H2, n0, n1, n2, rfl, g1⟩
 clear tU Be Bs Bl Au Bt tQ Bu Av Bj Bd Bp
 replace M := Sep.new M g1
 simp only [List.cons_append, List.nil_append] at M
 clear g1
 clear hS hI
 cases zz
 ·replace hE := hide (hE.out.2 rfl)
  obtain ⟨tZ, Am, Al, Ap, As, An⟩ := M.q5 12 rfl
  obtain ⟨tY, Ar, Ao, Aq, At, Ak⟩ := M.q5 16 rfl
  go_wp2_with fail
  clear tZ Am Al Ap As An tY Ar Ao Aq At Ak
  have N := M.al1 30 #[.slice H0 vs.length n0, .slice H1 vk.length n1, .slice H2 vf.length n2, .int .i64 vn, .bool vt]
  clear M
  obtain ⟨aT, W12, e1, e3, M⟩ := N
  rw [e3, e1]
  clear e1 e3
  have HV := hide (M.below : Below w.heap.size w W12)
  have HX := hide (⟨M.rowS 23 rfl, M.rowS 24 rfl, M.rowS 25 rfl⟩ : InPool W12 ts ks fs B0 B1 B2)
  have HY := hide (⟨M.rowS 18 rfl, M.rowS 19 rfl, M.rowS 20 rfl⟩ : InPool W12 us ks2 fs2 C0 C1 C2)
  have HZ := hide (⟨M.rowS 14 rfl, M.rowS 15 rfl, M.rowS 16 rfl⟩ : InPool W12 us ks2 fs2 D0 D1 D2)
  have HU := hide (⟨M.rowS 5 rfl, M.rowS 6 rfl, M.rowS 7 rfl⟩ : InPool W12 vs vk vf G0 G1 G2)
  have HT := hide (⟨M.rowS 1 rfl, M.rowS 2 rfl, M.rowS 3 rfl⟩ : InPool W12 vs vk vf H0 H1 H2)
  obtain ⟨tP, Ah, Af, Ad, Ac, Ai⟩ := M.q5 22 rfl
  obtain ⟨tX, Aj, Ag, Aa, Ab, Ae⟩ := M.q5 21 rfl
  obtain ⟨tY, Ar, Ao, Aq, At, Ak⟩ := M.q5 17 rfl
  obtain ⟨tZ, Am, Al, Ap, As, An⟩ := M.q5 13 rfl
  obtain ⟨tV, Bq, Bm, Ax, Bg, Bi⟩ := M.q5 4 rfl
  obtain ⟨tT, Bb, Br, Ay, Bk, Bn⟩ := M.q5 0 rfl
  clear M
  have cP0 := fun (x : KeptW W12) => KeptW.cell Ah x
  have cP1 := fun (x : KeptW W12) => KeptW.cell Af x
  have cP2 := fun (x : KeptW W12) => KeptW.cell Ad x
  have cP3 := fun (x : KeptW W12) => KeptW.cell Ac x
  have cP4 := fun (x : KeptW W12) => KeptW.cell Ai x
  clear tP Ah Af Ad Ac Ai
  have cX0 := fun (x : KeptW W12) => KeptW.cell Aj x
  have cX1 := fun (x : KeptW W12) => KeptW.cell Ag x
  have cX2 := fun (x : KeptW W12) => KeptW.cell Aa x
  have cX3 := fun (x : KeptW W12) => KeptW.cell Ab x
  have cX4 := fun (x : KeptW W12) => KeptW.cell Ae x
  clear tX Aj Ag Aa Ab Ae
  have cY0 := fun (x : KeptW W12) => KeptW.cell Ar x
  have cY1 := fun (x : KeptW W12) => KeptW.cell Ao x
  have cY2 := fun (x : KeptW W12) => KeptW.cell Aq x
  have cY3 := fun (x : KeptW W12) => KeptW.cell At x
  have cY4 := fun (x : KeptW W12) => KeptW.cell Ak x
  clear tY Ar Ao Aq At Ak
  have cZ0 := fun (x : KeptW W12) => KeptW.cell Am x
  have cZ1 := fun (x : KeptW W12) => KeptW.cell Al x
  have cZ2 := fun (x : KeptW W12) => KeptW.cell Ap x
  have cZ3 := fun (x : KeptW W12) => KeptW.cell As x
  have cZ4 := fun (x : KeptW W12) => KeptW.cell An x
  clear tZ Am Al Ap As An
  have cV0 := fun (x : KeptW W12) => KeptW.cell Bq x
  have cV1 := fun (x : KeptW W12) => KeptW.cell Bm x
  have cV2 := fun (x : KeptW W12) => KeptW.cell Ax x
  have cV3 := fun (x : KeptW W12) => KeptW.cell Bg x
  have cV4 := fun (x : KeptW W12) => KeptW.cell Bi x
  clear tV Bq Bm Ax Bg Bi
  have cT0 := fun (x : KeptW W12) => KeptW.cell Bb x
  have cT1 := fun (x : KeptW W12) => KeptW.cell Br x
  have cT2 := fun (x : KeptW W12) => KeptW.cell Ay x
  have cT3 := fun (x : KeptW W12) => KeptW.cell Bk x
  have cT4 := fun (x : KeptW W12) => KeptW.cell Bn x
  clear tT Bb Br Ay Bk Bn
  have hx0 := KeptW.mk'_w (Below.refl W12.heap.size W12)
  generalize KeptW.mk' (Below.refl W12.heap.size W12) = x0 at hx0
  rw [← hx0]
  clear hx0
  go_wp2_with fail
  go_call (kept_call (x := x0) (likePool_same us ks2 fs2 C0 C1 C2 D0 D1 D2 f0 f1 f2 m0 m1 m2 tn2 st2 x0.w hle (InPool.below HY.out x0.below) (InPool.below HZ.out x0.below))) as r wq ⟨rfl, x1, rfl⟩
  go_wp2_with fail
  go_call (kept_call (x := x1) (likePool_same vs vk vf G0 G1 G2 H0 H1 H2 j0 j1 j2 n0 n1 n2 vn vt x1.w hle2 (InPool.below HU.out x1.below) (InPool.below HT.out x1.below))) as r wq ⟨rfl, x2, rfl⟩
  by_cases hm : 0 ≤ mm
  ·have hno := hide (wokenAll_none (wt := wt) (on := on) (hE2.out hm))
   clear hE2
   go_wp2_with fail
   go_call (gWaitersOn_z vs vk vf G0 G1 G2 j0 j1 j2 vn vt wt on x2.w (by omega) hno.out (InPool.below HU.out x2.below).1) as r wq ⟨LB, ld, rfl, g1⟩
   have HL := hide (g1.rowS 0 rfl : Row wq LB (icells (waitersM vs wt on)))
   have g2 := g1.below
   obtain ⟨x3, rfl⟩ : ∃ y : KeptW W12, wq = y.w := ⟨KeptW.mk' (x2.below.trans (g2.mono x2.below.size)), rfl⟩
   clear g1 g2
   clear HL hno
   obtain ⟨pz, hpz⟩ : ∃ z, poolB a b c d e ts ks fs tn = z := ⟨_, rfl⟩
   replace hpz := hide hpz
   go_wp2_with fail
   go_call (kept_call (x := x3) (sPoolOk_k e0 e1 e2 st pz x3.w (by omega) (by omega) (by omega) (InPool.below HX.out x3.below) hpz.out)) as r wq ⟨rfl, x4, rfl⟩
   cases pz
   ·go_wp2_with fail
    go_wp2
    go_ret
    exact ⟨rfl, HV.out.trans (x4.below.mono HV.out.size)⟩
   ·go_wp2_with fail
    go_call (kept_call (x := x4) (likePool_eq (hE.out hpz.out) C0 C1 C2 B0 B1 B2 f0 f1 f2 e0 e1 e2 x4.w hle (InPool.below HY.out x4.below) (InPool.below HX.out x4.below))) as r wq ⟨rfl, x5, rfl⟩
    go_wp2
    go_ret
    exact ⟨rfl, HV.out.trans (x5.below.mono HV.out.size)⟩
  ·obtain ⟨pz, hpz⟩ : ∃ z, poolB a b c d e ts ks fs tn = z := ⟨_, rfl⟩
   replace hpz := hide hpz
   go_wp2_with fail
   go_call (kept_call (x := x2) (sPoolOk_k e0 e1 e2 st pz x2.w (by omega) (by omega) (by omega) (InPool.below HX.out x2.below) hpz.out)) as r wq ⟨rfl, x6, rfl⟩
   cases pz
   ·go_wp2_with fail
    go_wp2
    go_ret
    exact ⟨rfl, HV.out.trans (x6.below.mono HV.out.size)⟩
   ·go_wp2_with fail
    go_call (kept_call (x := x6) (likePool_eq (hE.out hpz.out) C0 C1 C2 B0 B1 B2 f0 f1 f2 e0 e1 e2 x6.w hle (InPool.below HY.out x6.below) (InPool.below HX.out x6.below))) as r wq ⟨rfl, x7, rfl⟩
    go_wp2
    go_ret
    exact ⟨rfl, HV.out.trans (x7.below.mono HV.out.size)⟩
 ·replace hE := hide (hE.out.1 rfl)
  obtain ⟨tZ, Am, Al, Ap, As, An⟩ := M.q5 12 rfl
  obtain ⟨tY, Ar, Ao, Aq, At, Ak⟩ := M.q5 16 rfl
  go_wp2_with fail
  clear tZ Am Al Ap As An tY Ar Ao Aq At Ak
  have N := M.al1 30 #[.slice H0 vs.length n0, .slice H1 vk.length n1, .slice H2 vf.length n2, .int .i64 vn, .bool vt]
  clear M
  obtain ⟨aT, W13, e1, e3, M⟩ := N
  rw [e3, e1]
  clear e1 e3
  have HV := hide (M.below : Below w.heap.size w W13)
  have HX := hide (⟨M.rowS 23 rfl, M.rowS 24 rfl, M.rowS 25 rfl⟩ : InPool W13 ts ks fs B0 B1 B2)
  have HY := hide (⟨M.rowS 18 rfl, M.rowS 19 rfl, M.rowS 20 rfl⟩ : InPool W13 us ks2 fs2 C0 C1 C2)
  have HZ := hide (⟨M.rowS 14 rfl, M.rowS 15 rfl, M.rowS 16 rfl⟩ : InPool W13 us ks2 fs2 D0 D1 D2)
  have HU := hide (⟨M.rowS 5 rfl, M.rowS 6 rfl, M.rowS 7 rfl⟩ : InPool W13 vs vk vf G0 G1 G2)
  have HT := hide (⟨M.rowS 1 rfl, M.rowS 2 rfl, M.rowS 3 rfl⟩ : InPool W13 vs vk vf H0 H1 H2)
  obtain ⟨tP, Ah, Af, Ad, Ac, Ai⟩ := M.q5 22 rfl
  obtain ⟨tX, Aj, Ag, Aa, Ab, Ae⟩ := M.q5 21 rfl
  obtain ⟨tY, Ar, Ao, Aq, At, Ak⟩ := M.q5 17 rfl
  obtain ⟨tZ, Am, Al, Ap, As, An⟩ := M.q5 13 rfl
  obtain ⟨tV, Bq, Bm, Ax, Bg, Bi⟩ := M.q5 4 rfl
  obtain ⟨tT, Bb, Br, Ay, Bk, Bn⟩ := M.q5 0 rfl
  clear M
  have cP0 := fun (x : KeptW W13) => KeptW.cell Ah x
  have cP1 := fun (x : KeptW W13) => KeptW.cell Af x
  have cP2 := fun (x : KeptW W13) => KeptW.cell Ad x
  have cP3 := fun (x : KeptW W13) => KeptW.cell Ac x
  have cP4 := fun (x : KeptW W13) => KeptW.cell Ai x
  clear tP Ah Af Ad Ac Ai
  have cX0 := fun (x : KeptW W13) => KeptW.cell Aj x
  have cX1 := fun (x : KeptW W13) => KeptW.cell Ag x
  have cX2 := fun (x : KeptW W13) => KeptW.cell Aa x
  have cX3 := fun (x : KeptW W13) => KeptW.cell Ab x
  have cX4 := fun (x : KeptW W13) => KeptW.cell Ae x
  clear tX Aj Ag Aa Ab Ae
  have cY0 := fun (x : KeptW W13) => KeptW.cell Ar x
  have cY1 := fun (x : KeptW W13) => KeptW.cell Ao x
  have cY2 := fun (x : KeptW W13) => KeptW.cell Aq x
  have cY3 := fun (x : KeptW W13) => KeptW.cell At x
  have cY4 := fun (x : KeptW W13) => KeptW.cell Ak x
  clear tY Ar Ao Aq At Ak
  have cZ0 := fun (x : KeptW W13) => KeptW.cell Am x
  have cZ1 := fun (x : KeptW W13) => KeptW.cell Al x
  have cZ2 := fun (x : KeptW W13) => KeptW.cell Ap x
  have cZ3 := fun (x : KeptW W13) => KeptW.cell As x
  have cZ4 := fun (x : KeptW W13) => KeptW.cell An x
  clear tZ Am Al Ap As An
  have cV0 := fun (x : KeptW W13) => KeptW.cell Bq x
  have cV1 := fun (x : KeptW W13) => KeptW.cell Bm x
  have cV2 := fun (x : KeptW W13) => KeptW.cell Ax x
  have cV3 := fun (x : KeptW W13) => KeptW.cell Bg x
  have cV4 := fun (x : KeptW W13) => KeptW.cell Bi x
  clear tV Bq Bm Ax Bg Bi
  have cT0 := fun (x : KeptW W13) => KeptW.cell Bb x
  have cT1 := fun (x : KeptW W13) => KeptW.cell Br x
  have cT2 := fun (x : KeptW W13) => KeptW.cell Ay x
  have cT3 := fun (x : KeptW W13) => KeptW.cell Bk x
  have cT4 := fun (x : KeptW W13) => KeptW.cell Bn x
  clear tT Bb Br Ay Bk Bn
  have hx0 := KeptW.mk'_w (Below.refl W13.heap.size W13)
  generalize KeptW.mk' (Below.refl W13.heap.size W13) = x0 at hx0
  rw [← hx0]
  clear hx0
  go_wp2_with fail
  go_call (kept_call (x := x0) (likePool_same us ks2 fs2 C0 C1 C2 D0 D1 D2 f0 f1 f2 m0 m1 m2 tn2 st2 x0.w hle (InPool.below HY.out x0.below) (InPool.below HZ.out x0.below))) as r wq ⟨rfl, x1, rfl⟩
  go_wp2_with fail
  go_call (kept_call (x := x1) (likePool_same vs vk vf G0 G1 G2 H0 H1 H2 j0 j1 j2 n0 n1 n2 vn vt x1.w hle2 (InPool.below HU.out x1.below) (InPool.below HT.out x1.below))) as r wq ⟨rfl, x2, rfl⟩
  by_cases hm : 0 ≤ mm
  ·have hno := hide (wokenAll_none (wt := wt) (on := on) (hE2.out hm))
   clear hE2
   go_wp2_with fail
   go_call (gWaitersOn_z vs vk vf G0 G1 G2 j0 j1 j2 vn vt wt on x2.w (by omega) hno.out (InPool.below HU.out x2.below).1) as r wq ⟨LB, ld, rfl, g1⟩
   have HL := hide (g1.rowS 0 rfl : Row wq LB (icells (waitersM vs wt on)))
   have g2 := g1.below
   obtain ⟨x3, rfl⟩ : ∃ y : KeptW W13, wq = y.w := ⟨KeptW.mk' (x2.below.trans (g2.mono x2.below.size)), rfl⟩
   clear g1 g2
   clear HL hno
   obtain ⟨k, ⟨s, l, o, w1, o1, v, t⟩, hk, hx, hs, hus, hk2, hf2, ht2, hst2, hpo, hpu⟩ := hE.out
   have hkl := get_lt hx
   have hux : us[k]? = some ⟨1, l, o, 0, 0, v9, tn⟩ := by rw [hus]; exact List.getElem?_set_self hkl
   have hul : us.length ≤ 31 := by rw [hus, List.length_set]; exact h0
   have hku : k < us.length := get_lt hux
   have hord := hide (woken_order hpo hx hus)
   replace hpu := hide hpu
   subst hk
   have hk0 : (0 : Int) ≤ (k : Int) := by omega
   have hk1 : (k : Int) < (us.length : Int) := by omega
   have hcell := hide (HY.out.1.cells7' hux)
   clear hE hx hs hus hk2 hf2 ht2 hst2 hpo hkl
   go_wp2_with fail
   go_call (gReadyLine_any us ks2 fs2 C0 C1 C2 f0 f1 f2 tn2 st2 x3.w (by omega) (InPool.below HY.out x3.below).1) as r wq ⟨LB, ld, rfl, g1⟩
   have HL := hide (g1.rowS 0 rfl : Row wq LB (icells (readyM us)))
   have g2 := g1.below
   obtain ⟨x4, rfl⟩ : ∃ y : KeptW W13, wq = y.w := ⟨KeptW.mk' (x3.below.trans (g2.mono x3.below.size)), rfl⟩
   clear g1 g2
   obtain ⟨lb, off, eC, z0, z1, z2, z3, z4, z5, z6⟩ := hcell.out
   subst eC
   have cK0 := fun (x : KeptW W13) => KeptW.cell (z0) x
   have cK1 := fun (x : KeptW W13) => KeptW.cell (z1) x
   have cK2 := fun (x : KeptW W13) => KeptW.cell (z2) x
   have cK3 := fun (x : KeptW W13) => KeptW.cell (z3) x
   have cK4 := fun (x : KeptW W13) => KeptW.cell (z4) x
   have cK5 := fun (x : KeptW W13) => KeptW.cell (z5) x
   have cK6 := fun (x : KeptW W13) => KeptW.cell (z6) x
   clear hcell z0 z1 z2 z3 z4 z5 z6
   clear cZ0 cZ1 cZ2 cZ3 cZ4
   clear cV0 cV1 cV2 cV3 cV4
   clear cT0 cT1 cT2 cT3 cT4
   clear cX0 cX1 cX2 cX3 cX4
   clear HX
   clear HZ
   clear HU
   clear HT
   go_wp2_with fail
   have hrl := hide (ready_le us)
   obtain ⟨atb, W14, e1, e3, M⟩ := (Sep.start x4.w).al1 44 #[.int .i64 1, .int .i64 l, .int .i64 o, .int .i64 0, .int .i64 0, .int .i64 v9, .int .i64 tn]
   rw [e3, e1]
   clear e1 e3
   have hB : Below W13.heap.size W13 W14 := x4.below.trans (M.below.mono x4.below.size)
   obtain ⟨Bv, Az, Bh, Bc, Bo, Aw, Ba, Bf⟩ := M.q7 0 rfl
   replace HV := hide (HV.out.trans (hB.mono HV.out.size))
   replace HL := hide (Row.below HL.out M.below)
   replace HY := hide (InPool.below HY.out hB)
   replace cP0 := fun (x : KeptW W14) => KeptW.cell (W0 := W14) (cP0 (KeptW.mk' hB)) x
   replace cP1 := fun (x : KeptW W14) => KeptW.cell (W0 := W14) (cP1 (KeptW.mk' hB)) x
   replace cP2 := fun (x : KeptW W14) => KeptW.cell (W0 := W14) (cP2 (KeptW.mk' hB)) x
   replace cP3 := fun (x : KeptW W14) => KeptW.cell (W0 := W14) (cP3 (KeptW.mk' hB)) x
   replace cP4 := fun (x : KeptW W14) => KeptW.cell (W0 := W14) (cP4 (KeptW.mk' hB)) x
   replace cY0 := fun (x : KeptW W14) => KeptW.cell (W0 := W14) (cY0 (KeptW.mk' hB)) x
   replace cY1 := fun (x : KeptW W14) => KeptW.cell (W0 := W14) (cY1 (KeptW.mk' hB)) x
   replace cY2 := fun (x : KeptW W14) => KeptW.cell (W0 := W14) (cY2 (KeptW.mk' hB)) x
   replace cY3 := fun (x : KeptW W14) => KeptW.cell (W0 := W14) (cY3 (KeptW.mk' hB)) x
   replace cY4 := fun (x : KeptW W14) => KeptW.cell (W0 := W14) (cY4 (KeptW.mk' hB)) x
   replace cK0 := fun (x : KeptW W14) => KeptW.cell (W0 := W14) (cK0 (KeptW.mk' hB)) x
   replace cK1 := fun (x : KeptW W14) => KeptW.cell (W0 := W14) (cK1 (KeptW.mk' hB)) x
   replace cK2 := fun (x : KeptW W14) => KeptW.cell (W0 := W14) (cK2 (KeptW.mk' hB)) x
   replace cK3 := fun (x : KeptW W14) => KeptW.cell (W0 := W14) (cK3 (KeptW.mk' hB)) x
   replace cK4 := fun (x : KeptW W14) => KeptW.cell (W0 := W14) (cK4 (KeptW.mk' hB)) x
   replace cK5 := fun (x : KeptW W14) => KeptW.cell (W0 := W14) (cK5 (KeptW.mk' hB)) x
   replace cK6 := fun (x : KeptW W14) => KeptW.cell (W0 := W14) (cK6 (KeptW.mk' hB)) x
   have ctb0 := fun (x : KeptW W14) => KeptW.cell Az x
   have ctb1 := fun (x : KeptW W14) => KeptW.cell Bh x
   have ctb2 := fun (x : KeptW W14) => KeptW.cell Bc x
   have ctb3 := fun (x : KeptW W14) => KeptW.cell Bo x
   have ctb4 := fun (x : KeptW W14) => KeptW.cell Aw x
   have ctb5 := fun (x : KeptW W14) => KeptW.cell Ba x
   have ctb6 := fun (x : KeptW W14) => KeptW.cell Bf x
   clear Bv Az Bh Bc Bo Aw Ba Bf
   clear M
   clear hB
   have hx0 := KeptW.mk'_w (Below.refl W14.heap.size W14)
   generalize KeptW.mk' (Below.refl W14.heap.size W14) = yW14 at hx0
   rw [← hx0]
   clear hx0
   obtain ⟨L, hR⟩ : ∃ L, readyM us = L := ⟨_, rfl⟩
   rw [hR] at HL hrl ⊢
   replace hR := hide hR
   go_wp2_with fail
   go_loopw [22] (fun i wr => ∃ (n : Nat) (x : KeptW W14), i = .int .i64 n ∧ wr = x.w) (fun i _ => L.length - (intOf i).toNat)
   case atStart => exact ⟨0, yW14, rfl, rfl⟩
   case round =>
    obtain ⟨n, x, rfl, rfl⟩ := hrel
    by_cases hlt : n < L.length
    ·obtain ⟨bl, ol, j, rfl, _, hj, _, zL⟩ := (Row.below HL.out x.below).ks_at hlt
     obtain ⟨kk, ty, rfl, hty, hcs⟩ := hord.out j (by rw [hR.out]; exact List.mem_of_getElem? hj)
     obtain ⟨s8, l8, o8, w8, n8, v8, t8⟩ := ty
     have hkk : kk < us.length := get_lt hty
     have y1 := (Row.cells7 (InPool.below HY.out x.below).1 hty)
     obtain ⟨_, yl, _, _, _, _, yt⟩ := y1
     have cL := fun (y : KeptW x.w) => KeptW.cell zL y
     have cl := fun (y : KeptW x.w) => KeptW.cell yl y
     have ct := fun (y : KeptW x.w) => KeptW.cell yt y
     have hn0 : (0 : Int) ≤ (n : Int) := by omega
     have hn1 : (n : Int) < (L.length : Int) := by omega
     have hkk0 : (0 : Int) ≤ (kk : Int) := by omega
     have hkk1 : (kk : Int) < (us.length : Int) := by omega
     have hn31 := hrl.out
     clear zL yl yt hj hty
     have dY0 := fun (y : KeptW x.w) => KeptW.cell (cY0 x) y
     have dt1 := fun (y : KeptW x.w) => KeptW.cell (ctb1 x) y
     have dt6 := fun (y : KeptW x.w) => KeptW.cell (ctb6 x) y
     by_cases hkk2 : kk = k
     ·subst hkk2
      clear hcs
      go_wp2_with fail
      have hx0 := KeptW.mk'_w (Below.refl x.w.heap.size x.w)
      generalize KeptW.mk' (Below.refl x.w.heap.size x.w) = x2 at hx0
      rw [← hx0]
      clear hx0
      refine region_kept (by kernel_rfl) (by kernel_rfl) ?_
      repeat (go_big_quiet_step (fail))
      refine wpQuiet_nil ?_
      rintro _ ⟨x2, rfl⟩
      obtain ⟨y, hy⟩ : ∃ y : KeptW W14, x2.w = y.w := ⟨KeptW.mk' (x.below.trans (x2.below.mono x.below.size)), rfl⟩
      rw [hy]
      clear hy
      go_wp2
      go_roundw
      case rel => exact ⟨n + 1, y, by go_num, rfl⟩
      case measure => simp [intOf]; omega
     ·have hne : ((kk : Int) == (k : Int)) = false := by rw [beq_eq_false_iff_ne]; omega
      have hne2 : ((kk : Int) != (k : Int)) = true := by simp [bne, hne]
      have htt : ¬ tn ≤ t8 := by have := hcs hkk2; simp only at this; omega
      clear hcs
      by_cases hl8 : l8 = l
      ·subst hl8
       go_wp2_with fail
       have hx0 := KeptW.mk'_w (Below.refl x.w.heap.size x.w)
       generalize KeptW.mk' (Below.refl x.w.heap.size x.w) = x2 at hx0
       rw [← hx0]
       clear hx0
       refine region_kept (by kernel_rfl) (by kernel_rfl) ?_
       repeat (go_big_quiet_step (fail))
       refine wpQuiet_nil ?_
       rintro _ ⟨x2, rfl⟩
       obtain ⟨y, hy⟩ : ∃ y : KeptW W14, x2.w = y.w := ⟨KeptW.mk' (x.below.trans (x2.below.mono x.below.size)), rfl⟩
       rw [hy]
       clear hy
       go_wp2
       go_roundw
       case rel => exact ⟨n + 1, y, by go_num, rfl⟩
       case measure => simp [intOf]; omega
      ·have hl9 : (l8 == l) = false := by rw [beq_eq_false_iff_ne]; exact hl8
       go_wp2_with fail
       have hx0 := KeptW.mk'_w (Below.refl x.w.heap.size x.w)
       generalize KeptW.mk' (Below.refl x.w.heap.size x.w) = x2 at hx0
       rw [← hx0]
       clear hx0
       refine region_kept (by kernel_rfl) (by kernel_rfl) ?_
       repeat (go_big_quiet_step (fail))
       refine wpQuiet_nil ?_
       rintro _ ⟨x2, rfl⟩
       obtain ⟨y, hy⟩ : ∃ y : KeptW W14, x2.w = y.w := ⟨KeptW.mk' (x.below.trans (x2.below.mono x.below.size)), rfl⟩
       rw [hy]
       clear hy
       go_wp2
       go_roundw
       case rel => exact ⟨n + 1, y, by go_num, rfl⟩
       case measure => simp [intOf]; omega
    ·go_wp2_with fail
     go_call (kept_call (x := x) (gPoolOk_k f0 f1 f2 st2 true x.w (by omega) (by omega) (InPool.below HY.out x.below) hpu.out)) as r wq ⟨rfl, x5, rfl⟩
     go_wp2
     go_ret
     exact ⟨rfl, HV.out.trans (x5.below.mono HV.out.size)⟩
  ·obtain ⟨k, ⟨s, l, o, w1, o1, v, t⟩, hk, hx, hs, hus, hk2, hf2, ht2, hst2, hpo, hpu⟩ := hE.out
   have hkl := get_lt hx
   have hux : us[k]? = some ⟨1, l, o, 0, 0, v9, tn⟩ := by rw [hus]; exact List.getElem?_set_self hkl
   have hul : us.length ≤ 31 := by rw [hus, List.length_set]; exact h0
   have hku : k < us.length := get_lt hux
   have hord := hide (woken_order hpo hx hus)
   replace hpu := hide hpu
   subst hk
   have hk0 : (0 : Int) ≤ (k : Int) := by omega
   have hk1 : (k : Int) < (us.length : Int) := by omega
   have hcell := hide (HY.out.1.cells7' hux)
   clear hE hx hs hus hk2 hf2 ht2 hst2 hpo hkl
   go_wp2_with fail
   go_call (gReadyLine_any us ks2 fs2 C0 C1 C2 f0 f1 f2 tn2 st2 x2.w (by omega) (InPool.below HY.out x2.below).1) as r wq ⟨LB, ld, rfl, g1⟩
   have HL := hide (g1.rowS 0 rfl : Row wq LB (icells (readyM us)))
   have g2 := g1.below
   obtain ⟨x5, rfl⟩ : ∃ y : KeptW W13, wq = y.w := ⟨KeptW.mk' (x2.below.trans (g2.mono x2.below.size)), rfl⟩
   clear g1 g2
   obtain ⟨lb, off, eC, z0, z1, z2, z3, z4, z5, z6⟩ := hcell.out
   subst eC
   have cK0 := fun (x : KeptW W13) => KeptW.cell (z0) x
   have cK1 := fun (x : KeptW W13) => KeptW.cell (z1) x
   have cK2 := fun (x : KeptW W13) => KeptW.cell (z2) x
   have cK3 := fun (x : KeptW W13) => KeptW.cell (z3) x
   have cK4 := fun (x : KeptW W13) => KeptW.cell (z4) x
   have cK5 := fun (x : KeptW W13) => KeptW.cell (z5) x
   have cK6 := fun (x : KeptW W13) => KeptW.cell (z6) x
   clear hcell z0 z1 z2 z3 z4 z5 z6
   clear cZ0 cZ1 cZ2 cZ3 cZ4
   clear cV0 cV1 cV2 cV3 cV4
   clear cT0 cT1 cT2 cT3 cT4
   clear cX0 cX1 cX2 cX3 cX4
   clear HX
   clear HZ
   clear HU
   clear HT
   go_wp2_with fail
   have hrl := hide (ready_le us)
   obtain ⟨atb, W15, e1, e3, M⟩ := (Sep.start x5.w).al1 44 #[.int .i64 1, .int .i64 l, .int .i64 o, .int .i64 0, .int .i64 0, .int .i64 v9, .int .i64 tn]
   rw [e3, e1]
   clear e1 e3
   have hB : Below W13.heap.size W13 W15 := x5.below.trans (M.below.mono x5.below.size)
   obtain ⟨Bv, Az, Bh, Bc, Bo, Aw, Ba, Bf⟩ := M.q7 0 rfl
   replace HV := hide (HV.out.trans (hB.mono HV.out.size))
   replace HL := hide (Row.below HL.out M.below)
   replace HY := hide (InPool.below HY.out hB)
   replace cP0 := fun (x : KeptW W15) => KeptW.cell (W0 := W15) (cP0 (KeptW.mk' hB)) x
   replace cP1 := fun (x : KeptW W15) => KeptW.cell (W0 := W15) (cP1 (KeptW.mk' hB)) x
   replace cP2 := fun (x : KeptW W15) => KeptW.cell (W0 := W15) (cP2 (KeptW.mk' hB)) x
   replace cP3 := fun (x : KeptW W15) => KeptW.cell (W0 := W15) (cP3 (KeptW.mk' hB)) x
   replace cP4 := fun (x : KeptW W15) => KeptW.cell (W0 := W15) (cP4 (KeptW.mk' hB)) x
   replace cY0 := fun (x : KeptW W15) => KeptW.cell (W0 := W15) (cY0 (KeptW.mk' hB)) x
   replace cY1 := fun (x : KeptW W15) => KeptW.cell (W0 := W15) (cY1 (KeptW.mk' hB)) x
   replace cY2 := fun (x : KeptW W15) => KeptW.cell (W0 := W15) (cY2 (KeptW.mk' hB)) x
   replace cY3 := fun (x : KeptW W15) => KeptW.cell (W0 := W15) (cY3 (KeptW.mk' hB)) x
   replace cY4 := fun (x : KeptW W15) => KeptW.cell (W0 := W15) (cY4 (KeptW.mk' hB)) x
   replace cK0 := fun (x : KeptW W15) => KeptW.cell (W0 := W15) (cK0 (KeptW.mk' hB)) x
   replace cK1 := fun (x : KeptW W15) => KeptW.cell (W0 := W15) (cK1 (KeptW.mk' hB)) x
   replace cK2 := fun (x : KeptW W15) => KeptW.cell (W0 := W15) (cK2 (KeptW.mk' hB)) x
   replace cK3 := fun (x : KeptW W15) => KeptW.cell (W0 := W15) (cK3 (KeptW.mk' hB)) x
   replace cK4 := fun (x : KeptW W15) => KeptW.cell (W0 := W15) (cK4 (KeptW.mk' hB)) x
   replace cK5 := fun (x : KeptW W15) => KeptW.cell (W0 := W15) (cK5 (KeptW.mk' hB)) x
   replace cK6 := fun (x : KeptW W15) => KeptW.cell (W0 := W15) (cK6 (KeptW.mk' hB)) x
   have ctb0 := fun (x : KeptW W15) => KeptW.cell Az x
   have ctb1 := fun (x : KeptW W15) => KeptW.cell Bh x
   have ctb2 := fun (x : KeptW W15) => KeptW.cell Bc x
   have ctb3 := fun (x : KeptW W15) => KeptW.cell Bo x
   have ctb4 := fun (x : KeptW W15) => KeptW.cell Aw x
   have ctb5 := fun (x : KeptW W15) => KeptW.cell Ba x
   have ctb6 := fun (x : KeptW W15) => KeptW.cell Bf x
   clear Bv Az Bh Bc Bo Aw Ba Bf
   clear M
   clear hB
   have hx0 := KeptW.mk'_w (Below.refl W15.heap.size W15)
   generalize KeptW.mk' (Below.refl W15.heap.size W15) = yW15 at hx0
   rw [← hx0]
   clear hx0
   obtain ⟨L, hR⟩ : ∃ L, readyM us = L := ⟨_, rfl⟩
   rw [hR] at HL hrl ⊢
   replace hR := hide hR
   go_wp2_with fail
   go_loopw [22] (fun i wr => ∃ (n : Nat) (x : KeptW W15), i = .int .i64 n ∧ wr = x.w) (fun i _ => L.length - (intOf i).toNat)
   case atStart => exact ⟨0, yW15, rfl, rfl⟩
   case round =>
    obtain ⟨n, x, rfl, rfl⟩ := hrel
    by_cases hlt : n < L.length
    ·obtain ⟨bl, ol, j, rfl, _, hj, _, zL⟩ := (Row.below HL.out x.below).ks_at hlt
     obtain ⟨kk, ty, rfl, hty, hcs⟩ := hord.out j (by rw [hR.out]; exact List.mem_of_getElem? hj)
     obtain ⟨s8, l8, o8, w8, n8, v8, t8⟩ := ty
     have hkk : kk < us.length := get_lt hty
     have y1 := (Row.cells7 (InPool.below HY.out x.below).1 hty)
     obtain ⟨_, yl, _, _, _, _, yt⟩ := y1
     have cL := fun (y : KeptW x.w) => KeptW.cell zL y
     have cl := fun (y : KeptW x.w) => KeptW.cell yl y
     have ct := fun (y : KeptW x.w) => KeptW.cell yt y
     have hn0 : (0 : Int) ≤ (n : Int) := by omega
     have hn1 : (n : Int) < (L.length : Int) := by omega
     have hkk0 : (0 : Int) ≤ (kk : Int) := by omega
     have hkk1 : (kk : Int) < (us.length : Int) := by omega
     have hn31 := hrl.out
     clear zL yl yt hj hty
     have dY0 := fun (y : KeptW x.w) => KeptW.cell (cY0 x) y
     have dt1 := fun (y : KeptW x.w) => KeptW.cell (ctb1 x) y
     have dt6 := fun (y : KeptW x.w) => KeptW.cell (ctb6 x) y
     by_cases hkk2 : kk = k
     ·subst hkk2
      clear hcs
      go_wp2_with fail
      have hx0 := KeptW.mk'_w (Below.refl x.w.heap.size x.w)
      generalize KeptW.mk' (Below.refl x.w.heap.size x.w) = x2 at hx0
      rw [← hx0]
      clear hx0
      refine region_kept (by kernel_rfl) (by kernel_rfl) ?_
      repeat (go_big_quiet_step (fail))
      refine wpQuiet_nil ?_
      rintro _ ⟨x2, rfl⟩
      obtain ⟨y, hy⟩ : ∃ y : KeptW W15, x2.w = y.w := ⟨KeptW.mk' (x.below.trans (x2.below.mono x.below.size)), rfl⟩
      rw [hy]
      clear hy
      go_wp2
      go_roundw
      case rel => exact ⟨n + 1, y, by go_num, rfl⟩
      case measure => simp [intOf]; omega
     ·have hne : ((kk : Int) == (k : Int)) = false := by rw [beq_eq_false_iff_ne]; omega
      have hne2 : ((kk : Int) != (k : Int)) = true := by simp [bne, hne]
      have htt : ¬ tn ≤ t8 := by have := hcs hkk2; simp only at this; omega
      clear hcs
      by_cases hl8 : l8 = l
      ·subst hl8
       go_wp2_with fail
       have hx0 := KeptW.mk'_w (Below.refl x.w.heap.size x.w)
       generalize KeptW.mk' (Below.refl x.w.heap.size x.w) = x2 at hx0
       rw [← hx0]
       clear hx0
       refine region_kept (by kernel_rfl) (by kernel_rfl) ?_
       repeat (go_big_quiet_step (fail))
       refine wpQuiet_nil ?_
       rintro _ ⟨x2, rfl⟩
       obtain ⟨y, hy⟩ : ∃ y : KeptW W15, x2.w = y.w := ⟨KeptW.mk' (x.below.trans (x2.below.mono x.below.size)), rfl⟩
       rw [hy]
       clear hy
       go_wp2
       go_roundw
       case rel => exact ⟨n + 1, y, by go_num, rfl⟩
       case measure => simp [intOf]; omega
      ·have hl9 : (l8 == l) = false := by rw [beq_eq_false_iff_ne]; exact hl8
       go_wp2_with fail
       have hx0 := KeptW.mk'_w (Below.refl x.w.heap.size x.w)
       generalize KeptW.mk' (Below.refl x.w.heap.size x.w) = x2 at hx0
       rw [← hx0]
       clear hx0
       refine region_kept (by kernel_rfl) (by kernel_rfl) ?_
       repeat (go_big_quiet_step (fail))
       refine wpQuiet_nil ?_
       rintro _ ⟨x2, rfl⟩
       obtain ⟨y, hy⟩ : ∃ y : KeptW W15, x2.w = y.w := ⟨KeptW.mk' (x.below.trans (x2.below.mono x.below.size)), rfl⟩
       rw [hy]
       clear hy
       go_wp2
       go_roundw
       case rel => exact ⟨n + 1, y, by go_num, rfl⟩
       case measure => simp [intOf]; omega
    ·go_wp2_with fail
     go_call (kept_call (x := x) (gPoolOk_k f0 f1 f2 st2 true x.w (by omega) (by omega) (InPool.below HY.out x.below) hpu.out)) as r wq ⟨rfl, x6, rfl⟩
     go_wp2
     go_ret
     exact ⟨rfl, HV.out.trans (x6.below.mono HV.out.size)⟩
set_option maxRecDepth 100000
open Go.ChangeShapes Go.WideShapes Go.ChangeAt Go.RowKit Go.Joins Go.Deep
set_option maxHeartbeats 1600000 in
theorem fnWoken_all (w : World) (A : Option Addr) (len cap : Nat) (hby : Bytes w w.heap.size A len) :
 Calls Tryz.prog 3 #[.slice A len cap] w fun r w' => r = .returned (.bool true) ∧ Below w.heap.size w w' := by
 by_cases hl : len ≤ 4096
 ·exact fnWoken_any w A len cap hby hl
 ·go_enter Tryz.func3, Tryz.ntmps3
  go_wp2_with fail
  go_call (big_any A len cap _) as r w' ⟨rfl, rfl⟩
  go_wp2_with fail
  go_ret
  exact ⟨rfl, Below.refl _ _⟩
theorem fnWoken_lifted (os : Os) (started : os.Started) (H : Type) (enc : TypeId × Value → H) :
 ReturnsInHanded {} Tryz.checked os 3 .any (Rows.fnWokenSpec.pre6 enc Tryz.prog Tryz.f3 Rows.fnWokenRow.domain false) (Rows.fnWokenSpec.post enc Tryz.prog Tryz.f3 false true false false) := by
 refine returnsInHanded_of_change (C := Tryz.checked) own started (by kernel_rfl) Tryz.func3
  (ChangeSpec.witness6 (enc := enc) (C := Tryz.checked) false ⟨#[], #[.slice none 0 0], []⟩ 8 (by kernel_rfl) (by kernel_rfl) (by kernel_rfl) (by kernel_rfl)) ?_
 intro W base args ds gs before hval0 hW hcnd _
 have hval : ∀ (j : Nat) t v, Tryz.f3.params[j]? = some t → args[j]? = some v → Value.okWide Tryz.prog W .any base t v := hval0
 have hW' := hW
 obtain ⟨p, q, hA0, hV, rfl, hfz, hnd⟩ := hW
 have hA : DataW.TrodAll enc Tryz.prog W 0 (fun _ => true) true Tryz.f3.params.toList args.toList ds p := hA0
 rw [Tryz.params3] at hA hval
 obtain ⟨v0, vs0, d0, ds0, p0, q0, hargs, rfl, rfl, h0, r0⟩ := trodAll_cons hA
 obtain ⟨rfl, rfl, rfl⟩ := trodAll_nil r0
 obtain rfl : args = #[v0] := by cases args; simp_all
 obtain ⟨rfl, rfl⟩ := trodVars_none hV
 have k0 := h0
 have lt0 : ∀ x ∈ p0, x.block < W.heap.size := by obtain ⟨m, hm⟩ := k0; exact DataW.trod_lt m _ _ _ hm
 obtain ⟨a0, len0, cap0, rfl⟩ := okWide_slice Tryz.underlying22 (hval 0 22 v0 rfl rfl)
 have w0 : Bytes W W.heap.size a0 len0 := by
  obtain ⟨fuel, hf⟩ := h0
  rcases open_ints Tryz.underlying22 Tryz.underlying5 (by kernel_rfl) hf with ⟨hcs, _⟩ | ⟨x, l, c, zs, hcs, _, hl, hm, hz, hx, hcell, hwz⟩
  ·simp [Value.cells] at hcs
   obtain ⟨rfl, rfl, rfl⟩ := hcs
   exact fun h => absurd h (by omega)
  ·simp [Value.cells] at hcs
   obtain ⟨rfl, rfl, rfl⟩ := hcs
   exact bytes_of_row hl hz hcell hwz
 clear hA0 hval0
 refine (fnWoken_all W a0 len0 cap0 w0).mono fun e W' ⟨he, bel⟩ => ?_
 subst he
 exact ⟨_, rfl, _, _, _, [], _, [], hW', trodAll_mk1 (shut_bool Tryz.underlying4 _), (trodAll_cons_mk (Below.trod laidOut (by kernel_rfl) (of_decide_eq_true (by kernel_rfl)) k0 bel lt0) trodAll_mk0), rfl, bel.frame _, fun h => by cases h⟩
theorem fnWoken_holds : Rows.FnWokenSaid :=
 OpenClaim.holds_of_wide 3 Tryz.f3 rfl rfl rfl rfl rfl rfl rfl ⟨rfl, rfl, rfl, rfl, rfl⟩ rfl rfl rfl rfl rfl (by kernel_rfl) Tryz.func3 (by kernel_rfl)
  (of_decide_eq_true (by kernel_rfl)) (by unfold Func.isWrapper; first | (rw [if_pos (by decide +kernel)]; kernel_rfl) | (rw [if_neg (by decide +kernel)]; exact ⟨rfl, rfl⟩))
  (fun os started H enc _ => fnWoken_lifted os started H enc)
#print axioms fnWoken_holds
end Go.Proofs.YtfjgelegojbmgaaGreat
