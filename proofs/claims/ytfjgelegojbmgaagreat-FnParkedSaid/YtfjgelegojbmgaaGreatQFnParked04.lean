/- The program's line: Len, Less. The list of places no longer than a million. -/
import Derived.Test.YtfjgelegojbmgaaGreatQFnParked01
import Derived.Test.YtfjgelegojbmgaaGreatQFnParked02
import Derived.Test.YtfjgelegojbmgaaGreatQFnParked03
import Derived.Test.YtfjgelegojbmgaaGreatQB06
import Derived.Test.YtfjgelegojbmgaaGreatQB04

namespace Go.Proofs.YtfjgelegojbmgaaGreat
open Go.RowKit
set_option linter.unusedVariables false
set_option maxRecDepth 100000
theorem pright_v (a b c d e : Int) (ts : List T7) (ks : List Int) (fs : List F2) (A0 A1 A2 : Option Addr) (c0 c1 c2 : Nat) (tn : Int) (st : Bool) (g : Nat) (z : Bool) (hz : poolB a b c d e ts ks fs tn = z) (w : World) (hk : ks.length ≤ 1048576) (hf : fs.length ≤ 1048576) (hg : Blk w g 30 #[.slice A0 ts.length c0, .slice A1 ks.length c1, .slice A2 fs.length c2, .int .i64 tn, .bool st]) (h : InPool w ts ks fs A0 A1 A2) :
 Calls Tryz.prog 44 #[.pointer (some ⟨g, 0, none⟩), .agg #[.int .i64 a, .int .i64 b, .int .i64 c, .int .i64 d, .int .i64 e]] w fun r w' => r = .returned (.bool z) ∧ Below w.heap.size w w' := hz ▸ pright_any a b c d e ts ks fs A0 A1 A2 c0 c1 c2 tn st g w hk hf hg h
theorem copied_s (ts : List T7) (ks : List Int) (fs : List F2) (A0 A1 A2 : Option Addr) (c0 c1 c2 : Nat) (tn : Int) (st : Bool) (g : Nat) (w : World) (l0 : ts.length ≤ 1048576) (l1 : ks.length ≤ 1048576) (l2 : fs.length ≤ 1048576) (hg : Blk w g 30 #[.slice A0 ts.length c0, .slice A1 ks.length c1, .slice A2 fs.length c2, .int .i64 tn, .bool st]) (h : InPool w ts ks fs A0 A1 A2) :
 Calls Tryz.prog 45 #[.pointer (some ⟨g, 0, none⟩)] w fun r w' => ∃ (B0 B1 B2 : Option Addr) (d0 d1 d2 : Nat), r = .returned (.agg #[.slice B0 ts.length d0, .slice B1 ks.length d1, .slice B2 fs.length d2, .int .i64 tn, .bool st]) ∧ Sep [] w w' [rT ts.length B0 d0 ts, rK ks.length B1 d1 ks, rF fs.length B2 d2 fs] :=
 (copied_any ts ks fs A0 A1 A2 c0 c1 c2 tn st g w l0 l1 l2 hg h).mono fun r w' ⟨B0, B1, B2, d0, d1, d2, hr, ho, hb⟩ => ⟨B0, B1, B2, d0, d1, d2, hr, sepPool (Nat.le_refl _) hb ho⟩
set_option maxHeartbeats 2000000 in
theorem gParkedBy_bad (a b c d e : Int) (ts : List T7) (ks : List Int) (fs : List F2) (A0 A1 A2 : Option Addr) (c0 c1 c2 : Nat) (tn : Int) (st : Bool) (id : Int) (pw : Int) (po : Int) (w : World) (ht : ts.length ≤ 1048576) (hk : ks.length ≤ 1048576) (hf : fs.length ≤ 1048576) (h : InPool w ts ks fs A0 A1 A2) (hp : poolB a b c d e ts ks fs tn = false) :
 Calls Tryz.prog 20 #[.agg #[.int .i64 a, .int .i64 b, .int .i64 c, .int .i64 d, .int .i64 e], .agg #[.slice A0 ts.length c0, .slice A1 ks.length c1, .slice A2 fs.length c2, .int .i64 tn, .bool st], .int .i64 id, .int .i64 pw, .int .i64 po] w (GaveP [] [] [] 0 false false w) := by
 have HY := hide (⟨hp, trivial⟩ : _ ∧ True)
 clear hp
 have H := hide h
 clear h
 go_enter Tryz.func20, Tryz.ntmps20
 go_wp2_with fail
 generalize hW : ((w.alloc _).alloc _).alloc _ = W1
 have M := Sep.e3 hW
 clear hW
 obtain ⟨tR, Ac, Az, Aa, Af, Ae, Am, Ab, Av, Ad, Bc⟩ := M.f5 0 rfl
 obtain ⟨tX, Aq, Bb, Ax, Ah, Ak, At, Ao, Ai, Ag, Aw⟩ := M.f5 1 rfl
 obtain ⟨tP, An, Bd, Ap, Al, Aj, As, Ar, Ay, Au, Ba⟩ := M.f5 2 rfl
 go_wp2_with fail
 go_call (pright_v a b c d e ts ks fs A0 A1 A2 c0 c1 c2 tn st _ false HY.out.1 _ hk hf (M.blk 1 rfl) (H.out.below M.below)) as r W2 ⟨rfl, g1⟩
 clear tR Ac Az Aa Af Ae Am Ab Av Ad Bc tX Aq Bb Ax Ah Ak At Ao Ai Ag Aw tP An Bd Ap Al Aj As Ar Ay Au Ba
 replace M := M.call g1
 clear g1
 obtain ⟨tR, Ac, Az, Aa, Af, Ae, Am, Ab, Av, Ad, Bc⟩ := M.f5 0 rfl
 obtain ⟨tX, Aq, Bb, Ax, Ah, Ak, At, Ao, Ai, Ag, Aw⟩ := M.f5 1 rfl
 obtain ⟨tP, An, Bd, Ap, Al, Aj, As, Ar, Ay, Au, Ba⟩ := M.f5 2 rfl
 go_wp2_with fail
 clear tR Ac Az Aa Af Ae Am Ab Av Ad Bc tX Aq Bb Ax Ah Ak At Ao Ai Ag Aw tP An Bd Ap Al Aj As Ar Ay Au Ba
 have N := M.gset5 0 rfl (.slice none 0 0) (.slice none 0 0) (.slice none 0 0) (.int .i64 0) (.bool false)
 clear M
 obtain ⟨W3, eW, M⟩ := N
 rw [eW]
 clear eW
 simp only [List.set_cons_zero] at M
 obtain ⟨tR, Ac, Aa, Ae, Ab, Ad⟩ := M.q5 0 rfl
 exact bodyPost_ret (v := .tuple #[.agg #[.slice none 0 0, .slice none 0 0, .slice none 0 0, .int .i64 0, .bool false], .bool false]) (by simp [results, Tryz.results20, go_sem, Ac, Aa, Ae, Ab, Ad]) rfl ⟨none, none, none, 0, 0, 0, rfl, sep_zero M.below⟩
set_option maxHeartbeats 2000000 in
theorem gParkedBy_no (a b c d e : Int) (ts : List T7) (ks : List Int) (fs : List F2) (A0 A1 A2 : Option Addr) (c0 c1 c2 : Nat) (tn : Int) (st : Bool) (id : Int) (pw : Int) (po : Int) (w : World) (ht : ts.length ≤ 1048576) (hk : ks.length ≤ 1048576) (hf : fs.length ≤ 1048576) (h : InPool w ts ks fs A0 A1 A2) (hp : poolB a b c d e ts ks fs tn = true) (hc : isInB ts id 2 = false) :
 Calls Tryz.prog 20 #[.agg #[.int .i64 a, .int .i64 b, .int .i64 c, .int .i64 d, .int .i64 e], .agg #[.slice A0 ts.length c0, .slice A1 ks.length c1, .slice A2 fs.length c2, .int .i64 tn, .bool st], .int .i64 id, .int .i64 pw, .int .i64 po] w (GaveP ts ks fs tn st false w) := by
 have HY := hide (⟨hp, hc, trivial⟩ : _ ∧ _ ∧ True)
 clear hp hc
 have H := hide h
 clear h
 go_enter Tryz.func20, Tryz.ntmps20
 go_wp2_with fail
 generalize hW : ((w.alloc _).alloc _).alloc _ = W1
 have M := Sep.e3 hW
 clear hW
 obtain ⟨tR, Ac, Az, Aa, Af, Ae, Am, Ab, Av, Ad, Bc⟩ := M.f5 0 rfl
 obtain ⟨tX, Aq, Bb, Ax, Ah, Ak, At, Ao, Ai, Ag, Aw⟩ := M.f5 1 rfl
 obtain ⟨tP, An, Bd, Ap, Al, Aj, As, Ar, Ay, Au, Ba⟩ := M.f5 2 rfl
 go_wp2_with fail
 go_call (pright_v a b c d e ts ks fs A0 A1 A2 c0 c1 c2 tn st _ true HY.out.1 _ hk hf (M.blk 1 rfl) (H.out.below M.below)) as r W2 ⟨rfl, g1⟩
 clear tR Ac Az Aa Af Ae Am Ab Av Ad Bc tX Aq Bb Ax Ah Ak At Ao Ai Ag Aw tP An Bd Ap Al Aj As Ar Ay Au Ba
 replace M := M.call g1
 clear g1
 obtain ⟨tR, Ac, Az, Aa, Af, Ae, Am, Ab, Av, Ad, Bc⟩ := M.f5 0 rfl
 obtain ⟨tX, Aq, Bb, Ax, Ah, Ak, At, Ao, Ai, Ag, Aw⟩ := M.f5 1 rfl
 obtain ⟨tP, An, Bd, Ap, Al, Aj, As, Ar, Ay, Au, Ba⟩ := M.f5 2 rfl
 go_wp2_with fail
 go_call (copied_s ts ks fs A0 A1 A2 c0 c1 c2 tn st _ _ ht hk hf (M.blk 1 rfl) (H.out.below M.below)) as r W3 ⟨C0, C1, C2, e0, e1, e2, rfl, g1⟩
 clear tR Ac Az Aa Af Ae Am Ab Av Ad Bc tX Aq Bb Ax Ah Ak At Ao Ai Ag Aw tP An Bd Ap Al Aj As Ar Ay Au Ba
 replace M := Sep.new M g1
 simp only [List.cons_append, List.nil_append] at M
 clear g1
 obtain ⟨tR, Ac, Az, Aa, Af, Ae, Am, Ab, Av, Ad, Bc⟩ := M.f5 3 rfl
 obtain ⟨tX, Aq, Bb, Ax, Ah, Ak, At, Ao, Ai, Ag, Aw⟩ := M.f5 4 rfl
 obtain ⟨tP, An, Bd, Ap, Al, Aj, As, Ar, Ay, Au, Ba⟩ := M.f5 5 rfl
 go_wp2_with fail
 clear tR Ac Az Aa Af Ae Am Ab Av Ad Bc tX Aq Bb Ax Ah Ak At Ao Ai Ag Aw tP An Bd Ap Al Aj As Ar Ay Au Ba
 have N := M.galloc 30 #[.slice C0 ts.length e0, .slice C1 ks.length e1, .slice C2 fs.length e2, .int .i64 tn, .bool st]
 clear M
 obtain ⟨W4, eW, M⟩ := N
 rw [eW]
 clear eW
 obtain ⟨tY, Bg, Bf, Bj, Bi, Be, Bh, Bm, Bk, Bl, Bn⟩ := M.f5 0 rfl
 obtain ⟨tR, Ac, Az, Aa, Af, Ae, Am, Ab, Av, Ad, Bc⟩ := M.f5 4 rfl
 obtain ⟨tX, Aq, Bb, Ax, Ah, Ak, At, Ao, Ai, Ag, Aw⟩ := M.f5 5 rfl
 obtain ⟨tP, An, Bd, Ap, Al, Aj, As, Ar, Ay, Au, Ba⟩ := M.f5 6 rfl
 go_wp2_with fail
 go_call (park_no a b c d e ts C0 C1 C2 e0 ks.length e1 fs.length e2 tn st _ id pw po _ ht (M.blk 0 rfl) (M.rowS 1 rfl) HY.out.2.1) as r W5 ⟨rfl, g1⟩
 clear tY Bg Bf Bj Bi Be Bh Bm Bk Bl Bn tR Ac Az Aa Af Ae Am Ab Av Ad Bc tX Aq Bb Ax Ah Ak At Ao Ai Ag Aw tP An Bd Ap Al Aj As Ar Ay Au Ba
 replace M := M.call g1
 clear g1
 obtain ⟨tY, Bg, Bf, Bj, Bi, Be, Bh, Bm, Bk, Bl, Bn⟩ := M.f5 0 rfl
 obtain ⟨tR, Ac, Az, Aa, Af, Ae, Am, Ab, Av, Ad, Bc⟩ := M.f5 4 rfl
 obtain ⟨tX, Aq, Bb, Ax, Ah, Ak, At, Ao, Ai, Ag, Aw⟩ := M.f5 5 rfl
 obtain ⟨tP, An, Bd, Ap, Al, Aj, As, Ar, Ay, Au, Ba⟩ := M.f5 6 rfl
 go_wp2_with fail
 go_call (copied_s ts ks fs A0 A1 A2 c0 c1 c2 tn st _ _ ht hk hf (M.blk 5 rfl) (H.out.below M.below)) as r W6 ⟨D0, D1, D2, f0, f1, f2, rfl, g1⟩
 clear tY Bg Bf Bj Bi Be Bh Bm Bk Bl Bn tR Ac Az Aa Af Ae Am Ab Av Ad Bc tX Aq Bb Ax Ah Ak At Ao Ai Ag Aw tP An Bd Ap Al Aj As Ar Ay Au Ba
 replace M := Sep.new M g1
 simp only [List.cons_append, List.nil_append] at M
 clear g1
 obtain ⟨tY, Bg, Bf, Bj, Bi, Be, Bh, Bm, Bk, Bl, Bn⟩ := M.f5 3 rfl
 obtain ⟨tR, Ac, Az, Aa, Af, Ae, Am, Ab, Av, Ad, Bc⟩ := M.f5 7 rfl
 obtain ⟨tX, Aq, Bb, Ax, Ah, Ak, At, Ao, Ai, Ag, Aw⟩ := M.f5 8 rfl
 obtain ⟨tP, An, Bd, Ap, Al, Aj, As, Ar, Ay, Au, Ba⟩ := M.f5 9 rfl
 go_wp2_with fail
 clear tY Bg Bf Bj Bi Be Bh Bm Bk Bl Bn tR Ac Az Aa Af Ae Am Ab Av Ad Bc tX Aq Bb Ax Ah Ak At Ao Ai Ag Aw tP An Bd Ap Al Aj As Ar Ay Au Ba
 have N := M.gset5 7 rfl (.slice D0 ts.length f0) (.slice D1 ks.length f1) (.slice D2 fs.length f2) (.int .i64 tn) (.bool st)
 clear M
 obtain ⟨W7, eW, M⟩ := N
 rw [eW]
 clear eW
 simp only [List.set_cons_zero, List.set_cons_succ] at M
 obtain ⟨tR, Ac, Aa, Ae, Ab, Ad⟩ := M.q5 7 rfl
 exact bodyPost_ret (by simp [results, Tryz.results20, go_sem, Ac, Aa, Ae, Ab, Ad]) rfl ⟨D0, D1, D2, f0, f1, f2, rfl, M.take 3⟩
set_option maxHeartbeats 2000000 in
theorem gParkedBy_yes (a b c d e : Int) (ts : List T7) (ks : List Int) (fs : List F2) (A0 A1 A2 : Option Addr) (c0 c1 c2 : Nat) (tn : Int) (st : Bool) (id : Int) (pw : Int) (po : Int) (w : World) (ht : ts.length ≤ 1048576) (hk : ks.length ≤ 1048576) (hf : fs.length ≤ 1048576) (h : InPool w ts ks fs A0 A1 A2) (hp : poolB a b c d e ts ks fs tn = true) (k : Nat) (s l o1 wt on v t : Int) (hid : id = k) (hts : ts[k]? = some ⟨s, l, o1, wt, on, v, t⟩) (hc : isInB ts k 2 = true) (hz : poolB a b c d e (ts.set k (parkT ⟨s, l, o1, wt, on, v, t⟩ tn pw po)) ks fs (tn + 1) = true) :
 Calls Tryz.prog 20 #[.agg #[.int .i64 a, .int .i64 b, .int .i64 c, .int .i64 d, .int .i64 e], .agg #[.slice A0 ts.length c0, .slice A1 ks.length c1, .slice A2 fs.length c2, .int .i64 tn, .bool st], .int .i64 id, .int .i64 pw, .int .i64 po] w (GaveP (ts.set k (parkT ⟨s, l, o1, wt, on, v, t⟩ tn pw po)) ks fs (tn + 1) st true w) := by
 have hkl : k < ts.length := by
  rcases Nat.lt_or_ge k ts.length with h1 | h1
  ·exact h1
  ·rw [List.getElem?_eq_none h1] at hts; cases hts
 have tb : 0 ≤ tn ∧ tn ≤ 1000000 := by
  have h1 := hp
  simp only [poolB, Bool.and_eq_true] at h1
  have h2 := h1.2.1
  simp [btw] at h2
  exact h2
 obtain ⟨tb0, tb1⟩ := tb
 subst hid
 have H := hide h
 clear h
 have HY := hide (⟨hp, hts, hc, hz, trivial⟩ : _ ∧ _ ∧ _ ∧ _ ∧ True)
 clear hp hts hc hz
 go_enter Tryz.func20, Tryz.ntmps20
 go_wp2_with fail
 generalize hW : ((w.alloc _).alloc _).alloc _ = W1
 have M := Sep.e3 hW
 clear hW
 obtain ⟨tR, Ac, Az, Aa, Af, Ae, Am, Ab, Av, Ad, Bc⟩ := M.f5 0 rfl
 obtain ⟨tX, Aq, Bb, Ax, Ah, Ak, At, Ao, Ai, Ag, Aw⟩ := M.f5 1 rfl
 obtain ⟨tP, An, Bd, Ap, Al, Aj, As, Ar, Ay, Au, Ba⟩ := M.f5 2 rfl
 go_wp2_with fail
 go_call (pright_v a b c d e ts ks fs A0 A1 A2 c0 c1 c2 tn st _ true HY.out.1 _ hk hf (M.blk 1 rfl) (H.out.below M.below)) as r W2 ⟨rfl, g1⟩
 clear tR Ac Az Aa Af Ae Am Ab Av Ad Bc tX Aq Bb Ax Ah Ak At Ao Ai Ag Aw tP An Bd Ap Al Aj As Ar Ay Au Ba
 replace M := M.call g1
 clear g1
 obtain ⟨tR, Ac, Az, Aa, Af, Ae, Am, Ab, Av, Ad, Bc⟩ := M.f5 0 rfl
 obtain ⟨tX, Aq, Bb, Ax, Ah, Ak, At, Ao, Ai, Ag, Aw⟩ := M.f5 1 rfl
 obtain ⟨tP, An, Bd, Ap, Al, Aj, As, Ar, Ay, Au, Ba⟩ := M.f5 2 rfl
 go_wp2_with fail
 go_call (copied_s ts ks fs A0 A1 A2 c0 c1 c2 tn st _ _ ht hk hf (M.blk 1 rfl) (H.out.below M.below)) as r W3 ⟨C0, C1, C2, e0, e1, e2, rfl, g1⟩
 clear tR Ac Az Aa Af Ae Am Ab Av Ad Bc tX Aq Bb Ax Ah Ak At Ao Ai Ag Aw tP An Bd Ap Al Aj As Ar Ay Au Ba
 replace M := Sep.new M g1
 simp only [List.cons_append, List.nil_append] at M
 clear g1
 obtain ⟨tR, Ac, Az, Aa, Af, Ae, Am, Ab, Av, Ad, Bc⟩ := M.f5 3 rfl
 obtain ⟨tX, Aq, Bb, Ax, Ah, Ak, At, Ao, Ai, Ag, Aw⟩ := M.f5 4 rfl
 obtain ⟨tP, An, Bd, Ap, Al, Aj, As, Ar, Ay, Au, Ba⟩ := M.f5 5 rfl
 go_wp2_with fail
 clear tR Ac Az Aa Af Ae Am Ab Av Ad Bc tX Aq Bb Ax Ah Ak At Ao Ai Ag Aw tP An Bd Ap Al Aj As Ar Ay Au Ba
 have N := M.galloc 30 #[.slice C0 ts.length e0, .slice C1 ks.length e1, .slice C2 fs.length e2, .int .i64 tn, .bool st]
 clear M
 obtain ⟨W4, eW, M⟩ := N
 rw [eW]
 clear eW
 obtain ⟨tY, Bg, Bf, Bj, Bi, Be, Bh, Bm, Bk, Bl, Bn⟩ := M.f5 0 rfl
 obtain ⟨tR, Ac, Az, Aa, Af, Ae, Am, Ab, Av, Ad, Bc⟩ := M.f5 4 rfl
 obtain ⟨tX, Aq, Bb, Ax, Ah, Ak, At, Ao, Ai, Ag, Aw⟩ := M.f5 5 rfl
 obtain ⟨tP, An, Bd, Ap, Al, Aj, As, Ar, Ay, Au, Ba⟩ := M.f5 6 rfl
 go_wp2_with fail
 replace M := M.front 3 rfl
 simp only [List.eraseIdx_cons_succ, List.eraseIdx_cons_zero] at M
 replace M := M.front 3 rfl
 simp only [List.eraseIdx_cons_succ, List.eraseIdx_cons_zero] at M
 replace M := M.front 3 rfl
 simp only [List.eraseIdx_cons_succ, List.eraseIdx_cons_zero] at M
 replace M := M.front 3 rfl
 simp only [List.eraseIdx_cons_succ, List.eraseIdx_cons_zero] at M
 have hPk := park_yes a b c d e ts ks fs C0 C1 C2 e0 e1 e2 tn st _ k pw po s l o1 wt on v t _ ht hk hf (by omega) (by omega) HY.out.2.1 (Sep.same (ps := [.blk (W3.heap.size) 30 #[.slice C0 ts.length e0, .slice C1 ks.length e1, .slice C2 fs.length e2, .int .i64 tn, .bool st], rT ts.length C0 e0 ts, rK ks.length C1 e1 ks, rF fs.length C2 e2 fs]) (rs := [.blk (w.heap.size + 2) 30 #[.slice none 0 0, .slice none 0 0, .slice none 0 0, .int .i64 0, .bool false], .blk (w.heap.size + 1) 30 #[.slice A0 ts.length c0, .slice A1 ks.length c1, .slice A2 fs.length c2, .int .i64 tn, .bool st], .blk (w.heap.size) 25 #[.int .i64 a, .int .i64 b, .int .i64 c, .int .i64 d, .int .i64 e]]) M (Below.refl _ _)) HY.out.2.2.1
 rw [HY.out.2.2.2.1] at hPk
 refine Calls.mono (by with_reducible exact hPk) ?_
 clear hPk
 rintro r W5 ⟨rfl, g1⟩
 clear tY Bg Bf Bj Bi Be Bh Bm Bk Bl Bn tR Ac Az Aa Af Ae Am Ab Av Ad Bc tX Aq Bb Ax Ah Ak At Ao Ai Ag Aw tP An Bd Ap Al Aj As Ar Ay Au Ba
 replace M : Sep [] w W5 [.blk (W3.heap.size) 30 #[.slice C0 ts.length e0, .slice C1 ks.length e1, .slice C2 fs.length e2, .int .i64 (tn + 1), .bool st], rT ts.length C0 e0 (ts.set k (parkT ⟨s, l, o1, wt, on, v, t⟩ tn pw po)), rK ks.length C1 e1 ks, rF fs.length C2 e2 fs, .blk (w.heap.size + 2) 30 #[.slice none 0 0, .slice none 0 0, .slice none 0 0, .int .i64 0, .bool false], .blk (w.heap.size + 1) 30 #[.slice A0 ts.length c0, .slice A1 ks.length c1, .slice A2 fs.length c2, .int .i64 tn, .bool st], .blk (w.heap.size) 25 #[.int .i64 a, .int .i64 b, .int .i64 c, .int .i64 d, .int .i64 e]] := Sep.comp (ps := [.blk (W3.heap.size) 30 #[.slice C0 ts.length e0, .slice C1 ks.length e1, .slice C2 fs.length e2, .int .i64 tn, .bool st], rT ts.length C0 e0 ts, rK ks.length C1 e1 ks, rF fs.length C2 e2 fs]) (rs := [.blk (w.heap.size + 2) 30 #[.slice none 0 0, .slice none 0 0, .slice none 0 0, .int .i64 0, .bool false], .blk (w.heap.size + 1) 30 #[.slice A0 ts.length c0, .slice A1 ks.length c1, .slice A2 fs.length c2, .int .i64 tn, .bool st], .blk (w.heap.size) 25 #[.int .i64 a, .int .i64 b, .int .i64 c, .int .i64 d, .int .i64 e]]) M g1
 clear g1
 obtain ⟨tY, Bg, Bf, Bj, Bi, Be, Bh, Bm, Bk, Bl, Bn⟩ := M.f5 0 rfl
 obtain ⟨tR, Ac, Az, Aa, Af, Ae, Am, Ab, Av, Ad, Bc⟩ := M.f5 4 rfl
 obtain ⟨tX, Aq, Bb, Ax, Ah, Ak, At, Ao, Ai, Ag, Aw⟩ := M.f5 5 rfl
 obtain ⟨tP, An, Bd, Ap, Al, Aj, As, Ar, Ay, Au, Ba⟩ := M.f5 6 rfl
 go_wp2_with fail
 clear tY Bg Bf Bj Bi Be Bh Bm Bk Bl Bn tR Ac Az Aa Af Ae Am Ab Av Ad Bc tX Aq Bb Ax Ah Ak At Ao Ai Ag Aw tP An Bd Ap Al Aj As Ar Ay Au Ba
 have N := M.gset5 4 rfl (.slice C0 ts.length e0) (.slice C1 ks.length e1) (.slice C2 fs.length e2) (.int .i64 (tn + 1)) (.bool st)
 clear M
 obtain ⟨W6, eW, M⟩ := N
 rw [eW]
 clear eW
 simp only [List.set_cons_zero, List.set_cons_succ] at M
 obtain ⟨tR, Ac, Aa, Ae, Ab, Ad⟩ := M.q5 4 rfl
 exact bodyPost_ret (v := .tuple #[.agg #[.slice C0 ts.length e0, .slice C1 ks.length e1, .slice C2 fs.length e2, .int .i64 (tn + 1), .bool st], .bool true]) (by simp [results, Tryz.results20, go_sem, Ac, Aa, Ae, Ab, Ad]) rfl (by have hl : ((ts.set k (parkT ⟨s, l, o1, wt, on, v, t⟩ tn pw po))).length = ts.length := (by simp); unfold GaveP; rw [hl]; exact ⟨C0, C1, C2, e0, e1, e2, rfl, M.tail.take 3⟩)
set_option maxHeartbeats 2000000 in
theorem gParkedBy_full (a b c d e : Int) (ts : List T7) (ks : List Int) (fs : List F2) (A0 A1 A2 : Option Addr) (c0 c1 c2 : Nat) (tn : Int) (st : Bool) (id : Int) (pw : Int) (po : Int) (w : World) (ht : ts.length ≤ 1048576) (hk : ks.length ≤ 1048576) (hf : fs.length ≤ 1048576) (h : InPool w ts ks fs A0 A1 A2) (hp : poolB a b c d e ts ks fs tn = true) (k : Nat) (s l o1 wt on v t : Int) (hid : id = k) (hts : ts[k]? = some ⟨s, l, o1, wt, on, v, t⟩) (hc : isInB ts k 2 = true) (hz : poolB a b c d e (ts.set k (parkT ⟨s, l, o1, wt, on, v, t⟩ tn pw po)) ks fs (tn + 1) = false) :
 Calls Tryz.prog 20 #[.agg #[.int .i64 a, .int .i64 b, .int .i64 c, .int .i64 d, .int .i64 e], .agg #[.slice A0 ts.length c0, .slice A1 ks.length c1, .slice A2 fs.length c2, .int .i64 tn, .bool st], .int .i64 id, .int .i64 pw, .int .i64 po] w (GaveP ts ks fs tn st false w) := by
 have hkl : k < ts.length := by
  rcases Nat.lt_or_ge k ts.length with h1 | h1
  ·exact h1
  ·rw [List.getElem?_eq_none h1] at hts; cases hts
 have tb : 0 ≤ tn ∧ tn ≤ 1000000 := by
  have h1 := hp
  simp only [poolB, Bool.and_eq_true] at h1
  have h2 := h1.2.1
  simp [btw] at h2
  exact h2
 obtain ⟨tb0, tb1⟩ := tb
 subst hid
 have H := hide h
 clear h
 have HY := hide (⟨hp, hts, hc, hz, trivial⟩ : _ ∧ _ ∧ _ ∧ _ ∧ True)
 clear hp hts hc hz
 go_enter Tryz.func20, Tryz.ntmps20
 go_wp2_with fail
 generalize hW : ((w.alloc _).alloc _).alloc _ = W1
 have M := Sep.e3 hW
 clear hW
 obtain ⟨tR, Ac, Az, Aa, Af, Ae, Am, Ab, Av, Ad, Bc⟩ := M.f5 0 rfl
 obtain ⟨tX, Aq, Bb, Ax, Ah, Ak, At, Ao, Ai, Ag, Aw⟩ := M.f5 1 rfl
 obtain ⟨tP, An, Bd, Ap, Al, Aj, As, Ar, Ay, Au, Ba⟩ := M.f5 2 rfl
 go_wp2_with fail
 go_call (pright_v a b c d e ts ks fs A0 A1 A2 c0 c1 c2 tn st _ true HY.out.1 _ hk hf (M.blk 1 rfl) (H.out.below M.below)) as r W2 ⟨rfl, g1⟩
 clear tR Ac Az Aa Af Ae Am Ab Av Ad Bc tX Aq Bb Ax Ah Ak At Ao Ai Ag Aw tP An Bd Ap Al Aj As Ar Ay Au Ba
 replace M := M.call g1
 clear g1
 obtain ⟨tR, Ac, Az, Aa, Af, Ae, Am, Ab, Av, Ad, Bc⟩ := M.f5 0 rfl
 obtain ⟨tX, Aq, Bb, Ax, Ah, Ak, At, Ao, Ai, Ag, Aw⟩ := M.f5 1 rfl
 obtain ⟨tP, An, Bd, Ap, Al, Aj, As, Ar, Ay, Au, Ba⟩ := M.f5 2 rfl
 go_wp2_with fail
 go_call (copied_s ts ks fs A0 A1 A2 c0 c1 c2 tn st _ _ ht hk hf (M.blk 1 rfl) (H.out.below M.below)) as r W3 ⟨C0, C1, C2, e0, e1, e2, rfl, g1⟩
 clear tR Ac Az Aa Af Ae Am Ab Av Ad Bc tX Aq Bb Ax Ah Ak At Ao Ai Ag Aw tP An Bd Ap Al Aj As Ar Ay Au Ba
 replace M := Sep.new M g1
 simp only [List.cons_append, List.nil_append] at M
 clear g1
 obtain ⟨tR, Ac, Az, Aa, Af, Ae, Am, Ab, Av, Ad, Bc⟩ := M.f5 3 rfl
 obtain ⟨tX, Aq, Bb, Ax, Ah, Ak, At, Ao, Ai, Ag, Aw⟩ := M.f5 4 rfl
 obtain ⟨tP, An, Bd, Ap, Al, Aj, As, Ar, Ay, Au, Ba⟩ := M.f5 5 rfl
 go_wp2_with fail
 clear tR Ac Az Aa Af Ae Am Ab Av Ad Bc tX Aq Bb Ax Ah Ak At Ao Ai Ag Aw tP An Bd Ap Al Aj As Ar Ay Au Ba
 have N := M.galloc 30 #[.slice C0 ts.length e0, .slice C1 ks.length e1, .slice C2 fs.length e2, .int .i64 tn, .bool st]
 clear M
 obtain ⟨W4, eW, M⟩ := N
 rw [eW]
 clear eW
 obtain ⟨tY, Bg, Bf, Bj, Bi, Be, Bh, Bm, Bk, Bl, Bn⟩ := M.f5 0 rfl
 obtain ⟨tR, Ac, Az, Aa, Af, Ae, Am, Ab, Av, Ad, Bc⟩ := M.f5 4 rfl
 obtain ⟨tX, Aq, Bb, Ax, Ah, Ak, At, Ao, Ai, Ag, Aw⟩ := M.f5 5 rfl
 obtain ⟨tP, An, Bd, Ap, Al, Aj, As, Ar, Ay, Au, Ba⟩ := M.f5 6 rfl
 go_wp2_with fail
 replace M := M.front 3 rfl
 simp only [List.eraseIdx_cons_succ, List.eraseIdx_cons_zero] at M
 replace M := M.front 3 rfl
 simp only [List.eraseIdx_cons_succ, List.eraseIdx_cons_zero] at M
 replace M := M.front 3 rfl
 simp only [List.eraseIdx_cons_succ, List.eraseIdx_cons_zero] at M
 replace M := M.front 3 rfl
 simp only [List.eraseIdx_cons_succ, List.eraseIdx_cons_zero] at M
 have hPk := park_yes a b c d e ts ks fs C0 C1 C2 e0 e1 e2 tn st _ k pw po s l o1 wt on v t _ ht hk hf (by omega) (by omega) HY.out.2.1 (Sep.same (ps := [.blk (W3.heap.size) 30 #[.slice C0 ts.length e0, .slice C1 ks.length e1, .slice C2 fs.length e2, .int .i64 tn, .bool st], rT ts.length C0 e0 ts, rK ks.length C1 e1 ks, rF fs.length C2 e2 fs]) (rs := [.blk (w.heap.size + 2) 30 #[.slice none 0 0, .slice none 0 0, .slice none 0 0, .int .i64 0, .bool false], .blk (w.heap.size + 1) 30 #[.slice A0 ts.length c0, .slice A1 ks.length c1, .slice A2 fs.length c2, .int .i64 tn, .bool st], .blk (w.heap.size) 25 #[.int .i64 a, .int .i64 b, .int .i64 c, .int .i64 d, .int .i64 e]]) M (Below.refl _ _)) HY.out.2.2.1
 rw [HY.out.2.2.2.1] at hPk
 refine Calls.mono (by with_reducible exact hPk) ?_
 clear hPk
 rintro r W5 ⟨rfl, g1⟩
 clear tY Bg Bf Bj Bi Be Bh Bm Bk Bl Bn tR Ac Az Aa Af Ae Am Ab Av Ad Bc tX Aq Bb Ax Ah Ak At Ao Ai Ag Aw tP An Bd Ap Al Aj As Ar Ay Au Ba
 replace M : Sep [] w W5 [.blk (W3.heap.size) 30 #[.slice C0 ts.length e0, .slice C1 ks.length e1, .slice C2 fs.length e2, .int .i64 (tn + 1), .bool st], rT ts.length C0 e0 (ts.set k (parkT ⟨s, l, o1, wt, on, v, t⟩ tn pw po)), rK ks.length C1 e1 ks, rF fs.length C2 e2 fs, .blk (w.heap.size + 2) 30 #[.slice none 0 0, .slice none 0 0, .slice none 0 0, .int .i64 0, .bool false], .blk (w.heap.size + 1) 30 #[.slice A0 ts.length c0, .slice A1 ks.length c1, .slice A2 fs.length c2, .int .i64 tn, .bool st], .blk (w.heap.size) 25 #[.int .i64 a, .int .i64 b, .int .i64 c, .int .i64 d, .int .i64 e]] := Sep.comp (ps := [.blk (W3.heap.size) 30 #[.slice C0 ts.length e0, .slice C1 ks.length e1, .slice C2 fs.length e2, .int .i64 tn, .bool st], rT ts.length C0 e0 ts, rK ks.length C1 e1 ks, rF fs.length C2 e2 fs]) (rs := [.blk (w.heap.size + 2) 30 #[.slice none 0 0, .slice none 0 0, .slice none 0 0, .int .i64 0, .bool false], .blk (w.heap.size + 1) 30 #[.slice A0 ts.length c0, .slice A1 ks.length c1, .slice A2 fs.length c2, .int .i64 tn, .bool st], .blk (w.heap.size) 25 #[.int .i64 a, .int .i64 b, .int .i64 c, .int .i64 d, .int .i64 e]]) M g1
 clear g1
 obtain ⟨tY, Bg, Bf, Bj, Bi, Be, Bh, Bm, Bk, Bl, Bn⟩ := M.f5 0 rfl
 obtain ⟨tR, Ac, Az, Aa, Af, Ae, Am, Ab, Av, Ad, Bc⟩ := M.f5 4 rfl
 obtain ⟨tX, Aq, Bb, Ax, Ah, Ak, At, Ao, Ai, Ag, Aw⟩ := M.f5 5 rfl
 obtain ⟨tP, An, Bd, Ap, Al, Aj, As, Ar, Ay, Au, Ba⟩ := M.f5 6 rfl
 go_wp2_with fail
 go_call (copied_s ts ks fs A0 A1 A2 c0 c1 c2 tn st _ _ ht hk hf (M.blk 5 rfl) (H.out.below M.below)) as r W6 ⟨D0, D1, D2, f0, f1, f2, rfl, g1⟩
 clear tY Bg Bf Bj Bi Be Bh Bm Bk Bl Bn tR Ac Az Aa Af Ae Am Ab Av Ad Bc tX Aq Bb Ax Ah Ak At Ao Ai Ag Aw tP An Bd Ap Al Aj As Ar Ay Au Ba
 replace M := Sep.new M g1
 simp only [List.cons_append, List.nil_append] at M
 clear g1
 obtain ⟨tY, Bg, Bf, Bj, Bi, Be, Bh, Bm, Bk, Bl, Bn⟩ := M.f5 3 rfl
 obtain ⟨tR, Ac, Az, Aa, Af, Ae, Am, Ab, Av, Ad, Bc⟩ := M.f5 7 rfl
 obtain ⟨tX, Aq, Bb, Ax, Ah, Ak, At, Ao, Ai, Ag, Aw⟩ := M.f5 8 rfl
 obtain ⟨tP, An, Bd, Ap, Al, Aj, As, Ar, Ay, Au, Ba⟩ := M.f5 9 rfl
 go_wp2_with fail
 clear tY Bg Bf Bj Bi Be Bh Bm Bk Bl Bn tR Ac Az Aa Af Ae Am Ab Av Ad Bc tX Aq Bb Ax Ah Ak At Ao Ai Ag Aw tP An Bd Ap Al Aj As Ar Ay Au Ba
 have N := M.gset5 7 rfl (.slice D0 ts.length f0) (.slice D1 ks.length f1) (.slice D2 fs.length f2) (.int .i64 tn) (.bool st)
 clear M
 obtain ⟨W7, eW, M⟩ := N
 rw [eW]
 clear eW
 simp only [List.set_cons_zero, List.set_cons_succ] at M
 obtain ⟨tR, Ac, Aa, Ae, Ab, Ad⟩ := M.q5 7 rfl
 exact bodyPost_ret (by simp [results, Tryz.results20, go_sem, Ac, Aa, Ae, Ab, Ad]) rfl ⟨D0, D1, D2, f0, f1, f2, rfl, M.take 3⟩
theorem allFrom_iff (P : Nat → T7 → Bool) (ts : List T7) (i : Nat) : allFrom P i ts = true ↔ ∀ (k : Nat) (t : T7), ts[k]? = some t → P (i + k) t = true := by
 induction ts generalizing i with
 | nil => simp [allFrom]
 | cons x r ih =>
  simp only [allFrom, Bool.and_eq_true, ih]
  constructor
  ·rintro ⟨h1, h2⟩ k t hk
   cases k with
   | zero => simp only [List.getElem?_cons_zero, Option.some.injEq] at hk; subst hk; exact h1
   | succ k =>
    have := h2 k t (by simpa using hk)
    rwa [show i + 1 + k = i + (k + 1) by omega] at this
  ·intro h
   refine ⟨h 0 x rfl, fun k t hk => ?_⟩
   have := h (k + 1) t (by simpa using hk)
   rwa [show i + (k + 1) = i + 1 + k by omega] at this
theorem tasksB_iff (a b c d e : Int) (ts : List T7) (tn : Int) : tasksB a b c d e ts tn = true ↔ ∀ (k : Nat) (t : T7), ts[k]? = some t → fitB a b c d e ts tn k t = true := by
 unfold tasksB
 rw [allFrom_iff]
 simp
theorem poolB_parts {a b c d e : Int} {ts : List T7} {ks : List Int} {fs : List F2} {tn : Int} (h : poolB a b c d e ts ks fs tn = true) : planB a b c d e = true ∧ (0 ≤ tn ∧ tn ≤ 1000000) ∧ (ts.length : Int) ≤ b ∧ tasksB a b c d e ts tn = true := by
 simp only [poolB, Bool.and_eq_true, decide_eq_true_eq] at h
 refine ⟨h.1, ?_, h.2.2.1.1, h.2.2.1.2⟩
 have := h.2.1
 simp [btw] at this
 exact this
theorem parked_told (a b c d e : Int) (ts : List T7) (ks : List Int) (fs : List F2) (tn : Int) (st : Bool) (id : Int) (pw : Int) (po : Int) (hl : ts.length + ks.length + fs.length ≤ 1048576) :
 ∃ (us : List T7) (ks2 : List Int) (fs2 : List F2) (tn2 : Int) (st2 z : Bool), us.length + ks2.length + fs2.length ≤ 1048576 ∧
 ((z = true → ∃ (k : Nat) (x : T7), id = k ∧ ts[k]? = some x ∧ x.s = 2 ∧ us = ts.set k (parkT x tn pw po) ∧ ks2 = ks ∧ fs2 = fs ∧ tn2 = tn + 1 ∧ st2 = st ∧ poolB a b c d e ts ks fs tn = true ∧ poolB a b c d e us ks2 fs2 tn2 = true) ∧ (z = false → poolB a b c d e ts ks fs tn = true → us = ts ∧ ks2 = ks ∧ fs2 = fs ∧ tn2 = tn ∧ st2 = st)) ∧
 Hid (∀ (A0 A1 A2 : Option Addr) (c0 c1 c2 : Nat) (w : World), InPool w ts ks fs A0 A1 A2 → Calls Tryz.prog 21 #[.agg #[.int .i64 a, .int .i64 b, .int .i64 c, .int .i64 d, .int .i64 e], .agg #[.slice A0 ts.length c0, .slice A1 ks.length c1, .slice A2 fs.length c2, .int .i64 tn, .bool st], .int .i64 id, .int .i64 pw, .int .i64 po] w (GaveP us ks2 fs2 tn2 st2 z w)) ∧
 Hid (∀ (A0 A1 A2 : Option Addr) (c0 c1 c2 : Nat) (w : World), InPool w ts ks fs A0 A1 A2 → Calls Tryz.prog 20 #[.agg #[.int .i64 a, .int .i64 b, .int .i64 c, .int .i64 d, .int .i64 e], .agg #[.slice A0 ts.length c0, .slice A1 ks.length c1, .slice A2 fs.length c2, .int .i64 tn, .bool st], .int .i64 id, .int .i64 pw, .int .i64 po] w (GaveP us ks2 fs2 tn2 st2 z w)) := by
 have ht : ts.length ≤ 1048576 := by omega
 have hk : ks.length ≤ 1048576 := by omega
 have hf : fs.length ≤ 1048576 := by omega
 cases hp : poolB a b c d e ts ks fs tn
 ·exact ⟨[], [], [], 0, false, false, by simp, ⟨(fun h => by cases h), (fun _ h => by cases h)⟩, hide (fun A0 A1 A2 c0 c1 c2 w h => sParkedBy_bad a b c d e ts ks fs A0 A1 A2 c0 c1 c2 tn st id pw po w ht hk hf h hp), hide (fun A0 A1 A2 c0 c1 c2 w h => gParkedBy_bad a b c d e ts ks fs A0 A1 A2 c0 c1 c2 tn st id pw po w ht hk hf h hp)⟩
 ·cases hc : isInB ts id 2
  ·refine ⟨ts, ks, fs, tn, st, false, hl, ⟨(fun h => by cases h), fun _ _ => ⟨rfl, rfl, rfl, rfl, rfl⟩⟩, ?_, hide (fun A0 A1 A2 c0 c1 c2 w h => gParkedBy_no a b c d e ts ks fs A0 A1 A2 c0 c1 c2 tn st id pw po w ht hk hf h hp hc)⟩
   cases hb : btw id 0 ((ts.length : Int) - 1)
   ·exact hide (fun A0 A1 A2 c0 c1 c2 w h => sParkedBy_no1 a b c d e ts ks fs A0 A1 A2 c0 c1 c2 tn st id pw po w ht hk hf h hp hb)
   ·obtain ⟨k, rfl⟩ : ∃ k : Nat, id = k := ⟨id.toNat, by simp [btw] at hb; omega⟩
    have hkl : k < ts.length := by simp [btw] at hb; omega
    obtain ⟨⟨s, l, o1, wt, on, v, t⟩, hts⟩ : ∃ x, ts[k]? = some x := ⟨_, List.getElem?_eq_getElem hkl⟩
    have hs : ¬ s = 2 := by
     have h1 := hc
     rw [isInB_of hts] at h1
     simpa using h1
    exact hide (fun A0 A1 A2 c0 c1 c2 w h => sParkedBy_no2 a b c d e ts ks fs A0 A1 A2 c0 c1 c2 tn st k pw po w ht hk hf h hp k s l o1 wt on v t rfl hts hb hs)
  ·obtain ⟨k, ⟨s, l, o1, wt, on, v, t⟩, rfl, hkl, hts, hs⟩ := isInB_nat hc
   have hb : btw (k : Int) 0 ((ts.length : Int) - 1) = true := by simp [btw]; omega
   cases hz : poolB a b c d e (ts.set k (parkT ⟨s, l, o1, wt, on, v, t⟩ tn pw po)) ks fs (tn + 1)
   ·exact ⟨ts, ks, fs, tn, st, false, hl, ⟨(fun h => by cases h), fun _ _ => ⟨rfl, rfl, rfl, rfl, rfl⟩⟩, hide (fun A0 A1 A2 c0 c1 c2 w h => sParkedBy_full a b c d e ts ks fs A0 A1 A2 c0 c1 c2 tn st k pw po w ht hk hf h hp k s l o1 wt on v t rfl hts hb hs hz), hide (fun A0 A1 A2 c0 c1 c2 w h => gParkedBy_full a b c d e ts ks fs A0 A1 A2 c0 c1 c2 tn st k pw po w ht hk hf h hp k s l o1 wt on v t rfl hts hc hz)⟩
   ·exact ⟨ts.set k (parkT ⟨s, l, o1, wt, on, v, t⟩ tn pw po), ks, fs, tn + 1, st, true, by simpa using hl, ⟨fun _ => ⟨k, ⟨s, l, o1, wt, on, v, t⟩, rfl, hts, hs, rfl, rfl, rfl, rfl, rfl, rfl, hz⟩, (fun h => by cases h)⟩, hide (fun A0 A1 A2 c0 c1 c2 w h => sParkedBy_yes a b c d e ts ks fs A0 A1 A2 c0 c1 c2 tn st k pw po w ht hk hf h hp k s l o1 wt on v t rfl hts hb hs hz), hide (fun A0 A1 A2 c0 c1 c2 w h => gParkedBy_yes a b c d e ts ks fs A0 A1 A2 c0 c1 c2 tn st k pw po w ht hk hf h hp k s l o1 wt on v t rfl hts hc hz)⟩
/-- A place in a line: level, turn, number. -/
structure P3 where (l t i : Int)
instance : Inhabited P3 := ⟨⟨0, 0, 0⟩⟩
def P3.cs (x : P3) : List Value := [.int .i64 x.l, .int .i64 x.t, .int .i64 x.i]
def P3.val (x : P3) : Value := .agg #[.int .i64 x.l, .int .i64 x.t, .int .i64 x.i]
def pcells (ps : List P3) : List Value := ps.flatMap P3.cs
def aheadP (x y : P3) : Bool := if x.l = y.l then (if x.t = y.t then decide (x.i < y.i) else decide (x.t < y.t)) else decide (y.l < x.l)
theorem pcells_length (ps : List P3) : (pcells ps).length = ps.length * 3 := by
 induction ps with
 | nil => rfl
 | cons x r ih => simp only [pcells, List.flatMap_cons, List.length_append, List.length_cons] at ih ⊢; rw [ih]; simp [P3.cs]; omega
theorem pcells_get (ps : List P3) (k : Nat) (hk : k < ps.length) (j : Nat) (hj : j < 3) : (pcells ps)[k * 3 + j]? = ps[k].cs[j]? := by
 induction ps generalizing k with
 | nil => simp at hk
 | cons x r ih =>
  have e : pcells (x :: r) = x.cs ++ pcells r := rfl
  rw [e]
  cases k with
  | zero => rw [List.getElem?_append_left (by simp [P3.cs]; omega)]; simp
  | succ k =>
   have hl : x.cs.length = 3 := rfl
   rw [List.getElem?_append_right (by rw [hl]; omega), hl, show (k + 1) * 3 + j - 3 = k * 3 + j from by omega, ih k (by simpa using hk)]
   simp
theorem pcells_at (ps : List P3) (j : Nat) : (pcells ps)[j]? = (ps[j / 3]?).bind (fun t => t.cs[j % 3]?) := by
 by_cases h : j / 3 < ps.length
 ·have := pcells_get ps (j / 3) h (j % 3) (by omega)
  rw [show j / 3 * 3 + j % 3 = j from by omega] at this
  rw [this]; simp [h]
 ·rw [List.getElem?_eq_none (by rw [pcells_length]; omega), List.getElem?_eq_none (by omega)]; rfl
theorem pcells_put (ps : List P3) (k : Nat) (x : P3) : (((pcells ps).set (k * 3) (.int .i64 x.l)).set (k * 3 + 1) (.int .i64 x.t)).set (k * 3 + 2) (.int .i64 x.i) = pcells (ps.set k x) := by
 apply List.ext_getElem?
 intro j
 rw [pcells_at (ps.set k x)]
 simp only [List.getElem?_set, List.length_set, pcells_length]
 by_cases hk : k = j / 3
 ·subst hk
  by_cases hl : j / 3 < ps.length
  ·have h3 : j % 3 = 0 ∨ j % 3 = 1 ∨ j % 3 = 2 := by omega
   have hj : j < ps.length * 3 := by omega
   rcases h3 with h | h | h
   all_goals rw [h]
   all_goals simp only [hl, if_true, Option.bind_some, P3.cs]
   ·rw [if_neg (by omega), if_neg (by omega), if_pos (by omega), if_pos (by omega)]; rfl
   ·rw [if_neg (by omega), if_pos (by omega), if_pos (by omega)]; rfl
   ·rw [if_pos (by omega), if_pos (by omega)]; rfl
  ·simp only [hl, if_false, if_true, Option.bind_none]
   repeat (split; · first | omega | (split <;> first | omega | rfl))
   rw [List.getElem?_eq_none (by rw [pcells_length]; omega)]
 ·rw [if_neg hk, if_neg (by omega), if_neg (by omega), if_neg (by omega), pcells_at]
theorem pcells_take (xs : List P3) (k : Nat) : (pcells xs).take (k * 3) = pcells (xs.take k) := by
 apply List.ext_getElem?
 intro j
 rw [List.getElem?_take, pcells_at, pcells_at, List.getElem?_take]
 by_cases h : j < k * 3
 ·rw [if_pos h, if_pos (show j / 3 < k by omega)]
 ·rw [if_neg h, if_neg (show ¬ j / 3 < k by omega)]; rfl
theorem infoPlace : (Tryz.prog.info? 124).map (fun i => (i.zero, i.size, i.bytes)) = some (some (.agg #[.int .i64 0, .int .i64 0, .int .i64 0]), 3, 24) := by kernel_rfl
set_option maxHeartbeats 4000000 in
theorem ahead_any (l t i l2 t2 i2 : Int) (w : World) :
 Calls Tryz.prog 171 #[.agg #[.int .i64 l, .int .i64 t, .int .i64 i], .agg #[.int .i64 l2, .int .i64 t2, .int .i64 i2]] w fun r w' => r = .returned (.bool (aheadP ⟨l, t, i⟩ ⟨l2, t2, i2⟩)) ∧ Below w.heap.size w w' := by
 by_cases k1 : l = l2
 ·by_cases k2 : t = t2
  ·have e : aheadP ⟨l, t, i⟩ ⟨l2, t2, i2⟩ = decide (i < i2) := by simp [aheadP, k1, k2]
   rw [e]
   subst k1 k2
   go_enter Tryz.func171, Tryz.ntmps171
   go_wp2
   go_ret
   exact ⟨rfl, by go_grown⟩
  ·have e : aheadP ⟨l, t, i⟩ ⟨l2, t2, i2⟩ = decide (t < t2) := by simp [aheadP, k1, k2]
   rw [e]
   subst k1
   go_enter Tryz.func171, Tryz.ntmps171
   go_wp2
   go_ret
   exact ⟨rfl, by go_grown⟩
 ·have e : aheadP ⟨l, t, i⟩ ⟨l2, t2, i2⟩ = decide (l2 < l) := by simp [aheadP, k1]
  rw [e]
  go_enter Tryz.func171, Tryz.ntmps171
  go_wp2
  go_ret
  exact ⟨rfl, by go_grown⟩
/-- Place k behind a slice that is not empty: where it lies, and its three cells. -/
theorem Row.ps_at {w : World} {A : Option Addr} {ps : List P3} (h : Row w A (pcells ps)) {k : Nat} (hk : k < ps.length) : ∃ (b off : Nat), A = some ⟨b, off, none⟩ ∧ b < w.heap.size ∧
 w.cell? ⟨b, off + k * 3, none⟩ = some (.int .i64 ps[k].l) ∧ w.cell? ⟨b, off + k * 3 + 1, none⟩ = some (.int .i64 ps[k].t) ∧ w.cell? ⟨b, off + k * 3 + 2, none⟩ = some (.int .i64 ps[k].i) := by
 obtain ⟨b, off, e, hc⟩ := h (by rw [pcells_length]; omega)
 have h0 : w.cell? ⟨b, off + k * 3, none⟩ = some (.int .i64 ps[k].l) := hc (k * 3 + 0) _ ((pcells_get ps k hk 0 (by omega)).trans rfl)
 exact ⟨b, off, e, World.block_lt_of_cell? w _ h0, h0, hc (k * 3 + 1) _ ((pcells_get ps k hk 1 (by omega)).trans rfl), hc (k * 3 + 2) _ ((pcells_get ps k hk 2 (by omega)).trans rfl)⟩
set_option maxHeartbeats 1000000 in
theorem len_any (A : Option Addr) (n c : Nat) (w : World) :
 Calls Tryz.prog 103 #[.slice A n c] w fun r w' => r = .returned (.int .i64 n) ∧ w = w' := by
 go_enter Tryz.func103, Tryz.ntmps103
 go_wp2
 go_ret
 exact ⟨rfl, rfl⟩
set_option maxRecDepth 100000 in
set_option maxHeartbeats 4000000 in
theorem less_any (ps : List P3) (A : Option Addr) (c i j : Nat) (hi : i < ps.length) (hj : j < ps.length) (hl : ps.length ≤ 1048576) (w : World) (h : Row w A (pcells ps)) :
 Calls Tryz.prog 167 #[.slice A ps.length c, .int .i64 i, .int .i64 j] w fun r w' => r = .returned (.bool (aheadP ps[i] ps[j])) ∧ Below w.heap.size w w' := by
 obtain ⟨b, off, rfl, hb, z0, z1, z2⟩ := h.ps_at hi
 obtain ⟨b', off', e, hb', y0, y1, y2⟩ := h.ps_at hj
 injection e with e
 injection e with e1 e2
 subst e1 e2
 have hA : aheadP ps[i] ps[j] = aheadP ⟨ps[i].l, ps[i].t, ps[i].i⟩ ⟨ps[j].l, ps[j].t, ps[j].i⟩ := rfl
 rw [hA]
 clear hA h hb'
 have hi1 : (i : Int) < (ps.length : Int) := by omega
 have hj1 : (j : Int) < (ps.length : Int) := by omega
 have hi0 : (0 : Int) ≤ (i : Int) := by omega
 have hj0 : (0 : Int) ≤ (j : Int) := by omega
 generalize ps[i].l = l1 at *
 generalize ps[i].t = t1 at *
 generalize ps[i].i = i1 at *
 generalize ps[j].l = l2 at *
 generalize ps[j].t = t2 at *
 generalize ps[j].i = i2 at *
 go_enter Tryz.func167, Tryz.ntmps167
 go_wp2_with fail
 have c0 := KeptW.cell (W0 := w) z0
 have c1 := KeptW.cell (W0 := w) z1
 have c2 := KeptW.cell (W0 := w) z2
 have c3 := KeptW.cell (W0 := w) y0
 have c4 := KeptW.cell (W0 := w) y1
 have c5 := KeptW.cell (W0 := w) y2
 refine region_kept (W0 := w) (x := KeptW.mk' (Below.refl w.heap.size w)) (by kernel_rfl) (by kernel_rfl) ?_
 repeat (go_big_quiet_step (first | (go_at_call 171; with_reducible exact (kept_call (ahead_any l1 t1 i1 l2 t2 i2 _)))))
 refine wpQuiet_nil ?_
 rintro _ ⟨x, rfl⟩
 go_wp2
 go_ret
 exact ⟨rfl, x.below⟩
end Go.Proofs.YtfjgelegojbmgaaGreat
