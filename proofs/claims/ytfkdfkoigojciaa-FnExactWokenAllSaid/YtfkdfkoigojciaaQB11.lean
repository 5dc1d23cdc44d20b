/- The model's Woken and ParkedBy, way by way. Lists no longer than a million. -/
import Derived.Test.YtfkdfkoigojciaaQB09
import Derived.Test.YtfkdfkoigojciaaQB10

namespace Go.Proofs.Ytfkdfkoigojciaa
open Go.RowKit
set_option linter.unusedVariables false
set_option maxRecDepth 100000
/-- A pool and a Bool that a call answers. -/
def GaveP (us : List T7) (ks : List Int) (fs : List F2) (tn : Int) (st z : Bool) (w : World) (r : Ending) (w' : World) : Prop :=
 ∃ (B0 B1 B2 : Option Addr) (d0 d1 d2 : Nat), r = .returned (.tuple #[.agg #[.slice B0 us.length d0, .slice B1 ks.length d1, .slice B2 fs.length d2, .int .i64 tn, .bool st], .bool z]) ∧ Sep [] w w' [rT us.length B0 d0 us, rK ks.length B1 d1 ks, rF fs.length B2 d2 fs]
theorem sep_zero {w W : World} (hb : Below w.heap.size w W) : Sep [] w W [rT 0 none 0 [], rK 0 none 0 [], rF 0 none 0 []] :=
 sepPool (lo := w.heap.size) (hi := W.heap.size) (ts := []) (ks := []) (fs := []) (Nat.le_refl _) hb ⟨⟨World.ownsRow_nil _ _ _ _, fun k h => by cases h⟩, ⟨World.ownsRow_nil _ _ _ _, fun k h => by cases h⟩, ⟨World.ownsRow_nil _ _ _ _, fun k h => by cases h⟩⟩
set_option maxHeartbeats 2000000 in
theorem either_yes (a b c d e : Int) (ts : List T7) (ks : List Int) (fs : List F2) (A0 A1 A2 : Option Addr) (c0 c1 c2 : Nat) (tn : Int) (st : Bool) (tsx : List T7) (ksx : List Int) (fsx : List F2) (A0x A1x A2x : Option Addr) (c0x c1x c2x : Nat) (tnx : Int) (stx : Bool) (w : World) (ht : ts.length ≤ 1048576) (hk : ks.length ≤ 1048576) (hf : fs.length ≤ 1048576) (hx0 : tsx.length ≤ 1048576) (hx1 : ksx.length ≤ 1048576) (hx2 : fsx.length ≤ 1048576) (h : InPool w ts ks fs A0 A1 A2) (hx : Sep (fps [rT tsx.length A0x c0x tsx, rK ksx.length A1x c1x ksx, rF fsx.length A2x c2x fsx]) w w [rT tsx.length A0x c0x tsx, rK ksx.length A1x c1x ksx, rF fsx.length A2x c2x fsx]) (hz : poolB a b c d e tsx ksx fsx tnx = true) :
 Calls Try.prog 29 #[.agg #[.int .i64 a, .int .i64 b, .int .i64 c, .int .i64 d, .int .i64 e], .agg #[.slice A0 ts.length c0, .slice A1 ks.length c1, .slice A2 fs.length c2, .int .i64 tn, .bool st], .agg #[.slice A0x tsx.length c0x, .slice A1x ksx.length c1x, .slice A2x fsx.length c2x, .int .i64 tnx, .bool stx]] w fun r w' => ∃ (B0 B1 B2 : Option Addr) (d0 d1 d2 : Nat), r = .returned (.tuple #[.agg #[.slice B0 tsx.length d0, .slice B1 ksx.length d1, .slice B2 fsx.length d2, .int .i64 tnx, .bool stx], .bool true]) ∧ Sep (fps [rT tsx.length A0x c0x tsx, rK ksx.length A1x c1x ksx, rF fsx.length A2x c2x fsx]) w w' [rT tsx.length B0 d0 tsx, rK ksx.length B1 d1 ksx, rF fsx.length B2 d2 fsx] := by
 have H := hide h
 have HX := hide hx
 have HZ := hide hz
 clear h hx hz
 go_enter Try.func29, Try.ntmps29
 go_wp2_with fail
 have hbel : Below w.heap.size w ((((w.alloc (.cells #[.int .i64 a, .int .i64 b, .int .i64 c, .int .i64 d, .int .i64 e] 36)).alloc (.cells #[.slice A0 ts.length c0, .slice A1 ks.length c1, .slice A2 fs.length c2, .int .i64 tn, .bool st] 33)).alloc (.cells #[.slice A0x tsx.length c0x, .slice A1x ksx.length c1x, .slice A2x fsx.length c2x, .int .i64 tnx, .bool stx] 33)).alloc (.cells #[.slice none 0 0, .slice none 0 0, .slice none 0 0, .int .i64 0, .bool false] 33)) := Sep.below (Sep.enter4 w)
 have M : Sep (fps [rT tsx.length A0x c0x tsx, rK ksx.length A1x c1x ksx, rF fsx.length A2x c2x fsx]) w ((((w.alloc (.cells #[.int .i64 a, .int .i64 b, .int .i64 c, .int .i64 d, .int .i64 e] 36)).alloc (.cells #[.slice A0 ts.length c0, .slice A1 ks.length c1, .slice A2 fs.length c2, .int .i64 tn, .bool st] 33)).alloc (.cells #[.slice A0x tsx.length c0x, .slice A1x ksx.length c1x, .slice A2x fsx.length c2x, .int .i64 tnx, .bool stx] 33)).alloc (.cells #[.slice none 0 0, .slice none 0 0, .slice none 0 0, .int .i64 0, .bool false] 33)) [.blk (w.heap.size + 3) 33 #[.slice none 0 0, .slice none 0 0, .slice none 0 0, .int .i64 0, .bool false], .blk (w.heap.size + 2) 33 #[.slice A0x tsx.length c0x, .slice A1x ksx.length c1x, .slice A2x fsx.length c2x, .int .i64 tnx, .bool stx], .blk (w.heap.size + 1) 33 #[.slice A0 ts.length c0, .slice A1 ks.length c1, .slice A2 fs.length c2, .int .i64 tn, .bool st], .blk (w.heap.size) 36 #[.int .i64 a, .int .i64 b, .int .i64 c, .int .i64 d, .int .i64 e], rT tsx.length A0x c0x tsx, rK ksx.length A1x c1x ksx, rF fsx.length A2x c2x fsx] := (Sep.alloc (Sep.alloc (Sep.alloc (Sep.alloc HX.out 36 #[.int .i64 a, .int .i64 b, .int .i64 c, .int .i64 d, .int .i64 e] (w.heap.size) (by simp)) 33 #[.slice A0 ts.length c0, .slice A1 ks.length c1, .slice A2 fs.length c2, .int .i64 tn, .bool st] (w.heap.size + 1) (by simp)) 33 #[.slice A0x tsx.length c0x, .slice A1x ksx.length c1x, .slice A2x fsx.length c2x, .int .i64 tnx, .bool stx] (w.heap.size + 2) (by simp)) 33 #[.slice none 0 0, .slice none 0 0, .slice none 0 0, .int .i64 0, .bool false] (w.heap.size + 3) (by simp))
 have HI : InPool ((((w.alloc (.cells #[.int .i64 a, .int .i64 b, .int .i64 c, .int .i64 d, .int .i64 e] 36)).alloc (.cells #[.slice A0 ts.length c0, .slice A1 ks.length c1, .slice A2 fs.length c2, .int .i64 tn, .bool st] 33)).alloc (.cells #[.slice A0x tsx.length c0x, .slice A1x ksx.length c1x, .slice A2x fsx.length c2x, .int .i64 tnx, .bool stx] 33)).alloc (.cells #[.slice none 0 0, .slice none 0 0, .slice none 0 0, .int .i64 0, .bool false] 33)) ts ks fs A0 A1 A2 := H.out.below hbel
 clear hbel
 generalize (((w.alloc (.cells #[.int .i64 a, .int .i64 b, .int .i64 c, .int .i64 d, .int .i64 e] 36)).alloc (.cells #[.slice A0 ts.length c0, .slice A1 ks.length c1, .slice A2 fs.length c2, .int .i64 tn, .bool st] 33)).alloc (.cells #[.slice A0x tsx.length c0x, .slice A1x ksx.length c1x, .slice A2x fsx.length c2x, .int .i64 tnx, .bool stx] 33)).alloc (.cells #[.slice none 0 0, .slice none 0 0, .slice none 0 0, .int .i64 0, .bool false] 33) = W1 at M HI ⊢
 replace HI := hide HI
 obtain ⟨tR, Aa, Ai, Ac, Aj, Ad, Ah, Ae, Af, Ab, Ag⟩ := M.f5 0 rfl
 obtain ⟨tZ, Bj, Be, Bn, Bm, Bg, Bh, Bi, Bf, Bk, Bl⟩ := M.f5 1 rfl
 obtain ⟨tX, Ba, Ak, Ao, Bc, Bb, Au, Al, Ay, At, Av⟩ := M.f5 2 rfl
 obtain ⟨tP, Aw, As, An, Am, Bd, Ar, Ax, Az, Ap, Aq⟩ := M.f5 3 rfl
 go_wp2_with fail
 go_call (sPoolOk_v a b c d e tsx ksx fsx A0x A1x A2x c0x c1x c2x tnx stx true HZ.out _ hx0 hx1 hx2 ⟨M.rowS 4 rfl, M.rowS 5 rfl, M.rowS 6 rfl⟩) as r W2 ⟨rfl, g1⟩
 clear tR Aa Ai Ac Aj Ad Ah Ae Af Ab Ag tZ Bj Be Bn Bm Bg Bh Bi Bf Bk Bl tX Ba Ak Ao Bc Bb Au Al Ay At Av tP Aw As An Am Bd Ar Ax Az Ap Aq
 replace M := M.call g1
 have HI2 := hide (HI.out.below g1)
 clear g1 HI
 obtain ⟨tR, Aa, Ai, Ac, Aj, Ad, Ah, Ae, Af, Ab, Ag⟩ := M.f5 0 rfl
 obtain ⟨tZ, Bj, Be, Bn, Bm, Bg, Bh, Bi, Bf, Bk, Bl⟩ := M.f5 1 rfl
 obtain ⟨tX, Ba, Ak, Ao, Bc, Bb, Au, Al, Ay, At, Av⟩ := M.f5 2 rfl
 obtain ⟨tP, Aw, As, An, Am, Bd, Ar, Ax, Az, Ap, Aq⟩ := M.f5 3 rfl
 go_wp2_with fail
 clear tR Aa Ai Ac Aj Ad Ah Ae Af Ab Ag tZ Bj Be Bn Bm Bg Bh Bi Bf Bk Bl tX Ba Ak Ao Bc Bb Au Al Ay At Av tP Aw As An Am Bd Ar Ax Az Ap Aq
 have N := M.gset5 0 rfl (.slice A0x tsx.length c0x) (.slice A1x ksx.length c1x) (.slice A2x fsx.length c2x) (.int .i64 tnx) (.bool stx)
 clear M
 obtain ⟨W3, eW, M⟩ := N
 rw [eW]
 clear eW
 simp only [List.set_cons_zero] at M
 obtain ⟨tR, Aa, Ac, Ad, Ae, Ab⟩ := M.q5 0 rfl
 exact bodyPost_ret (v := .tuple #[.agg #[.slice A0x tsx.length c0x, .slice A1x ksx.length c1x, .slice A2x fsx.length c2x, .int .i64 tnx, .bool stx], .bool true]) (by simp [results, Try.results29, go_sem, Aa, Ac, Ad, Ae, Ab]) rfl ⟨A0x, A1x, A2x, c0x, c1x, c2x, rfl, M.drop 4⟩
set_option maxHeartbeats 2000000 in
theorem either_no (a b c d e : Int) (ts : List T7) (ks : List Int) (fs : List F2) (A0 A1 A2 : Option Addr) (c0 c1 c2 : Nat) (tn : Int) (st : Bool) (tsx : List T7) (ksx : List Int) (fsx : List F2) (A0x A1x A2x : Option Addr) (c0x c1x c2x : Nat) (tnx : Int) (stx : Bool) (w : World) (ht : ts.length ≤ 1048576) (hk : ks.length ≤ 1048576) (hf : fs.length ≤ 1048576) (hx0 : tsx.length ≤ 1048576) (hx1 : ksx.length ≤ 1048576) (hx2 : fsx.length ≤ 1048576) (h : InPool w ts ks fs A0 A1 A2) (hx : Sep (fps [rT tsx.length A0x c0x tsx, rK ksx.length A1x c1x ksx, rF fsx.length A2x c2x fsx]) w w [rT tsx.length A0x c0x tsx, rK ksx.length A1x c1x ksx, rF fsx.length A2x c2x fsx]) (hz : poolB a b c d e tsx ksx fsx tnx = false) :
 Calls Try.prog 29 #[.agg #[.int .i64 a, .int .i64 b, .int .i64 c, .int .i64 d, .int .i64 e], .agg #[.slice A0 ts.length c0, .slice A1 ks.length c1, .slice A2 fs.length c2, .int .i64 tn, .bool st], .agg #[.slice A0x tsx.length c0x, .slice A1x ksx.length c1x, .slice A2x fsx.length c2x, .int .i64 tnx, .bool stx]] w fun r w' => ∃ (B0 B1 B2 : Option Addr) (d0 d1 d2 : Nat), r = .returned (.tuple #[.agg #[.slice B0 ts.length d0, .slice B1 ks.length d1, .slice B2 fs.length d2, .int .i64 tn, .bool st], .bool false]) ∧ Sep (fps [rT tsx.length A0x c0x tsx, rK ksx.length A1x c1x ksx, rF fsx.length A2x c2x fsx]) w w' [rT ts.length B0 d0 ts, rK ks.length B1 d1 ks, rF fs.length B2 d2 fs] := by
 have H := hide h
 have HX := hide hx
 have HZ := hide hz
 clear h hx hz
 go_enter Try.func29, Try.ntmps29
 go_wp2_with fail
 have hbel : Below w.heap.size w ((((w.alloc (.cells #[.int .i64 a, .int .i64 b, .int .i64 c, .int .i64 d, .int .i64 e] 36)).alloc (.cells #[.slice A0 ts.length c0, .slice A1 ks.length c1, .slice A2 fs.length c2, .int .i64 tn, .bool st] 33)).alloc (.cells #[.slice A0x tsx.length c0x, .slice A1x ksx.length c1x, .slice A2x fsx.length c2x, .int .i64 tnx, .bool stx] 33)).alloc (.cells #[.slice none 0 0, .slice none 0 0, .slice none 0 0, .int .i64 0, .bool false] 33)) := Sep.below (Sep.enter4 w)
 have M : Sep (fps [rT tsx.length A0x c0x tsx, rK ksx.length A1x c1x ksx, rF fsx.length A2x c2x fsx]) w ((((w.alloc (.cells #[.int .i64 a, .int .i64 b, .int .i64 c, .int .i64 d, .int .i64 e] 36)).alloc (.cells #[.slice A0 ts.length c0, .slice A1 ks.length c1, .slice A2 fs.length c2, .int .i64 tn, .bool st] 33)).alloc (.cells #[.slice A0x tsx.length c0x, .slice A1x ksx.length c1x, .slice A2x fsx.length c2x, .int .i64 tnx, .bool stx] 33)).alloc (.cells #[.slice none 0 0, .slice none 0 0, .slice none 0 0, .int .i64 0, .bool false] 33)) [.blk (w.heap.size + 3) 33 #[.slice none 0 0, .slice none 0 0, .slice none 0 0, .int .i64 0, .bool false], .blk (w.heap.size + 2) 33 #[.slice A0x tsx.length c0x, .slice A1x ksx.length c1x, .slice A2x fsx.length c2x, .int .i64 tnx, .bool stx], .blk (w.heap.size + 1) 33 #[.slice A0 ts.length c0, .slice A1 ks.length c1, .slice A2 fs.length c2, .int .i64 tn, .bool st], .blk (w.heap.size) 36 #[.int .i64 a, .int .i64 b, .int .i64 c, .int .i64 d, .int .i64 e], rT tsx.length A0x c0x tsx, rK ksx.length A1x c1x ksx, rF fsx.length A2x c2x fsx] := (Sep.alloc (Sep.alloc (Sep.alloc (Sep.alloc HX.out 36 #[.int .i64 a, .int .i64 b, .int .i64 c, .int .i64 d, .int .i64 e] (w.heap.size) (by simp)) 33 #[.slice A0 ts.length c0, .slice A1 ks.length c1, .slice A2 fs.length c2, .int .i64 tn, .bool st] (w.heap.size + 1) (by simp)) 33 #[.slice A0x tsx.length c0x, .slice A1x ksx.length c1x, .slice A2x fsx.length c2x, .int .i64 tnx, .bool stx] (w.heap.size + 2) (by simp)) 33 #[.slice none 0 0, .slice none 0 0, .slice none 0 0, .int .i64 0, .bool false] (w.heap.size + 3) (by simp))
 have HI : InPool ((((w.alloc (.cells #[.int .i64 a, .int .i64 b, .int .i64 c, .int .i64 d, .int .i64 e] 36)).alloc (.cells #[.slice A0 ts.length c0, .slice A1 ks.length c1, .slice A2 fs.length c2, .int .i64 tn, .bool st] 33)).alloc (.cells #[.slice A0x tsx.length c0x, .slice A1x ksx.length c1x, .slice A2x fsx.length c2x, .int .i64 tnx, .bool stx] 33)).alloc (.cells #[.slice none 0 0, .slice none 0 0, .slice none 0 0, .int .i64 0, .bool false] 33)) ts ks fs A0 A1 A2 := H.out.below hbel
 clear hbel
 generalize (((w.alloc (.cells #[.int .i64 a, .int .i64 b, .int .i64 c, .int .i64 d, .int .i64 e] 36)).alloc (.cells #[.slice A0 ts.length c0, .slice A1 ks.length c1, .slice A2 fs.length c2, .int .i64 tn, .bool st] 33)).alloc (.cells #[.slice A0x tsx.length c0x, .slice A1x ksx.length c1x, .slice A2x fsx.length c2x, .int .i64 tnx, .bool stx] 33)).alloc (.cells #[.slice none 0 0, .slice none 0 0, .slice none 0 0, .int .i64 0, .bool false] 33) = W1 at M HI ⊢
 replace HI := hide HI
 obtain ⟨tR, Aa, Ai, Ac, Aj, Ad, Ah, Ae, Af, Ab, Ag⟩ := M.f5 0 rfl
 obtain ⟨tZ, Bj, Be, Bn, Bm, Bg, Bh, Bi, Bf, Bk, Bl⟩ := M.f5 1 rfl
 obtain ⟨tX, Ba, Ak, Ao, Bc, Bb, Au, Al, Ay, At, Av⟩ := M.f5 2 rfl
 obtain ⟨tP, Aw, As, An, Am, Bd, Ar, Ax, Az, Ap, Aq⟩ := M.f5 3 rfl
 go_wp2_with fail
 go_call (sPoolOk_v a b c d e tsx ksx fsx A0x A1x A2x c0x c1x c2x tnx stx false HZ.out _ hx0 hx1 hx2 ⟨M.rowS 4 rfl, M.rowS 5 rfl, M.rowS 6 rfl⟩) as r W2 ⟨rfl, g1⟩
 clear tR Aa Ai Ac Aj Ad Ah Ae Af Ab Ag tZ Bj Be Bn Bm Bg Bh Bi Bf Bk Bl tX Ba Ak Ao Bc Bb Au Al Ay At Av tP Aw As An Am Bd Ar Ax Az Ap Aq
 replace M := M.call g1
 have HI2 := hide (HI.out.below g1)
 clear g1 HI
 obtain ⟨tR, Aa, Ai, Ac, Aj, Ad, Ah, Ae, Af, Ab, Ag⟩ := M.f5 0 rfl
 obtain ⟨tZ, Bj, Be, Bn, Bm, Bg, Bh, Bi, Bf, Bk, Bl⟩ := M.f5 1 rfl
 obtain ⟨tX, Ba, Ak, Ao, Bc, Bb, Au, Al, Ay, At, Av⟩ := M.f5 2 rfl
 obtain ⟨tP, Aw, As, An, Am, Bd, Ar, Ax, Az, Ap, Aq⟩ := M.f5 3 rfl
 go_wp2_with fail
 go_call (l3Copy_s ts ks fs A0 A1 A2 c0 c1 c2 tn st _ ht hk hf HI2.out) as r W3 ⟨C0, C1, C2, e0, e1, e2, rfl, g1⟩
 clear tR Aa Ai Ac Aj Ad Ah Ae Af Ab Ag tZ Bj Be Bn Bm Bg Bh Bi Bf Bk Bl tX Ba Ak Ao Bc Bb Au Al Ay At Av tP Aw As An Am Bd Ar Ax Az Ap Aq
 replace M := Sep.new M g1
 simp only [List.cons_append, List.nil_append] at M
 clear g1
 obtain ⟨tR, Aa, Ai, Ac, Aj, Ad, Ah, Ae, Af, Ab, Ag⟩ := M.f5 3 rfl
 obtain ⟨tZ, Bj, Be, Bn, Bm, Bg, Bh, Bi, Bf, Bk, Bl⟩ := M.f5 4 rfl
 obtain ⟨tX, Ba, Ak, Ao, Bc, Bb, Au, Al, Ay, At, Av⟩ := M.f5 5 rfl
 obtain ⟨tP, Aw, As, An, Am, Bd, Ar, Ax, Az, Ap, Aq⟩ := M.f5 6 rfl
 go_wp2_with fail
 clear tR Aa Ai Ac Aj Ad Ah Ae Af Ab Ag tZ Bj Be Bn Bm Bg Bh Bi Bf Bk Bl tX Ba Ak Ao Bc Bb Au Al Ay At Av tP Aw As An Am Bd Ar Ax Az Ap Aq
 have N := M.gset5 3 rfl (.slice C0 ts.length e0) (.slice C1 ks.length e1) (.slice C2 fs.length e2) (.int .i64 tn) (.bool st)
 clear M
 obtain ⟨W4, eW, M⟩ := N
 rw [eW]
 clear eW
 simp only [List.set_cons_zero, List.set_cons_succ] at M
 obtain ⟨tR, Aa, Ac, Ad, Ae, Ab⟩ := M.q5 3 rfl
 exact bodyPost_ret (by simp [results, Try.results29, go_sem, Aa, Ac, Ad, Ae, Ab]) rfl ⟨C0, C1, C2, e0, e1, e2, rfl, M.take 3⟩
set_option maxHeartbeats 2000000 in
theorem sWoken_bad (a b c d e : Int) (ts : List T7) (ks : List Int) (fs : List F2) (A0 A1 A2 : Option Addr) (c0 c1 c2 : Nat) (tn : Int) (st : Bool) (id : Int) (v0 : Int) (w : World) (ht : ts.length ≤ 1048576) (hk : ks.length ≤ 1048576) (hf : fs.length ≤ 1048576) (h : InPool w ts ks fs A0 A1 A2) (hp : poolB a b c d e ts ks fs tn = false) :
 Calls Try.prog 8 #[.agg #[.int .i64 a, .int .i64 b, .int .i64 c, .int .i64 d, .int .i64 e], .agg #[.slice A0 ts.length c0, .slice A1 ks.length c1, .slice A2 fs.length c2, .int .i64 tn, .bool st], .int .i64 id, .int .i64 v0] w (GaveP [] [] [] 0 false false w) := by
 have HY := hide (⟨hp, trivial⟩ : _ ∧ True)
 clear hp
 have H := hide h
 clear h
 go_enter Try.func8, Try.ntmps8
 go_wp2_with fail
 generalize hW : ((w.alloc _).alloc _).alloc _ = W1
 have M := Sep.e3 hW
 clear hW
 obtain ⟨tR, Aa, Ai, Ac, Aj, Ad, Ah, Ae, Af, Ab, Ag⟩ := M.f5 0 rfl
 obtain ⟨tX, Ba, Ak, Ao, Bc, Bb, Au, Al, Ay, At, Av⟩ := M.f5 1 rfl
 obtain ⟨tP, Aw, As, An, Am, Bd, Ar, Ax, Az, Ap, Aq⟩ := M.f5 2 rfl
 go_wp2_with fail
 go_call (sPoolOk_v a b c d e ts ks fs A0 A1 A2 c0 c1 c2 tn st false HY.out.1 _ ht hk hf (H.out.below M.below)) as r W2 ⟨rfl, g1⟩
 clear tR Aa Ai Ac Aj Ad Ah Ae Af Ab Ag tX Ba Ak Ao Bc Bb Au Al Ay At Av tP Aw As An Am Bd Ar Ax Az Ap Aq
 replace M := M.call g1
 clear g1
 obtain ⟨tR, Aa, Ai, Ac, Aj, Ad, Ah, Ae, Af, Ab, Ag⟩ := M.f5 0 rfl
 obtain ⟨tX, Ba, Ak, Ao, Bc, Bb, Au, Al, Ay, At, Av⟩ := M.f5 1 rfl
 obtain ⟨tP, Aw, As, An, Am, Bd, Ar, Ax, Az, Ap, Aq⟩ := M.f5 2 rfl
 go_wp2_with fail
 clear tR Aa Ai Ac Aj Ad Ah Ae Af Ab Ag tX Ba Ak Ao Bc Bb Au Al Ay At Av tP Aw As An Am Bd Ar Ax Az Ap Aq
 have N := M.gset5 0 rfl (.slice none 0 0) (.slice none 0 0) (.slice none 0 0) (.int .i64 0) (.bool false)
 clear M
 obtain ⟨W3, eW, M⟩ := N
 rw [eW]
 clear eW
 simp only [List.set_cons_zero] at M
 obtain ⟨tR, Aa, Ac, Ad, Ae, Ab⟩ := M.q5 0 rfl
 exact bodyPost_ret (v := .tuple #[.agg #[.slice none 0 0, .slice none 0 0, .slice none 0 0, .int .i64 0, .bool false], .bool false]) (by simp [results, Try.results8, go_sem, Aa, Ac, Ad, Ae, Ab]) rfl ⟨none, none, none, 0, 0, 0, rfl, sep_zero M.below⟩
set_option maxHeartbeats 2000000 in
theorem sWoken_no1 (a b c d e : Int) (ts : List T7) (ks : List Int) (fs : List F2) (A0 A1 A2 : Option Addr) (c0 c1 c2 : Nat) (tn : Int) (st : Bool) (id : Int) (v0 : Int) (w : World) (ht : ts.length ≤ 1048576) (hk : ks.length ≤ 1048576) (hf : fs.length ≤ 1048576) (h : InPool w ts ks fs A0 A1 A2) (hp : poolB a b c d e ts ks fs tn = true) (hh : btw id 0 ((ts.length : Int) - 1) = false) :
 Calls Try.prog 8 #[.agg #[.int .i64 a, .int .i64 b, .int .i64 c, .int .i64 d, .int .i64 e], .agg #[.slice A0 ts.length c0, .slice A1 ks.length c1, .slice A2 fs.length c2, .int .i64 tn, .bool st], .int .i64 id, .int .i64 v0] w (GaveP ts ks fs tn st false w) := by
 have H := hide h
 clear h
 have HY := hide (⟨hp, hh, trivial⟩ : _ ∧ _ ∧ True)
 clear hp hh
 go_enter Try.func8, Try.ntmps8
 go_wp2_with fail
 generalize hW : ((w.alloc _).alloc _).alloc _ = W1
 have M := Sep.e3 hW
 clear hW
 obtain ⟨tR, Aa, Ai, Ac, Aj, Ad, Ah, Ae, Af, Ab, Ag⟩ := M.f5 0 rfl
 obtain ⟨tX, Ba, Ak, Ao, Bc, Bb, Au, Al, Ay, At, Av⟩ := M.f5 1 rfl
 obtain ⟨tP, Aw, As, An, Am, Bd, Ar, Ax, Az, Ap, Aq⟩ := M.f5 2 rfl
 go_wp2_with fail
 go_call (sPoolOk_v a b c d e ts ks fs A0 A1 A2 c0 c1 c2 tn st true HY.out.1 _ ht hk hf (H.out.below M.below)) as r W2 ⟨rfl, g1⟩
 clear tR Aa Ai Ac Aj Ad Ah Ae Af Ab Ag tX Ba Ak Ao Bc Bb Au Al Ay At Av tP Aw As An Am Bd Ar Ax Az Ap Aq
 replace M := M.call g1
 clear g1
 obtain ⟨tR, Aa, Ai, Ac, Aj, Ad, Ah, Ae, Af, Ab, Ag⟩ := M.f5 0 rfl
 obtain ⟨tX, Ba, Ak, Ao, Bc, Bb, Au, Al, Ay, At, Av⟩ := M.f5 1 rfl
 obtain ⟨tP, Aw, As, An, Am, Bd, Ar, Ax, Az, Ap, Aq⟩ := M.f5 2 rfl
 go_wp2_with fail
 go_call (l5Has_v ts A0 A1 A2 c0 ks.length c1 fs.length c2 tn st id false HY.out.2.1 _ ht) as r W3 ⟨rfl, g1⟩
 clear tR Aa Ai Ac Aj Ad Ah Ae Af Ab Ag tX Ba Ak Ao Bc Bb Au Al Ay At Av tP Aw As An Am Bd Ar Ax Az Ap Aq
 replace M := M.call g1
 clear g1
 obtain ⟨tR, Aa, Ai, Ac, Aj, Ad, Ah, Ae, Af, Ab, Ag⟩ := M.f5 0 rfl
 obtain ⟨tX, Ba, Ak, Ao, Bc, Bb, Au, Al, Ay, At, Av⟩ := M.f5 1 rfl
 obtain ⟨tP, Aw, As, An, Am, Bd, Ar, Ax, Az, Ap, Aq⟩ := M.f5 2 rfl
 go_wp2_with fail
 go_call (l3Copy_s ts ks fs A0 A1 A2 c0 c1 c2 tn st _ ht hk hf (H.out.below M.below)) as r W4 ⟨C0, C1, C2, e0, e1, e2, rfl, g1⟩
 clear tR Aa Ai Ac Aj Ad Ah Ae Af Ab Ag tX Ba Ak Ao Bc Bb Au Al Ay At Av tP Aw As An Am Bd Ar Ax Az Ap Aq
 replace M := Sep.new M g1
 simp only [List.cons_append, List.nil_append] at M
 clear g1
 obtain ⟨tR, Aa, Ai, Ac, Aj, Ad, Ah, Ae, Af, Ab, Ag⟩ := M.f5 3 rfl
 obtain ⟨tX, Ba, Ak, Ao, Bc, Bb, Au, Al, Ay, At, Av⟩ := M.f5 4 rfl
 obtain ⟨tP, Aw, As, An, Am, Bd, Ar, Ax, Az, Ap, Aq⟩ := M.f5 5 rfl
 go_wp2_with fail
 clear tR Aa Ai Ac Aj Ad Ah Ae Af Ab Ag tX Ba Ak Ao Bc Bb Au Al Ay At Av tP Aw As An Am Bd Ar Ax Az Ap Aq
 have N := M.gset5 3 rfl (.slice C0 ts.length e0) (.slice C1 ks.length e1) (.slice C2 fs.length e2) (.int .i64 tn) (.bool st)
 clear M
 obtain ⟨W5, eW, M⟩ := N
 rw [eW]
 clear eW
 simp only [List.set_cons_zero, List.set_cons_succ] at M
 obtain ⟨tR, Aa, Ac, Ad, Ae, Ab⟩ := M.q5 3 rfl
 exact bodyPost_ret (by simp [results, Try.results8, go_sem, Aa, Ac, Ad, Ae, Ab]) rfl ⟨C0, C1, C2, e0, e1, e2, rfl, M.take 3⟩
set_option maxHeartbeats 2000000 in
theorem sWoken_no2 (a b c d e : Int) (ts : List T7) (ks : List Int) (fs : List F2) (A0 A1 A2 : Option Addr) (c0 c1 c2 : Nat) (tn : Int) (st : Bool) (id : Int) (v0 : Int) (w : World) (ht : ts.length ≤ 1048576) (hk : ks.length ≤ 1048576) (hf : fs.length ≤ 1048576) (h : InPool w ts ks fs A0 A1 A2) (hp : poolB a b c d e ts ks fs tn = true) (k : Nat) (s l o1 wt on v t : Int) (hid : id = k) (hts : ts[k]? = some ⟨s, l, o1, wt, on, v, t⟩) (hh : btw (k : Int) 0 ((ts.length : Int) - 1) = true) (hs : ¬ s = 3) :
 Calls Try.prog 8 #[.agg #[.int .i64 a, .int .i64 b, .int .i64 c, .int .i64 d, .int .i64 e], .agg #[.slice A0 ts.length c0, .slice A1 ks.length c1, .slice A2 fs.length c2, .int .i64 tn, .bool st], .int .i64 id, .int .i64 v0] w (GaveP ts ks fs tn st false w) := by
 have hkl : k < ts.length := by
  rcases Nat.lt_or_ge k ts.length with h1 | h1
  ·exact h1
  ·rw [List.getElem?_eq_none h1] at hts; cases hts
 subst hid
 obtain ⟨b', off, x0, x1, x2, x3, x4, x5, x6, rfl, _, he, hb', z0, z1, z2, z3, z4, z5, z6⟩ := h.1.ts_at hkl
 rw [hts] at he
 injection he with he
 injection he with u0 u1 u2 u3 u4 u5 u6
 subst u0 u1 u2 u3 u4 u5 u6
 have H := hide h
 clear h
 have HY := hide (⟨hp, hh, hts, trivial⟩ : _ ∧ _ ∧ _ ∧ True)
 clear hp hh hts
 go_enter Try.func8, Try.ntmps8
 go_wp2_with fail
 generalize hW : ((w.alloc _).alloc _).alloc _ = W1
 have M := Sep.e3 hW
 clear hW
 obtain ⟨tR, Aa, Ai, Ac, Aj, Ad, Ah, Ae, Af, Ab, Ag⟩ := M.f5 0 rfl
 obtain ⟨tX, Ba, Ak, Ao, Bc, Bb, Au, Al, Ay, At, Av⟩ := M.f5 1 rfl
 obtain ⟨tP, Aw, As, An, Am, Bd, Ar, Ax, Az, Ap, Aq⟩ := M.f5 2 rfl
 go_wp2_with fail
 go_call (sPoolOk_v a b c d e ts ks fs (some ⟨b', off, none⟩) A1 A2 c0 c1 c2 tn st true HY.out.1 _ ht hk hf (H.out.below M.below)) as r W2 ⟨rfl, g1⟩
 clear tR Aa Ai Ac Aj Ad Ah Ae Af Ab Ag tX Ba Ak Ao Bc Bb Au Al Ay At Av tP Aw As An Am Bd Ar Ax Az Ap Aq
 replace M := M.call g1
 clear g1
 obtain ⟨tR, Aa, Ai, Ac, Aj, Ad, Ah, Ae, Af, Ab, Ag⟩ := M.f5 0 rfl
 obtain ⟨tX, Ba, Ak, Ao, Bc, Bb, Au, Al, Ay, At, Av⟩ := M.f5 1 rfl
 obtain ⟨tP, Aw, As, An, Am, Bd, Ar, Ax, Az, Ap, Aq⟩ := M.f5 2 rfl
 go_wp2_with fail
 go_call (l5Has_v ts (some ⟨b', off, none⟩) A1 A2 c0 ks.length c1 fs.length c2 tn st k true HY.out.2.1 _ ht) as r W3 ⟨rfl, g1⟩
 clear tR Aa Ai Ac Aj Ad Ah Ae Af Ab Ag tX Ba Ak Ao Bc Bb Au Al Ay At Av tP Aw As An Am Bd Ar Ax Az Ap Aq
 replace M := M.call g1
 clear g1
 obtain ⟨tR, Aa, Ai, Ac, Aj, Ad, Ah, Ae, Af, Ab, Ag⟩ := M.f5 0 rfl
 obtain ⟨tX, Ba, Ak, Ao, Bc, Bb, Au, Al, Ay, At, Av⟩ := M.f5 1 rfl
 obtain ⟨tP, Aw, As, An, Am, Bd, Ar, Ax, Az, Ap, Aq⟩ := M.f5 2 rfl
 have ye0 : W3.cell? ⟨b', off + k * 7, none⟩ = some (.int .i64 s) := (M.below.cell (p := ⟨b', off + k * 7, none⟩) hb').trans z0
 go_wp2_with fail
 go_call (l3Copy_s ts ks fs (some ⟨b', off, none⟩) A1 A2 c0 c1 c2 tn st _ ht hk hf (H.out.below M.below)) as r W4 ⟨C0, C1, C2, e0, e1, e2, rfl, g1⟩
 clear tR Aa Ai Ac Aj Ad Ah Ae Af Ab Ag tX Ba Ak Ao Bc Bb Au Al Ay At Av tP Aw As An Am Bd Ar Ax Az Ap Aq
 replace M := Sep.new M g1
 simp only [List.cons_append, List.nil_append] at M
 clear g1
 obtain ⟨tR, Aa, Ai, Ac, Aj, Ad, Ah, Ae, Af, Ab, Ag⟩ := M.f5 3 rfl
 obtain ⟨tX, Ba, Ak, Ao, Bc, Bb, Au, Al, Ay, At, Av⟩ := M.f5 4 rfl
 obtain ⟨tP, Aw, As, An, Am, Bd, Ar, Ax, Az, Ap, Aq⟩ := M.f5 5 rfl
 go_wp2_with fail
 clear tR Aa Ai Ac Aj Ad Ah Ae Af Ab Ag tX Ba Ak Ao Bc Bb Au Al Ay At Av tP Aw As An Am Bd Ar Ax Az Ap Aq
 have N := M.gset5 3 rfl (.slice C0 ts.length e0) (.slice C1 ks.length e1) (.slice C2 fs.length e2) (.int .i64 tn) (.bool st)
 clear M
 obtain ⟨W5, eW, M⟩ := N
 rw [eW]
 clear eW
 simp only [List.set_cons_zero, List.set_cons_succ] at M
 obtain ⟨tR, Aa, Ac, Ad, Ae, Ab⟩ := M.q5 3 rfl
 exact bodyPost_ret (by simp [results, Try.results8, go_sem, Aa, Ac, Ad, Ae, Ab]) rfl ⟨C0, C1, C2, e0, e1, e2, rfl, M.take 3⟩
set_option maxHeartbeats 2000000 in
theorem sWoken_no3 (a b c d e : Int) (ts : List T7) (ks : List Int) (fs : List F2) (A0 A1 A2 : Option Addr) (c0 c1 c2 : Nat) (tn : Int) (st : Bool) (id : Int) (v0 : Int) (w : World) (ht : ts.length ≤ 1048576) (hk : ks.length ≤ 1048576) (hf : fs.length ≤ 1048576) (h : InPool w ts ks fs A0 A1 A2) (hp : poolB a b c d e ts ks fs tn = true) (k : Nat) (s l o1 wt on v t : Int) (hid : id = k) (hts : ts[k]? = some ⟨s, l, o1, wt, on, v, t⟩) (hh : btw (k : Int) 0 ((ts.length : Int) - 1) = true) (hs : s = 3) (hv : btw v0 0 9999 = false) :
 Calls Try.prog 8 #[.agg #[.int .i64 a, .int .i64 b, .int .i64 c, .int .i64 d, .int .i64 e], .agg #[.slice A0 ts.length c0, .slice A1 ks.length c1, .slice A2 fs.length c2, .int .i64 tn, .bool st], .int .i64 id, .int .i64 v0] w (GaveP ts ks fs tn st false w) := by
 have hkl : k < ts.length := by
  rcases Nat.lt_or_ge k ts.length with h1 | h1
  ·exact h1
  ·rw [List.getElem?_eq_none h1] at hts; cases hts
 subst hid
 obtain ⟨b', off, x0, x1, x2, x3, x4, x5, x6, rfl, _, he, hb', z0, z1, z2, z3, z4, z5, z6⟩ := h.1.ts_at hkl
 rw [hts] at he
 injection he with he
 injection he with u0 u1 u2 u3 u4 u5 u6
 subst u0 u1 u2 u3 u4 u5 u6
 have H := hide h
 clear h
 have HY := hide (⟨hp, hh, hts, hv, trivial⟩ : _ ∧ _ ∧ _ ∧ _ ∧ True)
 clear hp hh hts hv
 go_enter Try.func8, Try.ntmps8
 go_wp2_with fail
 generalize hW : ((w.alloc _).alloc _).alloc _ = W1
 have M := Sep.e3 hW
 clear hW
 obtain ⟨tR, Aa, Ai, Ac, Aj, Ad, Ah, Ae, Af, Ab, Ag⟩ := M.f5 0 rfl
 obtain ⟨tX, Ba, Ak, Ao, Bc, Bb, Au, Al, Ay, At, Av⟩ := M.f5 1 rfl
 obtain ⟨tP, Aw, As, An, Am, Bd, Ar, Ax, Az, Ap, Aq⟩ := M.f5 2 rfl
 go_wp2_with fail
 go_call (sPoolOk_v a b c d e ts ks fs (some ⟨b', off, none⟩) A1 A2 c0 c1 c2 tn st true HY.out.1 _ ht hk hf (H.out.below M.below)) as r W2 ⟨rfl, g1⟩
 clear tR Aa Ai Ac Aj Ad Ah Ae Af Ab Ag tX Ba Ak Ao Bc Bb Au Al Ay At Av tP Aw As An Am Bd Ar Ax Az Ap Aq
 replace M := M.call g1
 clear g1
 obtain ⟨tR, Aa, Ai, Ac, Aj, Ad, Ah, Ae, Af, Ab, Ag⟩ := M.f5 0 rfl
 obtain ⟨tX, Ba, Ak, Ao, Bc, Bb, Au, Al, Ay, At, Av⟩ := M.f5 1 rfl
 obtain ⟨tP, Aw, As, An, Am, Bd, Ar, Ax, Az, Ap, Aq⟩ := M.f5 2 rfl
 go_wp2_with fail
 go_call (l5Has_v ts (some ⟨b', off, none⟩) A1 A2 c0 ks.length c1 fs.length c2 tn st k true HY.out.2.1 _ ht) as r W3 ⟨rfl, g1⟩
 clear tR Aa Ai Ac Aj Ad Ah Ae Af Ab Ag tX Ba Ak Ao Bc Bb Au Al Ay At Av tP Aw As An Am Bd Ar Ax Az Ap Aq
 replace M := M.call g1
 clear g1
 obtain ⟨tR, Aa, Ai, Ac, Aj, Ad, Ah, Ae, Af, Ab, Ag⟩ := M.f5 0 rfl
 obtain ⟨tX, Ba, Ak, Ao, Bc, Bb, Au, Al, Ay, At, Av⟩ := M.f5 1 rfl
 obtain ⟨tP, Aw, As, An, Am, Bd, Ar, Ax, Az, Ap, Aq⟩ := M.f5 2 rfl
 have ye0 : W3.cell? ⟨b', off + k * 7, none⟩ = some (.int .i64 s) := (M.below.cell (p := ⟨b', off + k * 7, none⟩) hb').trans z0
 go_wp2_with fail
 go_call (l1Value_v v0 false HY.out.2.2.2.1 _) as r W ⟨rfl, rfl⟩
 go_wp2_with fail
 go_call (l3Copy_s ts ks fs (some ⟨b', off, none⟩) A1 A2 c0 c1 c2 tn st _ ht hk hf (H.out.below M.below)) as r W4 ⟨C0, C1, C2, e0, e1, e2, rfl, g1⟩
 clear tR Aa Ai Ac Aj Ad Ah Ae Af Ab Ag tX Ba Ak Ao Bc Bb Au Al Ay At Av tP Aw As An Am Bd Ar Ax Az Ap Aq
 replace M := Sep.new M g1
 simp only [List.cons_append, List.nil_append] at M
 clear g1
 obtain ⟨tR, Aa, Ai, Ac, Aj, Ad, Ah, Ae, Af, Ab, Ag⟩ := M.f5 3 rfl
 obtain ⟨tX, Ba, Ak, Ao, Bc, Bb, Au, Al, Ay, At, Av⟩ := M.f5 4 rfl
 obtain ⟨tP, Aw, As, An, Am, Bd, Ar, Ax, Az, Ap, Aq⟩ := M.f5 5 rfl
 go_wp2_with fail
 clear tR Aa Ai Ac Aj Ad Ah Ae Af Ab Ag tX Ba Ak Ao Bc Bb Au Al Ay At Av tP Aw As An Am Bd Ar Ax Az Ap Aq
 have N := M.gset5 3 rfl (.slice C0 ts.length e0) (.slice C1 ks.length e1) (.slice C2 fs.length e2) (.int .i64 tn) (.bool st)
 clear M
 obtain ⟨W5, eW, M⟩ := N
 rw [eW]
 clear eW
 simp only [List.set_cons_zero, List.set_cons_succ] at M
 obtain ⟨tR, Aa, Ac, Ad, Ae, Ab⟩ := M.q5 3 rfl
 exact bodyPost_ret (by simp [results, Try.results8, go_sem, Aa, Ac, Ad, Ae, Ab]) rfl ⟨C0, C1, C2, e0, e1, e2, rfl, M.take 3⟩
set_option maxHeartbeats 2000000 in
theorem sWoken_yes (a b c d e : Int) (ts : List T7) (ks : List Int) (fs : List F2) (A0 A1 A2 : Option Addr) (c0 c1 c2 : Nat) (tn : Int) (st : Bool) (id : Int) (v0 : Int) (w : World) (ht : ts.length ≤ 1048576) (hk : ks.length ≤ 1048576) (hf : fs.length ≤ 1048576) (h : InPool w ts ks fs A0 A1 A2) (hp : poolB a b c d e ts ks fs tn = true) (k : Nat) (s l o1 wt on v t : Int) (hid : id = k) (hts : ts[k]? = some ⟨s, l, o1, wt, on, v, t⟩) (hh : btw (k : Int) 0 ((ts.length : Int) - 1) = true) (hs : s = 3) (hv : btw v0 0 9999 = true) (hz : poolB a b c d e ((ts.set k (wakeT ⟨s, l, o1, wt, on, v, t⟩ tn v0))) ks fs (tn + 1) = true) :
 Calls Try.prog 8 #[.agg #[.int .i64 a, .int .i64 b, .int .i64 c, .int .i64 d, .int .i64 e], .agg #[.slice A0 ts.length c0, .slice A1 ks.length c1, .slice A2 fs.length c2, .int .i64 tn, .bool st], .int .i64 id, .int .i64 v0] w (GaveP ((ts.set k (wakeT ⟨s, l, o1, wt, on, v, t⟩ tn v0))) ks fs (tn + 1) st true w) := by
 have hkl : k < ts.length := by
  rcases Nat.lt_or_ge k ts.length with h1 | h1
  ·exact h1
  ·rw [List.getElem?_eq_none h1] at hts; cases hts
 have tb : 0 ≤ tn ∧ tn ≤ 1000000 := by
  have h1 := hp
  simp only [poolB, Bool.and_eq_true] at h1
  have h2 := h1.2.1
  simp [btw] at h2
  exact h2
 obtain ⟨tb0, tb1⟩ := tb
 subst hid
 obtain ⟨b', off, x0, x1, x2, x3, x4, x5, x6, rfl, _, he, hb', z0, z1, z2, z3, z4, z5, z6⟩ := h.1.ts_at hkl
 rw [hts] at he
 injection he with he
 injection he with u0 u1 u2 u3 u4 u5 u6
 subst u0 u1 u2 u3 u4 u5 u6
 have H := hide h
 clear h
 have HY := hide (⟨hp, hh, hts, hz, hv, trivial⟩ : _ ∧ _ ∧ _ ∧ _ ∧ _ ∧ True)
 clear hp hh hts hz hv
 go_enter Try.func8, Try.ntmps8
 go_wp2_with fail
 generalize hW : ((w.alloc _).alloc _).alloc _ = W1
 have M := Sep.e3 hW
 clear hW
 obtain ⟨tR, Aa, Ai, Ac, Aj, Ad, Ah, Ae, Af, Ab, Ag⟩ := M.f5 0 rfl
 obtain ⟨tX, Ba, Ak, Ao, Bc, Bb, Au, Al, Ay, At, Av⟩ := M.f5 1 rfl
 obtain ⟨tP, Aw, As, An, Am, Bd, Ar, Ax, Az, Ap, Aq⟩ := M.f5 2 rfl
 go_wp2_with fail
 go_call (sPoolOk_v a b c d e ts ks fs (some ⟨b', off, none⟩) A1 A2 c0 c1 c2 tn st true HY.out.1 _ ht hk hf (H.out.below M.below)) as r W2 ⟨rfl, g1⟩
 clear tR Aa Ai Ac Aj Ad Ah Ae Af Ab Ag tX Ba Ak Ao Bc Bb Au Al Ay At Av tP Aw As An Am Bd Ar Ax Az Ap Aq
 replace M := M.call g1
 clear g1
 obtain ⟨tR, Aa, Ai, Ac, Aj, Ad, Ah, Ae, Af, Ab, Ag⟩ := M.f5 0 rfl
 obtain ⟨tX, Ba, Ak, Ao, Bc, Bb, Au, Al, Ay, At, Av⟩ := M.f5 1 rfl
 obtain ⟨tP, Aw, As, An, Am, Bd, Ar, Ax, Az, Ap, Aq⟩ := M.f5 2 rfl
 go_wp2_with fail
 go_call (l5Has_v ts (some ⟨b', off, none⟩) A1 A2 c0 ks.length c1 fs.length c2 tn st k true HY.out.2.1 _ ht) as r W3 ⟨rfl, g1⟩
 clear tR Aa Ai Ac Aj Ad Ah Ae Af Ab Ag tX Ba Ak Ao Bc Bb Au Al Ay At Av tP Aw As An Am Bd Ar Ax Az Ap Aq
 replace M := M.call g1
 clear g1
 obtain ⟨tR, Aa, Ai, Ac, Aj, Ad, Ah, Ae, Af, Ab, Ag⟩ := M.f5 0 rfl
 obtain ⟨tX, Ba, Ak, Ao, Bc, Bb, Au, Al, Ay, At, Av⟩ := M.f5 1 rfl
 obtain ⟨tP, Aw, As, An, Am, Bd, Ar, Ax, Az, Ap, Aq⟩ := M.f5 2 rfl
 have ye0 : W3.cell? ⟨b', off + k * 7, none⟩ = some (.int .i64 s) := (M.below.cell (p := ⟨b', off + k * 7, none⟩) hb').trans z0
 go_wp2_with fail
 go_call (l1Value_v v0 true HY.out.2.2.2.2.1 _) as r W ⟨rfl, rfl⟩
 go_wp2_with fail
 clear ye0
 clear tR Aa Ai Ac Aj Ad Ah Ae Af Ab Ag tX Ba Ak Ao Bc Bb Au Al Ay At Av tP Aw As An Am Bd Ar Ax Az Ap Aq
 refine wp_region_T (S := (fun w' => w'.cell? ⟨w.heap.size, 0, none⟩ = some (.int .i64 a) ∧ w'.cell? ⟨w.heap.size, 1, none⟩ = some (.int .i64 b) ∧ w'.cell? ⟨w.heap.size, 2, none⟩ = some (.int .i64 c) ∧ w'.cell? ⟨w.heap.size, 3, none⟩ = some (.int .i64 d) ∧ w'.cell? ⟨w.heap.size, 4, none⟩ = some (.int .i64 e) ∧ w'.cell? ⟨w.heap.size + 1, 0, none⟩ = some (.slice (some ⟨b', off, none⟩) ts.length c0) ∧ w'.cell? ⟨w.heap.size + 1, 1, none⟩ = some (.slice A1 ks.length c1) ∧ w'.cell? ⟨w.heap.size + 1, 2, none⟩ = some (.slice A2 fs.length c2) ∧ w'.cell? ⟨w.heap.size + 1, 3, none⟩ = some (.int .i64 tn) ∧ w'.cell? ⟨w.heap.size + 1, 4, none⟩ = some (.bool st))) (ks := [10]) (by kernel_rfl) ⟨M.cell 2 0 rfl, M.cell 2 1 rfl, M.cell 2 2 rfl, M.cell 2 3 rfl, M.cell 2 4 rfl, M.cell 1 0 rfl, M.cell 1 1 rfl, M.cell 1 2 rfl, M.cell 1 3 rfl, M.cell 1 4 rfl⟩ (fun hHeld => ?_)
 replace M := M.drew
 generalize W3.drew = W4 at M hHeld ⊢
 refine tkL 0 ?v0u1 rfl ?hy0u1 hHeld ?_
 case hy0u1 => (intro w hSw; (try dsimp only at hSw); go_split_ands; go_simp; all_goals with_reducible rfl)
 try simp only [Act.put, List.setIfInBounds_toArray, List.set_cons_zero, List.set_cons_succ]
 refine tkL 1 ?v1u2 rfl ?hy1u2 hHeld ?_
 case hy1u2 => (intro w hSw; (try dsimp only at hSw); go_split_ands; go_simp; all_goals with_reducible rfl)
 try simp only [Act.put, List.setIfInBounds_toArray, List.set_cons_zero, List.set_cons_succ]
 refine tkL 2 ?v2u3 rfl ?hy2u3 hHeld ?_
 case hy2u3 => (intro w hSw; (try dsimp only at hSw); go_split_ands; go_simp; all_goals with_reducible rfl)
 try simp only [Act.put, List.setIfInBounds_toArray, List.set_cons_zero, List.set_cons_succ]
 refine tkY 4 ?v4u4 rfl ?hy4u4 (fun _ => hHeld) ?_
 case hy4u4 => (intro w; go_simp; all_goals with_reducible rfl)
 try simp only [Act.put, List.setIfInBounds_toArray, List.set_cons_zero, List.set_cons_succ]
 refine tkY 5 ?v5u5 rfl ?hy5u5 (fun _ => hHeld) ?_
 case hy5u5 => (intro w; go_simp; all_goals with_reducible rfl)
 try simp only [Act.put, List.setIfInBounds_toArray, List.set_cons_zero, List.set_cons_succ]
 refine wpAnyT_callL (i := 3) rfl (by kernel_rfl) (fun K hK => ?_)
 go_simp
 refine Calls.mono (by with_reducible exact (l3Copy_s ts ks fs (some ⟨b', off, none⟩) A1 A2 c0 c1 c2 tn st _ ht hk hf (H.out.below M.below))) ?_
 rintro r W5 ⟨C0, C1, C2, e0, e1, e2, rfl, g1⟩
 replace M := Sep.new M g1
 simp only [List.cons_append, List.nil_append] at M
 clear g1 hHeld
 go_wp2_with fail
 refine hK.out _ _ ?_ (fun hHeld => ?_)
 ·exact ⟨M.cell 5 0 rfl, M.cell 5 1 rfl, M.cell 5 2 rfl, M.cell 5 3 rfl, M.cell 5 4 rfl, M.cell 4 0 rfl, M.cell 4 1 rfl, M.cell 4 2 rfl, M.cell 4 3 rfl, M.cell 4 4 rfl⟩
 clear hK K
 try simp only [Act.put, List.setIfInBounds_toArray, List.set_cons_zero, List.set_cons_succ]
 refine wpAnyT_callL (i := 6) rfl (by kernel_rfl) (fun K hK => ?_)
 go_simp
 refine Calls.mono (by with_reducible exact (l5Wake_s ts C0 C1 C2 e0 ks.length e1 fs.length e2 tn st k s l o1 wt on v t v0 _ ht (by omega) (by omega) HY.out.2.2.1 (M.here _ (List.mem_cons_self)))) ?_
 rintro r W6 ⟨rfl, g1⟩
 replace M := Sep.comp (ps := [rT ts.length C0 e0 ts]) M g1
 simp only [List.cons_append, List.nil_append] at M
 clear g1 hHeld
 go_wp2_with fail
 refine hK.out _ _ ?_ (fun hHeld => ?_)
 ·exact ⟨M.cell 5 0 rfl, M.cell 5 1 rfl, M.cell 5 2 rfl, M.cell 5 3 rfl, M.cell 5 4 rfl, M.cell 4 0 rfl, M.cell 4 1 rfl, M.cell 4 2 rfl, M.cell 4 3 rfl, M.cell 4 4 rfl⟩
 clear hK K
 try simp only [Act.put, List.setIfInBounds_toArray, List.set_cons_zero, List.set_cons_succ]
 refine wpAnyT_callL (i := 7) rfl (by kernel_rfl) (fun K hK => ?_)
 go_simp
 have hlx : ((ts.set k (wakeT ⟨s, l, o1, wt, on, v, t⟩ tn v0))).length = ts.length := by simp
 obtain ⟨us, hus⟩ : ∃ us, us = (ts.set k (wakeT ⟨s, l, o1, wt, on, v, t⟩ tn v0)) := ⟨_, rfl⟩
 rw [← hus] at M hlx
 have hZ := HY.out.2.2.2.1
 rw [← hus] at hZ
 have hE := either_yes a b c d e ts ks fs (some ⟨b', off, none⟩) A1 A2 c0 c1 c2 tn st us ks fs C0 C1 C2 e0 e1 e2 (tn + 1) st _ ht hk hf (by omega) hk hf (H.out.below M.below) (by rw [hlx]; exact Sep.same (ps := [rT ts.length C0 e0 us, rK ks.length C1 e1 ks, rF fs.length C2 e2 fs]) (rs := [.blk (w.heap.size + 2) 33 #[.slice none 0 0, .slice none 0 0, .slice none 0 0, .int .i64 0, .bool false], .blk (w.heap.size + 1) 33 #[.slice (some ⟨b', off, none⟩) ts.length c0, .slice A1 ks.length c1, .slice A2 fs.length c2, .int .i64 tn, .bool st], .blk (w.heap.size) 36 #[.int .i64 a, .int .i64 b, .int .i64 c, .int .i64 d, .int .i64 e]]) M (Below.refl _ _)) hZ
 rw [hlx] at hE
 refine Calls.mono (by with_reducible exact hE) ?_
 clear hE
 rintro r W7 ⟨D0, D1, D2, f0, f1, f2, rfl, g1⟩
 replace M : Sep [] w W7 [rT ts.length D0 f0 us, rK ks.length D1 f1 ks, rF fs.length D2 f2 fs, .blk (w.heap.size + 2) 33 #[.slice none 0 0, .slice none 0 0, .slice none 0 0, .int .i64 0, .bool false], .blk (w.heap.size + 1) 33 #[.slice (some ⟨b', off, none⟩) ts.length c0, .slice A1 ks.length c1, .slice A2 fs.length c2, .int .i64 tn, .bool st], .blk (w.heap.size) 36 #[.int .i64 a, .int .i64 b, .int .i64 c, .int .i64 d, .int .i64 e]] := Sep.comp (ps := [rT ts.length C0 e0 us, rK ks.length C1 e1 ks, rF fs.length C2 e2 fs]) (rs := [.blk (w.heap.size + 2) 33 #[.slice none 0 0, .slice none 0 0, .slice none 0 0, .int .i64 0, .bool false], .blk (w.heap.size + 1) 33 #[.slice (some ⟨b', off, none⟩) ts.length c0, .slice A1 ks.length c1, .slice A2 fs.length c2, .int .i64 tn, .bool st], .blk (w.heap.size) 36 #[.int .i64 a, .int .i64 b, .int .i64 c, .int .i64 d, .int .i64 e]]) M g1
 clear g1 hHeld hZ
 have HU := hide (⟨hus, hlx⟩ : _ ∧ _)
 clear hus hlx
 go_wp2_with fail
 refine hK.out _ _ ?_ (fun hHeld => ?_)
 ·exact ⟨M.cell 5 0 rfl, M.cell 5 1 rfl, M.cell 5 2 rfl, M.cell 5 3 rfl, M.cell 5 4 rfl, M.cell 4 0 rfl, M.cell 4 1 rfl, M.cell 4 2 rfl, M.cell 4 3 rfl, M.cell 4 4 rfl⟩
 clear hK K
 try simp only [Act.put, List.setIfInBounds_toArray, List.set_cons_zero, List.set_cons_succ]
 refine tkY 8 ?v8u6 rfl ?hy8u6 (fun _ => hHeld) ?_
 case hy8u6 => (intro w; go_simp; all_goals with_reducible rfl)
 try simp only [Act.put, List.setIfInBounds_toArray, List.set_cons_zero, List.set_cons_succ]
 refine tkY 9 ?v9u7 rfl ?hy9u7 (fun _ => hHeld) ?_
 case hy9u7 => (intro w; go_simp; all_goals with_reducible rfl)
 try simp only [Act.put, List.setIfInBounds_toArray, List.set_cons_zero, List.set_cons_succ]
 obtain ⟨tR, Aa, Ai, Ac, Aj, Ad, Ah, Ae, Af, Ab, Ag⟩ := M.f5 3 rfl
 refine wpAnyT_oneL (i := 10) rfl (by kernel_rfl) (by kernel_rfl) (fun K hK => ?_)
 go_simp
 refine hK.out _ _ ?_
 clear hK K
 try simp only [Act.put, List.setIfInBounds_toArray, List.set_cons_zero, List.set_cons_succ]
 clear tR Aa Ai Ac Aj Ad Ah Ae Af Ab Ag
 have N := M.gset5 3 rfl (.slice D0 ts.length f0) (.slice D1 ks.length f1) (.slice D2 fs.length f2) (.int .i64 (tn + 1)) (.bool st)
 clear M
 obtain ⟨W8, eW, M⟩ := N
 rw [eW]
 clear eW
 simp only [List.set_cons_zero, List.set_cons_succ] at M
 refine tkZ 11 ?v11u8 rfl ?hy11u8 ?_
 case hy11u8 => (intro w; go_simp; all_goals with_reducible rfl)
 try simp only [Act.put, List.setIfInBounds_toArray, List.set_cons_zero, List.set_cons_succ]
 refine wpAnyT_done (by kernel_rfl) ?_ _
 go_wp2_with fail
 obtain ⟨tR, Aa, Ac, Ad, Ae, Ab⟩ := M.q5 3 rfl
 exact bodyPost_ret (v := .tuple #[.agg #[.slice D0 ts.length f0, .slice D1 ks.length f1, .slice D2 fs.length f2, .int .i64 (tn + 1), .bool st], .bool true]) (by simp [results, Try.results8, go_sem, Aa, Ac, Ad, Ae, Ab]) rfl (by have hl := HU.out.2; have hu := HU.out.1; rw [← hu]; unfold GaveP; rw [hl]; exact ⟨D0, D1, D2, f0, f1, f2, rfl, M.take 3⟩)
set_option maxHeartbeats 2000000 in
theorem sWoken_full (a b c d e : Int) (ts : List T7) (ks : List Int) (fs : List F2) (A0 A1 A2 : Option Addr) (c0 c1 c2 : Nat) (tn : Int) (st : Bool) (id : Int) (v0 : Int) (w : World) (ht : ts.length ≤ 1048576) (hk : ks.length ≤ 1048576) (hf : fs.length ≤ 1048576) (h : InPool w ts ks fs A0 A1 A2) (hp : poolB a b c d e ts ks fs tn = true) (k : Nat) (s l o1 wt on v t : Int) (hid : id = k) (hts : ts[k]? = some ⟨s, l, o1, wt, on, v, t⟩) (hh : btw (k : Int) 0 ((ts.length : Int) - 1) = true) (hs : s = 3) (hv : btw v0 0 9999 = true) (hz : poolB a b c d e ((ts.set k (wakeT ⟨s, l, o1, wt, on, v, t⟩ tn v0))) ks fs (tn + 1) = false) :
 Calls Try.prog 8 #[.agg #[.int .i64 a, .int .i64 b, .int .i64 c, .int .i64 d, .int .i64 e], .agg #[.slice A0 ts.length c0, .slice A1 ks.length c1, .slice A2 fs.length c2, .int .i64 tn, .bool st], .int .i64 id, .int .i64 v0] w (GaveP ts ks fs tn st false w) := by
 have hkl : k < ts.length := by
  rcases Nat.lt_or_ge k ts.length with h1 | h1
  ·exact h1
  ·rw [List.getElem?_eq_none h1] at hts; cases hts
 have tb : 0 ≤ tn ∧ tn ≤ 1000000 := by
  have h1 := hp
  simp only [poolB, Bool.and_eq_true] at h1
  have h2 := h1.2.1
  simp [btw] at h2
  exact h2
 obtain ⟨tb0, tb1⟩ := tb
 subst hid
 obtain ⟨b', off, x0, x1, x2, x3, x4, x5, x6, rfl, _, he, hb', z0, z1, z2, z3, z4, z5, z6⟩ := h.1.ts_at hkl
 rw [hts] at he
 injection he with he
 injection he with u0 u1 u2 u3 u4 u5 u6
 subst u0 u1 u2 u3 u4 u5 u6
 have H := hide h
 clear h
 have HY := hide (⟨hp, hh, hts, hz, hv, trivial⟩ : _ ∧ _ ∧ _ ∧ _ ∧ _ ∧ True)
 clear hp hh hts hz hv
 go_enter Try.func8, Try.ntmps8
 go_wp2_with fail
 generalize hW : ((w.alloc _).alloc _).alloc _ = W1
 have M := Sep.e3 hW
 clear hW
 obtain ⟨tR, Aa, Ai, Ac, Aj, Ad, Ah, Ae, Af, Ab, Ag⟩ := M.f5 0 rfl
 obtain ⟨tX, Ba, Ak, Ao, Bc, Bb, Au, Al, Ay, At, Av⟩ := M.f5 1 rfl
 obtain ⟨tP, Aw, As, An, Am, Bd, Ar, Ax, Az, Ap, Aq⟩ := M.f5 2 rfl
 go_wp2_with fail
 go_call (sPoolOk_v a b c d e ts ks fs (some ⟨b', off, none⟩) A1 A2 c0 c1 c2 tn st true HY.out.1 _ ht hk hf (H.out.below M.below)) as r W2 ⟨rfl, g1⟩
 clear tR Aa Ai Ac Aj Ad Ah Ae Af Ab Ag tX Ba Ak Ao Bc Bb Au Al Ay At Av tP Aw As An Am Bd Ar Ax Az Ap Aq
 replace M := M.call g1
 clear g1
 obtain ⟨tR, Aa, Ai, Ac, Aj, Ad, Ah, Ae, Af, Ab, Ag⟩ := M.f5 0 rfl
 obtain ⟨tX, Ba, Ak, Ao, Bc, Bb, Au, Al, Ay, At, Av⟩ := M.f5 1 rfl
 obtain ⟨tP, Aw, As, An, Am, Bd, Ar, Ax, Az, Ap, Aq⟩ := M.f5 2 rfl
 go_wp2_with fail
 go_call (l5Has_v ts (some ⟨b', off, none⟩) A1 A2 c0 ks.length c1 fs.length c2 tn st k true HY.out.2.1 _ ht) as r W3 ⟨rfl, g1⟩
 clear tR Aa Ai Ac Aj Ad Ah Ae Af Ab Ag tX Ba Ak Ao Bc Bb Au Al Ay At Av tP Aw As An Am Bd Ar Ax Az Ap Aq
 replace M := M.call g1
 clear g1
 obtain ⟨tR, Aa, Ai, Ac, Aj, Ad, Ah, Ae, Af, Ab, Ag⟩ := M.f5 0 rfl
 obtain ⟨tX, Ba, Ak, Ao, Bc, Bb, Au, Al, Ay, At, Av⟩ := M.f5 1 rfl
 obtain ⟨tP, Aw, As, An, Am, Bd, Ar, Ax, Az, Ap, Aq⟩ := M.f5 2 rfl
 have ye0 : W3.cell? ⟨b', off + k * 7, none⟩ = some (.int .i64 s) := (M.below.cell (p := ⟨b', off + k * 7, none⟩) hb').trans z0
 go_wp2_with fail
 go_call (l1Value_v v0 true HY.out.2.2.2.2.1 _) as r W ⟨rfl, rfl⟩
 go_wp2_with fail
 clear ye0
 clear tR Aa Ai Ac Aj Ad Ah Ae Af Ab Ag tX Ba Ak Ao Bc Bb Au Al Ay At Av tP Aw As An Am Bd Ar Ax Az Ap Aq
 refine wp_region_T (S := (fun w' => w'.cell? ⟨w.heap.size, 0, none⟩ = some (.int .i64 a) ∧ w'.cell? ⟨w.heap.size, 1, none⟩ = some (.int .i64 b) ∧ w'.cell? ⟨w.heap.size, 2, none⟩ = some (.int .i64 c) ∧ w'.cell? ⟨w.heap.size, 3, none⟩ = some (.int .i64 d) ∧ w'.cell? ⟨w.heap.size, 4, none⟩ = some (.int .i64 e) ∧ w'.cell? ⟨w.heap.size + 1, 0, none⟩ = some (.slice (some ⟨b', off, none⟩) ts.length c0) ∧ w'.cell? ⟨w.heap.size + 1, 1, none⟩ = some (.slice A1 ks.length c1) ∧ w'.cell? ⟨w.heap.size + 1, 2, none⟩ = some (.slice A2 fs.length c2) ∧ w'.cell? ⟨w.heap.size + 1, 3, none⟩ = some (.int .i64 tn) ∧ w'.cell? ⟨w.heap.size + 1, 4, none⟩ = some (.bool st))) (ks := [10]) (by kernel_rfl) ⟨M.cell 2 0 rfl, M.cell 2 1 rfl, M.cell 2 2 rfl, M.cell 2 3 rfl, M.cell 2 4 rfl, M.cell 1 0 rfl, M.cell 1 1 rfl, M.cell 1 2 rfl, M.cell 1 3 rfl, M.cell 1 4 rfl⟩ (fun hHeld => ?_)
 replace M := M.drew
 generalize W3.drew = W4 at M hHeld ⊢
 refine tkL 0 ?v0u9 rfl ?hy0u9 hHeld ?_
 case hy0u9 => (intro w hSw; (try dsimp only at hSw); go_split_ands; go_simp; all_goals with_reducible rfl)
 try simp only [Act.put, List.setIfInBounds_toArray, List.set_cons_zero, List.set_cons_succ]
 refine tkL 1 ?v1u10 rfl ?hy1u10 hHeld ?_
 case hy1u10 => (intro w hSw; (try dsimp only at hSw); go_split_ands; go_simp; all_goals with_reducible rfl)
 try simp only [Act.put, List.setIfInBounds_toArray, List.set_cons_zero, List.set_cons_succ]
 refine tkL 2 ?v2u11 rfl ?hy2u11 hHeld ?_
 case hy2u11 => (intro w hSw; (try dsimp only at hSw); go_split_ands; go_simp; all_goals with_reducible rfl)
 try simp only [Act.put, List.setIfInBounds_toArray, List.set_cons_zero, List.set_cons_succ]
 refine tkY 4 ?v4u12 rfl ?hy4u12 (fun _ => hHeld) ?_
 case hy4u12 => (intro w; go_simp; all_goals with_reducible rfl)
 try simp only [Act.put, List.setIfInBounds_toArray, List.set_cons_zero, List.set_cons_succ]
 refine tkY 5 ?v5u13 rfl ?hy5u13 (fun _ => hHeld) ?_
 case hy5u13 => (intro w; go_simp; all_goals with_reducible rfl)
 try simp only [Act.put, List.setIfInBounds_toArray, List.set_cons_zero, List.set_cons_succ]
 refine wpAnyT_callL (i := 3) rfl (by kernel_rfl) (fun K hK => ?_)
 go_simp
 refine Calls.mono (by with_reducible exact (l3Copy_s ts ks fs (some ⟨b', off, none⟩) A1 A2 c0 c1 c2 tn st _ ht hk hf (H.out.below M.below))) ?_
 rintro r W5 ⟨C0, C1, C2, e0, e1, e2, rfl, g1⟩
 replace M := Sep.new M g1
 simp only [List.cons_append, List.nil_append] at M
 clear g1 hHeld
 go_wp2_with fail
 refine hK.out _ _ ?_ (fun hHeld => ?_)
 ·exact ⟨M.cell 5 0 rfl, M.cell 5 1 rfl, M.cell 5 2 rfl, M.cell 5 3 rfl, M.cell 5 4 rfl, M.cell 4 0 rfl, M.cell 4 1 rfl, M.cell 4 2 rfl, M.cell 4 3 rfl, M.cell 4 4 rfl⟩
 clear hK K
 try simp only [Act.put, List.setIfInBounds_toArray, List.set_cons_zero, List.set_cons_succ]
 refine wpAnyT_callL (i := 6) rfl (by kernel_rfl) (fun K hK => ?_)
 go_simp
 refine Calls.mono (by with_reducible exact (l5Wake_s ts C0 C1 C2 e0 ks.length e1 fs.length e2 tn st k s l o1 wt on v t v0 _ ht (by omega) (by omega) HY.out.2.2.1 (M.here _ (List.mem_cons_self)))) ?_
 rintro r W6 ⟨rfl, g1⟩
 replace M := Sep.comp (ps := [rT ts.length C0 e0 ts]) M g1
 simp only [List.cons_append, List.nil_append] at M
 clear g1 hHeld
 go_wp2_with fail
 refine hK.out _ _ ?_ (fun hHeld => ?_)
 ·exact ⟨M.cell 5 0 rfl, M.cell 5 1 rfl, M.cell 5 2 rfl, M.cell 5 3 rfl, M.cell 5 4 rfl, M.cell 4 0 rfl, M.cell 4 1 rfl, M.cell 4 2 rfl, M.cell 4 3 rfl, M.cell 4 4 rfl⟩
 clear hK K
 try simp only [Act.put, List.setIfInBounds_toArray, List.set_cons_zero, List.set_cons_succ]
 refine wpAnyT_callL (i := 7) rfl (by kernel_rfl) (fun K hK => ?_)
 go_simp
 have hlx : ((ts.set k (wakeT ⟨s, l, o1, wt, on, v, t⟩ tn v0))).length = ts.length := by simp
 obtain ⟨us, hus⟩ : ∃ us, us = (ts.set k (wakeT ⟨s, l, o1, wt, on, v, t⟩ tn v0)) := ⟨_, rfl⟩
 rw [← hus] at M hlx
 have hZ := HY.out.2.2.2.1
 rw [← hus] at hZ
 have hE := either_no a b c d e ts ks fs (some ⟨b', off, none⟩) A1 A2 c0 c1 c2 tn st us ks fs C0 C1 C2 e0 e1 e2 (tn + 1) st _ ht hk hf (by omega) hk hf (H.out.below M.below) (by rw [hlx]; exact Sep.same (ps := [rT ts.length C0 e0 us, rK ks.length C1 e1 ks, rF fs.length C2 e2 fs]) (rs := [.blk (w.heap.size + 2) 33 #[.slice none 0 0, .slice none 0 0, .slice none 0 0, .int .i64 0, .bool false], .blk (w.heap.size + 1) 33 #[.slice (some ⟨b', off, none⟩) ts.length c0, .slice A1 ks.length c1, .slice A2 fs.length c2, .int .i64 tn, .bool st], .blk (w.heap.size) 36 #[.int .i64 a, .int .i64 b, .int .i64 c, .int .i64 d, .int .i64 e]]) M (Below.refl _ _)) hZ
 rw [hlx] at hE
 refine Calls.mono (by with_reducible exact hE) ?_
 clear hE
 rintro r W7 ⟨D0, D1, D2, f0, f1, f2, rfl, g1⟩
 replace M : Sep [] w W7 [rT ts.length D0 f0 ts, rK ks.length D1 f1 ks, rF fs.length D2 f2 fs, .blk (w.heap.size + 2) 33 #[.slice none 0 0, .slice none 0 0, .slice none 0 0, .int .i64 0, .bool false], .blk (w.heap.size + 1) 33 #[.slice (some ⟨b', off, none⟩) ts.length c0, .slice A1 ks.length c1, .slice A2 fs.length c2, .int .i64 tn, .bool st], .blk (w.heap.size) 36 #[.int .i64 a, .int .i64 b, .int .i64 c, .int .i64 d, .int .i64 e]] := Sep.comp (ps := [rT ts.length C0 e0 us, rK ks.length C1 e1 ks, rF fs.length C2 e2 fs]) (rs := [.blk (w.heap.size + 2) 33 #[.slice none 0 0, .slice none 0 0, .slice none 0 0, .int .i64 0, .bool false], .blk (w.heap.size + 1) 33 #[.slice (some ⟨b', off, none⟩) ts.length c0, .slice A1 ks.length c1, .slice A2 fs.length c2, .int .i64 tn, .bool st], .blk (w.heap.size) 36 #[.int .i64 a, .int .i64 b, .int .i64 c, .int .i64 d, .int .i64 e]]) M g1
 clear g1 hHeld hZ
 have HU := hide (⟨hus, hlx⟩ : _ ∧ _)
 clear hus hlx
 go_wp2_with fail
 refine hK.out _ _ ?_ (fun hHeld => ?_)
 ·exact ⟨M.cell 5 0 rfl, M.cell 5 1 rfl, M.cell 5 2 rfl, M.cell 5 3 rfl, M.cell 5 4 rfl, M.cell 4 0 rfl, M.cell 4 1 rfl, M.cell 4 2 rfl, M.cell 4 3 rfl, M.cell 4 4 rfl⟩
 clear hK K
 try simp only [Act.put, List.setIfInBounds_toArray, List.set_cons_zero, List.set_cons_succ]
 refine tkY 8 ?v8u14 rfl ?hy8u14 (fun _ => hHeld) ?_
 case hy8u14 => (intro w; go_simp; all_goals with_reducible rfl)
 try simp only [Act.put, List.setIfInBounds_toArray, List.set_cons_zero, List.set_cons_succ]
 refine tkY 9 ?v9u15 rfl ?hy9u15 (fun _ => hHeld) ?_
 case hy9u15 => (intro w; go_simp; all_goals with_reducible rfl)
 try simp only [Act.put, List.setIfInBounds_toArray, List.set_cons_zero, List.set_cons_succ]
 obtain ⟨tR, Aa, Ai, Ac, Aj, Ad, Ah, Ae, Af, Ab, Ag⟩ := M.f5 3 rfl
 refine wpAnyT_oneL (i := 10) rfl (by kernel_rfl) (by kernel_rfl) (fun K hK => ?_)
 go_simp
 refine hK.out _ _ ?_
 clear hK K
 try simp only [Act.put, List.setIfInBounds_toArray, List.set_cons_zero, List.set_cons_succ]
 clear tR Aa Ai Ac Aj Ad Ah Ae Af Ab Ag
 have N := M.gset5 3 rfl (.slice D0 ts.length f0) (.slice D1 ks.length f1) (.slice D2 fs.length f2) (.int .i64 tn) (.bool st)
 clear M
 obtain ⟨W8, eW, M⟩ := N
 rw [eW]
 clear eW
 simp only [List.set_cons_zero, List.set_cons_succ] at M
 refine tkZ 11 ?v11u16 rfl ?hy11u16 ?_
 case hy11u16 => (intro w; go_simp; all_goals with_reducible rfl)
 try simp only [Act.put, List.setIfInBounds_toArray, List.set_cons_zero, List.set_cons_succ]
 refine wpAnyT_done (by kernel_rfl) ?_ _
 go_wp2_with fail
 obtain ⟨tR, Aa, Ac, Ad, Ae, Ab⟩ := M.q5 3 rfl
 exact bodyPost_ret (by simp [results, Try.results8, go_sem, Aa, Ac, Ad, Ae, Ab]) rfl ⟨D0, D1, D2, f0, f1, f2, rfl, M.take 3⟩
set_option maxHeartbeats 2000000 in
theorem sParkedBy_bad (a b c d e : Int) (ts : List T7) (ks : List Int) (fs : List F2) (A0 A1 A2 : Option Addr) (c0 c1 c2 : Nat) (tn : Int) (st : Bool) (id : Int) (pw : Int) (po : Int) (w : World) (ht : ts.length ≤ 1048576) (hk : ks.length ≤ 1048576) (hf : fs.length ≤ 1048576) (h : InPool w ts ks fs A0 A1 A2) (hp : poolB a b c d e ts ks fs tn = false) :
 Calls Try.prog 17 #[.agg #[.int .i64 a, .int .i64 b, .int .i64 c, .int .i64 d, .int .i64 e], .agg #[.slice A0 ts.length c0, .slice A1 ks.length c1, .slice A2 fs.length c2, .int .i64 tn, .bool st], .int .i64 id, .int .i64 pw, .int .i64 po] w (GaveP [] [] [] 0 false false w) := by
 have HY := hide (⟨hp, trivial⟩ : _ ∧ True)
 clear hp
 have H := hide h
 clear h
 go_enter Try.func17, Try.ntmps17
 go_wp2_with fail
 generalize hW : ((w.alloc _).alloc _).alloc _ = W1
 have M := Sep.e3 hW
 clear hW
 obtain ⟨tR, Aa, Ai, Ac, Aj, Ad, Ah, Ae, Af, Ab, Ag⟩ := M.f5 0 rfl
 obtain ⟨tX, Ba, Ak, Ao, Bc, Bb, Au, Al, Ay, At, Av⟩ := M.f5 1 rfl
 obtain ⟨tP, Aw, As, An, Am, Bd, Ar, Ax, Az, Ap, Aq⟩ := M.f5 2 rfl
 go_wp2_with fail
 go_call (sPoolOk_v a b c d e ts ks fs A0 A1 A2 c0 c1 c2 tn st false HY.out.1 _ ht hk hf (H.out.below M.below)) as r W2 ⟨rfl, g1⟩
 clear tR Aa Ai Ac Aj Ad Ah Ae Af Ab Ag tX Ba Ak Ao Bc Bb Au Al Ay At Av tP Aw As An Am Bd Ar Ax Az Ap Aq
 replace M := M.call g1
 clear g1
 obtain ⟨tR, Aa, Ai, Ac, Aj, Ad, Ah, Ae, Af, Ab, Ag⟩ := M.f5 0 rfl
 obtain ⟨tX, Ba, Ak, Ao, Bc, Bb, Au, Al, Ay, At, Av⟩ := M.f5 1 rfl
 obtain ⟨tP, Aw, As, An, Am, Bd, Ar, Ax, Az, Ap, Aq⟩ := M.f5 2 rfl
 go_wp2_with fail
 clear tR Aa Ai Ac Aj Ad Ah Ae Af Ab Ag tX Ba Ak Ao Bc Bb Au Al Ay At Av tP Aw As An Am Bd Ar Ax Az Ap Aq
 have N := M.gset5 0 rfl (.slice none 0 0) (.slice none 0 0) (.slice none 0 0) (.int .i64 0) (.bool false)
 clear M
 obtain ⟨W3, eW, M⟩ := N
 rw [eW]
 clear eW
 simp only [List.set_cons_zero] at M
 obtain ⟨tR, Aa, Ac, Ad, Ae, Ab⟩ := M.q5 0 rfl
 exact bodyPost_ret (v := .tuple #[.agg #[.slice none 0 0, .slice none 0 0, .slice none 0 0, .int .i64 0, .bool false], .bool false]) (by simp [results, Try.results17, go_sem, Aa, Ac, Ad, Ae, Ab]) rfl ⟨none, none, none, 0, 0, 0, rfl, sep_zero M.below⟩
set_option maxHeartbeats 2000000 in
theorem sParkedBy_no1 (a b c d e : Int) (ts : List T7) (ks : List Int) (fs : List F2) (A0 A1 A2 : Option Addr) (c0 c1 c2 : Nat) (tn : Int) (st : Bool) (id : Int) (pw : Int) (po : Int) (w : World) (ht : ts.length ≤ 1048576) (hk : ks.length ≤ 1048576) (hf : fs.length ≤ 1048576) (h : InPool w ts ks fs A0 A1 A2) (hp : poolB a b c d e ts ks fs tn = true) (hh : btw id 0 ((ts.length : Int) - 1) = false) :
 Calls Try.prog 17 #[.agg #[.int .i64 a, .int .i64 b, .int .i64 c, .int .i64 d, .int .i64 e], .agg #[.slice A0 ts.length c0, .slice A1 ks.length c1, .slice A2 fs.length c2, .int .i64 tn, .bool st], .int .i64 id, .int .i64 pw, .int .i64 po] w (GaveP ts ks fs tn st false w) := by
 have H := hide h
 clear h
 have HY := hide (⟨hp, hh, trivial⟩ : _ ∧ _ ∧ True)
 clear hp hh
 go_enter Try.func17, Try.ntmps17
 go_wp2_with fail
 generalize hW : ((w.alloc _).alloc _).alloc _ = W1
 have M := Sep.e3 hW
 clear hW
 obtain ⟨tR, Aa, Ai, Ac, Aj, Ad, Ah, Ae, Af, Ab, Ag⟩ := M.f5 0 rfl
 obtain ⟨tX, Ba, Ak, Ao, Bc, Bb, Au, Al, Ay, At, Av⟩ := M.f5 1 rfl
 obtain ⟨tP, Aw, As, An, Am, Bd, Ar, Ax, Az, Ap, Aq⟩ := M.f5 2 rfl
 go_wp2_with fail
 go_call (sPoolOk_v a b c d e ts ks fs A0 A1 A2 c0 c1 c2 tn st true HY.out.1 _ ht hk hf (H.out.below M.below)) as r W2 ⟨rfl, g1⟩
 clear tR Aa Ai Ac Aj Ad Ah Ae Af Ab Ag tX Ba Ak Ao Bc Bb Au Al Ay At Av tP Aw As An Am Bd Ar Ax Az Ap Aq
 replace M := M.call g1
 clear g1
 obtain ⟨tR, Aa, Ai, Ac, Aj, Ad, Ah, Ae, Af, Ab, Ag⟩ := M.f5 0 rfl
 obtain ⟨tX, Ba, Ak, Ao, Bc, Bb, Au, Al, Ay, At, Av⟩ := M.f5 1 rfl
 obtain ⟨tP, Aw, As, An, Am, Bd, Ar, Ax, Az, Ap, Aq⟩ := M.f5 2 rfl
 go_wp2_with fail
 go_call (l5Has_v ts A0 A1 A2 c0 ks.length c1 fs.length c2 tn st id false HY.out.2.1 _ ht) as r W3 ⟨rfl, g1⟩
 clear tR Aa Ai Ac Aj Ad Ah Ae Af Ab Ag tX Ba Ak Ao Bc Bb Au Al Ay At Av tP Aw As An Am Bd Ar Ax Az Ap Aq
 replace M := M.call g1
 clear g1
 obtain ⟨tR, Aa, Ai, Ac, Aj, Ad, Ah, Ae, Af, Ab, Ag⟩ := M.f5 0 rfl
 obtain ⟨tX, Ba, Ak, Ao, Bc, Bb, Au, Al, Ay, At, Av⟩ := M.f5 1 rfl
 obtain ⟨tP, Aw, As, An, Am, Bd, Ar, Ax, Az, Ap, Aq⟩ := M.f5 2 rfl
 go_wp2_with fail
 go_call (l3Copy_s ts ks fs A0 A1 A2 c0 c1 c2 tn st _ ht hk hf (H.out.below M.below)) as r W4 ⟨C0, C1, C2, e0, e1, e2, rfl, g1⟩
 clear tR Aa Ai Ac Aj Ad Ah Ae Af Ab Ag tX Ba Ak Ao Bc Bb Au Al Ay At Av tP Aw As An Am Bd Ar Ax Az Ap Aq
 replace M := Sep.new M g1
 simp only [List.cons_append, List.nil_append] at M
 clear g1
 obtain ⟨tR, Aa, Ai, Ac, Aj, Ad, Ah, Ae, Af, Ab, Ag⟩ := M.f5 3 rfl
 obtain ⟨tX, Ba, Ak, Ao, Bc, Bb, Au, Al, Ay, At, Av⟩ := M.f5 4 rfl
 obtain ⟨tP, Aw, As, An, Am, Bd, Ar, Ax, Az, Ap, Aq⟩ := M.f5 5 rfl
 go_wp2_with fail
 clear tR Aa Ai Ac Aj Ad Ah Ae Af Ab Ag tX Ba Ak Ao Bc Bb Au Al Ay At Av tP Aw As An Am Bd Ar Ax Az Ap Aq
 have N := M.gset5 3 rfl (.slice C0 ts.length e0) (.slice C1 ks.length e1) (.slice C2 fs.length e2) (.int .i64 tn) (.bool st)
 clear M
 obtain ⟨W5, eW, M⟩ := N
 rw [eW]
 clear eW
 simp only [List.set_cons_zero, List.set_cons_succ] at M
 obtain ⟨tR, Aa, Ac, Ad, Ae, Ab⟩ := M.q5 3 rfl
 exact bodyPost_ret (by simp [results, Try.results17, go_sem, Aa, Ac, Ad, Ae, Ab]) rfl ⟨C0, C1, C2, e0, e1, e2, rfl, M.take 3⟩
set_option maxHeartbeats 2000000 in
theorem sParkedBy_no2 (a b c d e : Int) (ts : List T7) (ks : List Int) (fs : List F2) (A0 A1 A2 : Option Addr) (c0 c1 c2 : Nat) (tn : Int) (st : Bool) (id : Int) (pw : Int) (po : Int) (w : World) (ht : ts.length ≤ 1048576) (hk : ks.length ≤ 1048576) (hf : fs.length ≤ 1048576) (h : InPool w ts ks fs A0 A1 A2) (hp : poolB a b c d e ts ks fs tn = true) (k : Nat) (s l o1 wt on v t : Int) (hid : id = k) (hts : ts[k]? = some ⟨s, l, o1, wt, on, v, t⟩) (hh : btw (k : Int) 0 ((ts.length : Int) - 1) = true) (hs : ¬ s = 2) :
 Calls Try.prog 17 #[.agg #[.int .i64 a, .int .i64 b, .int .i64 c, .int .i64 d, .int .i64 e], .agg #[.slice A0 ts.length c0, .slice A1 ks.length c1, .slice A2 fs.length c2, .int .i64 tn, .bool st], .int .i64 id, .int .i64 pw, .int .i64 po] w (GaveP ts ks fs tn st false w) := by
 have hkl : k < ts.length := by
  rcases Nat.lt_or_ge k ts.length with h1 | h1
  ·exact h1
  ·rw [List.getElem?_eq_none h1] at hts; cases hts
 subst hid
 obtain ⟨b', off, x0, x1, x2, x3, x4, x5, x6, rfl, _, he, hb', z0, z1, z2, z3, z4, z5, z6⟩ := h.1.ts_at hkl
 rw [hts] at he
 injection he with he
 injection he with u0 u1 u2 u3 u4 u5 u6
 subst u0 u1 u2 u3 u4 u5 u6
 have H := hide h
 clear h
 have HY := hide (⟨hp, hh, hts, trivial⟩ : _ ∧ _ ∧ _ ∧ True)
 clear hp hh hts
 go_enter Try.func17, Try.ntmps17
 go_wp2_with fail
 generalize hW : ((w.alloc _).alloc _).alloc _ = W1
 have M := Sep.e3 hW
 clear hW
 obtain ⟨tR, Aa, Ai, Ac, Aj, Ad, Ah, Ae, Af, Ab, Ag⟩ := M.f5 0 rfl
 obtain ⟨tX, Ba, Ak, Ao, Bc, Bb, Au, Al, Ay, At, Av⟩ := M.f5 1 rfl
 obtain ⟨tP, Aw, As, An, Am, Bd, Ar, Ax, Az, Ap, Aq⟩ := M.f5 2 rfl
 go_wp2_with fail
 go_call (sPoolOk_v a b c d e ts ks fs (some ⟨b', off, none⟩) A1 A2 c0 c1 c2 tn st true HY.out.1 _ ht hk hf (H.out.below M.below)) as r W2 ⟨rfl, g1⟩
 clear tR Aa Ai Ac Aj Ad Ah Ae Af Ab Ag tX Ba Ak Ao Bc Bb Au Al Ay At Av tP Aw As An Am Bd Ar Ax Az Ap Aq
 replace M := M.call g1
 clear g1
 obtain ⟨tR, Aa, Ai, Ac, Aj, Ad, Ah, Ae, Af, Ab, Ag⟩ := M.f5 0 rfl
 obtain ⟨tX, Ba, Ak, Ao, Bc, Bb, Au, Al, Ay, At, Av⟩ := M.f5 1 rfl
 obtain ⟨tP, Aw, As, An, Am, Bd, Ar, Ax, Az, Ap, Aq⟩ := M.f5 2 rfl
 go_wp2_with fail
 go_call (l5Has_v ts (some ⟨b', off, none⟩) A1 A2 c0 ks.length c1 fs.length c2 tn st k true HY.out.2.1 _ ht) as r W3 ⟨rfl, g1⟩
 clear tR Aa Ai Ac Aj Ad Ah Ae Af Ab Ag tX Ba Ak Ao Bc Bb Au Al Ay At Av tP Aw As An Am Bd Ar Ax Az Ap Aq
 replace M := M.call g1
 clear g1
 obtain ⟨tR, Aa, Ai, Ac, Aj, Ad, Ah, Ae, Af, Ab, Ag⟩ := M.f5 0 rfl
 obtain ⟨tX, Ba, Ak, Ao, Bc, Bb, Au, Al, Ay, At, Av⟩ := M.f5 1 rfl
 obtain ⟨tP, Aw, As, An, Am, Bd, Ar, Ax, Az, Ap, Aq⟩ := M.f5 2 rfl
 have ye0 : W3.cell? ⟨b', off + k * 7, none⟩ = some (.int .i64 s) := (M.below.cell (p := ⟨b', off + k * 7, none⟩) hb').trans z0
 go_wp2_with fail
 go_call (l3Copy_s ts ks fs (some ⟨b', off, none⟩) A1 A2 c0 c1 c2 tn st _ ht hk hf (H.out.below M.below)) as r W4 ⟨C0, C1, C2, e0, e1, e2, rfl, g1⟩
 clear tR Aa Ai Ac Aj Ad Ah Ae Af Ab Ag tX Ba Ak Ao Bc Bb Au Al Ay At Av tP Aw As An Am Bd Ar Ax Az Ap Aq
 replace M := Sep.new M g1
 simp only [List.cons_append, List.nil_append] at M
 clear g1
 obtain ⟨tR, Aa, Ai, Ac, Aj, Ad, Ah, Ae, Af, Ab, Ag⟩ := M.f5 3 rfl
 obtain ⟨tX, Ba, Ak, Ao, Bc, Bb, Au, Al, Ay, At, Av⟩ := M.f5 4 rfl
 obtain ⟨tP, Aw, As, An, Am, Bd, Ar, Ax, Az, Ap, Aq⟩ := M.f5 5 rfl
 go_wp2_with fail
 clear tR Aa Ai Ac Aj Ad Ah Ae Af Ab Ag tX Ba Ak Ao Bc Bb Au Al Ay At Av tP Aw As An Am Bd Ar Ax Az Ap Aq
 have N := M.gset5 3 rfl (.slice C0 ts.length e0) (.slice C1 ks.length e1) (.slice C2 fs.length e2) (.int .i64 tn) (.bool st)
 clear M
 obtain ⟨W5, eW, M⟩ := N
 rw [eW]
 clear eW
 simp only [List.set_cons_zero, List.set_cons_succ] at M
 obtain ⟨tR, Aa, Ac, Ad, Ae, Ab⟩ := M.q5 3 rfl
 exact bodyPost_ret (by simp [results, Try.results17, go_sem, Aa, Ac, Ad, Ae, Ab]) rfl ⟨C0, C1, C2, e0, e1, e2, rfl, M.take 3⟩
set_option maxHeartbeats 2000000 in
theorem sParkedBy_yes (a b c d e : Int) (ts : List T7) (ks : List Int) (fs : List F2) (A0 A1 A2 : Option Addr) (c0 c1 c2 : Nat) (tn : Int) (st : Bool) (id : Int) (pw : Int) (po : Int) (w : World) (ht : ts.length ≤ 1048576) (hk : ks.length ≤ 1048576) (hf : fs.length ≤ 1048576) (h : InPool w ts ks fs A0 A1 A2) (hp : poolB a b c d e ts ks fs tn = true) (k : Nat) (s l o1 wt on v t : Int) (hid : id = k) (hts : ts[k]? = some ⟨s, l, o1, wt, on, v, t⟩) (hh : btw (k : Int) 0 ((ts.length : Int) - 1) = true) (hs : s = 2) (hz : poolB a b c d e ((ts.set k (parkT ⟨s, l, o1, wt, on, v, t⟩ tn pw po))) ks fs (tn + 1) = true) :
 Calls Try.prog 17 #[.agg #[.int .i64 a, .int .i64 b, .int .i64 c, .int .i64 d, .int .i64 e], .agg #[.slice A0 ts.length c0, .slice A1 ks.length c1, .slice A2 fs.length c2, .int .i64 tn, .bool st], .int .i64 id, .int .i64 pw, .int .i64 po] w (GaveP ((ts.set k (parkT ⟨s, l, o1, wt, on, v, t⟩ tn pw po))) ks fs (tn + 1) st true w) := by
 have hkl : k < ts.length := by
  rcases Nat.lt_or_ge k ts.length with h1 | h1
  ·exact h1
  ·rw [List.getElem?_eq_none h1] at hts; cases hts
 have tb : 0 ≤ tn ∧ tn ≤ 1000000 := by
  have h1 := hp
  simp only [poolB, Bool.and_eq_true] at h1
  have h2 := h1.2.1
  simp [btw] at h2
  exact h2
 obtain ⟨tb0, tb1⟩ := tb
 subst hid
 obtain ⟨b', off, x0, x1, x2, x3, x4, x5, x6, rfl, _, he, hb', z0, z1, z2, z3, z4, z5, z6⟩ := h.1.ts_at hkl
 rw [hts] at he
 injection he with he
 injection he with u0 u1 u2 u3 u4 u5 u6
 subst u0 u1 u2 u3 u4 u5 u6
 have H := hide h
 clear h
 have HY := hide (⟨hp, hh, hts, hz, trivial⟩ : _ ∧ _ ∧ _ ∧ _ ∧ True)
 clear hp hh hts hz
 go_enter Try.func17, Try.ntmps17
 go_wp2_with fail
 generalize hW : ((w.alloc _).alloc _).alloc _ = W1
 have M := Sep.e3 hW
 clear hW
 obtain ⟨tR, Aa, Ai, Ac, Aj, Ad, Ah, Ae, Af, Ab, Ag⟩ := M.f5 0 rfl
 obtain ⟨tX, Ba, Ak, Ao, Bc, Bb, Au, Al, Ay, At, Av⟩ := M.f5 1 rfl
 obtain ⟨tP, Aw, As, An, Am, Bd, Ar, Ax, Az, Ap, Aq⟩ := M.f5 2 rfl
 go_wp2_with fail
 go_call (sPoolOk_v a b c d e ts ks fs (some ⟨b', off, none⟩) A1 A2 c0 c1 c2 tn st true HY.out.1 _ ht hk hf (H.out.below M.below)) as r W2 ⟨rfl, g1⟩
 clear tR Aa Ai Ac Aj Ad Ah Ae Af Ab Ag tX Ba Ak Ao Bc Bb Au Al Ay At Av tP Aw As An Am Bd Ar Ax Az Ap Aq
 replace M := M.call g1
 clear g1
 obtain ⟨tR, Aa, Ai, Ac, Aj, Ad, Ah, Ae, Af, Ab, Ag⟩ := M.f5 0 rfl
 obtain ⟨tX, Ba, Ak, Ao, Bc, Bb, Au, Al, Ay, At, Av⟩ := M.f5 1 rfl
 obtain ⟨tP, Aw, As, An, Am, Bd, Ar, Ax, Az, Ap, Aq⟩ := M.f5 2 rfl
 go_wp2_with fail
 go_call (l5Has_v ts (some ⟨b', off, none⟩) A1 A2 c0 ks.length c1 fs.length c2 tn st k true HY.out.2.1 _ ht) as r W3 ⟨rfl, g1⟩
 clear tR Aa Ai Ac Aj Ad Ah Ae Af Ab Ag tX Ba Ak Ao Bc Bb Au Al Ay At Av tP Aw As An Am Bd Ar Ax Az Ap Aq
 replace M := M.call g1
 clear g1
 obtain ⟨tR, Aa, Ai, Ac, Aj, Ad, Ah, Ae, Af, Ab, Ag⟩ := M.f5 0 rfl
 obtain ⟨tX, Ba, Ak, Ao, Bc, Bb, Au, Al, Ay, At, Av⟩ := M.f5 1 rfl
 obtain ⟨tP, Aw, As, An, Am, Bd, Ar, Ax, Az, Ap, Aq⟩ := M.f5 2 rfl
 have ye0 : W3.cell? ⟨b', off + k * 7, none⟩ = some (.int .i64 s) := (M.below.cell (p := ⟨b', off + k * 7, none⟩) hb').trans z0
 go_wp2_with fail
 clear ye0
 clear tR Aa Ai Ac Aj Ad Ah Ae Af Ab Ag tX Ba Ak Ao Bc Bb Au Al Ay At Av tP Aw As An Am Bd Ar Ax Az Ap Aq
 refine wp_region_T (S := (fun w' => w'.cell? ⟨w.heap.size, 0, none⟩ = some (.int .i64 a) ∧ w'.cell? ⟨w.heap.size, 1, none⟩ = some (.int .i64 b) ∧ w'.cell? ⟨w.heap.size, 2, none⟩ = some (.int .i64 c) ∧ w'.cell? ⟨w.heap.size, 3, none⟩ = some (.int .i64 d) ∧ w'.cell? ⟨w.heap.size, 4, none⟩ = some (.int .i64 e) ∧ w'.cell? ⟨w.heap.size + 1, 0, none⟩ = some (.slice (some ⟨b', off, none⟩) ts.length c0) ∧ w'.cell? ⟨w.heap.size + 1, 1, none⟩ = some (.slice A1 ks.length c1) ∧ w'.cell? ⟨w.heap.size + 1, 2, none⟩ = some (.slice A2 fs.length c2) ∧ w'.cell? ⟨w.heap.size + 1, 3, none⟩ = some (.int .i64 tn) ∧ w'.cell? ⟨w.heap.size + 1, 4, none⟩ = some (.bool st))) (ks := [11]) (by kernel_rfl) ⟨M.cell 2 0 rfl, M.cell 2 1 rfl, M.cell 2 2 rfl, M.cell 2 3 rfl, M.cell 2 4 rfl, M.cell 1 0 rfl, M.cell 1 1 rfl, M.cell 1 2 rfl, M.cell 1 3 rfl, M.cell 1 4 rfl⟩ (fun hHeld => ?_)
 replace M := M.drew
 generalize W3.drew = W4 at M hHeld ⊢
 refine tkL 0 ?v0u17 rfl ?hy0u17 hHeld ?_
 case hy0u17 => (intro w hSw; (try dsimp only at hSw); go_split_ands; go_simp; all_goals with_reducible rfl)
 try simp only [Act.put, List.setIfInBounds_toArray, List.set_cons_zero, List.set_cons_succ]
 refine tkL 1 ?v1u18 rfl ?hy1u18 hHeld ?_
 case hy1u18 => (intro w hSw; (try dsimp only at hSw); go_split_ands; go_simp; all_goals with_reducible rfl)
 try simp only [Act.put, List.setIfInBounds_toArray, List.set_cons_zero, List.set_cons_succ]
 refine tkL 2 ?v2u19 rfl ?hy2u19 hHeld ?_
 case hy2u19 => (intro w hSw; (try dsimp only at hSw); go_split_ands; go_simp; all_goals with_reducible rfl)
 try simp only [Act.put, List.setIfInBounds_toArray, List.set_cons_zero, List.set_cons_succ]
 refine tkY 4 ?v4u20 rfl ?hy4u20 (fun _ => hHeld) ?_
 case hy4u20 => (intro w; go_simp; all_goals with_reducible rfl)
 try simp only [Act.put, List.setIfInBounds_toArray, List.set_cons_zero, List.set_cons_succ]
 refine tkY 5 ?v5u21 rfl ?hy5u21 (fun _ => hHeld) ?_
 case hy5u21 => (intro w; go_simp; all_goals with_reducible rfl)
 try simp only [Act.put, List.setIfInBounds_toArray, List.set_cons_zero, List.set_cons_succ]
 refine tkY 6 ?v6u22 rfl ?hy6u22 (fun _ => hHeld) ?_
 case hy6u22 => (intro w; go_simp; all_goals with_reducible rfl)
 try simp only [Act.put, List.setIfInBounds_toArray, List.set_cons_zero, List.set_cons_succ]
 refine wpAnyT_callL (i := 3) rfl (by kernel_rfl) (fun K hK => ?_)
 go_simp
 refine Calls.mono (by with_reducible exact (l3Copy_s ts ks fs (some ⟨b', off, none⟩) A1 A2 c0 c1 c2 tn st _ ht hk hf (H.out.below M.below))) ?_
 rintro r W5 ⟨C0, C1, C2, e0, e1, e2, rfl, g1⟩
 replace M := Sep.new M g1
 simp only [List.cons_append, List.nil_append] at M
 clear g1 hHeld
 go_wp2_with fail
 refine hK.out _ _ ?_ (fun hHeld => ?_)
 ·exact ⟨M.cell 5 0 rfl, M.cell 5 1 rfl, M.cell 5 2 rfl, M.cell 5 3 rfl, M.cell 5 4 rfl, M.cell 4 0 rfl, M.cell 4 1 rfl, M.cell 4 2 rfl, M.cell 4 3 rfl, M.cell 4 4 rfl⟩
 clear hK K
 try simp only [Act.put, List.setIfInBounds_toArray, List.set_cons_zero, List.set_cons_succ]
 refine wpAnyT_callL (i := 7) rfl (by kernel_rfl) (fun K hK => ?_)
 go_simp
 refine Calls.mono (by with_reducible exact (l5Park_s ts C0 C1 C2 e0 ks.length e1 fs.length e2 tn st k s l o1 wt on v t pw po _ ht (by omega) (by omega) HY.out.2.2.1 (M.here _ (List.mem_cons_self)))) ?_
 rintro r W6 ⟨rfl, g1⟩
 replace M := Sep.comp (ps := [rT ts.length C0 e0 ts]) M g1
 simp only [List.cons_append, List.nil_append] at M
 clear g1 hHeld
 go_wp2_with fail
 refine hK.out _ _ ?_ (fun hHeld => ?_)
 ·exact ⟨M.cell 5 0 rfl, M.cell 5 1 rfl, M.cell 5 2 rfl, M.cell 5 3 rfl, M.cell 5 4 rfl, M.cell 4 0 rfl, M.cell 4 1 rfl, M.cell 4 2 rfl, M.cell 4 3 rfl, M.cell 4 4 rfl⟩
 clear hK K
 try simp only [Act.put, List.setIfInBounds_toArray, List.set_cons_zero, List.set_cons_succ]
 refine wpAnyT_callL (i := 8) rfl (by kernel_rfl) (fun K hK => ?_)
 go_simp
 have hlx : ((ts.set k (parkT ⟨s, l, o1, wt, on, v, t⟩ tn pw po))).length = ts.length := by simp
 obtain ⟨us, hus⟩ : ∃ us, us = (ts.set k (parkT ⟨s, l, o1, wt, on, v, t⟩ tn pw po)) := ⟨_, rfl⟩
 rw [← hus] at M hlx
 have hZ := HY.out.2.2.2.1
 rw [← hus] at hZ
 have hE := either_yes a b c d e ts ks fs (some ⟨b', off, none⟩) A1 A2 c0 c1 c2 tn st us ks fs C0 C1 C2 e0 e1 e2 (tn + 1) st _ ht hk hf (by omega) hk hf (H.out.below M.below) (by rw [hlx]; exact Sep.same (ps := [rT ts.length C0 e0 us, rK ks.length C1 e1 ks, rF fs.length C2 e2 fs]) (rs := [.blk (w.heap.size + 2) 33 #[.slice none 0 0, .slice none 0 0, .slice none 0 0, .int .i64 0, .bool false], .blk (w.heap.size + 1) 33 #[.slice (some ⟨b', off, none⟩) ts.length c0, .slice A1 ks.length c1, .slice A2 fs.length c2, .int .i64 tn, .bool st], .blk (w.heap.size) 36 #[.int .i64 a, .int .i64 b, .int .i64 c, .int .i64 d, .int .i64 e]]) M (Below.refl _ _)) hZ
 rw [hlx] at hE
 refine Calls.mono (by with_reducible exact hE) ?_
 clear hE
 rintro r W7 ⟨D0, D1, D2, f0, f1, f2, rfl, g1⟩
 replace M : Sep [] w W7 [rT ts.length D0 f0 us, rK ks.length D1 f1 ks, rF fs.length D2 f2 fs, .blk (w.heap.size + 2) 33 #[.slice none 0 0, .slice none 0 0, .slice none 0 0, .int .i64 0, .bool false], .blk (w.heap.size + 1) 33 #[.slice (some ⟨b', off, none⟩) ts.length c0, .slice A1 ks.length c1, .slice A2 fs.length c2, .int .i64 tn, .bool st], .blk (w.heap.size) 36 #[.int .i64 a, .int .i64 b, .int .i64 c, .int .i64 d, .int .i64 e]] := Sep.comp (ps := [rT ts.length C0 e0 us, rK ks.length C1 e1 ks, rF fs.length C2 e2 fs]) (rs := [.blk (w.heap.size + 2) 33 #[.slice none 0 0, .slice none 0 0, .slice none 0 0, .int .i64 0, .bool false], .blk (w.heap.size + 1) 33 #[.slice (some ⟨b', off, none⟩) ts.length c0, .slice A1 ks.length c1, .slice A2 fs.length c2, .int .i64 tn, .bool st], .blk (w.heap.size) 36 #[.int .i64 a, .int .i64 b, .int .i64 c, .int .i64 d, .int .i64 e]]) M g1
 clear g1 hHeld hZ
 have HU := hide (⟨hus, hlx⟩ : _ ∧ _)
 clear hus hlx
 go_wp2_with fail
 refine hK.out _ _ ?_ (fun hHeld => ?_)
 ·exact ⟨M.cell 5 0 rfl, M.cell 5 1 rfl, M.cell 5 2 rfl, M.cell 5 3 rfl, M.cell 5 4 rfl, M.cell 4 0 rfl, M.cell 4 1 rfl, M.cell 4 2 rfl, M.cell 4 3 rfl, M.cell 4 4 rfl⟩
 clear hK K
 try simp only [Act.put, List.setIfInBounds_toArray, List.set_cons_zero, List.set_cons_succ]
 refine tkY 9 ?v9u23 rfl ?hy9u23 (fun _ => hHeld) ?_
 case hy9u23 => (intro w; go_simp; all_goals with_reducible rfl)
 try simp only [Act.put, List.setIfInBounds_toArray, List.set_cons_zero, List.set_cons_succ]
 refine tkY 10 ?v10u24 rfl ?hy10u24 (fun _ => hHeld) ?_
 case hy10u24 => (intro w; go_simp; all_goals with_reducible rfl)
 try simp only [Act.put, List.setIfInBounds_toArray, List.set_cons_zero, List.set_cons_succ]
 obtain ⟨tR, Aa, Ai, Ac, Aj, Ad, Ah, Ae, Af, Ab, Ag⟩ := M.f5 3 rfl
 refine wpAnyT_oneL (i := 11) rfl (by kernel_rfl) (by kernel_rfl) (fun K hK => ?_)
 go_simp
 refine hK.out _ _ ?_
 clear hK K
 try simp only [Act.put, List.setIfInBounds_toArray, List.set_cons_zero, List.set_cons_succ]
 clear tR Aa Ai Ac Aj Ad Ah Ae Af Ab Ag
 have N := M.gset5 3 rfl (.slice D0 ts.length f0) (.slice D1 ks.length f1) (.slice D2 fs.length f2) (.int .i64 (tn + 1)) (.bool st)
 clear M
 obtain ⟨W8, eW, M⟩ := N
 rw [eW]
 clear eW
 simp only [List.set_cons_zero, List.set_cons_succ] at M
 refine tkZ 12 ?v12u25 rfl ?hy12u25 ?_
 case hy12u25 => (intro w; go_simp; all_goals with_reducible rfl)
 try simp only [Act.put, List.setIfInBounds_toArray, List.set_cons_zero, List.set_cons_succ]
 refine wpAnyT_done (by kernel_rfl) ?_ _
 go_wp2_with fail
 obtain ⟨tR, Aa, Ac, Ad, Ae, Ab⟩ := M.q5 3 rfl
 exact bodyPost_ret (v := .tuple #[.agg #[.slice D0 ts.length f0, .slice D1 ks.length f1, .slice D2 fs.length f2, .int .i64 (tn + 1), .bool st], .bool true]) (by simp [results, Try.results17, go_sem, Aa, Ac, Ad, Ae, Ab]) rfl (by have hl := HU.out.2; have hu := HU.out.1; rw [← hu]; unfold GaveP; rw [hl]; exact ⟨D0, D1, D2, f0, f1, f2, rfl, M.take 3⟩)
set_option maxHeartbeats 2000000 in
theorem sParkedBy_full (a b c d e : Int) (ts : List T7) (ks : List Int) (fs : List F2) (A0 A1 A2 : Option Addr) (c0 c1 c2 : Nat) (tn : Int) (st : Bool) (id : Int) (pw : Int) (po : Int) (w : World) (ht : ts.length ≤ 1048576) (hk : ks.length ≤ 1048576) (hf : fs.length ≤ 1048576) (h : InPool w ts ks fs A0 A1 A2) (hp : poolB a b c d e ts ks fs tn = true) (k : Nat) (s l o1 wt on v t : Int) (hid : id = k) (hts : ts[k]? = some ⟨s, l, o1, wt, on, v, t⟩) (hh : btw (k : Int) 0 ((ts.length : Int) - 1) = true) (hs : s = 2) (hz : poolB a b c d e ((ts.set k (parkT ⟨s, l, o1, wt, on, v, t⟩ tn pw po))) ks fs (tn + 1) = false) :
 Calls Try.prog 17 #[.agg #[.int .i64 a, .int .i64 b, .int .i64 c, .int .i64 d, .int .i64 e], .agg #[.slice A0 ts.length c0, .slice A1 ks.length c1, .slice A2 fs.length c2, .int .i64 tn, .bool st], .int .i64 id, .int .i64 pw, .int .i64 po] w (GaveP ts ks fs tn st false w) := by
 have hkl : k < ts.length := by
  rcases Nat.lt_or_ge k ts.length with h1 | h1
  ·exact h1
  ·rw [List.getElem?_eq_none h1] at hts; cases hts
 have tb : 0 ≤ tn ∧ tn ≤ 1000000 := by
  have h1 := hp
  simp only [poolB, Bool.and_eq_true] at h1
  have h2 := h1.2.1
  simp [btw] at h2
  exact h2
 obtain ⟨tb0, tb1⟩ := tb
 subst hid
 obtain ⟨b', off, x0, x1, x2, x3, x4, x5, x6, rfl, _, he, hb', z0, z1, z2, z3, z4, z5, z6⟩ := h.1.ts_at hkl
 rw [hts] at he
 injection he with he
 injection he with u0 u1 u2 u3 u4 u5 u6
 subst u0 u1 u2 u3 u4 u5 u6
 have H := hide h
 clear h
 have HY := hide (⟨hp, hh, hts, hz, trivial⟩ : _ ∧ _ ∧ _ ∧ _ ∧ True)
 clear hp hh hts hz
 go_enter Try.func17, Try.ntmps17
 go_wp2_with fail
 generalize hW : ((w.alloc _).alloc _).alloc _ = W1
 have M := Sep.e3 hW
 clear hW
 obtain ⟨tR, Aa, Ai, Ac, Aj, Ad, Ah, Ae, Af, Ab, Ag⟩ := M.f5 0 rfl
 obtain ⟨tX, Ba, Ak, Ao, Bc, Bb, Au, Al, Ay, At, Av⟩ := M.f5 1 rfl
 obtain ⟨tP, Aw, As, An, Am, Bd, Ar, Ax, Az, Ap, Aq⟩ := M.f5 2 rfl
 go_wp2_with fail
 go_call (sPoolOk_v a b c d e ts ks fs (some ⟨b', off, none⟩) A1 A2 c0 c1 c2 tn st true HY.out.1 _ ht hk hf (H.out.below M.below)) as r W2 ⟨rfl, g1⟩
 clear tR Aa Ai Ac Aj Ad Ah Ae Af Ab Ag tX Ba Ak Ao Bc Bb Au Al Ay At Av tP Aw As An Am Bd Ar Ax Az Ap Aq
 replace M := M.call g1
 clear g1
 obtain ⟨tR, Aa, Ai, Ac, Aj, Ad, Ah, Ae, Af, Ab, Ag⟩ := M.f5 0 rfl
 obtain ⟨tX, Ba, Ak, Ao, Bc, Bb, Au, Al, Ay, At, Av⟩ := M.f5 1 rfl
 obtain ⟨tP, Aw, As, An, Am, Bd, Ar, Ax, Az, Ap, Aq⟩ := M.f5 2 rfl
 go_wp2_with fail
 go_call (l5Has_v ts (some ⟨b', off, none⟩) A1 A2 c0 ks.length c1 fs.length c2 tn st k true HY.out.2.1 _ ht) as r W3 ⟨rfl, g1⟩
 clear tR Aa Ai Ac Aj Ad Ah Ae Af Ab Ag tX Ba Ak Ao Bc Bb Au Al Ay At Av tP Aw As An Am Bd Ar Ax Az Ap Aq
 replace M := M.call g1
 clear g1
 obtain ⟨tR, Aa, Ai, Ac, Aj, Ad, Ah, Ae, Af, Ab, Ag⟩ := M.f5 0 rfl
 obtain ⟨tX, Ba, Ak, Ao, Bc, Bb, Au, Al, Ay, At, Av⟩ := M.f5 1 rfl
 obtain ⟨tP, Aw, As, An, Am, Bd, Ar, Ax, Az, Ap, Aq⟩ := M.f5 2 rfl
 have ye0 : W3.cell? ⟨b', off + k * 7, none⟩ = some (.int .i64 s) := (M.below.cell (p := ⟨b', off + k * 7, none⟩) hb').trans z0
 go_wp2_with fail
 clear ye0
 clear tR Aa Ai Ac Aj Ad Ah Ae Af Ab Ag tX Ba Ak Ao Bc Bb Au Al Ay At Av tP Aw As An Am Bd Ar Ax Az Ap Aq
 refine wp_region_T (S := (fun w' => w'.cell? ⟨w.heap.size, 0, none⟩ = some (.int .i64 a) ∧ w'.cell? ⟨w.heap.size, 1, none⟩ = some (.int .i64 b) ∧ w'.cell? ⟨w.heap.size, 2, none⟩ = some (.int .i64 c) ∧ w'.cell? ⟨w.heap.size, 3, none⟩ = some (.int .i64 d) ∧ w'.cell? ⟨w.heap.size, 4, none⟩ = some (.int .i64 e) ∧ w'.cell? ⟨w.heap.size + 1, 0, none⟩ = some (.slice (some ⟨b', off, none⟩) ts.length c0) ∧ w'.cell? ⟨w.heap.size + 1, 1, none⟩ = some (.slice A1 ks.length c1) ∧ w'.cell? ⟨w.heap.size + 1, 2, none⟩ = some (.slice A2 fs.length c2) ∧ w'.cell? ⟨w.heap.size + 1, 3, none⟩ = some (.int .i64 tn) ∧ w'.cell? ⟨w.heap.size + 1, 4, none⟩ = some (.bool st))) (ks := [11]) (by kernel_rfl) ⟨M.cell 2 0 rfl, M.cell 2 1 rfl, M.cell 2 2 rfl, M.cell 2 3 rfl, M.cell 2 4 rfl, M.cell 1 0 rfl, M.cell 1 1 rfl, M.cell 1 2 rfl, M.cell 1 3 rfl, M.cell 1 4 rfl⟩ (fun hHeld => ?_)
 replace M := M.drew
 generalize W3.drew = W4 at M hHeld ⊢
 refine tkL 0 ?v0u26 rfl ?hy0u26 hHeld ?_
 case hy0u26 => (intro w hSw; (try dsimp only at hSw); go_split_ands; go_simp; all_goals with_reducible rfl)
 try simp only [Act.put, List.setIfInBounds_toArray, List.set_cons_zero, List.set_cons_succ]
 refine tkL 1 ?v1u27 rfl ?hy1u27 hHeld ?_
 case hy1u27 => (intro w hSw; (try dsimp only at hSw); go_split_ands; go_simp; all_goals with_reducible rfl)
 try simp only [Act.put, List.setIfInBounds_toArray, List.set_cons_zero, List.set_cons_succ]
 refine tkL 2 ?v2u28 rfl ?hy2u28 hHeld ?_
 case hy2u28 => (intro w hSw; (try dsimp only at hSw); go_split_ands; go_simp; all_goals with_reducible rfl)
 try simp only [Act.put, List.setIfInBounds_toArray, List.set_cons_zero, List.set_cons_succ]
 refine tkY 4 ?v4u29 rfl ?hy4u29 (fun _ => hHeld) ?_
 case hy4u29 => (intro w; go_simp; all_goals with_reducible rfl)
 try simp only [Act.put, List.setIfInBounds_toArray, List.set_cons_zero, List.set_cons_succ]
 refine tkY 5 ?v5u30 rfl ?hy5u30 (fun _ => hHeld) ?_
 case hy5u30 => (intro w; go_simp; all_goals with_reducible rfl)
 try simp only [Act.put, List.setIfInBounds_toArray, List.set_cons_zero, List.set_cons_succ]
 refine tkY 6 ?v6u31 rfl ?hy6u31 (fun _ => hHeld) ?_
 case hy6u31 => (intro w; go_simp; all_goals with_reducible rfl)
 try simp only [Act.put, List.setIfInBounds_toArray, List.set_cons_zero, List.set_cons_succ]
 refine wpAnyT_callL (i := 3) rfl (by kernel_rfl) (fun K hK => ?_)
 go_simp
 refine Calls.mono (by with_reducible exact (l3Copy_s ts ks fs (some ⟨b', off, none⟩) A1 A2 c0 c1 c2 tn st _ ht hk hf (H.out.below M.below))) ?_
 rintro r W5 ⟨C0, C1, C2, e0, e1, e2, rfl, g1⟩
 replace M := Sep.new M g1
 simp only [List.cons_append, List.nil_append] at M
 clear g1 hHeld
 go_wp2_with fail
 refine hK.out _ _ ?_ (fun hHeld => ?_)
 ·exact ⟨M.cell 5 0 rfl, M.cell 5 1 rfl, M.cell 5 2 rfl, M.cell 5 3 rfl, M.cell 5 4 rfl, M.cell 4 0 rfl, M.cell 4 1 rfl, M.cell 4 2 rfl, M.cell 4 3 rfl, M.cell 4 4 rfl⟩
 clear hK K
 try simp only [Act.put, List.setIfInBounds_toArray, List.set_cons_zero, List.set_cons_succ]
 refine wpAnyT_callL (i := 7) rfl (by kernel_rfl) (fun K hK => ?_)
 go_simp
 refine Calls.mono (by with_reducible exact (l5Park_s ts C0 C1 C2 e0 ks.length e1 fs.length e2 tn st k s l o1 wt on v t pw po _ ht (by omega) (by omega) HY.out.2.2.1 (M.here _ (List.mem_cons_self)))) ?_
 rintro r W6 ⟨rfl, g1⟩
 replace M := Sep.comp (ps := [rT ts.length C0 e0 ts]) M g1
 simp only [List.cons_append, List.nil_append] at M
 clear g1 hHeld
 go_wp2_with fail
 refine hK.out _ _ ?_ (fun hHeld => ?_)
 ·exact ⟨M.cell 5 0 rfl, M.cell 5 1 rfl, M.cell 5 2 rfl, M.cell 5 3 rfl, M.cell 5 4 rfl, M.cell 4 0 rfl, M.cell 4 1 rfl, M.cell 4 2 rfl, M.cell 4 3 rfl, M.cell 4 4 rfl⟩
 clear hK K
 try simp only [Act.put, List.setIfInBounds_toArray, List.set_cons_zero, List.set_cons_succ]
 refine wpAnyT_callL (i := 8) rfl (by kernel_rfl) (fun K hK => ?_)
 go_simp
 have hlx : ((ts.set k (parkT ⟨s, l, o1, wt, on, v, t⟩ tn pw po))).length = ts.length := by simp
 obtain ⟨us, hus⟩ : ∃ us, us = (ts.set k (parkT ⟨s, l, o1, wt, on, v, t⟩ tn pw po)) := ⟨_, rfl⟩
 rw [← hus] at M hlx
 have hZ := HY.out.2.2.2.1
 rw [← hus] at hZ
 have hE := either_no a b c d e ts ks fs (some ⟨b', off, none⟩) A1 A2 c0 c1 c2 tn st us ks fs C0 C1 C2 e0 e1 e2 (tn + 1) st _ ht hk hf (by omega) hk hf (H.out.below M.below) (by rw [hlx]; exact Sep.same (ps := [rT ts.length C0 e0 us, rK ks.length C1 e1 ks, rF fs.length C2 e2 fs]) (rs := [.blk (w.heap.size + 2) 33 #[.slice none 0 0, .slice none 0 0, .slice none 0 0, .int .i64 0, .bool false], .blk (w.heap.size + 1) 33 #[.slice (some ⟨b', off, none⟩) ts.length c0, .slice A1 ks.length c1, .slice A2 fs.length c2, .int .i64 tn, .bool st], .blk (w.heap.size) 36 #[.int .i64 a, .int .i64 b, .int .i64 c, .int .i64 d, .int .i64 e]]) M (Below.refl _ _)) hZ
 rw [hlx] at hE
 refine Calls.mono (by with_reducible exact hE) ?_
 clear hE
 rintro r W7 ⟨D0, D1, D2, f0, f1, f2, rfl, g1⟩
 replace M : Sep [] w W7 [rT ts.length D0 f0 ts, rK ks.length D1 f1 ks, rF fs.length D2 f2 fs, .blk (w.heap.size + 2) 33 #[.slice none 0 0, .slice none 0 0, .slice none 0 0, .int .i64 0, .bool false], .blk (w.heap.size + 1) 33 #[.slice (some ⟨b', off, none⟩) ts.length c0, .slice A1 ks.length c1, .slice A2 fs.length c2, .int .i64 tn, .bool st], .blk (w.heap.size) 36 #[.int .i64 a, .int .i64 b, .int .i64 c, .int .i64 d, .int .i64 e]] := Sep.comp (ps := [rT ts.length C0 e0 us, rK ks.length C1 e1 ks, rF fs.length C2 e2 fs]) (rs := [.blk (w.heap.size + 2) 33 #[.slice none 0 0, .slice none 0 0, .slice none 0 0, .int .i64 0, .bool false], .blk (w.heap.size + 1) 33 #[.slice (some ⟨b', off, none⟩) ts.length c0, .slice A1 ks.length c1, .slice A2 fs.length c2, .int .i64 tn, .bool st], .blk (w.heap.size) 36 #[.int .i64 a, .int .i64 b, .int .i64 c, .int .i64 d, .int .i64 e]]) M g1
 clear g1 hHeld hZ
 have HU := hide (⟨hus, hlx⟩ : _ ∧ _)
 clear hus hlx
 go_wp2_with fail
 refine hK.out _ _ ?_ (fun hHeld => ?_)
 ·exact ⟨M.cell 5 0 rfl, M.cell 5 1 rfl, M.cell 5 2 rfl, M.cell 5 3 rfl, M.cell 5 4 rfl, M.cell 4 0 rfl, M.cell 4 1 rfl, M.cell 4 2 rfl, M.cell 4 3 rfl, M.cell 4 4 rfl⟩
 clear hK K
 try simp only [Act.put, List.setIfInBounds_toArray, List.set_cons_zero, List.set_cons_succ]
 refine tkY 9 ?v9u32 rfl ?hy9u32 (fun _ => hHeld) ?_
 case hy9u32 => (intro w; go_simp; all_goals with_reducible rfl)
 try simp only [Act.put, List.setIfInBounds_toArray, List.set_cons_zero, List.set_cons_succ]
 refine tkY 10 ?v10u33 rfl ?hy10u33 (fun _ => hHeld) ?_
 case hy10u33 => (intro w; go_simp; all_goals with_reducible rfl)
 try simp only [Act.put, List.setIfInBounds_toArray, List.set_cons_zero, List.set_cons_succ]
 obtain ⟨tR, Aa, Ai, Ac, Aj, Ad, Ah, Ae, Af, Ab, Ag⟩ := M.f5 3 rfl
 refine wpAnyT_oneL (i := 11) rfl (by kernel_rfl) (by kernel_rfl) (fun K hK => ?_)
 go_simp
 refine hK.out _ _ ?_
 clear hK K
 try simp only [Act.put, List.setIfInBounds_toArray, List.set_cons_zero, List.set_cons_succ]
 clear tR Aa Ai Ac Aj Ad Ah Ae Af Ab Ag
 have N := M.gset5 3 rfl (.slice D0 ts.length f0) (.slice D1 ks.length f1) (.slice D2 fs.length f2) (.int .i64 tn) (.bool st)
 clear M
 obtain ⟨W8, eW, M⟩ := N
 rw [eW]
 clear eW
 simp only [List.set_cons_zero, List.set_cons_succ] at M
 refine tkZ 12 ?v12u34 rfl ?hy12u34 ?_
 case hy12u34 => (intro w; go_simp; all_goals with_reducible rfl)
 try simp only [Act.put, List.setIfInBounds_toArray, List.set_cons_zero, List.set_cons_succ]
 refine wpAnyT_done (by kernel_rfl) ?_ _
 go_wp2_with fail
 obtain ⟨tR, Aa, Ac, Ad, Ae, Ab⟩ := M.q5 3 rfl
 exact bodyPost_ret (by simp [results, Try.results17, go_sem, Aa, Ac, Ad, Ae, Ab]) rfl ⟨D0, D1, D2, f0, f1, f2, rfl, M.take 3⟩
end Go.Proofs.Ytfkdfkoigojciaa
