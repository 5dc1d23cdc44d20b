/- A plan and a pool out of the cursor, right or not. -/
import Derived.Test.YtfjgelegojbmgaaGreatQB37
import Derived.Test.YtfjgelegojbmgaaGreatQB39
import Derived.Test.YtfjgelegojbmgaaGreatQB38

namespace Go.Proofs.YtfjgelegojbmgaaGreat
open Go.RowKit
set_option linter.unusedVariables false
theorem Sep.putF1 {S : List Nat} {w W : World} {rs : List Res} (h : Sep S w W rs) (i : Nat) {g n c : Nat} {fs : List F2} (hi : rs[i]? = some (rF n (some ⟨g, 0, none⟩) c fs)) {b : Bool} {v : Int} (hk : fs[0]? = some ⟨b, v⟩) (u : Int) : Sep S w (W.setCell ⟨g, 1, none⟩ (.int .i64 u)) (rs.set i (rF n (some ⟨g, 0, none⟩) c (fs.set 0 ⟨b, u⟩))) := by
 have h1 := h.setR i hi 1 (.int .i64 u)
 cases fs with
 | nil => simp at hk
 | cons x r =>
  simp only [List.getElem?_cons_zero, Option.some.injEq] at hk
  subst hk
  exact h1
/-- A plan and a pool, right or not, out of the cursor. -/
def CGaveAny (B : Nat) (w : World) (g : Nat) (A : Option Addr) (len cap : Nat) (r : Ending) (w' : World) : Prop :=
 ∃ (a b c d e : Int) (ts : List T7) (ks : List Int) (fs : List F2) (tn : Int) (st : Bool) (B0 B1 B2 : Option Addr) (e0 e1 e2 n0 n1 n2 : Nat) (cs : Array Value), r = .returned (.tuple #[.agg #[.int .i64 a, .int .i64 b, .int .i64 c, .int .i64 d, .int .i64 e], .agg #[.slice B0 n0 e0, .slice B1 n1 e1, .slice B2 n2 e2, .int .i64 tn, .bool st]]) ∧ ts.length = n0 ∧ ks.length = n1 ∧ fs.length = n2 ∧ n0 ≤ 31 ∧ n1 ≤ 31 ∧ n2 ≤ 31 ∧ curC A len cap cs ∧ Sep [g] w w' [rT n0 B0 e0 ts, rK n1 B1 e1 ks, rF n2 B2 e2 fs, .blk g 109 cs]
set_option maxRecDepth 100000 in
set_option maxHeartbeats 4000000 in
theorem l3DrawAny_any (B : Nat) (w : World) (g : Nat) (A : Option Addr) (len cap : Nat) (d0 : CurAt B w g A len cap) :
 Calls Tryz.prog 39 #[.pointer (some ⟨g, 0, none⟩)] w (CGaveAny B w g A len cap) := by
 have hg := d0.lt
 go_enter Tryz.func39, Tryz.ntmps39
 go_wp2_with fail
 obtain ⟨cs0, hc, M⟩ := cur_start d0
 replace M : Sep [g] w ((w.alloc (.cells #[.int .i64 0, .int .i64 0, .int .i64 0, .int .i64 0, .int .i64 0] 25)).alloc (.cells #[.slice none 0 0, .slice none 0 0, .slice none 0 0, .int .i64 0, .bool false] 30)) [.blk (w.heap.size + 1) 30 #[.slice none 0 0, .slice none 0 0, .slice none 0 0, .int .i64 0, .bool false], .blk (w.heap.size) 25 #[.int .i64 0, .int .i64 0, .int .i64 0, .int .i64 0, .int .i64 0], .blk g 109 cs0] := ((M.alloc 25 #[.int .i64 0, .int .i64 0, .int .i64 0, .int .i64 0, .int .i64 0] (w.heap.size) rfl).alloc 30 #[.slice none 0 0, .slice none 0 0, .slice none 0 0, .int .i64 0, .bool false] (w.heap.size + 1) (by simp))
 generalize (w.alloc (.cells #[.int .i64 0, .int .i64 0, .int .i64 0, .int .i64 0, .int .i64 0] 25)).alloc (.cells #[.slice none 0 0, .slice none 0 0, .slice none 0 0, .int .i64 0, .bool false] 30) = W1 at M ⊢
 obtain ⟨tR, Ae, Bb, Ai, Az, Ad, Ax, Ah, Bc, Aa, Ba⟩ := M.f5 0 rfl
 obtain ⟨tQ, Af, Av, Ag, Ay, Ac, Au, Aj, Aw, Ab, Bd⟩ := M.f5 1 rfl
 go_wp2_with fail
 go_call (l3Draw_any B _ g A len cap (M.curAt 2 rfl d0 hc)) as r W2 ⟨a, b, c, dd, ee, ts, ks, fs, tn, st, B0, B1, B2, e0, e1, e2, cs1, rfl, hpo, ha1, ha2, hb1, hb2, hc1, hc2, hd2, he2, hc9, g1⟩
 clear tR Ae Bb Ai Az Ad Ax Ah Bc Aa Ba tQ Af Av Ag Ay Ac Au Aj Aw Ab Bd
 replace M := M.front 2 rfl
 replace M : Sep [g] w W2 [rT ts.length B0 e0 ts, rK ks.length B1 e1 ks, rF fs.length B2 e2 fs, .blk g 109 cs1, .blk (w.heap.size + 1) 30 #[.slice none 0 0, .slice none 0 0, .slice none 0 0, .int .i64 0, .bool false], .blk (w.heap.size) 25 #[.int .i64 0, .int .i64 0, .int .i64 0, .int .i64 0, .int .i64 0]] := Sep.comp (ps := [.blk g 109 cs0]) (rs := [.blk (w.heap.size + 1) 30 #[.slice none 0 0, .slice none 0 0, .slice none 0 0, .int .i64 0, .bool false], .blk (w.heap.size) 25 #[.int .i64 0, .int .i64 0, .int .i64 0, .int .i64 0, .int .i64 0]]) M (by simpa [fps, Res.fp] using g1)
 clear g1 hc
 have hc := hc9
 clear hc9
 have hl := poolB_lens hpo
 obtain ⟨hl0, hl1, hl2⟩ := hl
 replace hpo := hide hpo
 obtain ⟨tR, Ae, Bb, Ai, Az, Ad, Ax, Ah, Bc, Aa, Ba⟩ := M.f5 4 rfl
 obtain ⟨tQ, Af, Av, Ag, Ay, Ac, Au, Aj, Aw, Ab, Bd⟩ := M.f5 5 rfl
 go_wp2_with fail
 clear tR Ae Bb Ai Az Ad Ax Ah Bc Aa Ba tQ Af Av Ag Ay Ac Au Aj Aw Ab Bd
 obtain ⟨pb, hpb⟩ : ∃ pb, pb = W2.heap.size := ⟨_, rfl⟩
 obtain ⟨yb, hyb⟩ : ∃ yb, yb = W2.heap.size + 1 := ⟨_, rfl⟩
 rw [← hyb, ← hpb]
 replace M : Sep [g] w ((W2.alloc (.cells #[.int .i64 a, .int .i64 b, .int .i64 c, .int .i64 dd, .int .i64 ee] 25)).alloc (.cells #[.slice B0 ts.length e0, .slice B1 ks.length e1, .slice B2 fs.length e2, .int .i64 tn, .bool st] 30)) [.blk (yb) 30 #[.slice B0 ts.length e0, .slice B1 ks.length e1, .slice B2 fs.length e2, .int .i64 tn, .bool st], .blk (pb) 25 #[.int .i64 a, .int .i64 b, .int .i64 c, .int .i64 dd, .int .i64 ee], rT ts.length B0 e0 ts, rK ks.length B1 e1 ks, rF fs.length B2 e2 fs, .blk g 109 cs1, .blk (w.heap.size + 1) 30 #[.slice none 0 0, .slice none 0 0, .slice none 0 0, .int .i64 0, .bool false], .blk (w.heap.size) 25 #[.int .i64 0, .int .i64 0, .int .i64 0, .int .i64 0, .int .i64 0]] := (M.alloc 25 #[.int .i64 a, .int .i64 b, .int .i64 c, .int .i64 dd, .int .i64 ee] pb hpb.symm).alloc 30 #[.slice B0 ts.length e0, .slice B1 ks.length e1, .slice B2 fs.length e2, .int .i64 tn, .bool st] yb (by simp [hyb])
 generalize (W2.alloc (.cells #[.int .i64 a, .int .i64 b, .int .i64 c, .int .i64 dd, .int .i64 ee] 25)).alloc (.cells #[.slice B0 ts.length e0, .slice B1 ks.length e1, .slice B2 fs.length e2, .int .i64 tn, .bool st] 30) = W3 at M ⊢
 clear hpb hyb
 replace M : Sep [g] w W3 [rT ts.length B0 e0 ts, rK ks.length B1 e1 ks, rF fs.length B2 e2 fs, .blk g 109 cs1, .blk (w.heap.size + 1) 30 #[.slice none 0 0, .slice none 0 0, .slice none 0 0, .int .i64 0, .bool false], .blk (w.heap.size) 25 #[.int .i64 0, .int .i64 0, .int .i64 0, .int .i64 0, .int .i64 0], .blk (yb) 30 #[.slice B0 ts.length e0, .slice B1 ks.length e1, .slice B2 fs.length e2, .int .i64 tn, .bool st], .blk (pb) 25 #[.int .i64 a, .int .i64 b, .int .i64 c, .int .i64 dd, .int .i64 ee]] := M.perm ((List.perm_append_comm (l₁ := [.blk (yb) 30 #[.slice B0 ts.length e0, .slice B1 ks.length e1, .slice B2 fs.length e2, .int .i64 tn, .bool st], .blk (pb) 25 #[.int .i64 a, .int .i64 b, .int .i64 c, .int .i64 dd, .int .i64 ee]]) (l₂ := [rT ts.length B0 e0 ts, rK ks.length B1 e1 ks, rF fs.length B2 e2 fs, .blk g 109 cs1, .blk (w.heap.size + 1) 30 #[.slice none 0 0, .slice none 0 0, .slice none 0 0, .int .i64 0, .bool false], .blk (w.heap.size) 25 #[.int .i64 0, .int .i64 0, .int .i64 0, .int .i64 0, .int .i64 0]])))
 go_call (l1Once_any B _ g A len cap 6 (by omega) (by omega) (M.curAt 3 rfl d0 hc)) as r W4 ⟨z, rfl, gg, d⟩
 have MM := M.curMoved 3 rfl gg d
 clear M hc gg d
 obtain ⟨cs2, hc, M⟩ := MM
 simp only [List.set_cons_zero, List.set_cons_succ] at M
 cases z
 ·obtain ⟨tR, Ae, Ai, Ad, Ah, Aa⟩ := M.q5 4 rfl
  obtain ⟨tQ, Af, Ag, Ac, Aj, Ab⟩ := M.q5 5 rfl
  obtain ⟨tY, Am, Al, Ao, An, Ak⟩ := M.q5 6 rfl
  obtain ⟨tP, Ap, Ar, Aq, At, As⟩ := M.q5 7 rfl
  go_wp2_with fail
  clear tR Ae Ai Ad Ah Aa tQ Af Ag Ac Aj Ab tY Am Al Ao An Ak tP Ap Ar Aq At As
  refine wp_region_T (S := (fun w' => w'.cell? ⟨pb, 0, none⟩ = some (.int .i64 a) ∧ w'.cell? ⟨pb, 1, none⟩ = some (.int .i64 b) ∧ w'.cell? ⟨pb, 2, none⟩ = some (.int .i64 c) ∧ w'.cell? ⟨pb, 3, none⟩ = some (.int .i64 dd) ∧ w'.cell? ⟨pb, 4, none⟩ = some (.int .i64 ee) ∧ w'.cell? ⟨yb, 0, none⟩ = some (.slice B0 ts.length e0) ∧ w'.cell? ⟨yb, 1, none⟩ = some (.slice B1 ks.length e1) ∧ w'.cell? ⟨yb, 2, none⟩ = some (.slice B2 fs.length e2) ∧ w'.cell? ⟨yb, 3, none⟩ = some (.int .i64 tn) ∧ w'.cell? ⟨yb, 4, none⟩ = some (.bool st))) (ks := [3]) (by kernel_rfl) ⟨M.cell 7 0 rfl, M.cell 7 1 rfl, M.cell 7 2 rfl, M.cell 7 3 rfl, M.cell 7 4 rfl, M.cell 6 0 rfl, M.cell 6 1 rfl, M.cell 6 2 rfl, M.cell 6 3 rfl, M.cell 6 4 rfl⟩ (fun hHeld => ?_)
  replace M := M.drew
  generalize W4.drew = W5 at M hHeld ⊢
  refine tkL 0 ?v0u1 rfl ?hy0u1 hHeld ?_
  case hy0u1 => (intro w hSw; (try dsimp only at hSw); go_split_ands; go_simp; all_goals with_reducible rfl)
  try simp only [Act.put, List.setIfInBounds_toArray, List.set_cons_zero, List.set_cons_succ]
  refine tkL 1 ?v1u2 rfl ?hy1u2 hHeld ?_
  case hy1u2 => (intro w hSw; (try dsimp only at hSw); go_split_ands; go_simp; all_goals with_reducible rfl)
  try simp only [Act.put, List.setIfInBounds_toArray, List.set_cons_zero, List.set_cons_succ]
  obtain ⟨tQ, Af, Av, Ag, Ay, Ac, Au, Aj, Aw, Ab, Bd⟩ := M.f5 5 rfl
  refine wpAnyT_callL (i := 2) rfl (by kernel_rfl) (fun K hK => ?_)
  go_simp
  clear tQ Af Av Ag Ay Ac Au Aj Aw Ab Bd
  have N := M.gset5 5 rfl (.int .i64 a) (.int .i64 b) (.int .i64 c) (.int .i64 dd) (.int .i64 ee)
  clear M
  obtain ⟨W6, eW, M⟩ := N
  rw [eW]
  clear eW
  simp only [List.set_cons_zero, List.set_cons_succ] at M
  clear hHeld
  refine hK.out _ _ ?_ (fun hHeld => ?_)
  ·exact ⟨M.cell 7 0 rfl, M.cell 7 1 rfl, M.cell 7 2 rfl, M.cell 7 3 rfl, M.cell 7 4 rfl, M.cell 6 0 rfl, M.cell 6 1 rfl, M.cell 6 2 rfl, M.cell 6 3 rfl, M.cell 6 4 rfl⟩
  clear hK K
  try simp only [Act.put, List.setIfInBounds_toArray, List.set_cons_zero, List.set_cons_succ]
  obtain ⟨tR, Ae, Bb, Ai, Az, Ad, Ax, Ah, Bc, Aa, Ba⟩ := M.f5 4 rfl
  refine wpAnyT_oneL (i := 3) rfl (by kernel_rfl) (by kernel_rfl) (fun K hK => ?_)
  go_simp
  refine hK.out _ _ ?_
  clear hK K
  try simp only [Act.put, List.setIfInBounds_toArray, List.set_cons_zero, List.set_cons_succ]
  clear tR Ae Bb Ai Az Ad Ax Ah Bc Aa Ba
  have N := M.gset5 4 rfl (.slice B0 ts.length e0) (.slice B1 ks.length e1) (.slice B2 fs.length e2) (.int .i64 tn) (.bool st)
  clear M
  obtain ⟨W7, eW, M⟩ := N
  rw [eW]
  clear eW
  simp only [List.set_cons_zero, List.set_cons_succ] at M
  refine wpAnyT_done (by kernel_rfl) ?_ _
  go_wp2_with fail
  obtain ⟨tR, Ae, Ai, Ad, Ah, Aa⟩ := M.q5 4 rfl
  obtain ⟨tQ, Af, Ag, Ac, Aj, Ab⟩ := M.q5 5 rfl
  replace M := M.sub ((List.Sublist.slnil) |>.cons _ |>.cons _ |>.cons _ |>.cons _ |>.cons_cons _ |>.cons_cons _ |>.cons_cons _ |>.cons_cons _)
  exact bodyPost_ret (v := .tuple #[.agg #[.int .i64 a, .int .i64 b, .int .i64 c, .int .i64 dd, .int .i64 ee], .agg #[.slice B0 ts.length e0, .slice B1 ks.length e1, .slice B2 fs.length e2, .int .i64 tn, .bool st]]) (by simp [results, Tryz.results39, go_sem, Af, Ag, Ac, Aj, Ab, Ae, Ai, Ad, Ah, Aa]) rfl ⟨a, b, c, dd, ee, ts, ks, fs, tn, st, B0, B1, B2, e0, e1, e2, _, _, _, _, rfl, rfl, rfl, rfl, by omega, by omega, by omega, hc, M⟩
 ·obtain ⟨tR, Ae, Bb, Ai, Az, Ad, Ax, Ah, Bc, Aa, Ba⟩ := M.f5 4 rfl
  obtain ⟨tQ, Af, Av, Ag, Ay, Ac, Au, Aj, Aw, Ab, Bd⟩ := M.f5 5 rfl
  obtain ⟨tY, Am, Bi, Al, Bh, Ao, Bg, An, Be, Ak, Bf⟩ := M.f5 6 rfl
  obtain ⟨tP, Ap, Bl, Ar, Bm, Aq, Bj, At, Bk, As, Bn⟩ := M.f5 7 rfl
  go_wp2_with fail
  go_call (l1Below_pos B _ g A len cap 6 (by omega) (by omega) (M.curAt 3 rfl d0 hc)) as r W8 ⟨t, rfl, t1, t2, gg, d⟩
  clear tR Ae Bb Ai Az Ad Ax Ah Bc Aa Ba tQ Af Av Ag Ay Ac Au Aj Aw Ab Bd tY Am Bi Al Bh Ao Bg An Be Ak Bf tP Ap Bl Ar Bm Aq Bj At Bk As Bn
  have MM := M.curMoved 3 rfl gg d
  clear M hc gg d
  obtain ⟨cs3, hc, M⟩ := MM
  simp only [List.set_cons_zero, List.set_cons_succ] at M
  have ht : t = 0 ∨ t = 1 ∨ t = 2 ∨ t = 3 ∨ t = 4 ∨ t = 5 := by omega
  clear t1 t2
  rcases ht with rfl | rfl | rfl | rfl | rfl | rfl
  ·obtain ⟨tR, Ae, Ai, Ad, Ah, Aa⟩ := M.q5 4 rfl
   obtain ⟨tQ, Af, Ag, Ac, Aj, Ab⟩ := M.q5 5 rfl
   obtain ⟨tY, Am, Al, Ao, An, Ak⟩ := M.q5 6 rfl
   obtain ⟨tP, Ap, Ar, Aq, At, As⟩ := M.q5 7 rfl
   go_wp2_with fail
   clear tR Ae Ai Ad Ah Aa tQ Af Ag Ac Aj Ab tY Am Al Ao An Ak tP Ap Ar Aq At As
   have N := M.galloc 2 #[.int .i64 0, .int .i64 1, .int .i64 999999, .int .i64 1000000, .int .i64 1000001]
   clear M
   obtain ⟨W9, eW, M⟩ := N
   rw [eW]
   clear eW
   obtain ⟨tL, Bs, Br, Bq, Bo, Bp⟩ := M.q5 0 rfl
   obtain ⟨tR, Ae, Ai, Ad, Ah, Aa⟩ := M.q5 5 rfl
   obtain ⟨tQ, Af, Ag, Ac, Aj, Ab⟩ := M.q5 6 rfl
   obtain ⟨tY, Am, Al, Ao, An, Ak⟩ := M.q5 7 rfl
   obtain ⟨tP, Ap, Ar, Aq, At, As⟩ := M.q5 8 rfl
   go_call (l1Below_pos B _ g A len cap 5 (by omega) (by omega) (M.curAt 4 rfl d0 hc)) as r W10 ⟨v, rfl, v1, v2, gg, d⟩
   clear tL Bs Br Bq Bo Bp tR Ae Ai Ad Ah Aa tQ Af Ag Ac Aj Ab tY Am Al Ao An Ak tP Ap Ar Aq At As
   have MM := M.curMoved 4 rfl gg d
   clear M hc gg d
   obtain ⟨cs4, hc, M⟩ := MM
   simp only [List.set_cons_zero, List.set_cons_succ] at M
   obtain ⟨k, rfl⟩ : ∃ k : Nat, v = k := ⟨v.toNat, by omega⟩
   have hk5 : (k : Int) < 5 := by omega
   have hk0 : (0 : Int) ≤ (k : Int) := by omega
   obtain ⟨u, hu⟩ : ∃ u : Int, (#[.int .i64 0, .int .i64 1, .int .i64 999999, .int .i64 1000000, .int .i64 1000001] : Array Value)[k]? = some (.int .i64 u) := by
    have h5 : k = 0 ∨ k = 1 ∨ k = 2 ∨ k = 3 ∨ k = 4 := by omega
    rcases h5 with rfl | rfl | rfl | rfl | rfl <;> exact ⟨_, rfl⟩
   have qk : W10.cell? ⟨W8.heap.size, k, none⟩ = some (.int .i64 u) := (M.cell 0 k rfl).trans hu
   clear hu
   obtain ⟨tY, Am, Bi, Al, Bh, Ao, Bg, An, Be, Ak, Bf⟩ := M.f5 7 rfl
   obtain ⟨tP, Ap, Bl, Ar, Bm, Aq, Bj, At, Bk, As, Bn⟩ := M.f5 8 rfl
   go_wp2_with fail
   clear tY Am Bi Al Bh Ao Bg An Be Ak Bf tP Ap Bl Ar Bm Aq Bj At Bk As Bn
   replace M : Sep [g] w (W10.setCell ⟨yb, 3, none⟩ (.int .i64 u)) [.blk (W8.heap.size) 2 #[.int .i64 0, .int .i64 1, .int .i64 999999, .int .i64 1000000, .int .i64 1000001], rT ts.length B0 e0 ts, rK ks.length B1 e1 ks, rF fs.length B2 e2 fs, .blk g 109 cs4, .blk (w.heap.size + 1) 30 #[.slice none 0 0, .slice none 0 0, .slice none 0 0, .int .i64 0, .bool false], .blk (w.heap.size) 25 #[.int .i64 0, .int .i64 0, .int .i64 0, .int .i64 0, .int .i64 0], .blk (yb) 30 #[.slice B0 ts.length e0, .slice B1 ks.length e1, .slice B2 fs.length e2, .int .i64 u, .bool st], .blk (pb) 25 #[.int .i64 a, .int .i64 b, .int .i64 c, .int .i64 dd, .int .i64 ee]] := M.set 7 rfl 3 (.int .i64 u)
   generalize W10.setCell ⟨yb, 3, none⟩ (.int .i64 u) = W11 at M ⊢
   clear qk
   obtain ⟨tL, Bs, Br, Bq, Bo, Bp⟩ := M.q5 0 rfl
   obtain ⟨tR, Ae, Ai, Ad, Ah, Aa⟩ := M.q5 5 rfl
   obtain ⟨tQ, Af, Ag, Ac, Aj, Ab⟩ := M.q5 6 rfl
   obtain ⟨tY, Am, Al, Ao, An, Ak⟩ := M.q5 7 rfl
   obtain ⟨tP, Ap, Ar, Aq, At, As⟩ := M.q5 8 rfl
   go_wp2_with fail
   clear tL Bs Br Bq Bo Bp tR Ae Ai Ad Ah Aa tQ Af Ag Ac Aj Ab tY Am Al Ao An Ak tP Ap Ar Aq At As
   refine wp_region_T (S := (fun w' => w'.cell? ⟨pb, 0, none⟩ = some (.int .i64 a) ∧ w'.cell? ⟨pb, 1, none⟩ = some (.int .i64 b) ∧ w'.cell? ⟨pb, 2, none⟩ = some (.int .i64 c) ∧ w'.cell? ⟨pb, 3, none⟩ = some (.int .i64 dd) ∧ w'.cell? ⟨pb, 4, none⟩ = some (.int .i64 ee) ∧ w'.cell? ⟨yb, 0, none⟩ = some (.slice B0 ts.length e0) ∧ w'.cell? ⟨yb, 1, none⟩ = some (.slice B1 ks.length e1) ∧ w'.cell? ⟨yb, 2, none⟩ = some (.slice B2 fs.length e2) ∧ w'.cell? ⟨yb, 3, none⟩ = some (.int .i64 u) ∧ w'.cell? ⟨yb, 4, none⟩ = some (.bool st))) (ks := [3]) (by kernel_rfl) ⟨M.cell 8 0 rfl, M.cell 8 1 rfl, M.cell 8 2 rfl, M.cell 8 3 rfl, M.cell 8 4 rfl, M.cell 7 0 rfl, M.cell 7 1 rfl, M.cell 7 2 rfl, M.cell 7 3 rfl, M.cell 7 4 rfl⟩ (fun hHeld => ?_)
   replace M := M.drew
   generalize W11.drew = W12 at M hHeld ⊢
   refine tkL 0 ?v0u3 rfl ?hy0u3 hHeld ?_
   case hy0u3 => (intro w hSw; (try dsimp only at hSw); go_split_ands; go_simp; all_goals with_reducible rfl)
   try simp only [Act.put, List.setIfInBounds_toArray, List.set_cons_zero, List.set_cons_succ]
   refine tkL 1 ?v1u4 rfl ?hy1u4 hHeld ?_
   case hy1u4 => (intro w hSw; (try dsimp only at hSw); go_split_ands; go_simp; all_goals with_reducible rfl)
   try simp only [Act.put, List.setIfInBounds_toArray, List.set_cons_zero, List.set_cons_succ]
   obtain ⟨tQ, Af, Av, Ag, Ay, Ac, Au, Aj, Aw, Ab, Bd⟩ := M.f5 6 rfl
   refine wpAnyT_callL (i := 2) rfl (by kernel_rfl) (fun K hK => ?_)
   go_simp
   clear tQ Af Av Ag Ay Ac Au Aj Aw Ab Bd
   have N := M.gset5 6 rfl (.int .i64 a) (.int .i64 b) (.int .i64 c) (.int .i64 dd) (.int .i64 ee)
   clear M
   obtain ⟨W13, eW, M⟩ := N
   rw [eW]
   clear eW
   simp only [List.set_cons_zero, List.set_cons_succ] at M
   clear hHeld
   refine hK.out _ _ ?_ (fun hHeld => ?_)
   ·exact ⟨M.cell 8 0 rfl, M.cell 8 1 rfl, M.cell 8 2 rfl, M.cell 8 3 rfl, M.cell 8 4 rfl, M.cell 7 0 rfl, M.cell 7 1 rfl, M.cell 7 2 rfl, M.cell 7 3 rfl, M.cell 7 4 rfl⟩
   clear hK K
   try simp only [Act.put, List.setIfInBounds_toArray, List.set_cons_zero, List.set_cons_succ]
   obtain ⟨tR, Ae, Bb, Ai, Az, Ad, Ax, Ah, Bc, Aa, Ba⟩ := M.f5 5 rfl
   refine wpAnyT_oneL (i := 3) rfl (by kernel_rfl) (by kernel_rfl) (fun K hK => ?_)
   go_simp
   refine hK.out _ _ ?_
   clear hK K
   try simp only [Act.put, List.setIfInBounds_toArray, List.set_cons_zero, List.set_cons_succ]
   clear tR Ae Bb Ai Az Ad Ax Ah Bc Aa Ba
   have N := M.gset5 5 rfl (.slice B0 ts.length e0) (.slice B1 ks.length e1) (.slice B2 fs.length e2) (.int .i64 u) (.bool st)
   clear M
   obtain ⟨W14, eW, M⟩ := N
   rw [eW]
   clear eW
   simp only [List.set_cons_zero, List.set_cons_succ] at M
   refine wpAnyT_done (by kernel_rfl) ?_ _
   go_wp2_with fail
   obtain ⟨tR, Ae, Ai, Ad, Ah, Aa⟩ := M.q5 5 rfl
   obtain ⟨tQ, Af, Ag, Ac, Aj, Ab⟩ := M.q5 6 rfl
   replace M := M.sub ((List.Sublist.slnil) |>.cons _ |>.cons _ |>.cons _ |>.cons _ |>.cons_cons _ |>.cons_cons _ |>.cons_cons _ |>.cons_cons _ |>.cons _)
   exact bodyPost_ret (v := .tuple #[.agg #[.int .i64 a, .int .i64 b, .int .i64 c, .int .i64 dd, .int .i64 ee], .agg #[.slice B0 ts.length e0, .slice B1 ks.length e1, .slice B2 fs.length e2, .int .i64 u, .bool st]]) (by simp [results, Tryz.results39, go_sem, Af, Ag, Ac, Aj, Ab, Ae, Ai, Ad, Ah, Aa]) rfl ⟨a, b, c, dd, ee, ts, ks, fs, u, st, B0, B1, B2, e0, e1, e2, _, _, _, _, rfl, rfl, rfl, rfl, by omega, by omega, by omega, hc, M⟩
  ·obtain ⟨i0, hi, hz0, hz1, hz2⟩ := info_parts infoTask
   obtain ⟨tR, Ae, Ai, Ad, Ah, Aa⟩ := M.q5 4 rfl
   obtain ⟨tQ, Af, Ag, Ac, Aj, Ab⟩ := M.q5 5 rfl
   obtain ⟨tY, Am, Al, Ao, An, Ak⟩ := M.q5 6 rfl
   obtain ⟨tP, Ap, Ar, Aq, At, As⟩ := M.q5 7 rfl
   go_wp2_with fail
   clear tR Ae Ai Ad Ah Aa tQ Af Ag Ac Aj Ab tY Am Al Ao An Ak tP Ap Ar Aq At As
   refine wp_region_T (S := (fun w' => w'.cell? ⟨pb, 0, none⟩ = some (.int .i64 a) ∧ w'.cell? ⟨pb, 1, none⟩ = some (.int .i64 b) ∧ w'.cell? ⟨pb, 2, none⟩ = some (.int .i64 c) ∧ w'.cell? ⟨pb, 3, none⟩ = some (.int .i64 dd) ∧ w'.cell? ⟨pb, 4, none⟩ = some (.int .i64 ee) ∧ w'.cell? ⟨yb, 0, none⟩ = some (.slice B0 ts.length e0) ∧ w'.cell? ⟨yb, 1, none⟩ = some (.slice B1 ks.length e1) ∧ w'.cell? ⟨yb, 2, none⟩ = some (.slice B2 fs.length e2) ∧ w'.cell? ⟨yb, 3, none⟩ = some (.int .i64 tn) ∧ w'.cell? ⟨yb, 4, none⟩ = some (.bool st))) (ks := [8]) (by kernel_rfl) ⟨M.cell 7 0 rfl, M.cell 7 1 rfl, M.cell 7 2 rfl, M.cell 7 3 rfl, M.cell 7 4 rfl, M.cell 6 0 rfl, M.cell 6 1 rfl, M.cell 6 2 rfl, M.cell 6 3 rfl, M.cell 6 4 rfl⟩ (fun hHeld => ?_)
   replace M := M.drew
   generalize W8.drew = W9 at M hHeld ⊢
   refine tkY 0 ?v0u5 rfl ?hy0u5 (fun _ => hHeld) ?_
   case hy0u5 => (intro w; go_simp; all_goals with_reducible rfl)
   try simp only [Act.put, List.setIfInBounds_toArray, List.set_cons_zero, List.set_cons_succ]
   refine tkY 2 ?v2u6 rfl ?hy2u6 (fun _ => hHeld) ?_
   case hy2u6 => (intro w; go_simp; all_goals with_reducible rfl)
   try simp only [Act.put, List.setIfInBounds_toArray, List.set_cons_zero, List.set_cons_succ]
   refine tkL 1 ?v1u7 rfl ?hy1u7 hHeld ?_
   case hy1u7 => (intro w hSw; (try dsimp only at hSw); go_split_ands; go_simp; all_goals with_reducible rfl)
   try simp only [Act.put, List.setIfInBounds_toArray, List.set_cons_zero, List.set_cons_succ]
   refine tkL 3 ?v3u8 rfl ?hy3u8 hHeld ?_
   case hy3u8 => (intro w hSw; (try dsimp only at hSw); go_split_ands; go_simp; all_goals with_reducible rfl)
   try simp only [Act.put, List.setIfInBounds_toArray, List.set_cons_zero, List.set_cons_succ]
   refine wpAnyT_callL (i := 4) rfl (by kernel_rfl) (fun K hK => ?_)
   go_simp
   refine Calls.mono (by with_reducible exact (l2Draw_any B _ g A len cap a b c dd ee (by omega) (by omega) (by omega) (by omega) (M.curAt 3 rfl d0 hc))) ?_
   rintro r W10 ⟨s, l, o, wt, on, v, t, rfl, hs1, hs2, hs3, hs4, hs5, hs6, hs7, gg, d⟩
   have MM := M.curMoved 3 rfl gg d
   clear M hc gg d
   obtain ⟨cs4, hc, M⟩ := MM
   simp only [List.set_cons_zero, List.set_cons_succ] at M
   clear hHeld
   go_wp2_with fail
   refine hK.out _ _ ?_ (fun hHeld => ?_)
   ·exact ⟨M.cell 7 0 rfl, M.cell 7 1 rfl, M.cell 7 2 rfl, M.cell 7 3 rfl, M.cell 7 4 rfl, M.cell 6 0 rfl, M.cell 6 1 rfl, M.cell 6 2 rfl, M.cell 6 3 rfl, M.cell 6 4 rfl⟩
   clear hK K
   try simp only [Act.put, List.setIfInBounds_toArray, List.set_cons_zero, List.set_cons_succ]
   refine wpAnyT_callL (i := 5) rfl (by kernel_rfl) (fun K hK => ?_)
   go_simp
   obtain ⟨lb, hlb⟩ : ∃ lb, lb = W10.heap.size := ⟨_, rfl⟩
   have hRL : Row (W10.alloc (.cells #[.int .i64 s, .int .i64 l, .int .i64 o, .int .i64 wt, .int .i64 on, .int .i64 v, .int .i64 t] 44)) (some ⟨lb, 0, none⟩) [.int .i64 s, .int .i64 l, .int .i64 o, .int .i64 wt, .int .i64 on, .int .i64 v, .int .i64 t] := by rw [hlb]; exact Row.of_own (World.ownsRow_lit (base := 0) (e := 44) (size := 7) W10 #[.int .i64 s, .int .i64 l, .int .i64 o, .int .i64 wt, .int .i64 on, .int .i64 v, .int .i64 t] 1 (Nat.zero_le _) (by simp [maxLen]) (by simp))
   rw [← hlb]
   clear hlb hHeld
   replace M := (M.allocN 44 #[.int .i64 s, .int .i64 l, .int .i64 o, .int .i64 wt, .int .i64 on, .int .i64 v, .int .i64 t]).tail
   generalize W10.alloc (.cells #[.int .i64 s, .int .i64 l, .int .i64 o, .int .i64 wt, .int .i64 on, .int .i64 v, .int .i64 t] 44) = W11 at M hRL ⊢
   refine hK.out _ _ ?_ (fun hHeld => ?_)
   ·exact ⟨M.cell 7 0 rfl, M.cell 7 1 rfl, M.cell 7 2 rfl, M.cell 7 3 rfl, M.cell 7 4 rfl, M.cell 6 0 rfl, M.cell 6 1 rfl, M.cell 6 2 rfl, M.cell 6 3 rfl, M.cell 6 4 rfl⟩
   clear hK K
   try simp only [Act.put, List.setIfInBounds_toArray, List.set_cons_zero, List.set_cons_succ]
   have hO : W11.ownsRow 0 44 7 (.slice B0 ts.length e0) ts.length (tcells ts) := M.rowAt 0 rfl
   refine wpAnyT_callL (i := 6) rfl (by kernel_rfl) (fun K hK => ?_)
   refine step_append_sep rfl (.tmp 26) (.tmp 30) 26 rfl 44 i0 (.agg #[.int .i64 0, .int .i64 0, .int .i64 0, .int .i64 0, .int .i64 0, .int .i64 0, .int .i64 0]) 7 56 Tryz.underlying26 hi hz0 hz1 hz2 rfl (by decide) B0 ts.length e0 (tcells ts) rfl hO ⟨lb, 0, none⟩ 1 1 [.int .i64 s, .int .i64 l, .int .i64 o, .int .i64 wt, .int .i64 on, .int .i64 v, .int .i64 t] rfl rfl hRL (by simp) (by simp [Value.oneCell']) (by unfold maxLen; omega) (by omega) ?_
   intro A' c' W12 kk
   replace kk : Sep (fps [rT ts.length B0 e0 ts]) W11 W12 [rT (ts.length + 1) A' c' (ts ++ [⟨s, l, o, wt, on, v, t⟩])] := by
    unfold rT at kk ⊢
    rw [show tcells ts ++ [.int .i64 s, .int .i64 l, .int .i64 o, .int .i64 wt, .int .i64 on, .int .i64 v, .int .i64 t] = tcells (ts ++ [⟨s, l, o, wt, on, v, t⟩]) from by simp [tcells, T7.cs]] at kk
    exact kk
   replace M : Sep [g] w W12 [rT (ts.length + 1) A' c' (ts ++ [⟨s, l, o, wt, on, v, t⟩]), rK ks.length B1 e1 ks, rF fs.length B2 e2 fs, .blk g 109 cs4, .blk (w.heap.size + 1) 30 #[.slice none 0 0, .slice none 0 0, .slice none 0 0, .int .i64 0, .bool false], .blk (w.heap.size) 25 #[.int .i64 0, .int .i64 0, .int .i64 0, .int .i64 0, .int .i64 0], .blk (yb) 30 #[.slice B0 ts.length e0, .slice B1 ks.length e1, .slice B2 fs.length e2, .int .i64 tn, .bool st], .blk (pb) 25 #[.int .i64 a, .int .i64 b, .int .i64 c, .int .i64 dd, .int .i64 ee]] := Sep.comp (ps := [rT ts.length B0 e0 ts]) (rs := [rK ks.length B1 e1 ks, rF fs.length B2 e2 fs, .blk g 109 cs4, .blk (w.heap.size + 1) 30 #[.slice none 0 0, .slice none 0 0, .slice none 0 0, .int .i64 0, .bool false], .blk (w.heap.size) 25 #[.int .i64 0, .int .i64 0, .int .i64 0, .int .i64 0, .int .i64 0], .blk (yb) 30 #[.slice B0 ts.length e0, .slice B1 ks.length e1, .slice B2 fs.length e2, .int .i64 tn, .bool st], .blk (pb) 25 #[.int .i64 a, .int .i64 b, .int .i64 c, .int .i64 dd, .int .i64 ee]]) M kk
   clear kk hO hRL hHeld
   refine hK.out _ _ ?_ (fun hHeld => ?_)
   ·exact ⟨M.cell 7 0 rfl, M.cell 7 1 rfl, M.cell 7 2 rfl, M.cell 7 3 rfl, M.cell 7 4 rfl, M.cell 6 0 rfl, M.cell 6 1 rfl, M.cell 6 2 rfl, M.cell 6 3 rfl, M.cell 6 4 rfl⟩
   clear hK K
   try simp only [Act.put, List.setIfInBounds_toArray, List.set_cons_zero, List.set_cons_succ]
   refine tkY 7 ?v7u9 rfl ?hy7u9 (fun _ => hHeld) ?_
   case hy7u9 => (intro w; go_simp; all_goals with_reducible rfl)
   try simp only [Act.put, List.setIfInBounds_toArray, List.set_cons_zero, List.set_cons_succ]
   obtain ⟨tY, Am, Bi, Al, Bh, Ao, Bg, An, Be, Ak, Bf⟩ := M.f5 6 rfl
   refine wpAnyT_oneL (i := 8) rfl (by kernel_rfl) (by kernel_rfl) (fun K hK => ?_)
   go_simp
   refine hK.out _ _ ?_
   clear hK K
   try simp only [Act.put, List.setIfInBounds_toArray, List.set_cons_zero, List.set_cons_succ]
   clear tY Am Bi Al Bh Ao Bg An Be Ak Bf
   replace M : Sep [g] w (W12.setCell ⟨yb, 0, none⟩ (.slice A' (ts.length + 1) c')) [rT (ts.length + 1) A' c' (ts ++ [⟨s, l, o, wt, on, v, t⟩]), rK ks.length B1 e1 ks, rF fs.length B2 e2 fs, .blk g 109 cs4, .blk (w.heap.size + 1) 30 #[.slice none 0 0, .slice none 0 0, .slice none 0 0, .int .i64 0, .bool false], .blk (w.heap.size) 25 #[.int .i64 0, .int .i64 0, .int .i64 0, .int .i64 0, .int .i64 0], .blk (yb) 30 #[.slice A' (ts.length + 1) c', .slice B1 ks.length e1, .slice B2 fs.length e2, .int .i64 tn, .bool st], .blk (pb) 25 #[.int .i64 a, .int .i64 b, .int .i64 c, .int .i64 dd, .int .i64 ee]] := M.set 6 rfl 0 (.slice A' (ts.length + 1) c')
   generalize W12.setCell ⟨yb, 0, none⟩ (.slice A' (ts.length + 1) c') = W13 at M ⊢
   refine wpAnyT_done (by kernel_rfl) ?_ _
   replace M := M.front 2 rfl
   simp only [List.eraseIdx_cons_succ, List.eraseIdx_cons_zero] at M
   replace M := M.front 2 rfl
   simp only [List.eraseIdx_cons_succ, List.eraseIdx_cons_zero] at M
   replace M := M.front 2 rfl
   simp only [List.eraseIdx_cons_succ, List.eraseIdx_cons_zero] at M
   obtain ⟨tR, Ae, Ai, Ad, Ah, Aa⟩ := M.q5 4 rfl
   obtain ⟨tQ, Af, Ag, Ac, Aj, Ab⟩ := M.q5 5 rfl
   obtain ⟨tY, Am, Al, Ao, An, Ak⟩ := M.q5 6 rfl
   obtain ⟨tP, Ap, Ar, Aq, At, As⟩ := M.q5 7 rfl
   go_wp2_with fail
   clear tR Ae Ai Ad Ah Aa tQ Af Ag Ac Aj Ab tY Am Al Ao An Ak tP Ap Ar Aq At As
   refine wp_region_T (S := (fun w' => w'.cell? ⟨pb, 0, none⟩ = some (.int .i64 a) ∧ w'.cell? ⟨pb, 1, none⟩ = some (.int .i64 b) ∧ w'.cell? ⟨pb, 2, none⟩ = some (.int .i64 c) ∧ w'.cell? ⟨pb, 3, none⟩ = some (.int .i64 dd) ∧ w'.cell? ⟨pb, 4, none⟩ = some (.int .i64 ee) ∧ w'.cell? ⟨yb, 0, none⟩ = some (.slice A' (ts.length + 1) c') ∧ w'.cell? ⟨yb, 1, none⟩ = some (.slice B1 ks.length e1) ∧ w'.cell? ⟨yb, 2, none⟩ = some (.slice B2 fs.length e2) ∧ w'.cell? ⟨yb, 3, none⟩ = some (.int .i64 tn) ∧ w'.cell? ⟨yb, 4, none⟩ = some (.bool st))) (ks := [3]) (by kernel_rfl) ⟨M.cell 7 0 rfl, M.cell 7 1 rfl, M.cell 7 2 rfl, M.cell 7 3 rfl, M.cell 7 4 rfl, M.cell 6 0 rfl, M.cell 6 1 rfl, M.cell 6 2 rfl, M.cell 6 3 rfl, M.cell 6 4 rfl⟩ (fun hHeld => ?_)
   replace M := M.drew
   generalize W13.drew = W14 at M hHeld ⊢
   refine tkL 0 ?v0u10 rfl ?hy0u10 hHeld ?_
   case hy0u10 => (intro w hSw; (try dsimp only at hSw); go_split_ands; go_simp; all_goals with_reducible rfl)
   try simp only [Act.put, List.setIfInBounds_toArray, List.set_cons_zero, List.set_cons_succ]
   refine tkL 1 ?v1u11 rfl ?hy1u11 hHeld ?_
   case hy1u11 => (intro w hSw; (try dsimp only at hSw); go_split_ands; go_simp; all_goals with_reducible rfl)
   try simp only [Act.put, List.setIfInBounds_toArray, List.set_cons_zero, List.set_cons_succ]
   obtain ⟨tQ, Af, Av, Ag, Ay, Ac, Au, Aj, Aw, Ab, Bd⟩ := M.f5 5 rfl
   refine wpAnyT_callL (i := 2) rfl (by kernel_rfl) (fun K hK => ?_)
   go_simp
   clear tQ Af Av Ag Ay Ac Au Aj Aw Ab Bd
   have N := M.gset5 5 rfl (.int .i64 a) (.int .i64 b) (.int .i64 c) (.int .i64 dd) (.int .i64 ee)
   clear M
   obtain ⟨W15, eW, M⟩ := N
   rw [eW]
   clear eW
   simp only [List.set_cons_zero, List.set_cons_succ] at M
   clear hHeld
   refine hK.out _ _ ?_ (fun hHeld => ?_)
   ·exact ⟨M.cell 7 0 rfl, M.cell 7 1 rfl, M.cell 7 2 rfl, M.cell 7 3 rfl, M.cell 7 4 rfl, M.cell 6 0 rfl, M.cell 6 1 rfl, M.cell 6 2 rfl, M.cell 6 3 rfl, M.cell 6 4 rfl⟩
   clear hK K
   try simp only [Act.put, List.setIfInBounds_toArray, List.set_cons_zero, List.set_cons_succ]
   obtain ⟨tR, Ae, Bb, Ai, Az, Ad, Ax, Ah, Bc, Aa, Ba⟩ := M.f5 4 rfl
   refine wpAnyT_oneL (i := 3) rfl (by kernel_rfl) (by kernel_rfl) (fun K hK => ?_)
   go_simp
   refine hK.out _ _ ?_
   clear hK K
   try simp only [Act.put, List.setIfInBounds_toArray, List.set_cons_zero, List.set_cons_succ]
   clear tR Ae Bb Ai Az Ad Ax Ah Bc Aa Ba
   have N := M.gset5 4 rfl (.slice A' (ts.length + 1) c') (.slice B1 ks.length e1) (.slice B2 fs.length e2) (.int .i64 tn) (.bool st)
   clear M
   obtain ⟨W16, eW, M⟩ := N
   rw [eW]
   clear eW
   simp only [List.set_cons_zero, List.set_cons_succ] at M
   refine wpAnyT_done (by kernel_rfl) ?_ _
   go_wp2_with fail
   obtain ⟨tR, Ae, Ai, Ad, Ah, Aa⟩ := M.q5 4 rfl
   obtain ⟨tQ, Af, Ag, Ac, Aj, Ab⟩ := M.q5 5 rfl
   replace M := M.sub ((List.Sublist.slnil) |>.cons _ |>.cons _ |>.cons _ |>.cons _ |>.cons_cons _ |>.cons_cons _ |>.cons_cons _ |>.cons_cons _)
   exact bodyPost_ret (v := .tuple #[.agg #[.int .i64 a, .int .i64 b, .int .i64 c, .int .i64 dd, .int .i64 ee], .agg #[.slice A' (ts.length + 1) c', .slice B1 ks.length e1, .slice B2 fs.length e2, .int .i64 tn, .bool st]]) (by simp [results, Tryz.results39, go_sem, Af, Ag, Ac, Aj, Ab, Ae, Ai, Ad, Ah, Aa]) rfl ⟨a, b, c, dd, ee, ts ++ [⟨s, l, o, wt, on, v, t⟩], ks, fs, tn, st, A', B1, B2, c', e1, e2, _, _, _, _, rfl, by simp, rfl, rfl, by omega, by omega, by omega, hc, M⟩
  ·obtain ⟨i0, hi, hz0, hz1, hz2⟩ := info_parts infoInt
   obtain ⟨tR, Ae, Ai, Ad, Ah, Aa⟩ := M.q5 4 rfl
   obtain ⟨tQ, Af, Ag, Ac, Aj, Ab⟩ := M.q5 5 rfl
   obtain ⟨tY, Am, Al, Ao, An, Ak⟩ := M.q5 6 rfl
   obtain ⟨tP, Ap, Ar, Aq, At, As⟩ := M.q5 7 rfl
   go_wp2_with fail
   clear tR Ae Ai Ad Ah Aa tQ Af Ag Ac Aj Ab tY Am Al Ao An Ak tP Ap Ar Aq At As
   refine wp_region_T (S := (fun w' => w'.cell? ⟨pb, 0, none⟩ = some (.int .i64 a) ∧ w'.cell? ⟨pb, 1, none⟩ = some (.int .i64 b) ∧ w'.cell? ⟨pb, 2, none⟩ = some (.int .i64 c) ∧ w'.cell? ⟨pb, 3, none⟩ = some (.int .i64 dd) ∧ w'.cell? ⟨pb, 4, none⟩ = some (.int .i64 ee) ∧ w'.cell? ⟨yb, 0, none⟩ = some (.slice B0 ts.length e0) ∧ w'.cell? ⟨yb, 1, none⟩ = some (.slice B1 ks.length e1) ∧ w'.cell? ⟨yb, 2, none⟩ = some (.slice B2 fs.length e2) ∧ w'.cell? ⟨yb, 3, none⟩ = some (.int .i64 tn) ∧ w'.cell? ⟨yb, 4, none⟩ = some (.bool st))) (ks := [7]) (by kernel_rfl) ⟨M.cell 7 0 rfl, M.cell 7 1 rfl, M.cell 7 2 rfl, M.cell 7 3 rfl, M.cell 7 4 rfl, M.cell 6 0 rfl, M.cell 6 1 rfl, M.cell 6 2 rfl, M.cell 6 3 rfl, M.cell 6 4 rfl⟩ (fun hHeld => ?_)
   replace M := M.drew
   generalize W8.drew = W9 at M hHeld ⊢
   refine tkY 0 ?v0u12 rfl ?hy0u12 (fun _ => hHeld) ?_
   case hy0u12 => (intro w; go_simp; all_goals with_reducible rfl)
   try simp only [Act.put, List.setIfInBounds_toArray, List.set_cons_zero, List.set_cons_succ]
   refine tkY 2 ?v2u13 rfl ?hy2u13 (fun _ => hHeld) ?_
   case hy2u13 => (intro w; go_simp; all_goals with_reducible rfl)
   try simp only [Act.put, List.setIfInBounds_toArray, List.set_cons_zero, List.set_cons_succ]
   refine tkL 1 ?v1u14 rfl ?hy1u14 hHeld ?_
   case hy1u14 => (intro w hSw; (try dsimp only at hSw); go_split_ands; go_simp; all_goals with_reducible rfl)
   try simp only [Act.put, List.setIfInBounds_toArray, List.set_cons_zero, List.set_cons_succ]
   refine wpAnyT_callL (i := 3) rfl (by kernel_rfl) (fun K hK => ?_)
   go_simp
   refine Calls.mono (by with_reducible exact (l1Num_any B _ g A len cap 100 (by omega) (by omega) (M.curAt 3 rfl d0 hc))) ?_
   rintro r W10 ⟨u, rfl, hu1, gg, d⟩
   have MM := M.curMoved 3 rfl gg d
   clear M hc gg d
   obtain ⟨cs4, hc, M⟩ := MM
   simp only [List.set_cons_zero, List.set_cons_succ] at M
   clear hHeld
   go_wp2_with fail
   refine hK.out _ _ ?_ (fun hHeld => ?_)
   ·exact ⟨M.cell 7 0 rfl, M.cell 7 1 rfl, M.cell 7 2 rfl, M.cell 7 3 rfl, M.cell 7 4 rfl, M.cell 6 0 rfl, M.cell 6 1 rfl, M.cell 6 2 rfl, M.cell 6 3 rfl, M.cell 6 4 rfl⟩
   clear hK K
   try simp only [Act.put, List.setIfInBounds_toArray, List.set_cons_zero, List.set_cons_succ]
   refine wpAnyT_callL (i := 4) rfl (by kernel_rfl) (fun K hK => ?_)
   go_simp
   obtain ⟨lb, hlb⟩ : ∃ lb, lb = W10.heap.size := ⟨_, rfl⟩
   have hRL : Row (W10.alloc (.cells #[.int .i64 u] 2)) (some ⟨lb, 0, none⟩) [.int .i64 u] := by rw [hlb]; exact Row.of_own (World.ownsRow_lit (base := 0) (e := 2) (size := 1) W10 #[.int .i64 u] 1 (Nat.zero_le _) (by simp [maxLen]) (by simp))
   rw [← hlb]
   clear hlb hHeld
   replace M := (M.allocN 2 #[.int .i64 u]).tail
   generalize W10.alloc (.cells #[.int .i64 u] 2) = W11 at M hRL ⊢
   refine hK.out _ _ ?_ (fun hHeld => ?_)
   ·exact ⟨M.cell 7 0 rfl, M.cell 7 1 rfl, M.cell 7 2 rfl, M.cell 7 3 rfl, M.cell 7 4 rfl, M.cell 6 0 rfl, M.cell 6 1 rfl, M.cell 6 2 rfl, M.cell 6 3 rfl, M.cell 6 4 rfl⟩
   clear hK K
   try simp only [Act.put, List.setIfInBounds_toArray, List.set_cons_zero, List.set_cons_succ]
   replace M := M.front 1 rfl
   simp only [List.eraseIdx_cons_succ, List.eraseIdx_cons_zero] at M
   have hO : W11.ownsRow 0 2 1 (.slice B1 ks.length e1) ks.length (icells ks) := M.rowAt 0 rfl
   refine wpAnyT_callL (i := 5) rfl (by kernel_rfl) (fun K hK => ?_)
   refine step_append_sep rfl (.tmp 36) (.tmp 39) 27 rfl 2 i0 (.int .i64 0) 1 8 Tryz.underlying27 hi hz0 hz1 hz2 rfl (by decide) B1 ks.length e1 (icells ks) rfl hO ⟨lb, 0, none⟩ 1 1 [.int .i64 u] rfl rfl hRL (by simp) (by simp [Value.oneCell']) (by unfold maxLen; omega) (by omega) ?_
   intro A' c' W12 kk
   replace kk : Sep (fps [rK ks.length B1 e1 ks]) W11 W12 [rK (ks.length + 1) A' c' (ks ++ [u])] := by
    unfold rK at kk ⊢
    rw [show icells ks ++ [.int .i64 u] = icells (ks ++ [u]) from by simp [icells]] at kk
    exact kk
   replace M : Sep [g] w W12 [rK (ks.length + 1) A' c' (ks ++ [u]), rT ts.length B0 e0 ts, rF fs.length B2 e2 fs, .blk g 109 cs4, .blk (w.heap.size + 1) 30 #[.slice none 0 0, .slice none 0 0, .slice none 0 0, .int .i64 0, .bool false], .blk (w.heap.size) 25 #[.int .i64 0, .int .i64 0, .int .i64 0, .int .i64 0, .int .i64 0], .blk (yb) 30 #[.slice B0 ts.length e0, .slice B1 ks.length e1, .slice B2 fs.length e2, .int .i64 tn, .bool st], .blk (pb) 25 #[.int .i64 a, .int .i64 b, .int .i64 c, .int .i64 dd, .int .i64 ee]] := Sep.comp (ps := [rK ks.length B1 e1 ks]) (rs := [rT ts.length B0 e0 ts, rF fs.length B2 e2 fs, .blk g 109 cs4, .blk (w.heap.size + 1) 30 #[.slice none 0 0, .slice none 0 0, .slice none 0 0, .int .i64 0, .bool false], .blk (w.heap.size) 25 #[.int .i64 0, .int .i64 0, .int .i64 0, .int .i64 0, .int .i64 0], .blk (yb) 30 #[.slice B0 ts.length e0, .slice B1 ks.length e1, .slice B2 fs.length e2, .int .i64 tn, .bool st], .blk (pb) 25 #[.int .i64 a, .int .i64 b, .int .i64 c, .int .i64 dd, .int .i64 ee]]) M kk
   clear kk hO hRL hHeld
   refine hK.out _ _ ?_ (fun hHeld => ?_)
   ·exact ⟨M.cell 7 0 rfl, M.cell 7 1 rfl, M.cell 7 2 rfl, M.cell 7 3 rfl, M.cell 7 4 rfl, M.cell 6 0 rfl, M.cell 6 1 rfl, M.cell 6 2 rfl, M.cell 6 3 rfl, M.cell 6 4 rfl⟩
   clear hK K
   try simp only [Act.put, List.setIfInBounds_toArray, List.set_cons_zero, List.set_cons_succ]
   refine tkY 6 ?v6u15 rfl ?hy6u15 (fun _ => hHeld) ?_
   case hy6u15 => (intro w; go_simp; all_goals with_reducible rfl)
   try simp only [Act.put, List.setIfInBounds_toArray, List.set_cons_zero, List.set_cons_succ]
   obtain ⟨tY, Am, Bi, Al, Bh, Ao, Bg, An, Be, Ak, Bf⟩ := M.f5 6 rfl
   refine wpAnyT_oneL (i := 7) rfl (by kernel_rfl) (by kernel_rfl) (fun K hK => ?_)
   go_simp
   refine hK.out _ _ ?_
   clear hK K
   try simp only [Act.put, List.setIfInBounds_toArray, List.set_cons_zero, List.set_cons_succ]
   clear tY Am Bi Al Bh Ao Bg An Be Ak Bf
   replace M : Sep [g] w (W12.setCell ⟨yb, 1, none⟩ (.slice A' (ks.length + 1) c')) [rK (ks.length + 1) A' c' (ks ++ [u]), rT ts.length B0 e0 ts, rF fs.length B2 e2 fs, .blk g 109 cs4, .blk (w.heap.size + 1) 30 #[.slice none 0 0, .slice none 0 0, .slice none 0 0, .int .i64 0, .bool false], .blk (w.heap.size) 25 #[.int .i64 0, .int .i64 0, .int .i64 0, .int .i64 0, .int .i64 0], .blk (yb) 30 #[.slice B0 ts.length e0, .slice A' (ks.length + 1) c', .slice B2 fs.length e2, .int .i64 tn, .bool st], .blk (pb) 25 #[.int .i64 a, .int .i64 b, .int .i64 c, .int .i64 dd, .int .i64 ee]] := M.set 6 rfl 1 (.slice A' (ks.length + 1) c')
   generalize W12.setCell ⟨yb, 1, none⟩ (.slice A' (ks.length + 1) c') = W13 at M ⊢
   refine wpAnyT_done (by kernel_rfl) ?_ _
   replace M := M.front 2 rfl
   simp only [List.eraseIdx_cons_succ, List.eraseIdx_cons_zero] at M
   replace M := M.front 1 rfl
   simp only [List.eraseIdx_cons_succ, List.eraseIdx_cons_zero] at M
   replace M := M.front 2 rfl
   simp only [List.eraseIdx_cons_succ, List.eraseIdx_cons_zero] at M
   obtain ⟨tR, Ae, Ai, Ad, Ah, Aa⟩ := M.q5 4 rfl
   obtain ⟨tQ, Af, Ag, Ac, Aj, Ab⟩ := M.q5 5 rfl
   obtain ⟨tY, Am, Al, Ao, An, Ak⟩ := M.q5 6 rfl
   obtain ⟨tP, Ap, Ar, Aq, At, As⟩ := M.q5 7 rfl
   go_wp2_with fail
   clear tR Ae Ai Ad Ah Aa tQ Af Ag Ac Aj Ab tY Am Al Ao An Ak tP Ap Ar Aq At As
   refine wp_region_T (S := (fun w' => w'.cell? ⟨pb, 0, none⟩ = some (.int .i64 a) ∧ w'.cell? ⟨pb, 1, none⟩ = some (.int .i64 b) ∧ w'.cell? ⟨pb, 2, none⟩ = some (.int .i64 c) ∧ w'.cell? ⟨pb, 3, none⟩ = some (.int .i64 dd) ∧ w'.cell? ⟨pb, 4, none⟩ = some (.int .i64 ee) ∧ w'.cell? ⟨yb, 0, none⟩ = some (.slice B0 ts.length e0) ∧ w'.cell? ⟨yb, 1, none⟩ = some (.slice A' (ks.length + 1) c') ∧ w'.cell? ⟨yb, 2, none⟩ = some (.slice B2 fs.length e2) ∧ w'.cell? ⟨yb, 3, none⟩ = some (.int .i64 tn) ∧ w'.cell? ⟨yb, 4, none⟩ = some (.bool st))) (ks := [3]) (by kernel_rfl) ⟨M.cell 7 0 rfl, M.cell 7 1 rfl, M.cell 7 2 rfl, M.cell 7 3 rfl, M.cell 7 4 rfl, M.cell 6 0 rfl, M.cell 6 1 rfl, M.cell 6 2 rfl, M.cell 6 3 rfl, M.cell 6 4 rfl⟩ (fun hHeld => ?_)
   replace M := M.drew
   generalize W13.drew = W14 at M hHeld ⊢
   refine tkL 0 ?v0u16 rfl ?hy0u16 hHeld ?_
   case hy0u16 => (intro w hSw; (try dsimp only at hSw); go_split_ands; go_simp; all_goals with_reducible rfl)
   try simp only [Act.put, List.setIfInBounds_toArray, List.set_cons_zero, List.set_cons_succ]
   refine tkL 1 ?v1u17 rfl ?hy1u17 hHeld ?_
   case hy1u17 => (intro w hSw; (try dsimp only at hSw); go_split_ands; go_simp; all_goals with_reducible rfl)
   try simp only [Act.put, List.setIfInBounds_toArray, List.set_cons_zero, List.set_cons_succ]
   obtain ⟨tQ, Af, Av, Ag, Ay, Ac, Au, Aj, Aw, Ab, Bd⟩ := M.f5 5 rfl
   refine wpAnyT_callL (i := 2) rfl (by kernel_rfl) (fun K hK => ?_)
   go_simp
   clear tQ Af Av Ag Ay Ac Au Aj Aw Ab Bd
   have N := M.gset5 5 rfl (.int .i64 a) (.int .i64 b) (.int .i64 c) (.int .i64 dd) (.int .i64 ee)
   clear M
   obtain ⟨W15, eW, M⟩ := N
   rw [eW]
   clear eW
   simp only [List.set_cons_zero, List.set_cons_succ] at M
   clear hHeld
   refine hK.out _ _ ?_ (fun hHeld => ?_)
   ·exact ⟨M.cell 7 0 rfl, M.cell 7 1 rfl, M.cell 7 2 rfl, M.cell 7 3 rfl, M.cell 7 4 rfl, M.cell 6 0 rfl, M.cell 6 1 rfl, M.cell 6 2 rfl, M.cell 6 3 rfl, M.cell 6 4 rfl⟩
   clear hK K
   try simp only [Act.put, List.setIfInBounds_toArray, List.set_cons_zero, List.set_cons_succ]
   obtain ⟨tR, Ae, Bb, Ai, Az, Ad, Ax, Ah, Bc, Aa, Ba⟩ := M.f5 4 rfl
   refine wpAnyT_oneL (i := 3) rfl (by kernel_rfl) (by kernel_rfl) (fun K hK => ?_)
   go_simp
   refine hK.out _ _ ?_
   clear hK K
   try simp only [Act.put, List.setIfInBounds_toArray, List.set_cons_zero, List.set_cons_succ]
   clear tR Ae Bb Ai Az Ad Ax Ah Bc Aa Ba
   have N := M.gset5 4 rfl (.slice B0 ts.length e0) (.slice A' (ks.length + 1) c') (.slice B2 fs.length e2) (.int .i64 tn) (.bool st)
   clear M
   obtain ⟨W16, eW, M⟩ := N
   rw [eW]
   clear eW
   simp only [List.set_cons_zero, List.set_cons_succ] at M
   refine wpAnyT_done (by kernel_rfl) ?_ _
   go_wp2_with fail
   obtain ⟨tR, Ae, Ai, Ad, Ah, Aa⟩ := M.q5 4 rfl
   obtain ⟨tQ, Af, Ag, Ac, Aj, Ab⟩ := M.q5 5 rfl
   replace M := M.sub ((List.Sublist.slnil) |>.cons _ |>.cons _ |>.cons _ |>.cons _ |>.cons_cons _ |>.cons_cons _ |>.cons_cons _ |>.cons_cons _)
   exact bodyPost_ret (v := .tuple #[.agg #[.int .i64 a, .int .i64 b, .int .i64 c, .int .i64 dd, .int .i64 ee], .agg #[.slice B0 ts.length e0, .slice A' (ks.length + 1) c', .slice B2 fs.length e2, .int .i64 tn, .bool st]]) (by simp [results, Tryz.results39, go_sem, Af, Ag, Ac, Aj, Ab, Ae, Ai, Ad, Ah, Aa]) rfl ⟨a, b, c, dd, ee, ts, ks ++ [u], fs, tn, st, B0, A', B2, e0, c', e2, _, _, _, _, rfl, rfl, by simp, rfl, by omega, by omega, by omega, hc, M⟩
  ·by_cases hk0 : ks = []
   ·subst hk0
    replace M : Sep [g] w W8 [rT ts.length B0 e0 ts, rK 0 B1 e1 [], rF fs.length B2 e2 fs, .blk g 109 cs3, .blk (w.heap.size + 1) 30 #[.slice none 0 0, .slice none 0 0, .slice none 0 0, .int .i64 0, .bool false], .blk (w.heap.size) 25 #[.int .i64 0, .int .i64 0, .int .i64 0, .int .i64 0, .int .i64 0], .blk (yb) 30 #[.slice B0 ts.length e0, .slice B1 0 e1, .slice B2 fs.length e2, .int .i64 tn, .bool st], .blk (pb) 25 #[.int .i64 a, .int .i64 b, .int .i64 c, .int .i64 dd, .int .i64 ee]] := M
    obtain ⟨tR, Ae, Ai, Ad, Ah, Aa⟩ := M.q5 4 rfl
    obtain ⟨tQ, Af, Ag, Ac, Aj, Ab⟩ := M.q5 5 rfl
    obtain ⟨tY, Am, Al, Ao, An, Ak⟩ := M.q5 6 rfl
    obtain ⟨tP, Ap, Ar, Aq, At, As⟩ := M.q5 7 rfl
    go_wp2_with fail
    clear tR Ae Ai Ad Ah Aa tQ Af Ag Ac Aj Ab tY Am Al Ao An Ak tP Ap Ar Aq At As
    refine wp_region_T (S := (fun w' => w'.cell? ⟨pb, 0, none⟩ = some (.int .i64 a) ∧ w'.cell? ⟨pb, 1, none⟩ = some (.int .i64 b) ∧ w'.cell? ⟨pb, 2, none⟩ = some (.int .i64 c) ∧ w'.cell? ⟨pb, 3, none⟩ = some (.int .i64 dd) ∧ w'.cell? ⟨pb, 4, none⟩ = some (.int .i64 ee) ∧ w'.cell? ⟨yb, 0, none⟩ = some (.slice B0 ts.length e0) ∧ w'.cell? ⟨yb, 1, none⟩ = some (.slice B1 0 e1) ∧ w'.cell? ⟨yb, 2, none⟩ = some (.slice B2 fs.length e2) ∧ w'.cell? ⟨yb, 3, none⟩ = some (.int .i64 tn) ∧ w'.cell? ⟨yb, 4, none⟩ = some (.bool st))) (ks := [3]) (by kernel_rfl) ⟨M.cell 7 0 rfl, M.cell 7 1 rfl, M.cell 7 2 rfl, M.cell 7 3 rfl, M.cell 7 4 rfl, M.cell 6 0 rfl, M.cell 6 1 rfl, M.cell 6 2 rfl, M.cell 6 3 rfl, M.cell 6 4 rfl⟩ (fun hHeld => ?_)
    replace M := M.drew
    generalize W8.drew = W9 at M hHeld ⊢
    refine tkL 0 ?v0u18 rfl ?hy0u18 hHeld ?_
    case hy0u18 => (intro w hSw; (try dsimp only at hSw); go_split_ands; go_simp; all_goals with_reducible rfl)
    try simp only [Act.put, List.setIfInBounds_toArray, List.set_cons_zero, List.set_cons_succ]
    refine tkL 1 ?v1u19 rfl ?hy1u19 hHeld ?_
    case hy1u19 => (intro w hSw; (try dsimp only at hSw); go_split_ands; go_simp; all_goals with_reducible rfl)
    try simp only [Act.put, List.setIfInBounds_toArray, List.set_cons_zero, List.set_cons_succ]
    obtain ⟨tQ, Af, Av, Ag, Ay, Ac, Au, Aj, Aw, Ab, Bd⟩ := M.f5 5 rfl
    refine wpAnyT_callL (i := 2) rfl (by kernel_rfl) (fun K hK => ?_)
    go_simp
    clear tQ Af Av Ag Ay Ac Au Aj Aw Ab Bd
    have N := M.gset5 5 rfl (.int .i64 a) (.int .i64 b) (.int .i64 c) (.int .i64 dd) (.int .i64 ee)
    clear M
    obtain ⟨W10, eW, M⟩ := N
    rw [eW]
    clear eW
    simp only [List.set_cons_zero, List.set_cons_succ] at M
    clear hHeld
    refine hK.out _ _ ?_ (fun hHeld => ?_)
    ·exact ⟨M.cell 7 0 rfl, M.cell 7 1 rfl, M.cell 7 2 rfl, M.cell 7 3 rfl, M.cell 7 4 rfl, M.cell 6 0 rfl, M.cell 6 1 rfl, M.cell 6 2 rfl, M.cell 6 3 rfl, M.cell 6 4 rfl⟩
    clear hK K
    try simp only [Act.put, List.setIfInBounds_toArray, List.set_cons_zero, List.set_cons_succ]
    obtain ⟨tR, Ae, Bb, Ai, Az, Ad, Ax, Ah, Bc, Aa, Ba⟩ := M.f5 4 rfl
    refine wpAnyT_oneL (i := 3) rfl (by kernel_rfl) (by kernel_rfl) (fun K hK => ?_)
    go_simp
    refine hK.out _ _ ?_
    clear hK K
    try simp only [Act.put, List.setIfInBounds_toArray, List.set_cons_zero, List.set_cons_succ]
    clear tR Ae Bb Ai Az Ad Ax Ah Bc Aa Ba
    have N := M.gset5 4 rfl (.slice B0 ts.length e0) (.slice B1 0 e1) (.slice B2 fs.length e2) (.int .i64 tn) (.bool st)
    clear M
    obtain ⟨W11, eW, M⟩ := N
    rw [eW]
    clear eW
    simp only [List.set_cons_zero, List.set_cons_succ] at M
    refine wpAnyT_done (by kernel_rfl) ?_ _
    go_wp2_with fail
    obtain ⟨tR, Ae, Ai, Ad, Ah, Aa⟩ := M.q5 4 rfl
    obtain ⟨tQ, Af, Ag, Ac, Aj, Ab⟩ := M.q5 5 rfl
    replace M := M.sub ((List.Sublist.slnil) |>.cons _ |>.cons _ |>.cons _ |>.cons _ |>.cons_cons _ |>.cons_cons _ |>.cons_cons _ |>.cons_cons _)
    exact bodyPost_ret (v := .tuple #[.agg #[.int .i64 a, .int .i64 b, .int .i64 c, .int .i64 dd, .int .i64 ee], .agg #[.slice B0 ts.length e0, .slice B1 0 e1, .slice B2 fs.length e2, .int .i64 tn, .bool st]]) (by simp [results, Tryz.results39, go_sem, Af, Ag, Ac, Aj, Ab, Ae, Ai, Ad, Ah, Aa]) rfl ⟨a, b, c, dd, ee, ts, [], fs, tn, st, B0, B1, B2, e0, e1, e2, _, _, _, _, rfl, rfl, rfl, rfl, by omega, by omega, by omega, hc, M⟩
   ·have hkn : 0 < ks.length := List.length_pos_iff.2 hk0
    have hki : (0 : Int) < (ks.length : Int) := by omega
    clear hk0
    have hrK : (rK ks.length B1 e1 ks).here W8 := M.rowAt 1 rfl
    obtain ⟨gk, rfl, hgl, hfz⟩ := rK_form hrK hkn
    clear hrK hfz
    obtain ⟨tR, Ae, Ai, Ad, Ah, Aa⟩ := M.q5 4 rfl
    obtain ⟨tQ, Af, Ag, Ac, Aj, Ab⟩ := M.q5 5 rfl
    obtain ⟨tY, Am, Al, Ao, An, Ak⟩ := M.q5 6 rfl
    obtain ⟨tP, Ap, Ar, Aq, At, As⟩ := M.q5 7 rfl
    go_wp2_with fail
    clear tR Ae Ai Ad Ah Aa tQ Af Ag Ac Aj Ab tY Am Al Ao An Ak tP Ap Ar Aq At As
    refine wp_region_T (S := (fun w' => w'.cell? ⟨pb, 0, none⟩ = some (.int .i64 a) ∧ w'.cell? ⟨pb, 1, none⟩ = some (.int .i64 b) ∧ w'.cell? ⟨pb, 2, none⟩ = some (.int .i64 c) ∧ w'.cell? ⟨pb, 3, none⟩ = some (.int .i64 dd) ∧ w'.cell? ⟨pb, 4, none⟩ = some (.int .i64 ee) ∧ w'.cell? ⟨yb, 0, none⟩ = some (.slice B0 ts.length e0) ∧ w'.cell? ⟨yb, 1, none⟩ = some (.slice (some ⟨gk, 0, none⟩) ks.length e1) ∧ w'.cell? ⟨yb, 2, none⟩ = some (.slice B2 fs.length e2) ∧ w'.cell? ⟨yb, 3, none⟩ = some (.int .i64 tn) ∧ w'.cell? ⟨yb, 4, none⟩ = some (.bool st))) (ks := [5]) (by kernel_rfl) ⟨M.cell 7 0 rfl, M.cell 7 1 rfl, M.cell 7 2 rfl, M.cell 7 3 rfl, M.cell 7 4 rfl, M.cell 6 0 rfl, M.cell 6 1 rfl, M.cell 6 2 rfl, M.cell 6 3 rfl, M.cell 6 4 rfl⟩ (fun hHeld => ?_)
    replace M := M.drew
    generalize W8.drew = W12 at M hHeld ⊢
    refine tkY 0 ?v0u20 rfl ?hy0u20 (fun _ => hHeld) ?_
    case hy0u20 => (intro w; go_simp; all_goals with_reducible rfl)
    try simp only [Act.put, List.setIfInBounds_toArray, List.set_cons_zero, List.set_cons_succ]
    refine tkL 1 ?v1u21 rfl ?hy1u21 hHeld ?_
    case hy1u21 => (intro w hSw; (try dsimp only at hSw); go_split_ands; go_simp; all_goals with_reducible rfl)
    try simp only [Act.put, List.setIfInBounds_toArray, List.set_cons_zero, List.set_cons_succ]
    refine tkY 2 ?v2u22 rfl ?hy2u22 (fun _ => hHeld) ?_
    case hy2u22 => (intro w; go_simp; all_goals with_reducible rfl)
    try simp only [Act.put, List.setIfInBounds_toArray, List.set_cons_zero, List.set_cons_succ]
    refine wpAnyT_callL (i := 3) rfl (by kernel_rfl) (fun K hK => ?_)
    go_simp
    refine Calls.mono (by with_reducible exact (l1Num_any B _ g A len cap 100 (by omega) (by omega) (M.curAt 3 rfl d0 hc))) ?_
    rintro r W13 ⟨u, rfl, hu1, gg, d⟩
    have MM := M.curMoved 3 rfl gg d
    clear M hc gg d
    obtain ⟨cs4, hc, M⟩ := MM
    simp only [List.set_cons_zero, List.set_cons_succ] at M
    clear hHeld
    go_wp2_with fail
    refine hK.out _ _ ?_ (fun hHeld => ?_)
    ·exact ⟨M.cell 7 0 rfl, M.cell 7 1 rfl, M.cell 7 2 rfl, M.cell 7 3 rfl, M.cell 7 4 rfl, M.cell 6 0 rfl, M.cell 6 1 rfl, M.cell 6 2 rfl, M.cell 6 3 rfl, M.cell 6 4 rfl⟩
    clear hK K
    try simp only [Act.put, List.setIfInBounds_toArray, List.set_cons_zero, List.set_cons_succ]
    refine tkY 4 ?v4u23 rfl ?hy4u23 (fun _ => hHeld) ?_
    case hy4u23 => (intro w; go_simp; all_goals with_reducible rfl)
    try simp only [Act.put, List.setIfInBounds_toArray, List.set_cons_zero, List.set_cons_succ]
    have fzk : W13.frozen? ⟨gk, 0, none⟩ = false := Own.fz (M.rowAt 1 rfl) 0
    obtain ⟨ku, hku⟩ : ∃ ku, ks[0]? = some ku := ⟨_, List.getElem?_eq_getElem hkn⟩
    have qk : W13.cell? ⟨gk, 0, none⟩ = some (.int .i64 ku) := by
     obtain ⟨b', off, x0, e', _, he, hb', z0⟩ := (M.rowS 1 rfl).ks_at hkn
     injection e' with e'; injection e' with e1 e2; subst e1 e2
     rw [hku] at he; injection he with he; subst he
     simpa using z0
    refine wpAnyT_oneL (i := 5) rfl (by kernel_rfl) (by kernel_rfl) (fun K hK => ?_)
    go_simp
    refine hK.out _ _ ?_
    clear hK K
    try simp only [Act.put, List.setIfInBounds_toArray, List.set_cons_zero, List.set_cons_succ]
    replace M : Sep [g] w (W13.setCell ⟨gk, 0, none⟩ (.int .i64 u)) [rT ts.length B0 e0 ts, rK ks.length (some ⟨gk, 0, none⟩) e1 (ks.set 0 u), rF fs.length B2 e2 fs, .blk g 109 cs4, .blk (w.heap.size + 1) 30 #[.slice none 0 0, .slice none 0 0, .slice none 0 0, .int .i64 0, .bool false], .blk (w.heap.size) 25 #[.int .i64 0, .int .i64 0, .int .i64 0, .int .i64 0, .int .i64 0], .blk (yb) 30 #[.slice B0 ts.length e0, .slice (some ⟨gk, 0, none⟩) ks.length e1, .slice B2 fs.length e2, .int .i64 tn, .bool st], .blk (pb) 25 #[.int .i64 a, .int .i64 b, .int .i64 c, .int .i64 dd, .int .i64 ee]] := M.putK 1 rfl 0 u
    generalize W13.setCell ⟨gk, 0, none⟩ (.int .i64 u) = W14 at M ⊢
    clear fzk qk hku
    refine wpAnyT_done (by kernel_rfl) ?_ _
    obtain ⟨tR, Ae, Ai, Ad, Ah, Aa⟩ := M.q5 4 rfl
    obtain ⟨tQ, Af, Ag, Ac, Aj, Ab⟩ := M.q5 5 rfl
    obtain ⟨tY, Am, Al, Ao, An, Ak⟩ := M.q5 6 rfl
    obtain ⟨tP, Ap, Ar, Aq, At, As⟩ := M.q5 7 rfl
    go_wp2_with fail
    clear tR Ae Ai Ad Ah Aa tQ Af Ag Ac Aj Ab tY Am Al Ao An Ak tP Ap Ar Aq At As
    refine wp_region_T (S := (fun w' => w'.cell? ⟨pb, 0, none⟩ = some (.int .i64 a) ∧ w'.cell? ⟨pb, 1, none⟩ = some (.int .i64 b) ∧ w'.cell? ⟨pb, 2, none⟩ = some (.int .i64 c) ∧ w'.cell? ⟨pb, 3, none⟩ = some (.int .i64 dd) ∧ w'.cell? ⟨pb, 4, none⟩ = some (.int .i64 ee) ∧ w'.cell? ⟨yb, 0, none⟩ = some (.slice B0 ts.length e0) ∧ w'.cell? ⟨yb, 1, none⟩ = some (.slice (some ⟨gk, 0, none⟩) ks.length e1) ∧ w'.cell? ⟨yb, 2, none⟩ = some (.slice B2 fs.length e2) ∧ w'.cell? ⟨yb, 3, none⟩ = some (.int .i64 tn) ∧ w'.cell? ⟨yb, 4, none⟩ = some (.bool st))) (ks := [3]) (by kernel_rfl) ⟨M.cell 7 0 rfl, M.cell 7 1 rfl, M.cell 7 2 rfl, M.cell 7 3 rfl, M.cell 7 4 rfl, M.cell 6 0 rfl, M.cell 6 1 rfl, M.cell 6 2 rfl, M.cell 6 3 rfl, M.cell 6 4 rfl⟩ (fun hHeld => ?_)
    replace M := M.drew
    generalize W14.drew = W15 at M hHeld ⊢
    refine tkL 0 ?v0u24 rfl ?hy0u24 hHeld ?_
    case hy0u24 => (intro w hSw; (try dsimp only at hSw); go_split_ands; go_simp; all_goals with_reducible rfl)
    try simp only [Act.put, List.setIfInBounds_toArray, List.set_cons_zero, List.set_cons_succ]
    refine tkL 1 ?v1u25 rfl ?hy1u25 hHeld ?_
    case hy1u25 => (intro w hSw; (try dsimp only at hSw); go_split_ands; go_simp; all_goals with_reducible rfl)
    try simp only [Act.put, List.setIfInBounds_toArray, List.set_cons_zero, List.set_cons_succ]
    obtain ⟨tQ, Af, Av, Ag, Ay, Ac, Au, Aj, Aw, Ab, Bd⟩ := M.f5 5 rfl
    refine wpAnyT_callL (i := 2) rfl (by kernel_rfl) (fun K hK => ?_)
    go_simp
    clear tQ Af Av Ag Ay Ac Au Aj Aw Ab Bd
    have N := M.gset5 5 rfl (.int .i64 a) (.int .i64 b) (.int .i64 c) (.int .i64 dd) (.int .i64 ee)
    clear M
    obtain ⟨W16, eW, M⟩ := N
    rw [eW]
    clear eW
    simp only [List.set_cons_zero, List.set_cons_succ] at M
    clear hHeld
    refine hK.out _ _ ?_ (fun hHeld => ?_)
    ·exact ⟨M.cell 7 0 rfl, M.cell 7 1 rfl, M.cell 7 2 rfl, M.cell 7 3 rfl, M.cell 7 4 rfl, M.cell 6 0 rfl, M.cell 6 1 rfl, M.cell 6 2 rfl, M.cell 6 3 rfl, M.cell 6 4 rfl⟩
    clear hK K
    try simp only [Act.put, List.setIfInBounds_toArray, List.set_cons_zero, List.set_cons_succ]
    obtain ⟨tR, Ae, Bb, Ai, Az, Ad, Ax, Ah, Bc, Aa, Ba⟩ := M.f5 4 rfl
    refine wpAnyT_oneL (i := 3) rfl (by kernel_rfl) (by kernel_rfl) (fun K hK => ?_)
    go_simp
    refine hK.out _ _ ?_
    clear hK K
    try simp only [Act.put, List.setIfInBounds_toArray, List.set_cons_zero, List.set_cons_succ]
    clear tR Ae Bb Ai Az Ad Ax Ah Bc Aa Ba
    have N := M.gset5 4 rfl (.slice B0 ts.length e0) (.slice (some ⟨gk, 0, none⟩) ks.length e1) (.slice B2 fs.length e2) (.int .i64 tn) (.bool st)
    clear M
    obtain ⟨W17, eW, M⟩ := N
    rw [eW]
    clear eW
    simp only [List.set_cons_zero, List.set_cons_succ] at M
    refine wpAnyT_done (by kernel_rfl) ?_ _
    go_wp2_with fail
    obtain ⟨tR, Ae, Ai, Ad, Ah, Aa⟩ := M.q5 4 rfl
    obtain ⟨tQ, Af, Ag, Ac, Aj, Ab⟩ := M.q5 5 rfl
    replace M := M.sub ((List.Sublist.slnil) |>.cons _ |>.cons _ |>.cons _ |>.cons _ |>.cons_cons _ |>.cons_cons _ |>.cons_cons _ |>.cons_cons _)
    exact bodyPost_ret (v := .tuple #[.agg #[.int .i64 a, .int .i64 b, .int .i64 c, .int .i64 dd, .int .i64 ee], .agg #[.slice B0 ts.length e0, .slice (some ⟨gk, 0, none⟩) ks.length e1, .slice B2 fs.length e2, .int .i64 tn, .bool st]]) (by simp [results, Tryz.results39, go_sem, Af, Ag, Ac, Aj, Ab, Ae, Ai, Ad, Ah, Aa]) rfl ⟨a, b, c, dd, ee, ts, ks.set 0 u, fs, tn, st, B0, some ⟨gk, 0, none⟩, B2, e0, e1, e2, _, _, _, _, rfl, rfl, by simp, rfl, by omega, by omega, by omega, hc, M⟩
  ·by_cases hk0 : fs = []
   ·subst hk0
    replace M : Sep [g] w W8 [rT ts.length B0 e0 ts, rK ks.length B1 e1 ks, rF 0 B2 e2 [], .blk g 109 cs3, .blk (w.heap.size + 1) 30 #[.slice none 0 0, .slice none 0 0, .slice none 0 0, .int .i64 0, .bool false], .blk (w.heap.size) 25 #[.int .i64 0, .int .i64 0, .int .i64 0, .int .i64 0, .int .i64 0], .blk (yb) 30 #[.slice B0 ts.length e0, .slice B1 ks.length e1, .slice B2 0 e2, .int .i64 tn, .bool st], .blk (pb) 25 #[.int .i64 a, .int .i64 b, .int .i64 c, .int .i64 dd, .int .i64 ee]] := M
    obtain ⟨tR, Ae, Ai, Ad, Ah, Aa⟩ := M.q5 4 rfl
    obtain ⟨tQ, Af, Ag, Ac, Aj, Ab⟩ := M.q5 5 rfl
    obtain ⟨tY, Am, Al, Ao, An, Ak⟩ := M.q5 6 rfl
    obtain ⟨tP, Ap, Ar, Aq, At, As⟩ := M.q5 7 rfl
    go_wp2_with fail
    clear tR Ae Ai Ad Ah Aa tQ Af Ag Ac Aj Ab tY Am Al Ao An Ak tP Ap Ar Aq At As
    refine wp_region_T (S := (fun w' => w'.cell? ⟨pb, 0, none⟩ = some (.int .i64 a) ∧ w'.cell? ⟨pb, 1, none⟩ = some (.int .i64 b) ∧ w'.cell? ⟨pb, 2, none⟩ = some (.int .i64 c) ∧ w'.cell? ⟨pb, 3, none⟩ = some (.int .i64 dd) ∧ w'.cell? ⟨pb, 4, none⟩ = some (.int .i64 ee) ∧ w'.cell? ⟨yb, 0, none⟩ = some (.slice B0 ts.length e0) ∧ w'.cell? ⟨yb, 1, none⟩ = some (.slice B1 ks.length e1) ∧ w'.cell? ⟨yb, 2, none⟩ = some (.slice B2 0 e2) ∧ w'.cell? ⟨yb, 3, none⟩ = some (.int .i64 tn) ∧ w'.cell? ⟨yb, 4, none⟩ = some (.bool st))) (ks := [3]) (by kernel_rfl) ⟨M.cell 7 0 rfl, M.cell 7 1 rfl, M.cell 7 2 rfl, M.cell 7 3 rfl, M.cell 7 4 rfl, M.cell 6 0 rfl, M.cell 6 1 rfl, M.cell 6 2 rfl, M.cell 6 3 rfl, M.cell 6 4 rfl⟩ (fun hHeld => ?_)
    replace M := M.drew
    generalize W8.drew = W9 at M hHeld ⊢
    refine tkL 0 ?v0u26 rfl ?hy0u26 hHeld ?_
    case hy0u26 => (intro w hSw; (try dsimp only at hSw); go_split_ands; go_simp; all_goals with_reducible rfl)
    try simp only [Act.put, List.setIfInBounds_toArray, List.set_cons_zero, List.set_cons_succ]
    refine tkL 1 ?v1u27 rfl ?hy1u27 hHeld ?_
    case hy1u27 => (intro w hSw; (try dsimp only at hSw); go_split_ands; go_simp; all_goals with_reducible rfl)
    try simp only [Act.put, List.setIfInBounds_toArray, List.set_cons_zero, List.set_cons_succ]
    obtain ⟨tQ, Af, Av, Ag, Ay, Ac, Au, Aj, Aw, Ab, Bd⟩ := M.f5 5 rfl
    refine wpAnyT_callL (i := 2) rfl (by kernel_rfl) (fun K hK => ?_)
    go_simp
    clear tQ Af Av Ag Ay Ac Au Aj Aw Ab Bd
    have N := M.gset5 5 rfl (.int .i64 a) (.int .i64 b) (.int .i64 c) (.int .i64 dd) (.int .i64 ee)
    clear M
    obtain ⟨W10, eW, M⟩ := N
    rw [eW]
    clear eW
    simp only [List.set_cons_zero, List.set_cons_succ] at M
    clear hHeld
    refine hK.out _ _ ?_ (fun hHeld => ?_)
    ·exact ⟨M.cell 7 0 rfl, M.cell 7 1 rfl, M.cell 7 2 rfl, M.cell 7 3 rfl, M.cell 7 4 rfl, M.cell 6 0 rfl, M.cell 6 1 rfl, M.cell 6 2 rfl, M.cell 6 3 rfl, M.cell 6 4 rfl⟩
    clear hK K
    try simp only [Act.put, List.setIfInBounds_toArray, List.set_cons_zero, List.set_cons_succ]
    obtain ⟨tR, Ae, Bb, Ai, Az, Ad, Ax, Ah, Bc, Aa, Ba⟩ := M.f5 4 rfl
    refine wpAnyT_oneL (i := 3) rfl (by kernel_rfl) (by kernel_rfl) (fun K hK => ?_)
    go_simp
    refine hK.out _ _ ?_
    clear hK K
    try simp only [Act.put, List.setIfInBounds_toArray, List.set_cons_zero, List.set_cons_succ]
    clear tR Ae Bb Ai Az Ad Ax Ah Bc Aa Ba
    have N := M.gset5 4 rfl (.slice B0 ts.length e0) (.slice B1 ks.length e1) (.slice B2 0 e2) (.int .i64 tn) (.bool st)
    clear M
    obtain ⟨W11, eW, M⟩ := N
    rw [eW]
    clear eW
    simp only [List.set_cons_zero, List.set_cons_succ] at M
    refine wpAnyT_done (by kernel_rfl) ?_ _
    go_wp2_with fail
    obtain ⟨tR, Ae, Ai, Ad, Ah, Aa⟩ := M.q5 4 rfl
    obtain ⟨tQ, Af, Ag, Ac, Aj, Ab⟩ := M.q5 5 rfl
    replace M := M.sub ((List.Sublist.slnil) |>.cons _ |>.cons _ |>.cons _ |>.cons _ |>.cons_cons _ |>.cons_cons _ |>.cons_cons _ |>.cons_cons _)
    exact bodyPost_ret (v := .tuple #[.agg #[.int .i64 a, .int .i64 b, .int .i64 c, .int .i64 dd, .int .i64 ee], .agg #[.slice B0 ts.length e0, .slice B1 ks.length e1, .slice B2 0 e2, .int .i64 tn, .bool st]]) (by simp [results, Tryz.results39, go_sem, Af, Ag, Ac, Aj, Ab, Ae, Ai, Ad, Ah, Aa]) rfl ⟨a, b, c, dd, ee, ts, ks, [], tn, st, B0, B1, B2, e0, e1, e2, _, _, _, _, rfl, rfl, rfl, rfl, by omega, by omega, by omega, hc, M⟩
   ·have hkn : 0 < fs.length := List.length_pos_iff.2 hk0
    have hki : (0 : Int) < (fs.length : Int) := by omega
    clear hk0
    have hrK : (rF fs.length B2 e2 fs).here W8 := M.rowAt 2 rfl
    obtain ⟨gk, rfl, hgl, hfz⟩ := rF_form hrK hkn
    clear hrK hfz
    obtain ⟨tR, Ae, Ai, Ad, Ah, Aa⟩ := M.q5 4 rfl
    obtain ⟨tQ, Af, Ag, Ac, Aj, Ab⟩ := M.q5 5 rfl
    obtain ⟨tY, Am, Al, Ao, An, Ak⟩ := M.q5 6 rfl
    obtain ⟨tP, Ap, Ar, Aq, At, As⟩ := M.q5 7 rfl
    go_wp2_with fail
    clear tR Ae Ai Ad Ah Aa tQ Af Ag Ac Aj Ab tY Am Al Ao An Ak tP Ap Ar Aq At As
    refine wp_region_T (S := (fun w' => w'.cell? ⟨pb, 0, none⟩ = some (.int .i64 a) ∧ w'.cell? ⟨pb, 1, none⟩ = some (.int .i64 b) ∧ w'.cell? ⟨pb, 2, none⟩ = some (.int .i64 c) ∧ w'.cell? ⟨pb, 3, none⟩ = some (.int .i64 dd) ∧ w'.cell? ⟨pb, 4, none⟩ = some (.int .i64 ee) ∧ w'.cell? ⟨yb, 0, none⟩ = some (.slice B0 ts.length e0) ∧ w'.cell? ⟨yb, 1, none⟩ = some (.slice B1 ks.length e1) ∧ w'.cell? ⟨yb, 2, none⟩ = some (.slice (some ⟨gk, 0, none⟩) fs.length e2) ∧ w'.cell? ⟨yb, 3, none⟩ = some (.int .i64 tn) ∧ w'.cell? ⟨yb, 4, none⟩ = some (.bool st))) (ks := [6]) (by kernel_rfl) ⟨M.cell 7 0 rfl, M.cell 7 1 rfl, M.cell 7 2 rfl, M.cell 7 3 rfl, M.cell 7 4 rfl, M.cell 6 0 rfl, M.cell 6 1 rfl, M.cell 6 2 rfl, M.cell 6 3 rfl, M.cell 6 4 rfl⟩ (fun hHeld => ?_)
    replace M := M.drew
    generalize W8.drew = W12 at M hHeld ⊢
    refine tkY 0 ?v0u28 rfl ?hy0u28 (fun _ => hHeld) ?_
    case hy0u28 => (intro w; go_simp; all_goals with_reducible rfl)
    try simp only [Act.put, List.setIfInBounds_toArray, List.set_cons_zero, List.set_cons_succ]
    refine tkL 1 ?v1u29 rfl ?hy1u29 hHeld ?_
    case hy1u29 => (intro w hSw; (try dsimp only at hSw); go_split_ands; go_simp; all_goals with_reducible rfl)
    try simp only [Act.put, List.setIfInBounds_toArray, List.set_cons_zero, List.set_cons_succ]
    refine tkY 2 ?v2u30 rfl ?hy2u30 (fun _ => hHeld) ?_
    case hy2u30 => (intro w; go_simp; all_goals with_reducible rfl)
    try simp only [Act.put, List.setIfInBounds_toArray, List.set_cons_zero, List.set_cons_succ]
    refine wpAnyT_callL (i := 3) rfl (by kernel_rfl) (fun K hK => ?_)
    go_simp
    refine Calls.mono (by with_reducible exact (l1Num_any B _ g A len cap 9999 (by omega) (by omega) (M.curAt 3 rfl d0 hc))) ?_
    rintro r W13 ⟨u, rfl, hu1, gg, d⟩
    have MM := M.curMoved 3 rfl gg d
    clear M hc gg d
    obtain ⟨cs4, hc, M⟩ := MM
    simp only [List.set_cons_zero, List.set_cons_succ] at M
    clear hHeld
    go_wp2_with fail
    refine hK.out _ _ ?_ (fun hHeld => ?_)
    ·exact ⟨M.cell 7 0 rfl, M.cell 7 1 rfl, M.cell 7 2 rfl, M.cell 7 3 rfl, M.cell 7 4 rfl, M.cell 6 0 rfl, M.cell 6 1 rfl, M.cell 6 2 rfl, M.cell 6 3 rfl, M.cell 6 4 rfl⟩
    clear hK K
    try simp only [Act.put, List.setIfInBounds_toArray, List.set_cons_zero, List.set_cons_succ]
    refine tkY 4 ?v4u31 rfl ?hy4u31 (fun _ => hHeld) ?_
    case hy4u31 => (intro w; go_simp; all_goals with_reducible rfl)
    try simp only [Act.put, List.setIfInBounds_toArray, List.set_cons_zero, List.set_cons_succ]
    refine tkY 5 ?v5u32 rfl ?hy5u32 (fun _ => hHeld) ?_
    case hy5u32 => (intro w; go_simp; all_goals with_reducible rfl)
    try simp only [Act.put, List.setIfInBounds_toArray, List.set_cons_zero, List.set_cons_succ]
    have fzk : W13.frozen? ⟨gk, 1, none⟩ = false := Own.fz (M.rowAt 2 rfl) 1
    obtain ⟨⟨fb, fv⟩, hku⟩ : ∃ ku, fs[0]? = some ku := ⟨_, List.getElem?_eq_getElem hkn⟩
    have qk : W13.cell? ⟨gk, 1, none⟩ = some (.int .i64 fv) := by
     obtain ⟨b', off, x0, x1, e', _, he, hb', z0, z1⟩ := (M.rowS 2 rfl).fs_at hkn
     injection e' with e'; injection e' with e1 e2; subst e1 e2
     rw [hku] at he; injection he with he; injection he with he1 he2; subst he1 he2
     simpa using z1
    refine wpAnyT_oneL (i := 6) rfl (by kernel_rfl) (by kernel_rfl) (fun K hK => ?_)
    go_simp
    refine hK.out _ _ ?_
    clear hK K
    try simp only [Act.put, List.setIfInBounds_toArray, List.set_cons_zero, List.set_cons_succ]
    replace M : Sep [g] w (W13.setCell ⟨gk, 1, none⟩ (.int .i64 u)) [rT ts.length B0 e0 ts, rK ks.length B1 e1 ks, rF fs.length (some ⟨gk, 0, none⟩) e2 (fs.set 0 ⟨fb, u⟩), .blk g 109 cs4, .blk (w.heap.size + 1) 30 #[.slice none 0 0, .slice none 0 0, .slice none 0 0, .int .i64 0, .bool false], .blk (w.heap.size) 25 #[.int .i64 0, .int .i64 0, .int .i64 0, .int .i64 0, .int .i64 0], .blk (yb) 30 #[.slice B0 ts.length e0, .slice B1 ks.length e1, .slice (some ⟨gk, 0, none⟩) fs.length e2, .int .i64 tn, .bool st], .blk (pb) 25 #[.int .i64 a, .int .i64 b, .int .i64 c, .int .i64 dd, .int .i64 ee]] := M.putF1 2 rfl hku u
    generalize W13.setCell ⟨gk, 1, none⟩ (.int .i64 u) = W14 at M ⊢
    clear fzk qk hku
    refine wpAnyT_done (by kernel_rfl) ?_ _
    obtain ⟨tR, Ae, Ai, Ad, Ah, Aa⟩ := M.q5 4 rfl
    obtain ⟨tQ, Af, Ag, Ac, Aj, Ab⟩ := M.q5 5 rfl
    obtain ⟨tY, Am, Al, Ao, An, Ak⟩ := M.q5 6 rfl
    obtain ⟨tP, Ap, Ar, Aq, At, As⟩ := M.q5 7 rfl
    go_wp2_with fail
    clear tR Ae Ai Ad Ah Aa tQ Af Ag Ac Aj Ab tY Am Al Ao An Ak tP Ap Ar Aq At As
    refine wp_region_T (S := (fun w' => w'.cell? ⟨pb, 0, none⟩ = some (.int .i64 a) ∧ w'.cell? ⟨pb, 1, none⟩ = some (.int .i64 b) ∧ w'.cell? ⟨pb, 2, none⟩ = some (.int .i64 c) ∧ w'.cell? ⟨pb, 3, none⟩ = some (.int .i64 dd) ∧ w'.cell? ⟨pb, 4, none⟩ = some (.int .i64 ee) ∧ w'.cell? ⟨yb, 0, none⟩ = some (.slice B0 ts.length e0) ∧ w'.cell? ⟨yb, 1, none⟩ = some (.slice B1 ks.length e1) ∧ w'.cell? ⟨yb, 2, none⟩ = some (.slice (some ⟨gk, 0, none⟩) fs.length e2) ∧ w'.cell? ⟨yb, 3, none⟩ = some (.int .i64 tn) ∧ w'.cell? ⟨yb, 4, none⟩ = some (.bool st))) (ks := [3]) (by kernel_rfl) ⟨M.cell 7 0 rfl, M.cell 7 1 rfl, M.cell 7 2 rfl, M.cell 7 3 rfl, M.cell 7 4 rfl, M.cell 6 0 rfl, M.cell 6 1 rfl, M.cell 6 2 rfl, M.cell 6 3 rfl, M.cell 6 4 rfl⟩ (fun hHeld => ?_)
    replace M := M.drew
    generalize W14.drew = W15 at M hHeld ⊢
    refine tkL 0 ?v0u33 rfl ?hy0u33 hHeld ?_
    case hy0u33 => (intro w hSw; (try dsimp only at hSw); go_split_ands; go_simp; all_goals with_reducible rfl)
    try simp only [Act.put, List.setIfInBounds_toArray, List.set_cons_zero, List.set_cons_succ]
    refine tkL 1 ?v1u34 rfl ?hy1u34 hHeld ?_
    case hy1u34 => (intro w hSw; (try dsimp only at hSw); go_split_ands; go_simp; all_goals with_reducible rfl)
    try simp only [Act.put, List.setIfInBounds_toArray, List.set_cons_zero, List.set_cons_succ]
    obtain ⟨tQ, Af, Av, Ag, Ay, Ac, Au, Aj, Aw, Ab, Bd⟩ := M.f5 5 rfl
    refine wpAnyT_callL (i := 2) rfl (by kernel_rfl) (fun K hK => ?_)
    go_simp
    clear tQ Af Av Ag Ay Ac Au Aj Aw Ab Bd
    have N := M.gset5 5 rfl (.int .i64 a) (.int .i64 b) (.int .i64 c) (.int .i64 dd) (.int .i64 ee)
    clear M
    obtain ⟨W16, eW, M⟩ := N
    rw [eW]
    clear eW
    simp only [List.set_cons_zero, List.set_cons_succ] at M
    clear hHeld
    refine hK.out _ _ ?_ (fun hHeld => ?_)
    ·exact ⟨M.cell 7 0 rfl, M.cell 7 1 rfl, M.cell 7 2 rfl, M.cell 7 3 rfl, M.cell 7 4 rfl, M.cell 6 0 rfl, M.cell 6 1 rfl, M.cell 6 2 rfl, M.cell 6 3 rfl, M.cell 6 4 rfl⟩
    clear hK K
    try simp only [Act.put, List.setIfInBounds_toArray, List.set_cons_zero, List.set_cons_succ]
    obtain ⟨tR, Ae, Bb, Ai, Az, Ad, Ax, Ah, Bc, Aa, Ba⟩ := M.f5 4 rfl
    refine wpAnyT_oneL (i := 3) rfl (by kernel_rfl) (by kernel_rfl) (fun K hK => ?_)
    go_simp
    refine hK.out _ _ ?_
    clear hK K
    try simp only [Act.put, List.setIfInBounds_toArray, List.set_cons_zero, List.set_cons_succ]
    clear tR Ae Bb Ai Az Ad Ax Ah Bc Aa Ba
    have N := M.gset5 4 rfl (.slice B0 ts.length e0) (.slice B1 ks.length e1) (.slice (some ⟨gk, 0, none⟩) fs.length e2) (.int .i64 tn) (.bool st)
    clear M
    obtain ⟨W17, eW, M⟩ := N
    rw [eW]
    clear eW
    simp only [List.set_cons_zero, List.set_cons_succ] at M
    refine wpAnyT_done (by kernel_rfl) ?_ _
    go_wp2_with fail
    obtain ⟨tR, Ae, Ai, Ad, Ah, Aa⟩ := M.q5 4 rfl
    obtain ⟨tQ, Af, Ag, Ac, Aj, Ab⟩ := M.q5 5 rfl
    replace M := M.sub ((List.Sublist.slnil) |>.cons _ |>.cons _ |>.cons _ |>.cons _ |>.cons_cons _ |>.cons_cons _ |>.cons_cons _ |>.cons_cons _)
    exact bodyPost_ret (v := .tuple #[.agg #[.int .i64 a, .int .i64 b, .int .i64 c, .int .i64 dd, .int .i64 ee], .agg #[.slice B0 ts.length e0, .slice B1 ks.length e1, .slice (some ⟨gk, 0, none⟩) fs.length e2, .int .i64 tn, .bool st]]) (by simp [results, Tryz.results39, go_sem, Af, Ag, Ac, Aj, Ab, Ae, Ai, Ad, Ah, Aa]) rfl ⟨a, b, c, dd, ee, ts, ks, fs.set 0 ⟨fb, u⟩, tn, st, B0, B1, some ⟨gk, 0, none⟩, e0, e1, e2, _, _, _, _, rfl, rfl, rfl, by simp, by omega, by omega, by omega, hc, M⟩
  ·obtain ⟨tR, Ae, Bb, Ai, Az, Ad, Ax, Ah, Bc, Aa, Ba⟩ := M.f5 4 rfl
   obtain ⟨tQ, Af, Av, Ag, Ay, Ac, Au, Aj, Aw, Ab, Bd⟩ := M.f5 5 rfl
   obtain ⟨tY, Am, Bi, Al, Bh, Ao, Bg, An, Be, Ak, Bf⟩ := M.f5 6 rfl
   obtain ⟨tP, Ap, Bl, Ar, Bm, Aq, Bj, At, Bk, As, Bn⟩ := M.f5 7 rfl
   go_wp2_with fail
   go_call (l1DrawAny_any B _ g A len cap (M.curAt 3 rfl d0 hc)) as r W9 ⟨pa, pb2, pc, pd, pe, rfl, hs1, hs2, hs3, hs4, hs5, gg, d⟩
   clear tR Ae Bb Ai Az Ad Ax Ah Bc Aa Ba tQ Af Av Ag Ay Ac Au Aj Aw Ab Bd tY Am Bi Al Bh Ao Bg An Be Ak Bf tP Ap Bl Ar Bm Aq Bj At Bk As Bn
   have MM := M.curMoved 3 rfl gg d
   clear M hc gg d
   obtain ⟨cs4, hc, M⟩ := MM
   simp only [List.set_cons_zero, List.set_cons_succ] at M
   obtain ⟨tR, Ae, Bb, Ai, Az, Ad, Ax, Ah, Bc, Aa, Ba⟩ := M.f5 4 rfl
   obtain ⟨tQ, Af, Av, Ag, Ay, Ac, Au, Aj, Aw, Ab, Bd⟩ := M.f5 5 rfl
   obtain ⟨tY, Am, Bi, Al, Bh, Ao, Bg, An, Be, Ak, Bf⟩ := M.f5 6 rfl
   obtain ⟨tP, Ap, Bl, Ar, Bm, Aq, Bj, At, Bk, As, Bn⟩ := M.f5 7 rfl
   go_wp2_with fail
   clear tR Ae Bb Ai Az Ad Ax Ah Bc Aa Ba tQ Af Av Ag Ay Ac Au Aj Aw Ab Bd tY Am Bi Al Bh Ao Bg An Be Ak Bf tP Ap Bl Ar Bm Aq Bj At Bk As Bn
   have N := M.gset5 7 rfl (.int .i64 pa) (.int .i64 pb2) (.int .i64 pc) (.int .i64 pd) (.int .i64 pe)
   clear M
   obtain ⟨W10, eW, M⟩ := N
   rw [eW]
   clear eW
   simp only [List.set_cons_zero, List.set_cons_succ] at M
   obtain ⟨tR, Ae, Ai, Ad, Ah, Aa⟩ := M.q5 4 rfl
   obtain ⟨tQ, Af, Ag, Ac, Aj, Ab⟩ := M.q5 5 rfl
   obtain ⟨tY, Am, Al, Ao, An, Ak⟩ := M.q5 6 rfl
   obtain ⟨tP, Ap, Ar, Aq, At, As⟩ := M.q5 7 rfl
   go_wp2_with fail
   clear tR Ae Ai Ad Ah Aa tQ Af Ag Ac Aj Ab tY Am Al Ao An Ak tP Ap Ar Aq At As
   refine wp_region_T (S := (fun w' => w'.cell? ⟨pb, 0, none⟩ = some (.int .i64 pa) ∧ w'.cell? ⟨pb, 1, none⟩ = some (.int .i64 pb2) ∧ w'.cell? ⟨pb, 2, none⟩ = some (.int .i64 pc) ∧ w'.cell? ⟨pb, 3, none⟩ = some (.int .i64 pd) ∧ w'.cell? ⟨pb, 4, none⟩ = some (.int .i64 pe) ∧ w'.cell? ⟨yb, 0, none⟩ = some (.slice B0 ts.length e0) ∧ w'.cell? ⟨yb, 1, none⟩ = some (.slice B1 ks.length e1) ∧ w'.cell? ⟨yb, 2, none⟩ = some (.slice B2 fs.length e2) ∧ w'.cell? ⟨yb, 3, none⟩ = some (.int .i64 tn) ∧ w'.cell? ⟨yb, 4, none⟩ = some (.bool st))) (ks := [3]) (by kernel_rfl) ⟨M.cell 7 0 rfl, M.cell 7 1 rfl, M.cell 7 2 rfl, M.cell 7 3 rfl, M.cell 7 4 rfl, M.cell 6 0 rfl, M.cell 6 1 rfl, M.cell 6 2 rfl, M.cell 6 3 rfl, M.cell 6 4 rfl⟩ (fun hHeld => ?_)
   replace M := M.drew
   generalize W10.drew = W11 at M hHeld ⊢
   refine tkL 0 ?v0u35 rfl ?hy0u35 hHeld ?_
   case hy0u35 => (intro w hSw; (try dsimp only at hSw); go_split_ands; go_simp; all_goals with_reducible rfl)
   try simp only [Act.put, List.setIfInBounds_toArray, List.set_cons_zero, List.set_cons_succ]
   refine tkL 1 ?v1u36 rfl ?hy1u36 hHeld ?_
   case hy1u36 => (intro w hSw; (try dsimp only at hSw); go_split_ands; go_simp; all_goals with_reducible rfl)
   try simp only [Act.put, List.setIfInBounds_toArray, List.set_cons_zero, List.set_cons_succ]
   obtain ⟨tQ, Af, Av, Ag, Ay, Ac, Au, Aj, Aw, Ab, Bd⟩ := M.f5 5 rfl
   refine wpAnyT_callL (i := 2) rfl (by kernel_rfl) (fun K hK => ?_)
   go_simp
   clear tQ Af Av Ag Ay Ac Au Aj Aw Ab Bd
   have N := M.gset5 5 rfl (.int .i64 pa) (.int .i64 pb2) (.int .i64 pc) (.int .i64 pd) (.int .i64 pe)
   clear M
   obtain ⟨W12, eW, M⟩ := N
   rw [eW]
   clear eW
   simp only [List.set_cons_zero, List.set_cons_succ] at M
   clear hHeld
   refine hK.out _ _ ?_ (fun hHeld => ?_)
   ·exact ⟨M.cell 7 0 rfl, M.cell 7 1 rfl, M.cell 7 2 rfl, M.cell 7 3 rfl, M.cell 7 4 rfl, M.cell 6 0 rfl, M.cell 6 1 rfl, M.cell 6 2 rfl, M.cell 6 3 rfl, M.cell 6 4 rfl⟩
   clear hK K
   try simp only [Act.put, List.setIfInBounds_toArray, List.set_cons_zero, List.set_cons_succ]
   obtain ⟨tR, Ae, Bb, Ai, Az, Ad, Ax, Ah, Bc, Aa, Ba⟩ := M.f5 4 rfl
   refine wpAnyT_oneL (i := 3) rfl (by kernel_rfl) (by kernel_rfl) (fun K hK => ?_)
   go_simp
   refine hK.out _ _ ?_
   clear hK K
   try simp only [Act.put, List.setIfInBounds_toArray, List.set_cons_zero, List.set_cons_succ]
   clear tR Ae Bb Ai Az Ad Ax Ah Bc Aa Ba
   have N := M.gset5 4 rfl (.slice B0 ts.length e0) (.slice B1 ks.length e1) (.slice B2 fs.length e2) (.int .i64 tn) (.bool st)
   clear M
   obtain ⟨W13, eW, M⟩ := N
   rw [eW]
   clear eW
   simp only [List.set_cons_zero, List.set_cons_succ] at M
   refine wpAnyT_done (by kernel_rfl) ?_ _
   go_wp2_with fail
   obtain ⟨tR, Ae, Ai, Ad, Ah, Aa⟩ := M.q5 4 rfl
   obtain ⟨tQ, Af, Ag, Ac, Aj, Ab⟩ := M.q5 5 rfl
   replace M := M.sub ((List.Sublist.slnil) |>.cons _ |>.cons _ |>.cons _ |>.cons _ |>.cons_cons _ |>.cons_cons _ |>.cons_cons _ |>.cons_cons _)
   exact bodyPost_ret (v := .tuple #[.agg #[.int .i64 pa, .int .i64 pb2, .int .i64 pc, .int .i64 pd, .int .i64 pe], .agg #[.slice B0 ts.length e0, .slice B1 ks.length e1, .slice B2 fs.length e2, .int .i64 tn, .bool st]]) (by simp [results, Tryz.results39, go_sem, Af, Ag, Ac, Aj, Ab, Ae, Ai, Ad, Ah, Aa]) rfl ⟨pa, pb2, pc, pd, pe, ts, ks, fs, tn, st, B0, B1, B2, e0, e1, e2, _, _, _, _, rfl, rfl, rfl, rfl, by omega, by omega, by omega, hc, M⟩
end Go.Proofs.YtfjgelegojbmgaaGreat
