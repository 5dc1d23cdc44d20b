import Derived.Test.YtfkdfkoigojciaaGreatDoorQU40
import Derived.Test.YtfkdfkoigojciaaGreatDoorQU41
import Derived.Deep.RegionWith
import Derived.Deep.RegionHeld3

namespace Go.Proofs.YtfkdfkoigojciaaGreatDoor
open Go.RowKit
set_option linter.unusedVariables false
def CGavePool (B : Nat) (w : World) (g : Nat) (A : Option Addr) (len cap : Nat) (r : Ending) (w' : World) : Prop :=
 ∃ (a b c : Int) (dd ee : Nat) (ts : List T7) (ks : List Int) (fs : List F2) (tn : Int) (st : Bool) (B0 B1 B2 : Option Addr) (e0 e1 e2 : Nat) (cs : Array Value), r = .returned (.tuple #[.agg #[.int .i64 a, .int .i64 b, .int .i64 c, .int .i64 dd, .int .i64 ee], .agg #[.slice B0 ts.length e0, .slice B1 ks.length e1, .slice B2 fs.length e2, .int .i64 tn, .bool st]]) ∧ poolB a b c dd ee ts ks fs tn = true ∧ 1 ≤ a ∧ a ≤ 4 ∧ 1 ≤ b ∧ b ≤ 9 ∧ 1 ≤ c ∧ c ≤ 3 ∧ dd ≤ 2 ∧ ee ≤ 2 ∧ curC A len cap cs ∧ Sep [g] w w' [rT ts.length B0 e0 ts, rK ks.length B1 e1 ks, rF fs.length B2 e2 fs, .blk g 143 cs]
set_option maxRecDepth 100000 in
set_option maxHeartbeats 4000000 in
theorem l3Draw_any (B : Nat) (w : World) (g : Nat) (A : Option Addr) (len cap : Nat) (d0 : CurAt B w g A len cap) :
 Calls Tryz.prog 173 #[.pointer (some ⟨g, 0, none⟩)] w (CGavePool B w g A len cap) := by
 have hg := d0.lt
 go_enter Tryz.func173, Tryz.ntmps173
 go_wp2_with fail
 obtain ⟨cs0, hc, M⟩ := cur_start d0
 replace M : Sep [g] w ((w.alloc (.cells #[.int .i64 0, .int .i64 0, .int .i64 0, .int .i64 0, .int .i64 0] 28)).alloc (.cells #[.slice none 0 0, .slice none 0 0, .slice none 0 0, .int .i64 0, .bool false] 35)) [.blk (w.heap.size + 1) 35 #[.slice none 0 0, .slice none 0 0, .slice none 0 0, .int .i64 0, .bool false], .blk (w.heap.size) 28 #[.int .i64 0, .int .i64 0, .int .i64 0, .int .i64 0, .int .i64 0], .blk g 143 cs0] := ((M.alloc 28 #[.int .i64 0, .int .i64 0, .int .i64 0, .int .i64 0, .int .i64 0] (w.heap.size) rfl).alloc 35 #[.slice none 0 0, .slice none 0 0, .slice none 0 0, .int .i64 0, .bool false] (w.heap.size + 1) (by simp))
 generalize (w.alloc (.cells #[.int .i64 0, .int .i64 0, .int .i64 0, .int .i64 0, .int .i64 0] 28)).alloc (.cells #[.slice none 0 0, .slice none 0 0, .slice none 0 0, .int .i64 0, .bool false] 35) = W1 at M ⊢
 obtain ⟨tR, Aj, Ak, Ah, Ar, Af, At, Aa, Aq, Ab, Ap⟩ := M.f5 0 rfl
 obtain ⟨tQ, Ae, As, Ag, Ao, Ai, Am, Ac, An, Ad, Al⟩ := M.f5 1 rfl
 go_wp2_with fail
 go_call (l1DrawPlan_any B _ g A len cap (M.curAt 2 rfl d0 hc)) as r W2 ⟨a, b, c, di, ei, rfl, ha1, ha2, hb1, hb2, hc1, hc2, hd1, hd2, he1, he2, gg, d⟩
 clear tR Aj Ak Ah Ar Af At Aa Aq Ab Ap tQ Ae As Ag Ao Ai Am Ac An Ad Al
 have MM := M.curMoved 2 rfl gg d
 clear M hc gg d
 obtain ⟨cs1, hc, M⟩ := MM
 simp only [zZ, zS] at M
 obtain ⟨dd, rfl⟩ : ∃ n : Nat, di = n := ⟨di.toNat, by omega⟩
 obtain ⟨ee, rfl⟩ : ∃ n : Nat, ei = n := ⟨ei.toNat, by omega⟩
 have HP : Hid (planB a b c dd ee = true) := hide (by simp [planB, btw]; omega)
 obtain ⟨tR, Aj, Ak, Ah, Ar, Af, At, Aa, Aq, Ab, Ap⟩ := M.f5 0 rfl
 obtain ⟨tQ, Ae, As, Ag, Ao, Ai, Am, Ac, An, Ad, Al⟩ := M.f5 1 rfl
 go_wp2_with fail
 clear tR Aj Ak Ah Ar Af At Aa Aq Ab Ap tQ Ae As Ag Ao Ai Am Ac An Ad Al
 replace M := M.galloc 28 #[.int .i64 a, .int .i64 b, .int .i64 c, .int .i64 dd, .int .i64 ee]
 obtain ⟨W3, eW, M⟩ := M
 rw [eW]
 clear eW
 obtain ⟨tP, Aw, Be, Av, Bh, Ay, Bf, Ax, Bi, Au, Bg⟩ := M.f5 0 rfl
 obtain ⟨tR, Aj, Ak, Ah, Ar, Af, At, Aa, Aq, Ab, Ap⟩ := M.f5 1 rfl
 obtain ⟨tQ, Ae, As, Ag, Ao, Ai, Am, Ac, An, Ad, Al⟩ := M.f5 2 rfl
 go_wp2_with fail
 go_call (newPool_s a b c dd ee _ HP.out) as r W4 ⟨ts, ks, fs, tn, st, B0, B1, B2, e0, e1, e2, rfl, hpo, g1⟩
 clear tP Aw Be Av Bh Ay Bf Ax Bi Au Bg tR Aj Ak Ah Ar Af At Aa Aq Ab Ap tQ Ae As Ag Ao Ai Am Ac An Ad Al
 replace M : Sep [g] w W4 [rT ts.length B0 e0 ts, rK ks.length B1 e1 ks, rF fs.length B2 e2 fs, .blk (W2.heap.size) 28 #[.int .i64 a, .int .i64 b, .int .i64 c, .int .i64 dd, .int .i64 ee], .blk (w.heap.size + 1) 35 #[.slice none 0 0, .slice none 0 0, .slice none 0 0, .int .i64 0, .bool false], .blk (w.heap.size) 28 #[.int .i64 0, .int .i64 0, .int .i64 0, .int .i64 0, .int .i64 0], .blk g 143 cs1] := Sep.comp (ps := []) (rs := [.blk (W2.heap.size) 28 #[.int .i64 a, .int .i64 b, .int .i64 c, .int .i64 dd, .int .i64 ee], .blk (w.heap.size + 1) 35 #[.slice none 0 0, .slice none 0 0, .slice none 0 0, .int .i64 0, .bool false], .blk (w.heap.size) 28 #[.int .i64 0, .int .i64 0, .int .i64 0, .int .i64 0, .int .i64 0], .blk g 143 cs1]) M g1
 clear g1
 replace hpo := hide hpo
 obtain ⟨tP, Aw, Be, Av, Bh, Ay, Bf, Ax, Bi, Au, Bg⟩ := M.f5 3 rfl
 obtain ⟨tR, Aj, Ak, Ah, Ar, Af, At, Aa, Aq, Ab, Ap⟩ := M.f5 4 rfl
 obtain ⟨tQ, Ae, As, Ag, Ao, Ai, Am, Ac, An, Ad, Al⟩ := M.f5 5 rfl
 go_wp2_with fail
 clear tP Aw Be Av Bh Ay Bf Ax Bi Au Bg tR Aj Ak Ah Ar Af At Aa Aq Ab Ap tQ Ae As Ag Ao Ai Am Ac An Ad Al
 obtain ⟨yb, hyb⟩ : ∃ yb, yb = W4.heap.size := ⟨_, rfl⟩
 rw [← hyb]
 replace M : Sep [g] w (W4.alloc (.cells #[.slice B0 ts.length e0, .slice B1 ks.length e1, .slice B2 fs.length e2, .int .i64 tn, .bool st] 35)) [.blk (yb) 35 #[.slice B0 ts.length e0, .slice B1 ks.length e1, .slice B2 fs.length e2, .int .i64 tn, .bool st], rT ts.length B0 e0 ts, rK ks.length B1 e1 ks, rF fs.length B2 e2 fs, .blk (W2.heap.size) 28 #[.int .i64 a, .int .i64 b, .int .i64 c, .int .i64 dd, .int .i64 ee], .blk (w.heap.size + 1) 35 #[.slice none 0 0, .slice none 0 0, .slice none 0 0, .int .i64 0, .bool false], .blk (w.heap.size) 28 #[.int .i64 0, .int .i64 0, .int .i64 0, .int .i64 0, .int .i64 0], .blk g 143 cs1] := M.alloc 35 #[.slice B0 ts.length e0, .slice B1 ks.length e1, .slice B2 fs.length e2, .int .i64 tn, .bool st] yb hyb.symm
 generalize W4.alloc (.cells #[.slice B0 ts.length e0, .slice B1 ks.length e1, .slice B2 fs.length e2, .int .i64 tn, .bool st] 35) = W5 at M ⊢
 clear hyb
 replace M : Sep [g] w W5 [rT ts.length B0 e0 ts, rK ks.length B1 e1 ks, rF fs.length B2 e2 fs, .blk (yb) 35 #[.slice B0 ts.length e0, .slice B1 ks.length e1, .slice B2 fs.length e2, .int .i64 tn, .bool st], .blk (W2.heap.size) 28 #[.int .i64 a, .int .i64 b, .int .i64 c, .int .i64 dd, .int .i64 ee], .blk (w.heap.size + 1) 35 #[.slice none 0 0, .slice none 0 0, .slice none 0 0, .int .i64 0, .bool false], .blk (w.heap.size) 28 #[.int .i64 0, .int .i64 0, .int .i64 0, .int .i64 0, .int .i64 0], .blk g 143 cs1] := Sep.back (l1 := [rT ts.length B0 e0 ts, rK ks.length B1 e1 ks, rF fs.length B2 e2 fs]) M
 obtain ⟨pb, hpb⟩ : ∃ pb, pb = W2.heap.size := ⟨_, rfl⟩
 rw [← hpb] at M ⊢
 clear hpb
 obtain ⟨tY, Az, Bl, Bc, Bm, Bd, Bn, Bb, Bj, Ba, Bk⟩ := M.f5 3 rfl
 obtain ⟨tP, Aw, Be, Av, Bh, Ay, Bf, Ax, Bi, Au, Bg⟩ := M.f5 4 rfl
 obtain ⟨tR, Aj, Ak, Ah, Ar, Af, At, Aa, Aq, Ab, Ap⟩ := M.f5 5 rfl
 obtain ⟨tQ, Ae, As, Ag, Ao, Ai, Am, Ac, An, Ad, Al⟩ := M.f5 6 rfl
 go_wp2_with fail
 go_call (l1Below_pos B _ g A len cap 30 (by omega) (by omega) (M.curAt 7 rfl d0 hc)) as r W6 ⟨ni, rfl, ni1, ni2, gg, d⟩
 clear tY Az Bl Bc Bm Bd Bn Bb Bj Ba Bk tP Aw Be Av Bh Ay Bf Ax Bi Au Bg tR Aj Ak Ah Ar Af At Aa Aq Ab Ap tQ Ae As Ag Ao Ai Am Ac An Ad Al
 have MM := M.curMoved 7 rfl gg d
 clear M hc gg d
 obtain ⟨cs2, hc, M⟩ := MM
 simp only [zZ, zS] at M
 obtain ⟨n, rfl⟩ : ∃ n : Nat, ni = n := ⟨ni.toNat, by omega⟩
 have hn : n ≤ 100 := by omega
 clear ni1 ni2
 go_wp2_with fail
 go_loopw [6] (fun i wr => ∃ (m : Nat) (ts : List T7) (ks : List Int) (fs : List F2) (tn : Int) (st : Bool) (B0 B1 B2 : Option Addr) (e0 e1 e2 : Nat) (cs : Array Value), m ≤ 100 ∧ i = .int .i64 m ∧ Hid (poolB a b c dd ee ts ks fs tn = true) ∧ curC A len cap cs ∧ Sep [g] w wr [rT ts.length B0 e0 ts, rK ks.length B1 e1 ks, rF fs.length B2 e2 fs, .blk (yb) 35 #[.slice B0 ts.length e0, .slice B1 ks.length e1, .slice B2 fs.length e2, .int .i64 tn, .bool st], .blk (pb) 28 #[.int .i64 a, .int .i64 b, .int .i64 c, .int .i64 dd, .int .i64 ee], .blk (w.heap.size + 1) 35 #[.slice none 0 0, .slice none 0 0, .slice none 0 0, .int .i64 0, .bool false], .blk (w.heap.size) 28 #[.int .i64 0, .int .i64 0, .int .i64 0, .int .i64 0, .int .i64 0], .blk g 143 cs]) (fun i _ => (intOf i).toNat)
 case atStart => exact ⟨n, ts, ks, fs, tn, st, B0, B1, B2, e0, e1, e2, _, hn, rfl, hpo, hc, M⟩
 case round =>
  clear M hc hpo
  obtain ⟨m, ts, ks, fs, tn, st, B0, B1, B2, e0, e1, e2, cs, hm, rfl, hpo, hc, M⟩ := hrel
  by_cases hm0 : 0 < m
  ·have hnpos : (0 : Int) < (m : Int) := by omega
   obtain ⟨tY, Az, Bc, Bd, Bb, Ba⟩ := M.q5 3 rfl
   obtain ⟨tP, Aw, Av, Ay, Ax, Au⟩ := M.q5 4 rfl
   obtain ⟨tR, Aj, Ah, Af, Aa, Ab⟩ := M.q5 5 rfl
   obtain ⟨tQ, Ae, Ag, Ai, Ac, Ad⟩ := M.q5 6 rfl
   go_wp2_with fail
   clear tY Az Bc Bd Bb Ba tP Aw Av Ay Ax Au tR Aj Ah Af Aa Ab tQ Ae Ag Ai Ac Ad
   refine wp_region_T (S := (fun w' => w'.cell? ⟨pb, 0, none⟩ = some (.int .i64 a) ∧ w'.cell? ⟨pb, 1, none⟩ = some (.int .i64 b) ∧ w'.cell? ⟨pb, 2, none⟩ = some (.int .i64 c) ∧ w'.cell? ⟨pb, 3, none⟩ = some (.int .i64 dd) ∧ w'.cell? ⟨pb, 4, none⟩ = some (.int .i64 ee) ∧ w'.cell? ⟨yb, 0, none⟩ = some (.slice B0 ts.length e0) ∧ w'.cell? ⟨yb, 1, none⟩ = some (.slice B1 ks.length e1) ∧ w'.cell? ⟨yb, 2, none⟩ = some (.slice B2 fs.length e2) ∧ w'.cell? ⟨yb, 3, none⟩ = some (.int .i64 tn) ∧ w'.cell? ⟨yb, 4, none⟩ = some (.bool st))) (ks := [13]) (by kernel_rfl) ⟨M.cell 4 0 rfl, M.cell 4 1 rfl, M.cell 4 2 rfl, M.cell 4 3 rfl, M.cell 4 4 rfl, M.cell 3 0 rfl, M.cell 3 1 rfl, M.cell 3 2 rfl, M.cell 3 3 rfl, M.cell 3 4 rfl⟩ (fun hHeld => ?_)
   replace M := M.drew
   generalize wr.drew = W7 at M hHeld ⊢
   refine tkLa 0 _ rfl hHeld ?_
   try simp only [Act.put, zI, zZ, zS]
   refine tkLa 1 _ rfl hHeld ?_
   try simp only [Act.put, zI, zZ, zS]
   refine tkYa 2 _ rfl (fun _ => hHeld) ?_
   try simp only [Act.put, zI, zZ, zS]
   refine tkYa 6 _ rfl (fun _ => hHeld) ?_
   try simp only [Act.put, zI, zZ, zS]
   refine tkYa 3 _ rfl (fun _ => hHeld) ?_
   try simp only [Act.put, zI, zZ, zS]
   refine tkLa 4 _ rfl hHeld ?_
   try simp only [Act.put, zI, zZ, zS]
   refine tkLa 7 _ rfl hHeld ?_
   try simp only [Act.put, zI, zZ, zS]
   refine wpAnyT_callL (i := 5) rfl (by kernel_rfl) (fun K hK => ?_)
   go_simp
   refine Calls.mono (by with_reducible exact (l1Below_pos B _ g A len cap a (by omega) (by omega) (M.curAt 7 rfl d0 hc))) ?_
   rintro r W8 ⟨wk, rfl, wk1, wk2, gg, d⟩
   have MM := M.curMoved 7 rfl gg d
   clear M hc gg d
   obtain ⟨cs3, hc, M⟩ := MM
   simp only [zZ, zS] at M
   clear hHeld
   go_wp2_with fail
   refine hK.out _ _ ?_ (fun hHeld => ?_)
   ·exact M.c10 4 3 rfl rfl
   clear hK K
   try simp only [Act.put, zI, zZ, zS]
   refine wpAnyT_callL (i := 8) rfl (by kernel_rfl) (fun K hK => ?_)
   go_simp
   refine Calls.mono (by with_reducible exact (l10Draw_any B _ g A len cap a b c dd ee (by omega) (by omega) (M.curAt 7 rfl d0 hc))) ?_
   rintro r W9 ⟨k, xx, yy, rfl, gg, d⟩
   have MM := M.curMoved 7 rfl gg d
   clear M hc gg d
   obtain ⟨cs4, hc, M⟩ := MM
   simp only [zZ, zS] at M
   clear hHeld
   go_wp2_with fail
   refine hK.out _ _ ?_ (fun hHeld => ?_)
   ·exact M.c10 4 3 rfl rfl
   clear hK K
   try simp only [Act.put, zI, zZ, zS]
   have hAp := applied_s a b c dd ee ts ks fs B0 B1 B2 e0 e1 e2 tn st wk k xx yy _ hpo.out ⟨M.rowS 0 rfl, M.rowS 1 rfl, M.rowS 2 rfl⟩
   refine wpAnyT_callL (i := 9) rfl (by kernel_rfl) (fun K hK => ?_)
   go_simp
   refine Calls.mono (by with_reducible exact hAp) ?_
   clear hAp
   rintro r W10 ⟨ts2, ks2, fs2, tn2, st2, rp, ou, C0, C1, C2, f0, f1, f2, rfl, hpo2, g1⟩
   replace hpo2 := hide hpo2
   replace M : Sep [g] w W10 [rT ts2.length C0 f0 ts2, rK ks2.length C1 f1 ks2, rF fs2.length C2 f2 fs2, rT ts.length B0 e0 ts, rK ks.length B1 e1 ks, rF fs.length B2 e2 fs, .blk (yb) 35 #[.slice B0 ts.length e0, .slice B1 ks.length e1, .slice B2 fs.length e2, .int .i64 tn, .bool st], .blk (pb) 28 #[.int .i64 a, .int .i64 b, .int .i64 c, .int .i64 dd, .int .i64 ee], .blk (w.heap.size + 1) 35 #[.slice none 0 0, .slice none 0 0, .slice none 0 0, .int .i64 0, .bool false], .blk (w.heap.size) 28 #[.int .i64 0, .int .i64 0, .int .i64 0, .int .i64 0, .int .i64 0], .blk g 143 cs4] := Sep.comp (ps := []) (rs := [rT ts.length B0 e0 ts, rK ks.length B1 e1 ks, rF fs.length B2 e2 fs, .blk (yb) 35 #[.slice B0 ts.length e0, .slice B1 ks.length e1, .slice B2 fs.length e2, .int .i64 tn, .bool st], .blk (pb) 28 #[.int .i64 a, .int .i64 b, .int .i64 c, .int .i64 dd, .int .i64 ee], .blk (w.heap.size + 1) 35 #[.slice none 0 0, .slice none 0 0, .slice none 0 0, .int .i64 0, .bool false], .blk (w.heap.size) 28 #[.int .i64 0, .int .i64 0, .int .i64 0, .int .i64 0, .int .i64 0], .blk g 143 cs4]) M g1
   clear g1 hHeld
   go_wp2_with fail
   refine hK.out _ _ ?_ (fun hHeld => ?_)
   ·exact M.c10 7 6 rfl rfl
   clear hK K
   try simp only [Act.put, zI, zZ, zS]
   refine tkYa 10 _ rfl (fun _ => hHeld) ?_
   try simp only [Act.put, zI, zZ, zS]
   refine tkYa 11 _ rfl (fun _ => hHeld) ?_
   try simp only [Act.put, zI, zZ, zS]
   refine tkYa 12 _ rfl (fun _ => hHeld) ?_
   try simp only [Act.put, zI, zZ, zS]
   obtain ⟨tY, Az, Bl, Bc, Bm, Bd, Bn, Bb, Bj, Ba, Bk⟩ := M.f5 6 rfl
   refine wpAnyT_oneL (i := 13) rfl (by kernel_rfl) (by kernel_rfl) (fun K hK => ?_)
   go_simp
   refine hK.out _ _ ?_
   clear hK K
   try simp only [Act.put, zI, zZ, zS]
   clear tY Az Bl Bc Bm Bd Bn Bb Bj Ba Bk
   replace M := M.gset5 6 rfl (.slice C0 ts2.length f0) (.slice C1 ks2.length f1) (.slice C2 fs2.length f2) (.int .i64 tn2) (.bool st2)
   obtain ⟨W11, eW, M⟩ := M
   rw [eW]
   clear eW
   simp only [zZ, zS] at M
   refine wpAnyT_done (by kernel_rfl) ?_ _
   replace M := M.sub ((List.Sublist.slnil) |>.cons_cons _ |>.cons_cons _ |>.cons_cons _ |>.cons_cons _ |>.cons_cons _ |>.cons _ |>.cons _ |>.cons _ |>.cons_cons _ |>.cons_cons _ |>.cons_cons _)
   go_wp2_with fail
   go_roundw
   ·exact ⟨m - 1, ts2, ks2, fs2, tn2, st2, C0, C1, C2, f0, f1, f2, _, by omega, by go_num, hpo2, hc, M⟩
   ·simp [intOf]; omega
  ·obtain rfl : m = 0 := by omega
   obtain ⟨tY, Az, Bc, Bd, Bb, Ba⟩ := M.q5 3 rfl
   obtain ⟨tP, Aw, Av, Ay, Ax, Au⟩ := M.q5 4 rfl
   obtain ⟨tR, Aj, Ah, Af, Aa, Ab⟩ := M.q5 5 rfl
   obtain ⟨tQ, Ae, Ag, Ai, Ac, Ad⟩ := M.q5 6 rfl
   go_wp2_with fail
   clear tY Az Bc Bd Bb Ba tP Aw Av Ay Ax Au tR Aj Ah Af Aa Ab tQ Ae Ag Ai Ac Ad
   refine wp_region_T (S := (fun w' => w'.cell? ⟨pb, 0, none⟩ = some (.int .i64 a) ∧ w'.cell? ⟨pb, 1, none⟩ = some (.int .i64 b) ∧ w'.cell? ⟨pb, 2, none⟩ = some (.int .i64 c) ∧ w'.cell? ⟨pb, 3, none⟩ = some (.int .i64 dd) ∧ w'.cell? ⟨pb, 4, none⟩ = some (.int .i64 ee) ∧ w'.cell? ⟨yb, 0, none⟩ = some (.slice B0 ts.length e0) ∧ w'.cell? ⟨yb, 1, none⟩ = some (.slice B1 ks.length e1) ∧ w'.cell? ⟨yb, 2, none⟩ = some (.slice B2 fs.length e2) ∧ w'.cell? ⟨yb, 3, none⟩ = some (.int .i64 tn) ∧ w'.cell? ⟨yb, 4, none⟩ = some (.bool st))) (ks := [3]) (by kernel_rfl) ⟨M.cell 4 0 rfl, M.cell 4 1 rfl, M.cell 4 2 rfl, M.cell 4 3 rfl, M.cell 4 4 rfl, M.cell 3 0 rfl, M.cell 3 1 rfl, M.cell 3 2 rfl, M.cell 3 3 rfl, M.cell 3 4 rfl⟩ (fun hHeld => ?_)
   replace M := M.drew
   generalize wr.drew = W7 at M hHeld ⊢
   refine tkLa 0 _ rfl hHeld ?_
   try simp only [Act.put, zI, zZ, zS]
   refine tkLa 1 _ rfl hHeld ?_
   try simp only [Act.put, zI, zZ, zS]
   obtain ⟨tQ, Ae, As, Ag, Ao, Ai, Am, Ac, An, Ad, Al⟩ := M.f5 6 rfl
   refine wpAnyT_callL (i := 2) rfl (by kernel_rfl) (fun K hK => ?_)
   go_simp
   clear tQ Ae As Ag Ao Ai Am Ac An Ad Al
   replace M := M.gset5 6 rfl (.int .i64 a) (.int .i64 b) (.int .i64 c) (.int .i64 dd) (.int .i64 ee)
   obtain ⟨W8, eW, M⟩ := M
   rw [eW]
   clear eW
   simp only [zZ, zS] at M
   clear hHeld
   refine hK.out _ _ ?_ (fun hHeld => ?_)
   ·exact M.c10 4 3 rfl rfl
   clear hK K
   try simp only [Act.put, zI, zZ, zS]
   obtain ⟨tR, Aj, Ak, Ah, Ar, Af, At, Aa, Aq, Ab, Ap⟩ := M.f5 5 rfl
   refine wpAnyT_oneL (i := 3) rfl (by kernel_rfl) (by kernel_rfl) (fun K hK => ?_)
   go_simp
   refine hK.out _ _ ?_
   clear hK K
   try simp only [Act.put, zI, zZ, zS]
   clear tR Aj Ak Ah Ar Af At Aa Aq Ab Ap
   replace M := M.gset5 5 rfl (.slice B0 ts.length e0) (.slice B1 ks.length e1) (.slice B2 fs.length e2) (.int .i64 tn) (.bool st)
   obtain ⟨W9, eW, M⟩ := M
   rw [eW]
   clear eW
   simp only [zZ, zS] at M
   refine wpAnyT_done (by kernel_rfl) ?_ _
   go_wp2_with fail
   obtain ⟨tR, Aj, Ah, Af, Aa, Ab⟩ := M.q5 5 rfl
   obtain ⟨tQ, Ae, Ag, Ai, Ac, Ad⟩ := M.q5 6 rfl
   replace M := M.sub ((List.Sublist.slnil) |>.cons_cons _ |>.cons _ |>.cons _ |>.cons _ |>.cons _ |>.cons_cons _ |>.cons_cons _ |>.cons_cons _)
   exact bodyPost_ret (v := .tuple #[.agg #[.int .i64 a, .int .i64 b, .int .i64 c, .int .i64 dd, .int .i64 ee], .agg #[.slice B0 ts.length e0, .slice B1 ks.length e1, .slice B2 fs.length e2, .int .i64 tn, .bool st]]) (by simp [results, Tryz.results173, go_sem, Ae, Ag, Ai, Ac, Ad, Aj, Ah, Af, Aa, Ab]) rfl ⟨a, b, c, dd, ee, ts, ks, fs, tn, st, B0, B1, B2, e0, e1, e2, cs, rfl, hpo.out, ha1, ha2, hb1, hb2, hc1, hc2, by omega, by omega, hc, M⟩
set_option maxRecDepth 100000 in
set_option maxHeartbeats 4000000 in
theorem l1DrawAny_any (B : Nat) (w : World) (g : Nat) (A : Option Addr) (len cap : Nat) (hd : CurAt B w g A len cap) :
 Calls Tryz.prog 176 #[.pointer (some ⟨g, 0, none⟩)] w (GotAny B w g A len cap) := by
 have hg := hd.lt
 go_enter Tryz.func176, Tryz.ntmps176
 go_wp2_with fail
 have hd0 := hd.keep (w' := w.alloc (.cells #[.int .i64 0, .int .i64 0, .int .i64 0, .int .i64 0, .int .i64 0] 28)) fun b hb => Below.heap_alloc w _ b (by omega)
 go_call (l1DrawPlan_any B _ g A len cap hd0) as r w1 ⟨a, b, c, d, e, rfl, a1, a2, b1, b2, c1, c2, p1, p2, e1, e2, g1, d1⟩
 have hx : (w.alloc (.cells #[.int .i64 0, .int .i64 0, .int .i64 0, .int .i64 0, .int .i64 0] 28)).heap.size = w.heap.size + 1 := by simp
 have hs1 : w.heap.size + 1 ≤ w1.heap.size := by have := g1.size; simpa using this
 have k1 := (Blk.new w 28 #[.int .i64 0, .int .i64 0, .int .i64 0, .int .i64 0, .int .i64 0]).grown g1 (by intro e; injection e; omega)
 have G1 : w.grownBy w1 (some g) := grownBy_trans (only_of_below ((Below.refl _ _).alloc (Nat.le_refl _) _) _) g1
 clear g1 hd0
 go_wp2_with fail
 have kp := Blk.new w1 28 #[.int .i64 a, .int .i64 b, .int .i64 c, .int .i64 d, .int .i64 e]
 have hd1 := d1.keep (w' := w1.alloc (.cells #[.int .i64 a, .int .i64 b, .int .i64 c, .int .i64 d, .int .i64 e] 28)) fun b hb => Below.heap_alloc w1 _ b (by omega)
 have k2 := k1.alloc (.cells #[.int .i64 a, .int .i64 b, .int .i64 c, .int .i64 d, .int .i64 e] 28)
 have G2 : w.grownBy (w1.alloc (.cells #[.int .i64 a, .int .i64 b, .int .i64 c, .int .i64 d, .int .i64 e] 28)) (some g) := only_alloc G1 _
 go_call (l1Once_any B _ g A len cap 6 (by omega) (by omega) hd1) as r w2 ⟨t, rfl, g2, d2⟩
 have hx2 : (w1.alloc (.cells #[.int .i64 a, .int .i64 b, .int .i64 c, .int .i64 d, .int .i64 e] 28)).heap.size = w1.heap.size + 1 := by simp
 have hs2 : w1.heap.size + 1 ≤ w2.heap.size := by have := g2.size; simpa using this
 have kp2 := kp.grown g2 (by intro e; injection e; omega)
 have k3 := k2.grown g2 (by intro e; injection e; omega)
 have G3 := grownBy_trans G2 g2
 clear hd1 k2 G2 g2 kp k1 G1 d1 hx
 cases t
 ·have q0 : w2.cell? ⟨w1.heap.size, 0, none⟩ = some (.int .i64 a) := kp2.cell 0
  have z0 : w2.cell? ⟨w.heap.size, 0, none⟩ = some (.int .i64 0) := k3.cell 0
  have zf0 : w2.frozen? ⟨w.heap.size, 0, none⟩ = false := k3.frozen 0
  have q1 : w2.cell? ⟨w1.heap.size, 1, none⟩ = some (.int .i64 b) := kp2.cell 1
  have z1 : w2.cell? ⟨w.heap.size, 1, none⟩ = some (.int .i64 0) := k3.cell 1
  have zf1 : w2.frozen? ⟨w.heap.size, 1, none⟩ = false := k3.frozen 1
  have q2 : w2.cell? ⟨w1.heap.size, 2, none⟩ = some (.int .i64 c) := kp2.cell 2
  have z2 : w2.cell? ⟨w.heap.size, 2, none⟩ = some (.int .i64 0) := k3.cell 2
  have zf2 : w2.frozen? ⟨w.heap.size, 2, none⟩ = false := k3.frozen 2
  have q3 : w2.cell? ⟨w1.heap.size, 3, none⟩ = some (.int .i64 d) := kp2.cell 3
  have z3 : w2.cell? ⟨w.heap.size, 3, none⟩ = some (.int .i64 0) := k3.cell 3
  have zf3 : w2.frozen? ⟨w.heap.size, 3, none⟩ = false := k3.frozen 3
  have q4 : w2.cell? ⟨w1.heap.size, 4, none⟩ = some (.int .i64 e) := kp2.cell 4
  have z4 : w2.cell? ⟨w.heap.size, 4, none⟩ = some (.int .i64 0) := k3.cell 4
  have zf4 : w2.frozen? ⟨w.heap.size, 4, none⟩ = false := k3.frozen 4
  go_wp2
  have hbel : Below w.heap.size w2 (((((w2.setCell ⟨w.heap.size, 0, none⟩ (.int .i64 a)).setCell ⟨w.heap.size, 1, none⟩ (.int .i64 b)).setCell ⟨w.heap.size, 2, none⟩ (.int .i64 c)).setCell ⟨w.heap.size, 3, none⟩ (.int .i64 d)).setCell ⟨w.heap.size, 4, none⟩ (.int .i64 e)) := by go_grown
  exact bodyPost_ret (v := .agg #[.int .i64 a, .int .i64 b, .int .i64 c, .int .i64 d, .int .i64 e]) (by simp [results, Tryz.results176, go_sem, z0, z1, z2, z3, z4]) rfl ⟨_, _, _, _, _, rfl, ⟨by omega, by omega⟩, ⟨by omega, by omega⟩, ⟨by omega, by omega⟩, ⟨by omega, by omega⟩, ⟨by omega, by omega⟩, grown_then_below G3 hbel, d2.keep fun b hb => hbel.block b (by omega)⟩
 ·go_wp2_with fail
  go_call (l1Below_pos B _ g A len cap 5 (by omega) (by omega) d2) as r w3 ⟨u, rfl, u1, u2, g3, d3⟩
  have hs3 := g3.size
  have kp3 := kp2.grown g3 (by intro e; injection e; omega)
  have k4 := k3.grown g3 (by intro e; injection e; omega)
  have G4 := grownBy_trans G3 g3
  clear kp2 k3 G3 g3 d2
  have hu : u = 0 ∨ u = 1 ∨ u = 2 ∨ u = 3 ∨ u = 4 := by omega
  rcases hu with rfl | rfl | rfl | rfl | rfl
  ·go_wp2_with fail
   go_call (l1Num_any B _ g A len cap 8 (by omega) (by omega) d3) as r w4 ⟨x, rfl, hx, g4, d4⟩
   have hs4 := g4.size
   have kp4 := kp3.grown g4 (by intro e; injection e; omega)
   have k5 := k4.grown g4 (by intro e; injection e; omega)
   have G5 := grownBy_trans G4 g4
   clear kp3 k4 G4 g4 d3
   have pf0 : w4.frozen? ⟨w1.heap.size, 0, none⟩ = false := kp4.frozen 0
   have q0 : w4.cell? ⟨w1.heap.size, 0, none⟩ = some (.int .i64 a) := kp4.cell 0
   have z0 : w4.cell? ⟨w.heap.size, 0, none⟩ = some (.int .i64 0) := k5.cell 0
   have zf0 : w4.frozen? ⟨w.heap.size, 0, none⟩ = false := k5.frozen 0
   have q1 : w4.cell? ⟨w1.heap.size, 1, none⟩ = some (.int .i64 b) := kp4.cell 1
   have z1 : w4.cell? ⟨w.heap.size, 1, none⟩ = some (.int .i64 0) := k5.cell 1
   have zf1 : w4.frozen? ⟨w.heap.size, 1, none⟩ = false := k5.frozen 1
   have q2 : w4.cell? ⟨w1.heap.size, 2, none⟩ = some (.int .i64 c) := kp4.cell 2
   have z2 : w4.cell? ⟨w.heap.size, 2, none⟩ = some (.int .i64 0) := k5.cell 2
   have zf2 : w4.frozen? ⟨w.heap.size, 2, none⟩ = false := k5.frozen 2
   have q3 : w4.cell? ⟨w1.heap.size, 3, none⟩ = some (.int .i64 d) := kp4.cell 3
   have z3 : w4.cell? ⟨w.heap.size, 3, none⟩ = some (.int .i64 0) := k5.cell 3
   have zf3 : w4.frozen? ⟨w.heap.size, 3, none⟩ = false := k5.frozen 3
   have q4 : w4.cell? ⟨w1.heap.size, 4, none⟩ = some (.int .i64 e) := kp4.cell 4
   have z4 : w4.cell? ⟨w.heap.size, 4, none⟩ = some (.int .i64 0) := k5.cell 4
   have zf4 : w4.frozen? ⟨w.heap.size, 4, none⟩ = false := k5.frozen 4
   have hne : w1.heap.size ≠ w.heap.size := by omega
   have hne2 : w.heap.size ≠ w1.heap.size := by omega
   go_wp2
   have hbel : Below w.heap.size w4 ((((((w4.setCell ⟨w1.heap.size, 0, none⟩ (.int .i64 x)).setCell ⟨w.heap.size, 0, none⟩ (.int .i64 x)).setCell ⟨w.heap.size, 1, none⟩ (.int .i64 b)).setCell ⟨w.heap.size, 2, none⟩ (.int .i64 c)).setCell ⟨w.heap.size, 3, none⟩ (.int .i64 d)).setCell ⟨w.heap.size, 4, none⟩ (.int .i64 e)) := by go_grown
   exact bodyPost_ret (v := .agg #[.int .i64 x, .int .i64 b, .int .i64 c, .int .i64 d, .int .i64 e]) (by simp [results, Tryz.results176, go_sem, z0, z1, z2, z3, z4]) rfl ⟨_, _, _, _, _, rfl, hx, ⟨by omega, by omega⟩, ⟨by omega, by omega⟩, ⟨by omega, by omega⟩, ⟨by omega, by omega⟩, grown_then_below G5 hbel, d4.keep fun b hb => hbel.block b (by omega)⟩
  ·go_wp2_with fail
   go_call (l1Num_any B _ g A len cap 30 (by omega) (by omega) d3) as r w4 ⟨x, rfl, hx, g4, d4⟩
   have hs4 := g4.size
   have kp4 := kp3.grown g4 (by intro e; injection e; omega)
   have k5 := k4.grown g4 (by intro e; injection e; omega)
   have G5 := grownBy_trans G4 g4
   clear kp3 k4 G4 g4 d3
   have pf0 : w4.frozen? ⟨w1.heap.size, 1, none⟩ = false := kp4.frozen 1
   have q0 : w4.cell? ⟨w1.heap.size, 0, none⟩ = some (.int .i64 a) := kp4.cell 0
   have z0 : w4.cell? ⟨w.heap.size, 0, none⟩ = some (.int .i64 0) := k5.cell 0
   have zf0 : w4.frozen? ⟨w.heap.size, 0, none⟩ = false := k5.frozen 0
   have q1 : w4.cell? ⟨w1.heap.size, 1, none⟩ = some (.int .i64 b) := kp4.cell 1
   have z1 : w4.cell? ⟨w.heap.size, 1, none⟩ = some (.int .i64 0) := k5.cell 1
   have zf1 : w4.frozen? ⟨w.heap.size, 1, none⟩ = false := k5.frozen 1
   have q2 : w4.cell? ⟨w1.heap.size, 2, none⟩ = some (.int .i64 c) := kp4.cell 2
   have z2 : w4.cell? ⟨w.heap.size, 2, none⟩ = some (.int .i64 0) := k5.cell 2
   have zf2 : w4.frozen? ⟨w.heap.size, 2, none⟩ = false := k5.frozen 2
   have q3 : w4.cell? ⟨w1.heap.size, 3, none⟩ = some (.int .i64 d) := kp4.cell 3
   have z3 : w4.cell? ⟨w.heap.size, 3, none⟩ = some (.int .i64 0) := k5.cell 3
   have zf3 : w4.frozen? ⟨w.heap.size, 3, none⟩ = false := k5.frozen 3
   have q4 : w4.cell? ⟨w1.heap.size, 4, none⟩ = some (.int .i64 e) := kp4.cell 4
   have z4 : w4.cell? ⟨w.heap.size, 4, none⟩ = some (.int .i64 0) := k5.cell 4
   have zf4 : w4.frozen? ⟨w.heap.size, 4, none⟩ = false := k5.frozen 4
   have hne : w1.heap.size ≠ w.heap.size := by omega
   have hne2 : w.heap.size ≠ w1.heap.size := by omega
   go_wp2
   have hbel : Below w.heap.size w4 ((((((w4.setCell ⟨w1.heap.size, 1, none⟩ (.int .i64 x)).setCell ⟨w.heap.size, 0, none⟩ (.int .i64 a)).setCell ⟨w.heap.size, 1, none⟩ (.int .i64 x)).setCell ⟨w.heap.size, 2, none⟩ (.int .i64 c)).setCell ⟨w.heap.size, 3, none⟩ (.int .i64 d)).setCell ⟨w.heap.size, 4, none⟩ (.int .i64 e)) := by go_grown
   exact bodyPost_ret (v := .agg #[.int .i64 a, .int .i64 x, .int .i64 c, .int .i64 d, .int .i64 e]) (by simp [results, Tryz.results176, go_sem, z0, z1, z2, z3, z4]) rfl ⟨_, _, _, _, _, rfl, ⟨by omega, by omega⟩, hx, ⟨by omega, by omega⟩, ⟨by omega, by omega⟩, ⟨by omega, by omega⟩, grown_then_below G5 hbel, d4.keep fun b hb => hbel.block b (by omega)⟩
  ·go_wp2_with fail
   go_call (l1Num_any B _ g A len cap 4 (by omega) (by omega) d3) as r w4 ⟨x, rfl, hx, g4, d4⟩
   have hs4 := g4.size
   have kp4 := kp3.grown g4 (by intro e; injection e; omega)
   have k5 := k4.grown g4 (by intro e; injection e; omega)
   have G5 := grownBy_trans G4 g4
   clear kp3 k4 G4 g4 d3
   have pf0 : w4.frozen? ⟨w1.heap.size, 2, none⟩ = false := kp4.frozen 2
   have q0 : w4.cell? ⟨w1.heap.size, 0, none⟩ = some (.int .i64 a) := kp4.cell 0
   have z0 : w4.cell? ⟨w.heap.size, 0, none⟩ = some (.int .i64 0) := k5.cell 0
   have zf0 : w4.frozen? ⟨w.heap.size, 0, none⟩ = false := k5.frozen 0
   have q1 : w4.cell? ⟨w1.heap.size, 1, none⟩ = some (.int .i64 b) := kp4.cell 1
   have z1 : w4.cell? ⟨w.heap.size, 1, none⟩ = some (.int .i64 0) := k5.cell 1
   have zf1 : w4.frozen? ⟨w.heap.size, 1, none⟩ = false := k5.frozen 1
   have q2 : w4.cell? ⟨w1.heap.size, 2, none⟩ = some (.int .i64 c) := kp4.cell 2
   have z2 : w4.cell? ⟨w.heap.size, 2, none⟩ = some (.int .i64 0) := k5.cell 2
   have zf2 : w4.frozen? ⟨w.heap.size, 2, none⟩ = false := k5.frozen 2
   have q3 : w4.cell? ⟨w1.heap.size, 3, none⟩ = some (.int .i64 d) := kp4.cell 3
   have z3 : w4.cell? ⟨w.heap.size, 3, none⟩ = some (.int .i64 0) := k5.cell 3
   have zf3 : w4.frozen? ⟨w.heap.size, 3, none⟩ = false := k5.frozen 3
   have q4 : w4.cell? ⟨w1.heap.size, 4, none⟩ = some (.int .i64 e) := kp4.cell 4
   have z4 : w4.cell? ⟨w.heap.size, 4, none⟩ = some (.int .i64 0) := k5.cell 4
   have zf4 : w4.frozen? ⟨w.heap.size, 4, none⟩ = false := k5.frozen 4
   have hne : w1.heap.size ≠ w.heap.size := by omega
   have hne2 : w.heap.size ≠ w1.heap.size := by omega
   go_wp2
   have hbel : Below w.heap.size w4 ((((((w4.setCell ⟨w1.heap.size, 2, none⟩ (.int .i64 x)).setCell ⟨w.heap.size, 0, none⟩ (.int .i64 a)).setCell ⟨w.heap.size, 1, none⟩ (.int .i64 b)).setCell ⟨w.heap.size, 2, none⟩ (.int .i64 x)).setCell ⟨w.heap.size, 3, none⟩ (.int .i64 d)).setCell ⟨w.heap.size, 4, none⟩ (.int .i64 e)) := by go_grown
   exact bodyPost_ret (v := .agg #[.int .i64 a, .int .i64 b, .int .i64 x, .int .i64 d, .int .i64 e]) (by simp [results, Tryz.results176, go_sem, z0, z1, z2, z3, z4]) rfl ⟨_, _, _, _, _, rfl, ⟨by omega, by omega⟩, ⟨by omega, by omega⟩, hx, ⟨by omega, by omega⟩, ⟨by omega, by omega⟩, grown_then_below G5 hbel, d4.keep fun b hb => hbel.block b (by omega)⟩
  ·go_wp2_with fail
   go_call (l1Num_any B _ g A len cap 4 (by omega) (by omega) d3) as r w4 ⟨x, rfl, hx, g4, d4⟩
   have hs4 := g4.size
   have kp4 := kp3.grown g4 (by intro e; injection e; omega)
   have k5 := k4.grown g4 (by intro e; injection e; omega)
   have G5 := grownBy_trans G4 g4
   clear kp3 k4 G4 g4 d3
   have pf0 : w4.frozen? ⟨w1.heap.size, 3, none⟩ = false := kp4.frozen 3
   have q0 : w4.cell? ⟨w1.heap.size, 0, none⟩ = some (.int .i64 a) := kp4.cell 0
   have z0 : w4.cell? ⟨w.heap.size, 0, none⟩ = some (.int .i64 0) := k5.cell 0
   have zf0 : w4.frozen? ⟨w.heap.size, 0, none⟩ = false := k5.frozen 0
   have q1 : w4.cell? ⟨w1.heap.size, 1, none⟩ = some (.int .i64 b) := kp4.cell 1
   have z1 : w4.cell? ⟨w.heap.size, 1, none⟩ = some (.int .i64 0) := k5.cell 1
   have zf1 : w4.frozen? ⟨w.heap.size, 1, none⟩ = false := k5.frozen 1
   have q2 : w4.cell? ⟨w1.heap.size, 2, none⟩ = some (.int .i64 c) := kp4.cell 2
   have z2 : w4.cell? ⟨w.heap.size, 2, none⟩ = some (.int .i64 0) := k5.cell 2
   have zf2 : w4.frozen? ⟨w.heap.size, 2, none⟩ = false := k5.frozen 2
   have q3 : w4.cell? ⟨w1.heap.size, 3, none⟩ = some (.int .i64 d) := kp4.cell 3
   have z3 : w4.cell? ⟨w.heap.size, 3, none⟩ = some (.int .i64 0) := k5.cell 3
   have zf3 : w4.frozen? ⟨w.heap.size, 3, none⟩ = false := k5.frozen 3
   have q4 : w4.cell? ⟨w1.heap.size, 4, none⟩ = some (.int .i64 e) := kp4.cell 4
   have z4 : w4.cell? ⟨w.heap.size, 4, none⟩ = some (.int .i64 0) := k5.cell 4
   have zf4 : w4.frozen? ⟨w.heap.size, 4, none⟩ = false := k5.frozen 4
   have hne : w1.heap.size ≠ w.heap.size := by omega
   have hne2 : w.heap.size ≠ w1.heap.size := by omega
   go_wp2
   have hbel : Below w.heap.size w4 ((((((w4.setCell ⟨w1.heap.size, 3, none⟩ (.int .i64 x)).setCell ⟨w.heap.size, 0, none⟩ (.int .i64 a)).setCell ⟨w.heap.size, 1, none⟩ (.int .i64 b)).setCell ⟨w.heap.size, 2, none⟩ (.int .i64 c)).setCell ⟨w.heap.size, 3, none⟩ (.int .i64 x)).setCell ⟨w.heap.size, 4, none⟩ (.int .i64 e)) := by go_grown
   exact bodyPost_ret (v := .agg #[.int .i64 a, .int .i64 b, .int .i64 c, .int .i64 x, .int .i64 e]) (by simp [results, Tryz.results176, go_sem, z0, z1, z2, z3, z4]) rfl ⟨_, _, _, _, _, rfl, ⟨by omega, by omega⟩, ⟨by omega, by omega⟩, ⟨by omega, by omega⟩, hx, ⟨by omega, by omega⟩, grown_then_below G5 hbel, d4.keep fun b hb => hbel.block b (by omega)⟩
  ·go_wp2_with fail
   go_call (l1Num_any B _ g A len cap 4 (by omega) (by omega) d3) as r w4 ⟨x, rfl, hx, g4, d4⟩
   have hs4 := g4.size
   have kp4 := kp3.grown g4 (by intro e; injection e; omega)
   have k5 := k4.grown g4 (by intro e; injection e; omega)
   have G5 := grownBy_trans G4 g4
   clear kp3 k4 G4 g4 d3
   have pf0 : w4.frozen? ⟨w1.heap.size, 4, none⟩ = false := kp4.frozen 4
   have q0 : w4.cell? ⟨w1.heap.size, 0, none⟩ = some (.int .i64 a) := kp4.cell 0
   have z0 : w4.cell? ⟨w.heap.size, 0, none⟩ = some (.int .i64 0) := k5.cell 0
   have zf0 : w4.frozen? ⟨w.heap.size, 0, none⟩ = false := k5.frozen 0
   have q1 : w4.cell? ⟨w1.heap.size, 1, none⟩ = some (.int .i64 b) := kp4.cell 1
   have z1 : w4.cell? ⟨w.heap.size, 1, none⟩ = some (.int .i64 0) := k5.cell 1
   have zf1 : w4.frozen? ⟨w.heap.size, 1, none⟩ = false := k5.frozen 1
   have q2 : w4.cell? ⟨w1.heap.size, 2, none⟩ = some (.int .i64 c) := kp4.cell 2
   have z2 : w4.cell? ⟨w.heap.size, 2, none⟩ = some (.int .i64 0) := k5.cell 2
   have zf2 : w4.frozen? ⟨w.heap.size, 2, none⟩ = false := k5.frozen 2
   have q3 : w4.cell? ⟨w1.heap.size, 3, none⟩ = some (.int .i64 d) := kp4.cell 3
   have z3 : w4.cell? ⟨w.heap.size, 3, none⟩ = some (.int .i64 0) := k5.cell 3
   have zf3 : w4.frozen? ⟨w.heap.size, 3, none⟩ = false := k5.frozen 3
   have q4 : w4.cell? ⟨w1.heap.size, 4, none⟩ = some (.int .i64 e) := kp4.cell 4
   have z4 : w4.cell? ⟨w.heap.size, 4, none⟩ = some (.int .i64 0) := k5.cell 4
   have zf4 : w4.frozen? ⟨w.heap.size, 4, none⟩ = false := k5.frozen 4
   have hne : w1.heap.size ≠ w.heap.size := by omega
   have hne2 : w.heap.size ≠ w1.heap.size := by omega
   go_wp2
   have hbel : Below w.heap.size w4 ((((((w4.setCell ⟨w1.heap.size, 4, none⟩ (.int .i64 x)).setCell ⟨w.heap.size, 0, none⟩ (.int .i64 a)).setCell ⟨w.heap.size, 1, none⟩ (.int .i64 b)).setCell ⟨w.heap.size, 2, none⟩ (.int .i64 c)).setCell ⟨w.heap.size, 3, none⟩ (.int .i64 d)).setCell ⟨w.heap.size, 4, none⟩ (.int .i64 x)) := by go_grown
   exact bodyPost_ret (v := .agg #[.int .i64 a, .int .i64 b, .int .i64 c, .int .i64 d, .int .i64 x]) (by simp [results, Tryz.results176, go_sem, z0, z1, z2, z3, z4]) rfl ⟨_, _, _, _, _, rfl, ⟨by omega, by omega⟩, ⟨by omega, by omega⟩, ⟨by omega, by omega⟩, ⟨by omega, by omega⟩, hx, grown_then_below G5 hbel, d4.keep fun b hb => hbel.block b (by omega)⟩
end Go.Proofs.YtfkdfkoigojciaaGreatDoor
