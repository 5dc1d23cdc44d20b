import Derived.Test.YtfkdfkoigojciaaGreatDoorQU44

namespace Go.Proofs.YtfkdfkoigojciaaGreatDoor
open Go.RowKit
set_option linter.unusedVariables false
theorem sepCur {g : Nat} {t : TypeId} {cs : Array Value} {w W : World} (hb : Below w.heap.size w W) (hg : w.heap.size ≤ g) (h : Sep [g] W W [.blk g t cs]) : Sep [] w W [.blk g t cs] :=
 ⟨hb.os, hb.tape, hb.output, hb.size, fun b hb' _ => hb.block b hb', h.here, fun r hr q hq => by
  obtain rfl := List.mem_singleton.1 hr
  injection hq with hq
  subst hq
  exact .inr hg, h.apart⟩
theorem Sep.curIn {B g len cap : Nat} {A : Option Addr} {w W : World} {rs : List Res} {cs : Array Value} (h : Sep [] w W rs) (i : Nat) (hi : rs[i]? = some (.blk g 143 cs)) (hc : curC A len cap cs) (hB : B ≤ w.heap.size) (hl : len ≤ 4096) (hby : Bytes w B A len) : CurAt B W g A len cap := by
 obtain ⟨k, y, rfl, hk⟩ := hc
 have hg : w.heap.size ≤ g := (h.own _ (List.mem_of_getElem? hi) g rfl).elim (fun h1 => by simp at h1) id
 exact ⟨by omega, hl, hby.keep fun b hb => h.block b (by omega) (by simp), k, y, h.blk i hi, hk⟩
theorem Sep.curGo {B g len cap : Nat} {A : Option Addr} {w W W' : World} {rs : List Res} {cs : Array Value} (h : Sep [] w W rs) (i : Nat) (hi : rs[i]? = some (.blk g 143 cs)) (gg : W.grownBy W' (some g)) (d : CurAt B W' g A len cap) : ∃ cs', curC A len cap cs' ∧ Sep [] w W' (rs.set i (.blk g 143 cs')) := by
 obtain ⟨h1, h2, h3, j, x, h4, h5⟩ := d
 exact ⟨_, ⟨j, x, rfl, h5⟩, h.upd i _ _ hi g rfl (fun y hy => by injection hy with hy; exact hy.symm) h4 gg.os gg.tape gg.output gg.size (fun b hb hne => gg.block b hb (by intro e; injection e with e; exact hne e))⟩
theorem Sep.al1 {S : List Nat} {w W : World} {rs : List Res} (h : Sep S w W rs) (t : TypeId) (cs : Array Value) : ∃ (a : Nat) (W' : World), W.heap.size = a ∧ W.alloc (.cells cs t) = W' ∧ Sep S w W' (.blk a t cs :: rs) := ⟨_, _, rfl, rfl, h.alloc t cs _ rfl⟩
theorem Sep.al2 {S : List Nat} {w W : World} {rs : List Res} (h : Sep S w W rs) (t1 : TypeId) (c1 : Array Value) (t2 : TypeId) (c2 : Array Value) : ∃ (a b : Nat) (W' : World), W.heap.size = a ∧ W.heap.size + 1 = b ∧ (W.alloc (.cells c1 t1)).alloc (.cells c2 t2) = W' ∧ Sep S w W' (.blk b t2 c2 :: .blk a t1 c1 :: rs) :=
 ⟨_, _, _, rfl, rfl, rfl, (h.alloc t1 c1 _ rfl).alloc t2 c2 _ (by simp)⟩
set_option maxHeartbeats 1600000
set_option maxRecDepth 100000
theorem l6DrawWorker_any (B : Nat) (w : World) (g : Nat) (A : Option Addr) (len cap : Nat) (a b c d e : Int) (d0 : CurAt B w g A len cap) :
 Calls Tryz.prog 141 #[.pointer (some ⟨g, 0, none⟩), .agg #[.int .i64 a, .int .i64 b, .int .i64 c, .int .i64 d, .int .i64 e]] w (CGave (-1) 8 B w g A len cap) := by
 have hg := d0.lt
 go_enter Tryz.func141, Tryz.ntmps141
 go_wp2_with fail
 obtain ⟨cs0, hc, M⟩ := cur_start d0
 replace M : Sep [g] w (w.alloc (.cells #[.int .i64 a, .int .i64 b, .int .i64 c, .int .i64 d, .int .i64 e] 28)) [.blk (w.heap.size) 28 #[.int .i64 a, .int .i64 b, .int .i64 c, .int .i64 d, .int .i64 e], .blk g 143 cs0] := (M.alloc 28 #[.int .i64 a, .int .i64 b, .int .i64 c, .int .i64 d, .int .i64 e] (w.heap.size) rfl)
 generalize w.alloc (.cells #[.int .i64 a, .int .i64 b, .int .i64 c, .int .i64 d, .int .i64 e] 28) = W1 at M ⊢
 obtain ⟨tP, Ag, Bc, Ae, Bf, Aj, Bd, Ah, Bi, Ac, Be⟩ := M.f5 0 rfl
 go_wp2_with fail
 go_call (l1Once_any B _ g A len cap 16 (by omega) (by omega) (M.curAt 1 rfl d0 hc)) as r W2 ⟨bb, rfl, gg, d⟩
 clear tP Ag Bc Ae Bf Aj Bd Ah Bi Ac Be
 have MM := M.curMoved 1 rfl gg d
 clear M hc gg d
 obtain ⟨cs1, hc, M⟩ := MM
 simp only [zZ, zS] at M
 cases bb
 ·obtain ⟨tP, Ag, Ae, Aj, Ah, Ac⟩ := M.q5 0 rfl
  go_wp2_with fail
  obtain ⟨n0, hn0, hn3⟩ : ∃ n0 : Int, (if a < 8 then a else 8) = n0 ∧ n0 ≤ 8 := ⟨_, rfl, by split <;> omega⟩
  obtain ⟨n, hn, hn1, hn2⟩ : ∃ n : Int, (if n0 < 1 then 1 else n0) = n ∧ 1 ≤ n ∧ n ≤ 8 := ⟨_, rfl, by split <;> omega, by split <;> omega⟩
  replace hn0 := hide hn0
  replace hn := hide hn
  go_call (l1Min_v a 8 n0 hn0.out _) as r W8 ⟨rfl, rfl⟩
  go_wp2_with fail
  go_call (l1Max_v 1 n0 n hn.out _) as r W9 ⟨rfl, rfl⟩
  go_wp2_with fail
  go_call (l1Below_pos B _ g A len cap n hn1 (by omega) (M.curAt 1 rfl d0 hc)) as r W3 ⟨v, rfl, v1, v2, gg, d⟩
  clear tP Ag Ae Aj Ah Ac
  have MM := M.curMoved 1 rfl gg d
  clear M hc gg d
  obtain ⟨cs2, hc, M⟩ := MM
  simp only [zZ, zS] at M
  go_wp2
  go_ret
  exact ⟨v, rfl, by omega, by omega, M.grown1, M.curAt 1 rfl d0 hc⟩
 ·obtain ⟨tP, Ag, Ae, Aj, Ah, Ac⟩ := M.q5 0 rfl
  go_wp2_with fail
  go_call (l1From_any B _ g A len cap (-1) 8 (by omega) (by omega) (by omega) (M.curAt 1 rfl d0 hc)) as r W3 ⟨v, rfl, v1, v2, gg, d⟩
  clear tP Ag Ae Aj Ah Ac
  have MM := M.curMoved 1 rfl gg d
  clear M hc gg d
  obtain ⟨cs2, hc, M⟩ := MM
  simp only [zZ, zS] at M
  go_wp2
  go_ret
  exact ⟨v, rfl, by omega, by omega, M.grown1, M.curAt 1 rfl d0 hc⟩
theorem drawTaken_any (B : Nat) (w : World) (A : Option Addr) (len cap : Nat) (hB : B ≤ w.heap.size) (hl : len ≤ 4096) (hby : Bytes w B A len) :
 Calls Tryz.prog 73 #[.slice A len cap] w fun r w' => ∃ (a b c d e : Int) (ts : List T7) (ks : List Int) (fs : List F2) (tn : Int) (st : Bool) (B0 B1 B2 : Option Addr) (e0 e1 e2 : Nat) (wk : Int), r = .returned (.tuple #[.agg #[.int .i64 a, .int .i64 b, .int .i64 c, .int .i64 d, .int .i64 e], .agg #[.slice B0 ts.length e0, .slice B1 ks.length e1, .slice B2 fs.length e2, .int .i64 tn, .bool st], .int .i64 wk]) ∧ ts.length ≤ 31 ∧ ks.length ≤ 31 ∧ fs.length ≤ 31 ∧ Sep [] w w' [rT ts.length B0 e0 ts, rK ks.length B1 e1 ks, rF fs.length B2 e2 fs] := by
 go_enter Tryz.func73, Tryz.ntmps73
 go_wp2_with fail
 have M := Sep.start w
 replace M := M.al2 28 #[.int .i64 0, .int .i64 0, .int .i64 0, .int .i64 0, .int .i64 0] 35 #[.slice none 0 0, .slice none 0 0, .slice none 0 0, .int .i64 0, .bool false]
 obtain ⟨aQ, aR, W1, e1, e2, e3, M⟩ := M
 rw [e3, e2, e1]
 clear e1 e2 e3
 obtain ⟨tQ, An, Ay, Ao, Ax, Ar, Av, Ak, Aw, Al, Au⟩ := M.f5 1 rfl
 go_wp2_with fail
 clear tQ An Ay Ao Ax Ar Av Ak Aw Al Au
 have hs1 := M.size
 have hby1 : Bytes W1 B A len := hby.keep fun b hb => M.below.block b (by omega)
 go_call (l1New_any B _ A len cap (by omega) hl hby1) as r W2 ⟨rfl, g1, d⟩
 obtain ⟨cs0, hc, N⟩ := cur_start d
 have N2 := sepCur g1 (Nat.le_refl _) N
 replace M := Sep.new M N2
 clear N N2 g1 hby1 hs1
 simp only [zC, zN] at M
 obtain ⟨g, hg⟩ : ∃ g, g = W1.heap.size := ⟨_, rfl⟩
 rw [← hg] at M d ⊢
 clear hg
 obtain ⟨tR, Ai, Am, Af, As, Ad, At, Aa, Aq, Ab, Ap⟩ := M.f5 1 rfl
 go_wp2_with fail
 go_call (l3DrawAny_any B _ g A len cap d) as r W3 ⟨a, b, c, dd, ee, ts, ks, fs, tn, st, B0, B1, B2, e0, e1, e2, n0, n1, n2, cs1, rfl, rfl, rfl, rfl, h0, h1, h2, hc2, g2⟩
 clear tR Ai Am Af As Ad At Aa Aq Ab Ap
 replace M := Sep.comp (ps := [.blk g 143 cs0]) M g2
 clear g2 hc d
 have hc := hc2
 clear hc2
 simp only [zC, zN] at M
 obtain ⟨tR, Ai, Am, Af, As, Ad, At, Aa, Aq, Ab, Ap⟩ := M.f5 4 rfl
 go_wp2_with fail
 clear tR Ai Am Af As Ad At Aa Aq Ab Ap
 replace M := M.al2 28 #[.int .i64 a, .int .i64 b, .int .i64 c, .int .i64 dd, .int .i64 ee] 35 #[.slice B0 ts.length e0, .slice B1 ks.length e1, .slice B2 fs.length e2, .int .i64 tn, .bool st]
 obtain ⟨aP, aY, W4, e1, e2, e3, M⟩ := M
 rw [e3, e2, e1]
 clear e1 e2 e3
 obtain ⟨tY, Az, Bg, Bh, Bb, Ba⟩ := M.q5 0 rfl
 obtain ⟨tP, Ag, Ae, Aj, Ah, Ac⟩ := M.q5 1 rfl
 go_wp2_with fail
 clear tY Az Bg Bh Bb Ba tP Ag Ae Aj Ah Ac
 refine wp_region_T (S := (fun w' => w'.cell? ⟨aY, 0, none⟩ = some (.slice B0 ts.length e0) ∧ w'.cell? ⟨aY, 1, none⟩ = some (.slice B1 ks.length e1) ∧ w'.cell? ⟨aY, 2, none⟩ = some (.slice B2 fs.length e2) ∧ w'.cell? ⟨aY, 3, none⟩ = some (.int .i64 tn) ∧ w'.cell? ⟨aY, 4, none⟩ = some (.bool st) ∧ w'.cell? ⟨aP, 0, none⟩ = some (.int .i64 a) ∧ w'.cell? ⟨aP, 1, none⟩ = some (.int .i64 b) ∧ w'.cell? ⟨aP, 2, none⟩ = some (.int .i64 c) ∧ w'.cell? ⟨aP, 3, none⟩ = some (.int .i64 dd) ∧ w'.cell? ⟨aP, 4, none⟩ = some (.int .i64 ee))) (ks := []) (by kernel_rfl) ⟨M.cell 0 0 rfl, M.cell 0 1 rfl, M.cell 0 2 rfl, M.cell 0 3 rfl, M.cell 0 4 rfl, M.cell 1 0 rfl, M.cell 1 1 rfl, M.cell 1 2 rfl, M.cell 1 3 rfl, M.cell 1 4 rfl⟩ (fun hHeld => ?_)
 replace M := M.drew
 generalize W4.drew = W5 at M hHeld ⊢
 refine tkLa 0 _ rfl hHeld ?_
 try simp only [Act.put, zI, zZ, zS]
 refine tkLa 1 _ rfl hHeld ?_
 try simp only [Act.put, zI, zZ, zS]
 refine tkYa 2 _ rfl (fun _ => hHeld) ?_
 try simp only [Act.put, zI, zZ, zS]
 refine tkLa 3 _ rfl hHeld ?_
 try simp only [Act.put, zI, zZ, zS]
 refine wpAnyT_callL (i := 4) rfl (by kernel_rfl) (fun K hK => ?_)
 go_simp
 refine Calls.mono (by with_reducible exact (l6DrawWorker_any B _ g A len cap a b c dd ee (M.curIn 5 rfl hc hB hl hby))) ?_
 rintro r W6 ⟨wk, rfl, wk1, wk2, gg, d⟩
 have MM := M.curGo 5 rfl gg d
 clear M hc gg d
 obtain ⟨cs2, hc, M⟩ := MM
 simp only [zZ, zS] at M
 clear hHeld
 go_wp2_with fail
 refine hK.out _ _ ?_ (fun hHeld => ?_)
 ·exact M.c10 0 1 rfl rfl
 clear hK K
 try simp only [Act.put, zI, zZ, zS]
 obtain ⟨tQ, An, Ay, Ao, Ax, Ar, Av, Ak, Aw, Al, Au⟩ := M.f5 7 rfl
 refine wpAnyT_callL (i := 5) rfl (by kernel_rfl) (fun K hK => ?_)
 go_simp
 clear tQ An Ay Ao Ax Ar Av Ak Aw Al Au
 replace M := M.gset5 7 rfl (.int .i64 a) (.int .i64 b) (.int .i64 c) (.int .i64 dd) (.int .i64 ee)
 obtain ⟨W7, eW, M⟩ := M
 rw [eW]
 clear eW
 simp only [zZ, zS] at M
 clear hHeld
 refine hK.out _ _ ?_ (fun hHeld => ?_)
 ·exact M.c10 0 1 rfl rfl
 clear hK K
 try simp only [Act.put, zI, zZ, zS]
 obtain ⟨tR, Ai, Am, Af, As, Ad, At, Aa, Aq, Ab, Ap⟩ := M.f5 6 rfl
 refine wpAnyT_callL (i := 6) rfl (by kernel_rfl) (fun K hK => ?_)
 go_simp
 clear tR Ai Am Af As Ad At Aa Aq Ab Ap
 replace M := M.gset5 6 rfl (.slice B0 ts.length e0) (.slice B1 ks.length e1) (.slice B2 fs.length e2) (.int .i64 tn) (.bool st)
 obtain ⟨W8, eW, M⟩ := M
 rw [eW]
 clear eW
 simp only [zZ, zS] at M
 clear hHeld
 refine hK.out _ _ ?_ (fun hHeld => ?_)
 ·exact M.c10 0 1 rfl rfl
 clear hK K
 try simp only [Act.put, zI, zZ, zS]
 refine tkYa 7 _ rfl (fun _ => hHeld) ?_
 try simp only [Act.put, zI, zZ, zS]
 refine wpAnyT_done (by kernel_rfl) ?_ _
 go_wp2_with fail
 obtain ⟨tR, Ai, Af, Ad, Aa, Ab⟩ := M.q5 6 rfl
 obtain ⟨tQ, An, Ao, Ar, Ak, Al⟩ := M.q5 7 rfl
 exact bodyPost_ret (v := .tuple #[.agg #[.int .i64 a, .int .i64 b, .int .i64 c, .int .i64 dd, .int .i64 ee], .agg #[.slice B0 ts.length e0, .slice B1 ks.length e1, .slice B2 fs.length e2, .int .i64 tn, .bool st], .int .i64 wk]) (by simp [results, Tryz.results73, go_sem, An, Ao, Ar, Ak, Al, Ai, Af, Ad, Aa, Ab]) rfl ⟨a, b, c, dd, ee, ts, ks, fs, tn, st, B0, B1, B2, e0, e1, e2, wk, rfl, h0, h1, h2, (M.drop 2).take 3⟩
theorem rK_get0 {W : World} {n c g k : Nat} {ks : List Int} {u : Int} (h : (rK n (some ⟨g, 0, none⟩) c ks).here W) (hk : ks[k]? = some u) : W.cell? ⟨g, k, none⟩ = some (.int .i64 u) := by
 have hkl : k < ks.length := by
  rcases Nat.lt_or_ge k ks.length with h1 | h1
  ·exact h1
  ·rw [List.getElem?_eq_none h1] at hk; cases hk
 obtain ⟨v, hv, hc⟩ := Own.i1 h hkl
 rw [hk] at hv
 injection hv with hv
 subst hv
 exact hc
set_option maxRecDepth 100000 in
set_option maxHeartbeats 1600000 in
theorem drawUpped_any (B : Nat) (w : World) (A : Option Addr) (len cap : Nat) (hB : B ≤ w.heap.size) (hl : len ≤ 4096) (hby : Bytes w B A len) :
 Calls Tryz.prog 38 #[.slice A len cap] w fun r w' => ∃ (a b c d e : Int) (ts : List T7) (ks : List Int) (fs : List F2) (tn : Int) (st : Bool) (B0 B1 B2 : Option Addr) (e0 e1 e2 : Nat) (wk kd : Int), r = .returned (.tuple #[.agg #[.int .i64 a, .int .i64 b, .int .i64 c, .int .i64 d, .int .i64 e], .agg #[.slice B0 ts.length e0, .slice B1 ks.length e1, .slice B2 fs.length e2, .int .i64 tn, .bool st], .int .i64 wk, .int .i64 kd]) ∧ ts.length ≤ 31 ∧ ks.length ≤ 31 ∧ fs.length ≤ 31 ∧ Sep [] w w' [rT ts.length B0 e0 ts, rK ks.length B1 e1 ks, rF fs.length B2 e2 fs] := by
 go_enter Tryz.func38, Tryz.ntmps38
 go_wp2_with fail
 have M := Sep.start w
 replace M := M.al2 28 #[.int .i64 0, .int .i64 0, .int .i64 0, .int .i64 0, .int .i64 0] 35 #[.slice none 0 0, .slice none 0 0, .slice none 0 0, .int .i64 0, .bool false]
 obtain ⟨aQ, aR, W1, e1, e2, e3, M⟩ := M
 rw [e3, e2, e1]
 clear e1 e2 e3
 obtain ⟨tQ, Ah, Aw, Ai, Av, Aj, At, Af, Au, Ag, As⟩ := M.f5 1 rfl
 go_wp2_with fail
 clear tQ Ah Aw Ai Av Aj At Af Au Ag As
 have hs1 := M.size
 have hby1 : Bytes W1 B A len := hby.keep fun b hb => M.below.block b (by omega)
 go_call (l1New_any B _ A len cap (by omega) hl hby1) as r W2 ⟨rfl, g1, d⟩
 obtain ⟨cs0, hc, N⟩ := cur_start d
 have N2 := sepCur g1 (Nat.le_refl _) N
 replace M := Sep.new M N2
 clear N N2 g1 hby1 hs1
 simp only [zC, zN] at M
 obtain ⟨g, hg⟩ : ∃ g, g = W1.heap.size := ⟨_, rfl⟩
 rw [← hg] at M d ⊢
 clear hg
 obtain ⟨tR, Ae, Ak, Ad, An, Ac, Ao, Aa, Am, Ab, Al⟩ := M.f5 1 rfl
 go_wp2_with fail
 have hs2 := M.size
 have hby2 : Bytes W2 B A len := hby.keep fun b hb => M.below.block b (by omega)
 go_call (drawTaken_any B _ A len cap (by omega) hl hby2) as r W3 ⟨a, b, c, dd, ee, ts, ks, fs, tn, st, B0, B1, B2, e0, e1, e2, wk, rfl, h0, h1, h2, g2⟩
 clear tR Ae Ak Ad An Ac Ao Aa Am Ab Al
 replace M := Sep.new M g2
 clear g2 hby2 hs2 d
 simp only [zC, zN] at M
 obtain ⟨tR, Ae, Ak, Ad, An, Ac, Ao, Aa, Am, Ab, Al⟩ := M.f5 4 rfl
 go_wp2_with fail
 clear tR Ae Ak Ad An Ac Ao Aa Am Ab Al
 replace M := M.al2 28 #[.int .i64 a, .int .i64 b, .int .i64 c, .int .i64 dd, .int .i64 ee] 35 #[.slice B0 ts.length e0, .slice B1 ks.length e1, .slice B2 fs.length e2, .int .i64 tn, .bool st]
 obtain ⟨aP, aY, W4, e1, e2, e3, M⟩ := M
 rw [e3, e2, e1]
 clear e1 e2 e3
 go_wp2_with fail
 go_call (l1Once_any B _ g A len cap 16 (by omega) (by omega) (M.curIn 5 rfl hc hB hl hby)) as r W5 ⟨bb, rfl, gg, d⟩
 have MM := M.curGo 5 rfl gg d
 clear M hc gg d
 obtain ⟨cs1, hc, M⟩ := MM
 simp only [zZ, zS] at M
 cases bb
 ·obtain ⟨tY, Ap, Ax, Ay, Ar, Aq⟩ := M.q5 0 rfl
  obtain ⟨tP, Bb, Ba, Bd, Bc, Az⟩ := M.q5 1 rfl
  go_wp2_with fail
  clear tY Ap Ax Ay Ar Aq tP Bb Ba Bd Bc Az
  refine wp_region_T (S := (fun w' => w'.cell? ⟨aY, 0, none⟩ = some (.slice B0 ts.length e0) ∧ w'.cell? ⟨aY, 1, none⟩ = some (.slice B1 ks.length e1) ∧ w'.cell? ⟨aY, 2, none⟩ = some (.slice B2 fs.length e2) ∧ w'.cell? ⟨aY, 3, none⟩ = some (.int .i64 tn) ∧ w'.cell? ⟨aY, 4, none⟩ = some (.bool st) ∧ w'.cell? ⟨aP, 0, none⟩ = some (.int .i64 a) ∧ w'.cell? ⟨aP, 1, none⟩ = some (.int .i64 b) ∧ w'.cell? ⟨aP, 2, none⟩ = some (.int .i64 c) ∧ w'.cell? ⟨aP, 3, none⟩ = some (.int .i64 dd) ∧ w'.cell? ⟨aP, 4, none⟩ = some (.int .i64 ee))) (ks := []) (by kernel_rfl) ⟨M.cell 0 0 rfl, M.cell 0 1 rfl, M.cell 0 2 rfl, M.cell 0 3 rfl, M.cell 0 4 rfl, M.cell 1 0 rfl, M.cell 1 1 rfl, M.cell 1 2 rfl, M.cell 1 3 rfl, M.cell 1 4 rfl⟩ (fun hHeld => ?_)
  replace M := M.drew
  generalize W5.drew = W6 at M hHeld ⊢
  refine tkLa 0 _ rfl hHeld ?_
  try simp only [Act.put, zI, zZ, zS]
  refine tkLa 1 _ rfl hHeld ?_
  try simp only [Act.put, zI, zZ, zS]
  refine tkYa 2 _ rfl (fun _ => hHeld) ?_
  try simp only [Act.put, zI, zZ, zS]
  refine tkYa 3 _ rfl (fun _ => hHeld) ?_
  try simp only [Act.put, zI, zZ, zS]
  refine wpAnyT_callL (i := 4) rfl (by kernel_rfl) (fun K hK => ?_)
  go_simp
  refine Calls.mono (by with_reducible exact (l1From_any B _ g A len cap (-1) 2 (by omega) (by omega) (by omega) (M.curIn 5 rfl hc hB hl hby))) ?_
  rintro r W7 ⟨kd, rfl, kd1, kd2, gg, d⟩
  have MM := M.curGo 5 rfl gg d
  clear M hc gg d
  obtain ⟨cs2, hc, M⟩ := MM
  simp only [zZ, zS] at M
  clear hHeld
  go_wp2_with fail
  refine hK.out _ _ ?_ (fun hHeld => ?_)
  ·exact M.c10 0 1 rfl rfl
  clear hK K
  try simp only [Act.put, zI, zZ, zS]
  obtain ⟨tQ, Ah, Aw, Ai, Av, Aj, At, Af, Au, Ag, As⟩ := M.f5 7 rfl
  refine wpAnyT_callL (i := 5) rfl (by kernel_rfl) (fun K hK => ?_)
  go_simp
  clear tQ Ah Aw Ai Av Aj At Af Au Ag As
  replace M := M.gset5 7 rfl (.int .i64 a) (.int .i64 b) (.int .i64 c) (.int .i64 dd) (.int .i64 ee)
  obtain ⟨W8, eW, M⟩ := M
  rw [eW]
  clear eW
  simp only [zZ, zS] at M
  clear hHeld
  refine hK.out _ _ ?_ (fun hHeld => ?_)
  ·exact M.c10 0 1 rfl rfl
  clear hK K
  try simp only [Act.put, zI, zZ, zS]
  obtain ⟨tR, Ae, Ak, Ad, An, Ac, Ao, Aa, Am, Ab, Al⟩ := M.f5 6 rfl
  refine wpAnyT_callL (i := 6) rfl (by kernel_rfl) (fun K hK => ?_)
  go_simp
  clear tR Ae Ak Ad An Ac Ao Aa Am Ab Al
  replace M := M.gset5 6 rfl (.slice B0 ts.length e0) (.slice B1 ks.length e1) (.slice B2 fs.length e2) (.int .i64 tn) (.bool st)
  obtain ⟨W9, eW, M⟩ := M
  rw [eW]
  clear eW
  simp only [zZ, zS] at M
  clear hHeld
  refine hK.out _ _ ?_ (fun hHeld => ?_)
  ·exact M.c10 0 1 rfl rfl
  clear hK K
  try simp only [Act.put, zI, zZ, zS]
  refine tkYa 7 _ rfl (fun _ => hHeld) ?_
  try simp only [Act.put, zI, zZ, zS]
  refine tkYa 8 _ rfl (fun _ => hHeld) ?_
  try simp only [Act.put, zI, zZ, zS]
  refine wpAnyT_done (by kernel_rfl) ?_ _
  go_wp2_with fail
  obtain ⟨tR, Ae, Ad, Ac, Aa, Ab⟩ := M.q5 6 rfl
  obtain ⟨tQ, Ah, Ai, Aj, Af, Ag⟩ := M.q5 7 rfl
  exact bodyPost_ret (v := .tuple #[.agg #[.int .i64 a, .int .i64 b, .int .i64 c, .int .i64 dd, .int .i64 ee], .agg #[.slice B0 ts.length e0, .slice B1 ks.length e1, .slice B2 fs.length e2, .int .i64 tn, .bool st], .int .i64 wk, .int .i64 kd]) (by simp [results, Tryz.results38, go_sem, Ah, Ai, Aj, Af, Ag, Ae, Ad, Ac, Aa, Ab]) rfl ⟨a, b, c, dd, ee, ts, ks, fs, tn, st, B0, B1, B2, e0, e1, e2, wk, kd, rfl, h0, h1, h2, (M.drop 2).take 3⟩
 ·by_cases hks : 0 < ks.length
  ·have hks1 : (0 : Int) < (ks.length : Int) := by omega
   obtain ⟨gk, rfl, hgl, hfz⟩ := rK_form (M.rowAt 3 rfl) hks
   clear hgl hfz
   obtain ⟨tY, Ap, Ax, Ay, Ar, Aq⟩ := M.q5 0 rfl
   go_wp2_with fail
   clear tY Ap Ax Ay Ar Aq
   refine wp_region_T (S := (fun w' => w'.cell? ⟨aY, 0, none⟩ = some (.slice B0 ts.length e0) ∧ w'.cell? ⟨aY, 1, none⟩ = some (.slice (some ⟨gk, 0, none⟩) ks.length e1) ∧ w'.cell? ⟨aY, 2, none⟩ = some (.slice B2 fs.length e2) ∧ w'.cell? ⟨aY, 3, none⟩ = some (.int .i64 tn) ∧ w'.cell? ⟨aY, 4, none⟩ = some (.bool st))) (ks := []) (by kernel_rfl) ⟨M.cell 0 0 rfl, M.cell 0 1 rfl, M.cell 0 2 rfl, M.cell 0 3 rfl, M.cell 0 4 rfl⟩ (fun hHeld => ?_)
   replace M := M.drew
   generalize W5.drew = W10 at M hHeld ⊢
   refine tkYa 0 _ rfl (fun _ => hHeld) ?_
   try simp only [Act.put, zI, zZ, zS]
   refine tkLa 1 _ rfl hHeld ?_
   try simp only [Act.put, zI, zZ, zS]
   refine tkYa 2 _ rfl (fun _ => hHeld) ?_
   try simp only [Act.put, zI, zZ, zS]
   refine wpAnyT_callL (i := 3) rfl (by kernel_rfl) (fun K hK => ?_)
   go_simp
   refine Calls.mono (by with_reducible exact (l1Below_pos B _ g A len cap 2 (by omega) (by omega) (M.curIn 5 rfl hc hB hl hby))) ?_
   rintro r W11 ⟨v9, rfl, v91, v92, gg, d⟩
   have MM := M.curGo 5 rfl gg d
   clear M hc gg d
   obtain ⟨cs2, hc, M⟩ := MM
   simp only [zZ, zS] at M
   clear hHeld
   go_wp2_with fail
   refine hK.out _ _ ?_ (fun hHeld => ?_)
   ·exact ⟨M.cell 0 0 rfl, M.cell 0 1 rfl, M.cell 0 2 rfl, M.cell 0 3 rfl, M.cell 0 4 rfl⟩
   clear hK K
   try simp only [Act.put, zI, zZ, zS]
   refine tkYa 4 _ rfl (fun _ => hHeld) ?_
   try simp only [Act.put, zI, zZ, zS]
   refine tkYa 5 _ rfl (fun _ => hHeld) ?_
   try simp only [Act.put, zI, zZ, zS]
   have yk : ∃ u, W11.cell? ⟨gk, 0, none⟩ = some (.int .i64 u) := ⟨ks[0], rK_get0 (M.rowAt 3 rfl) (List.getElem?_eq_getElem hks)⟩
   obtain ⟨u0, yk⟩ := yk
   have fzk : W11.frozen? ⟨gk, 0, none⟩ = false := Own.fz (M.rowAt 3 rfl) _
   refine wpAnyT_callL (i := 6) rfl (by kernel_rfl) (fun K hK => ?_)
   go_simp
   have hwr : IntKind.i64.wrap (100 - v9) = 100 - v9 := IntWalk.i64_in _ (by omega)
   rw [hwr]
   clear hwr
   have N : ∃ V, (W11.setCell ⟨gk, 0, none⟩ (.int .i64 (100 - v9))) = V ∧ Sep [] w V [.blk (aY) 35 #[.slice B0 ts.length e0, .slice (some ⟨gk, 0, none⟩) ks.length e1, .slice B2 fs.length e2, .int .i64 tn, .bool st], .blk (aP) 28 #[.int .i64 a, .int .i64 b, .int .i64 c, .int .i64 dd, .int .i64 ee], rT ts.length B0 e0 ts, rK ks.length (some ⟨gk, 0, none⟩) e1 (ks.set 0 (100 - v9)), rF fs.length B2 e2 fs, .blk g 143 cs2, .blk (aR) 35 #[.slice none 0 0, .slice none 0 0, .slice none 0 0, .int .i64 0, .bool false], .blk (aQ) 28 #[.int .i64 0, .int .i64 0, .int .i64 0, .int .i64 0, .int .i64 0]] := ⟨_, rfl, M.putK 3 rfl 0 (100 - v9)⟩
   clear M yk fzk
   obtain ⟨W12, eW, M⟩ := N
   rw [eW]
   clear eW
   clear hHeld
   refine hK.out _ _ ?_ (fun hHeld => ?_)
   ·exact ⟨M.cell 0 0 rfl, M.cell 0 1 rfl, M.cell 0 2 rfl, M.cell 0 3 rfl, M.cell 0 4 rfl⟩
   clear hK K hHeld
   try simp only [Act.put, zI, zZ, zS]
   refine wpAnyT_done (by kernel_rfl) ?_ _
   obtain ⟨vs, hvs⟩ : ∃ vs, vs = ks.set 0 (100 - v9) := ⟨_, rfl⟩
   have hvl : ks.length = vs.length := by rw [hvs]; simp
   rw [← hvs, hvl] at M
   rw [hvl] at h1
   clear hks hks1 hvs hvl
   obtain ⟨tY, Ap, Ax, Ay, Ar, Aq⟩ := M.q5 0 rfl
   obtain ⟨tP, Bb, Ba, Bd, Bc, Az⟩ := M.q5 1 rfl
   go_wp2_with fail
   clear tY Ap Ax Ay Ar Aq tP Bb Ba Bd Bc Az
   refine wp_region_T (S := (fun w' => w'.cell? ⟨aY, 0, none⟩ = some (.slice B0 ts.length e0) ∧ w'.cell? ⟨aY, 1, none⟩ = some (.slice (some ⟨gk, 0, none⟩) vs.length e1) ∧ w'.cell? ⟨aY, 2, none⟩ = some (.slice B2 fs.length e2) ∧ w'.cell? ⟨aY, 3, none⟩ = some (.int .i64 tn) ∧ w'.cell? ⟨aY, 4, none⟩ = some (.bool st) ∧ w'.cell? ⟨aP, 0, none⟩ = some (.int .i64 a) ∧ w'.cell? ⟨aP, 1, none⟩ = some (.int .i64 b) ∧ w'.cell? ⟨aP, 2, none⟩ = some (.int .i64 c) ∧ w'.cell? ⟨aP, 3, none⟩ = some (.int .i64 dd) ∧ w'.cell? ⟨aP, 4, none⟩ = some (.int .i64 ee))) (ks := []) (by kernel_rfl) ⟨M.cell 0 0 rfl, M.cell 0 1 rfl, M.cell 0 2 rfl, M.cell 0 3 rfl, M.cell 0 4 rfl, M.cell 1 0 rfl, M.cell 1 1 rfl, M.cell 1 2 rfl, M.cell 1 3 rfl, M.cell 1 4 rfl⟩ (fun hHeld => ?_)
   replace M := M.drew
   generalize W12.drew = W13 at M hHeld ⊢
   refine tkLa 0 _ rfl hHeld ?_
   try simp only [Act.put, zI, zZ, zS]
   refine tkLa 1 _ rfl hHeld ?_
   try simp only [Act.put, zI, zZ, zS]
   refine tkYa 2 _ rfl (fun _ => hHeld) ?_
   try simp only [Act.put, zI, zZ, zS]
   refine tkYa 3 _ rfl (fun _ => hHeld) ?_
   try simp only [Act.put, zI, zZ, zS]
   refine wpAnyT_callL (i := 4) rfl (by kernel_rfl) (fun K hK => ?_)
   go_simp
   refine Calls.mono (by with_reducible exact (l1From_any B _ g A len cap (-1) 2 (by omega) (by omega) (by omega) (M.curIn 5 rfl hc hB hl hby))) ?_
   rintro r W14 ⟨kd, rfl, kd1, kd2, gg, d⟩
   have MM := M.curGo 5 rfl gg d
   clear M hc gg d
   obtain ⟨cs3, hc, M⟩ := MM
   simp only [zZ, zS] at M
   clear hHeld
   go_wp2_with fail
   refine hK.out _ _ ?_ (fun hHeld => ?_)
   ·exact M.c10 0 1 rfl rfl
   clear hK K
   try simp only [Act.put, zI, zZ, zS]
   obtain ⟨tQ, Ah, Aw, Ai, Av, Aj, At, Af, Au, Ag, As⟩ := M.f5 7 rfl
   refine wpAnyT_callL (i := 5) rfl (by kernel_rfl) (fun K hK => ?_)
   go_simp
   clear tQ Ah Aw Ai Av Aj At Af Au Ag As
   replace M := M.gset5 7 rfl (.int .i64 a) (.int .i64 b) (.int .i64 c) (.int .i64 dd) (.int .i64 ee)
   obtain ⟨W15, eW, M⟩ := M
   rw [eW]
   clear eW
   simp only [zZ, zS] at M
   clear hHeld
   refine hK.out _ _ ?_ (fun hHeld => ?_)
   ·exact M.c10 0 1 rfl rfl
   clear hK K
   try simp only [Act.put, zI, zZ, zS]
   obtain ⟨tR, Ae, Ak, Ad, An, Ac, Ao, Aa, Am, Ab, Al⟩ := M.f5 6 rfl
   refine wpAnyT_callL (i := 6) rfl (by kernel_rfl) (fun K hK => ?_)
   go_simp
   clear tR Ae Ak Ad An Ac Ao Aa Am Ab Al
   replace M := M.gset5 6 rfl (.slice B0 ts.length e0) (.slice (some ⟨gk, 0, none⟩) vs.length e1) (.slice B2 fs.length e2) (.int .i64 tn) (.bool st)
   obtain ⟨W16, eW, M⟩ := M
   rw [eW]
   clear eW
   simp only [zZ, zS] at M
   clear hHeld
   refine hK.out _ _ ?_ (fun hHeld => ?_)
   ·exact M.c10 0 1 rfl rfl
   clear hK K
   try simp only [Act.put, zI, zZ, zS]
   refine tkYa 7 _ rfl (fun _ => hHeld) ?_
   try simp only [Act.put, zI, zZ, zS]
   refine tkYa 8 _ rfl (fun _ => hHeld) ?_
   try simp only [Act.put, zI, zZ, zS]
   refine wpAnyT_done (by kernel_rfl) ?_ _
   go_wp2_with fail
   obtain ⟨tR, Ae, Ad, Ac, Aa, Ab⟩ := M.q5 6 rfl
   obtain ⟨tQ, Ah, Ai, Aj, Af, Ag⟩ := M.q5 7 rfl
   exact bodyPost_ret (v := .tuple #[.agg #[.int .i64 a, .int .i64 b, .int .i64 c, .int .i64 dd, .int .i64 ee], .agg #[.slice B0 ts.length e0, .slice (some ⟨gk, 0, none⟩) vs.length e1, .slice B2 fs.length e2, .int .i64 tn, .bool st], .int .i64 wk, .int .i64 kd]) (by simp [results, Tryz.results38, go_sem, Ah, Ai, Aj, Af, Ag, Ae, Ad, Ac, Aa, Ab]) rfl ⟨a, b, c, dd, ee, ts, vs, fs, tn, st, B0, _, B2, e0, e1, e2, wk, kd, rfl, h0, h1, h2, (M.drop 2).take 3⟩
  ·have hks1 : ¬ (0 : Int) < (ks.length : Int) := by omega
   obtain ⟨tY, Ap, Ax, Ay, Ar, Aq⟩ := M.q5 0 rfl
   obtain ⟨tP, Bb, Ba, Bd, Bc, Az⟩ := M.q5 1 rfl
   go_wp2_with fail
   clear tY Ap Ax Ay Ar Aq tP Bb Ba Bd Bc Az
   refine wp_region_T (S := (fun w' => w'.cell? ⟨aY, 0, none⟩ = some (.slice B0 ts.length e0) ∧ w'.cell? ⟨aY, 1, none⟩ = some (.slice B1 ks.length e1) ∧ w'.cell? ⟨aY, 2, none⟩ = some (.slice B2 fs.length e2) ∧ w'.cell? ⟨aY, 3, none⟩ = some (.int .i64 tn) ∧ w'.cell? ⟨aY, 4, none⟩ = some (.bool st) ∧ w'.cell? ⟨aP, 0, none⟩ = some (.int .i64 a) ∧ w'.cell? ⟨aP, 1, none⟩ = some (.int .i64 b) ∧ w'.cell? ⟨aP, 2, none⟩ = some (.int .i64 c) ∧ w'.cell? ⟨aP, 3, none⟩ = some (.int .i64 dd) ∧ w'.cell? ⟨aP, 4, none⟩ = some (.int .i64 ee))) (ks := []) (by kernel_rfl) ⟨M.cell 0 0 rfl, M.cell 0 1 rfl, M.cell 0 2 rfl, M.cell 0 3 rfl, M.cell 0 4 rfl, M.cell 1 0 rfl, M.cell 1 1 rfl, M.cell 1 2 rfl, M.cell 1 3 rfl, M.cell 1 4 rfl⟩ (fun hHeld => ?_)
   replace M := M.drew
   generalize W5.drew = W17 at M hHeld ⊢
   refine tkLa 0 _ rfl hHeld ?_
   try simp only [Act.put, zI, zZ, zS]
   refine tkLa 1 _ rfl hHeld ?_
   try simp only [Act.put, zI, zZ, zS]
   refine tkYa 2 _ rfl (fun _ => hHeld) ?_
   try simp only [Act.put, zI, zZ, zS]
   refine tkYa 3 _ rfl (fun _ => hHeld) ?_
   try simp only [Act.put, zI, zZ, zS]
   refine wpAnyT_callL (i := 4) rfl (by kernel_rfl) (fun K hK => ?_)
   go_simp
   refine Calls.mono (by with_reducible exact (l1From_any B _ g A len cap (-1) 2 (by omega) (by omega) (by omega) (M.curIn 5 rfl hc hB hl hby))) ?_
   rintro r W18 ⟨kd, rfl, kd1, kd2, gg, d⟩
   have MM := M.curGo 5 rfl gg d
   clear M hc gg d
   obtain ⟨cs2, hc, M⟩ := MM
   simp only [zZ, zS] at M
   clear hHeld
   go_wp2_with fail
   refine hK.out _ _ ?_ (fun hHeld => ?_)
   ·exact M.c10 0 1 rfl rfl
   clear hK K
   try simp only [Act.put, zI, zZ, zS]
   obtain ⟨tQ, Ah, Aw, Ai, Av, Aj, At, Af, Au, Ag, As⟩ := M.f5 7 rfl
   refine wpAnyT_callL (i := 5) rfl (by kernel_rfl) (fun K hK => ?_)
   go_simp
   clear tQ Ah Aw Ai Av Aj At Af Au Ag As
   replace M := M.gset5 7 rfl (.int .i64 a) (.int .i64 b) (.int .i64 c) (.int .i64 dd) (.int .i64 ee)
   obtain ⟨W19, eW, M⟩ := M
   rw [eW]
   clear eW
   simp only [zZ, zS] at M
   clear hHeld
   refine hK.out _ _ ?_ (fun hHeld => ?_)
   ·exact M.c10 0 1 rfl rfl
   clear hK K
   try simp only [Act.put, zI, zZ, zS]
   obtain ⟨tR, Ae, Ak, Ad, An, Ac, Ao, Aa, Am, Ab, Al⟩ := M.f5 6 rfl
   refine wpAnyT_callL (i := 6) rfl (by kernel_rfl) (fun K hK => ?_)
   go_simp
   clear tR Ae Ak Ad An Ac Ao Aa Am Ab Al
   replace M := M.gset5 6 rfl (.slice B0 ts.length e0) (.slice B1 ks.length e1) (.slice B2 fs.length e2) (.int .i64 tn) (.bool st)
   obtain ⟨W20, eW, M⟩ := M
   rw [eW]
   clear eW
   simp only [zZ, zS] at M
   clear hHeld
   refine hK.out _ _ ?_ (fun hHeld => ?_)
   ·exact M.c10 0 1 rfl rfl
   clear hK K
   try simp only [Act.put, zI, zZ, zS]
   refine tkYa 7 _ rfl (fun _ => hHeld) ?_
   try simp only [Act.put, zI, zZ, zS]
   refine tkYa 8 _ rfl (fun _ => hHeld) ?_
   try simp only [Act.put, zI, zZ, zS]
   refine wpAnyT_done (by kernel_rfl) ?_ _
   go_wp2_with fail
   obtain ⟨tR, Ae, Ad, Ac, Aa, Ab⟩ := M.q5 6 rfl
   obtain ⟨tQ, Ah, Ai, Aj, Af, Ag⟩ := M.q5 7 rfl
   exact bodyPost_ret (v := .tuple #[.agg #[.int .i64 a, .int .i64 b, .int .i64 c, .int .i64 dd, .int .i64 ee], .agg #[.slice B0 ts.length e0, .slice B1 ks.length e1, .slice B2 fs.length e2, .int .i64 tn, .bool st], .int .i64 wk, .int .i64 kd]) (by simp [results, Tryz.results38, go_sem, Ah, Ai, Aj, Af, Ag, Ae, Ad, Ac, Aa, Ab]) rfl ⟨a, b, c, dd, ee, ts, ks, fs, tn, st, B0, B1, B2, e0, e1, e2, wk, kd, rfl, h0, h1, h2, (M.drop 2).take 3⟩
set_option maxRecDepth 100000 in
set_option maxHeartbeats 1000000 in
theorem likeInts_same (ks : List Int) (A B : Option Addr) (c d : Nat) (w : World) (hlen : ks.length ≤ 1048576) (h0 : Row w A (icells ks)) (h1 : Row w B (icells ks)) :
 Calls Tryz.prog 76 #[.slice A ks.length c, .slice B ks.length d] w fun r w' => r = .returned (.bool true) ∧ Below w.heap.size w w' := by
 have H0 := hide h0
 have H1 := hide h1
 clear h0 h1
 go_enter Tryz.func76, Tryz.ntmps76
 go_wp2
 go_loopw [5] (fun i wr => ∃ (k : Nat), k ≤ ks.length ∧ i = .int .i64 k ∧ Below w.heap.size w wr) (fun i _ => ks.length - (intOf i).toNat)
 case atStart => exact ⟨0, Nat.zero_le _, rfl, by go_grown⟩
 case round =>
  obtain ⟨k, hk, rfl, hbel⟩ := hrel
  have hz := hbel.size
  by_cases hlt : k < ks.length
  ·obtain ⟨b, off, v, rfl, _, hx, hb1, z0⟩ := (H0.out.below hbel).ks_at hlt
   obtain ⟨b2, off2, v', rfl, _, hx2, hb2, y0⟩ := (H1.out.below hbel).ks_at hlt
   rw [hx] at hx2
   injection hx2 with hx2
   subst hx2
   clear hx
   have c0 := KeptW.cell (W0 := wr) (b := b) (o := off + k) (z0)
   have e0 := KeptW.cell (W0 := wr) (b := b2) (o := off2 + k) (y0)
   clear z0 y0
   go_wp2_with fail
   have hx0 := KeptW.mk'_w (Below.refl wr.heap.size wr)
   generalize KeptW.mk' (Below.refl wr.heap.size wr) = x at hx0
   rw [← hx0]
   clear hx0
   refine region_kept (by kernel_rfl) (by kernel_rfl) ?_
   repeat (go_big_quiet_step (fail))
   refine wpQuiet_nil ?_
   rintro _ ⟨x, rfl⟩
   have hgx := hbel.trans (x.below.mono hz)
   go_wp2
   go_roundw
   case rel => exact ⟨k + 1, by omega, by go_num, hgx⟩
   case measure => simp [intOf]; omega
  ·go_wp2
   go_ret
   exact ⟨rfl, hbel⟩
set_option maxRecDepth 100000 in
set_option maxHeartbeats 1000000 in
theorem likePool_same (ts : List T7) (ks : List Int) (fs : List F2) (A0 A1 A2 B0 B1 B2 : Option Addr) (c0 c1 c2 d0 d1 d2 : Nat) (tn : Int) (st : Bool) (w : World) (hl : ts.length + ks.length + fs.length ≤ 1048576) (hA : InPool w ts ks fs A0 A1 A2) (hB : InPool w ts ks fs B0 B1 B2) :
 Calls Tryz.prog 29 #[.agg #[.slice A0 ts.length c0, .slice A1 ks.length c1, .slice A2 fs.length c2, .int .i64 tn, .bool st], .agg #[.slice B0 ts.length d0, .slice B1 ks.length d1, .slice B2 fs.length d2, .int .i64 tn, .bool st]] w fun r w' => r = .returned (.bool true) ∧ Below w.heap.size w w' := by
 have HA := hide hA
 have HB := hide hB
 clear hA hB
 go_enter Tryz.func29, Tryz.ntmps29
 go_wp2_with fail
 generalize hW : (w.alloc _).alloc _ = W1
 have M := Sep.e2 hW
 clear hW
 have HV := hide M.below
 obtain ⟨xb, hxb⟩ : ∃ xb, xb = w.heap.size := ⟨_, rfl⟩
 obtain ⟨yb, hyb⟩ : ∃ yb, yb = w.heap.size + 1 := ⟨_, rfl⟩
 rw [← hyb, ← hxb] at M ⊢
 obtain ⟨tX, Ah, Aj, Ai, Ad, Ac⟩ := M.q5 1 rfl
 obtain ⟨tY, Ab, Ag, Af, Ae, Aa⟩ := M.q5 0 rfl
 have HA2 := hide (InPool.below HA.out M.below)
 have HB2 := hide (InPool.below HB.out M.below)
 clear M HA HB hxb hyb tX tY
 have cX0 := fun (x : KeptW W1) => KeptW.cell Ah x
 have cX1 := fun (x : KeptW W1) => KeptW.cell Aj x
 have cX2 := fun (x : KeptW W1) => KeptW.cell Ai x
 have cX3 := fun (x : KeptW W1) => KeptW.cell Ad x
 have cX4 := fun (x : KeptW W1) => KeptW.cell Ac x
 have cY0 := fun (x : KeptW W1) => KeptW.cell Ab x
 have cY1 := fun (x : KeptW W1) => KeptW.cell Ag x
 have cY2 := fun (x : KeptW W1) => KeptW.cell Af x
 have cY3 := fun (x : KeptW W1) => KeptW.cell Ae x
 have cY4 := fun (x : KeptW W1) => KeptW.cell Aa x
 clear Ah Aj Ai Ad Ac Ab Ag Af Ae Aa
 have hx0 := KeptW.mk'_w (Below.refl W1.heap.size W1)
 generalize KeptW.mk' (Below.refl W1.heap.size W1) = x0 at hx0
 rw [← hx0]
 clear hx0
 go_wp2_with fail
 go_call (likeInts_same ks A1 B1 c1 d1 x0.w (by omega) (InPool.below HA2.out x0.below).2.1 (InPool.below HB2.out x0.below).2.1) as r Wq ⟨rfl, g3⟩
 obtain ⟨x1, rfl⟩ : ∃ y : KeptW W1, Wq = y.w := ⟨KeptW.mk' (x0.below.trans (g3.mono x0.below.size)), rfl⟩
 clear g3
 go_wp2_with fail
 go_loopw [5] (fun i wr => ∃ (k : Nat) (x : KeptW W1), k ≤ ts.length ∧ i = .int .i64 k ∧ wr = x.w) (fun i _ => ts.length - (intOf i).toNat)
 case atStart => exact ⟨0, x1, Nat.zero_le _, rfl, rfl⟩
 case round =>
  obtain ⟨k, x, hk, rfl, rfl⟩ := hrel
  by_cases hlt : k < ts.length
  ·obtain ⟨b, off, s, l, o, wt, on, v, t, eA, _, hx, hb1, z0, z1, z2, z3, z4, z5, z6⟩ := (InPool.below HA2.out x.below).1.ts_at hlt
   obtain ⟨b2, off2, s', l', o', wt', on', v', t', eB, _, hx2, hb2, y0, y1, y2, y3, y4, y5, y6⟩ := (InPool.below HB2.out x.below).1.ts_at hlt
   rw [hx] at hx2
   injection hx2 with hx2
   injection hx2 with u0 u1 u2 u3 u4 u5 u6
   subst u0 u1 u2 u3 u4 u5 u6 eA eB
   clear hx
   have e0 := KeptW.cell (W0 := x.w) (b := b) (o := off + k * 7) (z0)
   have f0 := KeptW.cell (W0 := x.w) (b := b2) (o := off2 + k * 7) (y0)
   have e1 := KeptW.cell (W0 := x.w) (b := b) (o := off + k * 7 + 1) (z1)
   have f1 := KeptW.cell (W0 := x.w) (b := b2) (o := off2 + k * 7 + 1) (y1)
   have e2 := KeptW.cell (W0 := x.w) (b := b) (o := off + k * 7 + 2) (z2)
   have f2 := KeptW.cell (W0 := x.w) (b := b2) (o := off2 + k * 7 + 2) (y2)
   have e3 := KeptW.cell (W0 := x.w) (b := b) (o := off + k * 7 + 3) (z3)
   have f3 := KeptW.cell (W0 := x.w) (b := b2) (o := off2 + k * 7 + 3) (y3)
   have e4 := KeptW.cell (W0 := x.w) (b := b) (o := off + k * 7 + 4) (z4)
   have f4 := KeptW.cell (W0 := x.w) (b := b2) (o := off2 + k * 7 + 4) (y4)
   have e5 := KeptW.cell (W0 := x.w) (b := b) (o := off + k * 7 + 5) (z5)
   have f5 := KeptW.cell (W0 := x.w) (b := b2) (o := off2 + k * 7 + 5) (y5)
   have e6 := KeptW.cell (W0 := x.w) (b := b) (o := off + k * 7 + 6) (z6)
   have f6 := KeptW.cell (W0 := x.w) (b := b2) (o := off2 + k * 7 + 6) (y6)
   clear z0 y0 z1 y1 z2 y2 z3 y3 z4 y4 z5 y5 z6 y6
   have dX0 := fun (y : KeptW x.w) => KeptW.cell (cX0 x) y
   have dX2 := fun (y : KeptW x.w) => KeptW.cell (cX2 x) y
   have dY0 := fun (y : KeptW x.w) => KeptW.cell (cY0 x) y
   have dY2 := fun (y : KeptW x.w) => KeptW.cell (cY2 x) y
   clear HA2 HB2
   go_wp2_with fail
   have hx0 := KeptW.mk'_w (Below.refl x.w.heap.size x.w)
   generalize KeptW.mk' (Below.refl x.w.heap.size x.w) = x2 at hx0
   rw [← hx0]
   clear hx0
   refine region_kept (by kernel_rfl) (by kernel_rfl) ?_
   repeat (go_big_quiet_step (fail))
   refine wpQuiet_nil ?_
   rintro _ ⟨x2, rfl⟩
   obtain ⟨y, hy⟩ : ∃ y : KeptW W1, x2.w = y.w := ⟨KeptW.mk' (x.below.trans (x2.below.mono x.below.size)), rfl⟩
   rw [hy]
   clear hy
   go_wp2
   go_roundw
   case rel => exact ⟨k + 1, y, by omega, by go_num, rfl⟩
   case measure => simp [intOf]; omega
  ·go_wp2_with fail
   go_loopw [6] (fun i wr => ∃ (k : Nat) (x : KeptW W1), k ≤ fs.length ∧ i = .int .i64 k ∧ wr = x.w) (fun i _ => fs.length - (intOf i).toNat)
   case atStart => exact ⟨0, x, Nat.zero_le _, rfl, rfl⟩
   case round =>
    clear hk hlt
    obtain ⟨k, x, hk, rfl, rfl⟩ := hrel
    by_cases hlt : k < fs.length
    ·obtain ⟨b, off, s, v, eA, _, hx, hb1, z0, z1⟩ := (InPool.below HA2.out x.below).2.2.fs_at hlt
     obtain ⟨b2, off2, s', v', eB, _, hx2, hb2, y0, y1⟩ := (InPool.below HB2.out x.below).2.2.fs_at hlt
     rw [hx] at hx2
     injection hx2 with hx2
     injection hx2 with u0 u1
     subst u0 u1 eA eB
     clear hx
     have e0 := KeptW.cell (W0 := x.w) (b := b) (o := off + k * 2) (z0)
     have f0 := KeptW.cell (W0 := x.w) (b := b2) (o := off2 + k * 2) (y0)
     have e1 := KeptW.cell (W0 := x.w) (b := b) (o := off + k * 2 + 1) (z1)
     have f1 := KeptW.cell (W0 := x.w) (b := b2) (o := off2 + k * 2 + 1) (y1)
     clear z0 y0 z1 y1
     have dX0 := fun (y : KeptW x.w) => KeptW.cell (cX0 x) y
     have dX2 := fun (y : KeptW x.w) => KeptW.cell (cX2 x) y
     have dY0 := fun (y : KeptW x.w) => KeptW.cell (cY0 x) y
     have dY2 := fun (y : KeptW x.w) => KeptW.cell (cY2 x) y
     clear HA2 HB2
     go_wp2_with fail
     have hx0 := KeptW.mk'_w (Below.refl x.w.heap.size x.w)
     generalize KeptW.mk' (Below.refl x.w.heap.size x.w) = x2 at hx0
     rw [← hx0]
     clear hx0
     refine region_kept (by kernel_rfl) (by kernel_rfl) ?_
     repeat (go_big_quiet_step (fail))
     refine wpQuiet_nil ?_
     rintro _ ⟨x2, rfl⟩
     obtain ⟨y, hy⟩ : ∃ y : KeptW W1, x2.w = y.w := ⟨KeptW.mk' (x.below.trans (x2.below.mono x.below.size)), rfl⟩
     rw [hy]
     clear hy
     go_wp2
     go_roundw
     case rel => exact ⟨k + 1, y, by omega, by go_num, rfl⟩
     case measure => simp [intOf]; omega
    ·go_wp2
     go_ret
     exact ⟨rfl, HV.out.trans (x.below.mono HV.out.size)⟩
theorem gPoolOk_k {a b c d e : Int} {ts : List T7} {ks : List Int} {fs : List F2} {A0 A1 A2 : Option Addr} (c0 c1 c2 : Nat) {tn : Int} (st y : Bool) (w : World) (hk : ks.length ≤ 1048576) (hf : fs.length ≤ 1048576) (h : InPool w ts ks fs A0 A1 A2) (hy : poolB a b c d e ts ks fs tn = y) :
 Calls Tryz.prog 19 #[qF a b c d e, qP ts ks fs A0 A1 A2 c0 c1 c2 tn st] w fun r w' => r = .returned (.bool y) ∧ Below w.heap.size w w' := by
 unfold qF qP
 subst hy
 exact gPoolOk_any a b c d e ts ks fs A0 A1 A2 c0 c1 c2 tn st w hk hf h
end Go.Proofs.YtfkdfkoigojciaaGreatDoor
