/- A range over a function whose iterator works on blocks of its own: what lies from a mark on is kept by the body, what lies below it by the iterator. No condition. -/
import Derived.Test.YtfkdfkoigojciaaGreatDoorQT30
import Derived.Test.YtfkdfkoigojciaaGreatDoorQT34
import Derived.Test.YtfkdfkoigojciaaGreatDoorQT13
import Derived.Test.YtfkdfkoigojciaaGreatDoorQT03
import Derived.Test.YtfkdfkoigojciaaGreatDoorQT12
import Derived.RangeFuncNested
import Derived.RangeFuncBound
import Derived.RangeFuncCalls
import Derived.RangeFuncLeaves
import Derived.OwnWalkIn
import Derived.TacticsInMore
import Derived.LoopNIn
import Derived.LoopIn

namespace Go.Proofs.YtfkdfkoigojciaaGreatDoor
open Go.RowKit
set_option linter.unusedVariables false
theorem sepCur {g : Nat} {t : TypeId} {cs : Array Value} {w W : World} (hb : Below w.heap.size w W) (hg : w.heap.size ≤ g) (h : Sep [g] W W [.blk g t cs]) : Sep [] w W [.blk g t cs] :=
 ⟨hb.os, hb.tape, hb.output, hb.size, fun b hb' _ => hb.block b hb', h.here, fun r hr q hq => by
  obtain rfl := List.mem_singleton.1 hr
  injection hq with hq
  subst hq
  exact .inr hg, h.apart⟩
theorem Sep.curIn {B g len cap : Nat} {A : Option Addr} {w W : World} {rs : List Res} {cs : Array Value} (h : Sep [] w W rs) (i : Nat) (hi : rs[i]? = some (.blk g 143 cs)) (hc : curC A len cap cs) (hB : B ≤ w.heap.size) (hl : len ≤ 4096) (hby : Bytes w B A len) : CurAt B W g A len cap := by
 obtain ⟨k, y, rfl, hk⟩ := hc
 have hg : w.heap.size ≤ g := (h.own _ (List.mem_of_getElem? hi) g rfl).elim (fun h1 => by simp at h1) id
 exact ⟨by omega, hl, hby.keep fun b hb => h.block b (by omega) (by simp), k, y, h.blk i hi, hk⟩
theorem Sep.curGo {B g len cap : Nat} {A : Option Addr} {w W W' : World} {rs : List Res} {cs : Array Value} (h : Sep [] w W rs) (i : Nat) (hi : rs[i]? = some (.blk g 143 cs)) (gg : W.grownBy W' (some g)) (d : CurAt B W' g A len cap) : ∃ cs', curC A len cap cs' ∧ Sep [] w W' (rs.set i (.blk g 143 cs')) := by
 obtain ⟨h1, h2, h3, j, x, h4, h5⟩ := d
 exact ⟨_, ⟨j, x, rfl, h5⟩, h.upd i _ _ hi g rfl (fun y hy => by injection hy with hy; exact hy.symm) h4 gg.os gg.tape gg.output gg.size (fun b hb hne => gg.block b hb (by intro e; injection e with e; exact hne e))⟩
/-- The cells of one task in a row. -/
theorem Row.cells7 {W : World} {ts : List T7} {b off k : Nat} {s l o wt on v t : Int} (h : Row W (some ⟨b, off, none⟩) (tcells ts)) (hx : ts[k]? = some ⟨s, l, o, wt, on, v, t⟩) :
 W.cell? ⟨b, off + k * 7, none⟩ = some (.int .i64 s) ∧ W.cell? ⟨b, off + k * 7 + 1, none⟩ = some (.int .i64 l) ∧ W.cell? ⟨b, off + k * 7 + 2, none⟩ = some (.int .i64 o) ∧ W.cell? ⟨b, off + k * 7 + 3, none⟩ = some (.int .i64 wt) ∧
  W.cell? ⟨b, off + k * 7 + 4, none⟩ = some (.int .i64 on) ∧ W.cell? ⟨b, off + k * 7 + 5, none⟩ = some (.int .i64 v) ∧ W.cell? ⟨b, off + k * 7 + 6, none⟩ = some (.int .i64 t) := by
 obtain ⟨b2, off2, s', l', o', wt', on', v', t', e, _, hx2, _, z⟩ := h.ts_at (List.getElem?_eq_some_iff.1 hx).1
 rw [hx] at hx2
 injection hx2 with hx2
 injection hx2 with u0 u1 u2 u3 u4 u5 u6
 injection e with e
 injection e with e1 e2
 subst u0 u1 u2 u3 u4 u5 u6 e1 e2
 exact z
theorem Sep.al1 {S : List Nat} {w W : World} {rs : List Res} (h : Sep S w W rs) (t : TypeId) (cs : Array Value) : ∃ (a : Nat) (W' : World), W.heap.size = a ∧ W.alloc (.cells cs t) = W' ∧ Sep S w W' (.blk a t cs :: rs) := ⟨_, _, rfl, rfl, h.alloc t cs _ rfl⟩
theorem Sep.al2 {S : List Nat} {w W : World} {rs : List Res} (h : Sep S w W rs) (t1 : TypeId) (c1 : Array Value) (t2 : TypeId) (c2 : Array Value) : ∃ (a b : Nat) (W' : World), W.heap.size = a ∧ W.heap.size + 1 = b ∧ (W.alloc (.cells c1 t1)).alloc (.cells c2 t2) = W' ∧ Sep S w W' (.blk b t2 c2 :: .blk a t1 c1 :: rs) :=
 ⟨_, _, _, rfl, rfl, rfl, (h.alloc t1 c1 _ rfl).alloc t2 c2 _ (by simp)⟩
set_option maxHeartbeats 1600000
set_option maxRecDepth 100000
theorem l6DrawWorker_any (B : Nat) (w : World) (g : Nat) (A : Option Addr) (len cap : Nat) (a b c d e : Int) (d0 : CurAt B w g A len cap) :
 Calls Tryz.prog 141 #[.pointer (some ⟨g, 0, none⟩), .agg #[.int .i64 a, .int .i64 b, .int .i64 c, .int .i64 d, .int .i64 e]] w (CGave (-1) 8 B w g A len cap) := by
 have hg := d0.lt
 go_enter Tryz.func141, Tryz.ntmps141
 go_wp2_with fail
 obtain ⟨cs0, hc, M⟩ := cur_start d0
 replace M : Sep [g] w (w.alloc (.cells #[.int .i64 a, .int .i64 b, .int .i64 c, .int .i64 d, .int .i64 e] 28)) [.blk (w.heap.size) 28 #[.int .i64 a, .int .i64 b, .int .i64 c, .int .i64 d, .int .i64 e], .blk g 143 cs0] := (M.alloc 28 #[.int .i64 a, .int .i64 b, .int .i64 c, .int .i64 d, .int .i64 e] (w.heap.size) rfl)
 generalize w.alloc (.cells #[.int .i64 a, .int .i64 b, .int .i64 c, .int .i64 d, .int .i64 e] 28) = W1 at M ⊢
 obtain ⟨tP, Aa, Bb, Ae, Bg, Aj, Bf, Ag, Bi, Ad, Ba⟩ := M.f5 0 rfl
 go_wp2_with fail
 go_call (l1Once_any B _ g A len cap 16 (by omega) (by omega) (M.curAt 1 rfl d0 hc)) as r W2 ⟨bb, rfl, gg, d⟩
 clear tP Aa Bb Ae Bg Aj Bf Ag Bi Ad Ba
 have MM := M.curMoved 1 rfl gg d
 clear M hc gg d
 obtain ⟨cs1, hc, M⟩ := MM
 simp only [zZ, zS] at M
 cases bb
 ·obtain ⟨tP, Aa, Ae, Aj, Ag, Ad⟩ := M.q5 0 rfl
  go_wp2_with fail
  obtain ⟨n0, hn0, hn3⟩ : ∃ n0 : Int, (if a < 8 then a else 8) = n0 ∧ n0 ≤ 8 := ⟨_, rfl, by split <;> omega⟩
  obtain ⟨n, hn, hn1, hn2⟩ : ∃ n : Int, (if n0 < 1 then 1 else n0) = n ∧ 1 ≤ n ∧ n ≤ 8 := ⟨_, rfl, by split <;> omega, by split <;> omega⟩
  replace hn0 := hide hn0
  replace hn := hide hn
  go_call (l1Min_v a 8 n0 hn0.out _) as r W8 ⟨rfl, rfl⟩
  go_wp2_with fail
  go_call (l1Max_v 1 n0 n hn.out _) as r W9 ⟨rfl, rfl⟩
  go_wp2_with fail
  go_call (l1Below_pos B _ g A len cap n hn1 (by omega) (M.curAt 1 rfl d0 hc)) as r W3 ⟨v, rfl, v1, v2, gg, d⟩
  clear tP Aa Ae Aj Ag Ad
  have MM := M.curMoved 1 rfl gg d
  clear M hc gg d
  obtain ⟨cs2, hc, M⟩ := MM
  simp only [zZ, zS] at M
  go_wp2
  go_ret
  exact ⟨v, rfl, by omega, by omega, M.grown1, M.curAt 1 rfl d0 hc⟩
 ·obtain ⟨tP, Aa, Ae, Aj, Ag, Ad⟩ := M.q5 0 rfl
  go_wp2_with fail
  go_call (l1From_any B _ g A len cap (-1) 8 (by omega) (by omega) (by omega) (M.curAt 1 rfl d0 hc)) as r W3 ⟨v, rfl, v1, v2, gg, d⟩
  clear tP Aa Ae Aj Ag Ad
  have MM := M.curMoved 1 rfl gg d
  clear M hc gg d
  obtain ⟨cs2, hc, M⟩ := MM
  simp only [zZ, zS] at M
  go_wp2
  go_ret
  exact ⟨v, rfl, by omega, by omega, M.grown1, M.curAt 1 rfl d0 hc⟩
theorem drawTaken_any (B : Nat) (w : World) (A : Option Addr) (len cap : Nat) (hB : B ≤ w.heap.size) (hl : len ≤ 4096) (hby : Bytes w B A len) :
 Calls Tryz.prog 73 #[.slice A len cap] w fun r w' => ∃ (a b c d e : Int) (ts : List T7) (ks : List Int) (fs : List F2) (tn : Int) (st : Bool) (B0 B1 B2 : Option Addr) (e0 e1 e2 : Nat) (wk : Int), r = .returned (.tuple #[.agg #[.int .i64 a, .int .i64 b, .int .i64 c, .int .i64 d, .int .i64 e], .agg #[.slice B0 ts.length e0, .slice B1 ks.length e1, .slice B2 fs.length e2, .int .i64 tn, .bool st], .int .i64 wk]) ∧ ts.length ≤ 31 ∧ ks.length ≤ 31 ∧ fs.length ≤ 31 ∧ Sep [] w w' [rT ts.length B0 e0 ts, rK ks.length B1 e1 ks, rF fs.length B2 e2 fs] := by
 go_enter Tryz.func73, Tryz.ntmps73
 go_wp2_with fail
 have M := Sep.start w
 have N := M.al2 28 #[.int .i64 0, .int .i64 0, .int .i64 0, .int .i64 0, .int .i64 0] 35 #[.slice none 0 0, .slice none 0 0, .slice none 0 0, .int .i64 0, .bool false]
 clear M
 obtain ⟨aQ, aR, W1, e1, e2, e3, M⟩ := N
 rw [e3, e2, e1]
 clear e1 e2 e3
 obtain ⟨tQ, As, Aw, Ar, Au, Am, Av, An, Ay, At, Ax⟩ := M.f5 1 rfl
 go_wp2_with fail
 clear tQ As Aw Ar Au Am Av An Ay At Ax
 have hs1 := M.size
 have hby1 : Bytes W1 B A len := hby.keep fun b hb => M.below.block b (by omega)
 go_call (l1New_any B _ A len cap (by omega) hl hby1) as r W2 ⟨rfl, g1, d⟩
 obtain ⟨cs0, hc, N⟩ := cur_start d
 have N2 := sepCur g1 (Nat.le_refl _) N
 replace M := Sep.new M N2
 clear N N2 g1 hby1 hs1
 simp only [zC, zN] at M
 obtain ⟨g, hg⟩ : ∃ g, g = W1.heap.size := ⟨_, rfl⟩
 rw [← hg] at M d ⊢
 clear hg
 obtain ⟨tR, Ac, Al, Ai, Ao, Af, Aq, Ah, Ap, Ab, Ak⟩ := M.f5 1 rfl
 go_wp2_with fail
 go_call (l3DrawAny_any B _ g A len cap d) as r W3 ⟨a, b, c, dd, ee, ts, ks, fs, tn, st, B0, B1, B2, e0, e1, e2, n0, n1, n2, cs1, rfl, rfl, rfl, rfl, h0, h1, h2, hc2, g2⟩
 clear tR Ac Al Ai Ao Af Aq Ah Ap Ab Ak
 replace M := Sep.comp (ps := [.blk g 143 cs0]) M g2
 clear g2 hc d
 have hc := hc2
 clear hc2
 simp only [zC, zN] at M
 obtain ⟨tR, Ac, Al, Ai, Ao, Af, Aq, Ah, Ap, Ab, Ak⟩ := M.f5 4 rfl
 go_wp2_with fail
 clear tR Ac Al Ai Ao Af Aq Ah Ap Ab Ak
 have N := M.al2 28 #[.int .i64 a, .int .i64 b, .int .i64 c, .int .i64 dd, .int .i64 ee] 35 #[.slice B0 ts.length e0, .slice B1 ks.length e1, .slice B2 fs.length e2, .int .i64 tn, .bool st]
 clear M
 obtain ⟨aP, aY, W4, e1, e2, e3, M⟩ := N
 rw [e3, e2, e1]
 clear e1 e2 e3
 obtain ⟨tY, Bh, Bd, Az, Bc, Be⟩ := M.q5 0 rfl
 obtain ⟨tP, Aa, Ae, Aj, Ag, Ad⟩ := M.q5 1 rfl
 go_wp2_with fail
 clear tY Bh Bd Az Bc Be tP Aa Ae Aj Ag Ad
 refine wp_region_T (S := (fun w' => w'.cell? ⟨aY, 0, none⟩ = some (.slice B0 ts.length e0) ∧ w'.cell? ⟨aY, 1, none⟩ = some (.slice B1 ks.length e1) ∧ w'.cell? ⟨aY, 2, none⟩ = some (.slice B2 fs.length e2) ∧ w'.cell? ⟨aY, 3, none⟩ = some (.int .i64 tn) ∧ w'.cell? ⟨aY, 4, none⟩ = some (.bool st) ∧ w'.cell? ⟨aP, 0, none⟩ = some (.int .i64 a) ∧ w'.cell? ⟨aP, 1, none⟩ = some (.int .i64 b) ∧ w'.cell? ⟨aP, 2, none⟩ = some (.int .i64 c) ∧ w'.cell? ⟨aP, 3, none⟩ = some (.int .i64 dd) ∧ w'.cell? ⟨aP, 4, none⟩ = some (.int .i64 ee))) (ks := []) (by kernel_rfl) ⟨M.cell 0 0 rfl, M.cell 0 1 rfl, M.cell 0 2 rfl, M.cell 0 3 rfl, M.cell 0 4 rfl, M.cell 1 0 rfl, M.cell 1 1 rfl, M.cell 1 2 rfl, M.cell 1 3 rfl, M.cell 1 4 rfl⟩ (fun hHeld => ?_)
 replace M := M.drew
 generalize W4.drew = W5 at M hHeld ⊢
 refine tkLa 0 _ rfl hHeld ?_
 try simp only [Act.put, zI, zZ, zS]
 refine tkLa 1 _ rfl hHeld ?_
 try simp only [Act.put, zI, zZ, zS]
 refine tkYa 2 _ rfl (fun _ => hHeld) ?_
 try simp only [Act.put, zI, zZ, zS]
 refine tkLa 3 _ rfl hHeld ?_
 try simp only [Act.put, zI, zZ, zS]
 refine wpAnyT_callL (i := 4) rfl (by kernel_rfl) (fun K hK => ?_)
 go_simp
 refine Calls.mono (by with_reducible exact (l6DrawWorker_any B _ g A len cap a b c dd ee (M.curIn 5 rfl hc hB hl hby))) ?_
 rintro r W6 ⟨wk, rfl, wk1, wk2, gg, d⟩
 have MM := M.curGo 5 rfl gg d
 clear M hc gg d
 obtain ⟨cs2, hc, M⟩ := MM
 simp only [zZ, zS] at M
 clear hHeld
 go_wp2_with fail
 refine hK.out _ _ ?_ (fun hHeld => ?_)
 ·exact ⟨M.cell 0 0 rfl, M.cell 0 1 rfl, M.cell 0 2 rfl, M.cell 0 3 rfl, M.cell 0 4 rfl, M.cell 1 0 rfl, M.cell 1 1 rfl, M.cell 1 2 rfl, M.cell 1 3 rfl, M.cell 1 4 rfl⟩
 clear hK K
 try simp only [Act.put, zI, zZ, zS]
 obtain ⟨tQ, As, Aw, Ar, Au, Am, Av, An, Ay, At, Ax⟩ := M.f5 7 rfl
 refine wpAnyT_callL (i := 5) rfl (by kernel_rfl) (fun K hK => ?_)
 go_simp
 clear tQ As Aw Ar Au Am Av An Ay At Ax
 have N := M.gset5 7 rfl (.int .i64 a) (.int .i64 b) (.int .i64 c) (.int .i64 dd) (.int .i64 ee)
 clear M
 obtain ⟨W7, eW, M⟩ := N
 rw [eW]
 clear eW
 simp only [zZ, zS] at M
 clear hHeld
 refine hK.out _ _ ?_ (fun hHeld => ?_)
 ·exact ⟨M.cell 0 0 rfl, M.cell 0 1 rfl, M.cell 0 2 rfl, M.cell 0 3 rfl, M.cell 0 4 rfl, M.cell 1 0 rfl, M.cell 1 1 rfl, M.cell 1 2 rfl, M.cell 1 3 rfl, M.cell 1 4 rfl⟩
 clear hK K
 try simp only [Act.put, zI, zZ, zS]
 obtain ⟨tR, Ac, Al, Ai, Ao, Af, Aq, Ah, Ap, Ab, Ak⟩ := M.f5 6 rfl
 refine wpAnyT_callL (i := 6) rfl (by kernel_rfl) (fun K hK => ?_)
 go_simp
 clear tR Ac Al Ai Ao Af Aq Ah Ap Ab Ak
 have N := M.gset5 6 rfl (.slice B0 ts.length e0) (.slice B1 ks.length e1) (.slice B2 fs.length e2) (.int .i64 tn) (.bool st)
 clear M
 obtain ⟨W8, eW, M⟩ := N
 rw [eW]
 clear eW
 simp only [zZ, zS] at M
 clear hHeld
 refine hK.out _ _ ?_ (fun hHeld => ?_)
 ·exact ⟨M.cell 0 0 rfl, M.cell 0 1 rfl, M.cell 0 2 rfl, M.cell 0 3 rfl, M.cell 0 4 rfl, M.cell 1 0 rfl, M.cell 1 1 rfl, M.cell 1 2 rfl, M.cell 1 3 rfl, M.cell 1 4 rfl⟩
 clear hK K
 try simp only [Act.put, zI, zZ, zS]
 refine tkYa 7 _ rfl (fun _ => hHeld) ?_
 try simp only [Act.put, zI, zZ, zS]
 refine wpAnyT_done (by kernel_rfl) ?_ _
 go_wp2_with fail
 obtain ⟨tR, Ac, Ai, Af, Ah, Ab⟩ := M.q5 6 rfl
 obtain ⟨tQ, As, Ar, Am, An, At⟩ := M.q5 7 rfl
 exact bodyPost_ret (v := .tuple #[.agg #[.int .i64 a, .int .i64 b, .int .i64 c, .int .i64 dd, .int .i64 ee], .agg #[.slice B0 ts.length e0, .slice B1 ks.length e1, .slice B2 fs.length e2, .int .i64 tn, .bool st], .int .i64 wk]) (by simp [results, Tryz.results73, go_sem, As, Ar, Am, An, At, Ac, Ai, Af, Ah, Ab]) rfl ⟨a, b, c, dd, ee, ts, ks, fs, tn, st, B0, B1, B2, e0, e1, e2, wk, rfl, h0, h1, h2, (M.drop 2).take 3⟩
set_option maxHeartbeats 1600000
set_option maxRecDepth 100000
theorem drawJoined_any (B : Nat) (w : World) (A : Option Addr) (len cap : Nat) (hB : B ≤ w.heap.size) (hl : len ≤ 4096) (hby : Bytes w B A len) :
 Calls Tryz.prog 26 #[.slice A len cap] w fun r w' => ∃ (a b c d e : Int) (ts : List T7) (ks : List Int) (fs : List F2) (tn : Int) (st : Bool) (B0 B1 B2 : Option Addr) (e0 e1 e2 : Nat) (wk i9 : Int), r = .returned (.tuple #[.agg #[.int .i64 a, .int .i64 b, .int .i64 c, .int .i64 d, .int .i64 e], .agg #[.slice B0 ts.length e0, .slice B1 ks.length e1, .slice B2 fs.length e2, .int .i64 tn, .bool st], .int .i64 wk, .int .i64 i9]) ∧ ts.length ≤ 31 ∧ ks.length ≤ 31 ∧ fs.length ≤ 31 ∧ Sep [] w w' [rT ts.length B0 e0 ts, rK ks.length B1 e1 ks, rF fs.length B2 e2 fs] := by
 go_enter Tryz.func26, Tryz.ntmps26
 go_wp2_with fail
 have M := Sep.start w
 have N := M.al2 28 #[.int .i64 0, .int .i64 0, .int .i64 0, .int .i64 0, .int .i64 0] 35 #[.slice none 0 0, .slice none 0 0, .slice none 0 0, .int .i64 0, .bool false]
 clear M
 obtain ⟨aQ, aR, W1, e1, e2, e3, M⟩ := N
 rw [e3, e2, e1]
 clear e1 e2 e3
 obtain ⟨tQ, An, Ar, Am, Ap, Ah, Aq, Ai, At, Ao, As⟩ := M.f5 1 rfl
 go_wp2_with fail
 clear tQ An Ar Am Ap Ah Aq Ai At Ao As
 have hs1 := M.size
 have hby1 : Bytes W1 B A len := hby.keep fun b hb => M.below.block b (by omega)
 go_call (l1New_any B _ A len cap (by omega) hl hby1) as r W2 ⟨rfl, g1, d⟩
 obtain ⟨cs0, hc, N⟩ := cur_start d
 have N2 := sepCur g1 (Nat.le_refl _) N
 replace M := Sep.new M N2
 clear N N2 g1 hby1 hs1
 simp only [zC, zN] at M
 obtain ⟨g, hg⟩ : ∃ g, g = W1.heap.size := ⟨_, rfl⟩
 rw [← hg] at M d ⊢
 clear hg
 obtain ⟨tR, Ab, Ag, Ae, Aj, Ac, Al, Ad, Ak, Aa, Af⟩ := M.f5 1 rfl
 go_wp2_with fail
 have hs2 := M.size
 have hby2 : Bytes W2 B A len := hby.keep fun b hb => M.below.block b (by omega)
 go_call (drawTaken_any B _ A len cap (by omega) hl hby2) as r W3 ⟨a, b, c, dd, ee, ts, ks, fs, tn, st, B0, B1, B2, e0, e1, e2, wk, rfl, h0, h1, h2, g2⟩
 clear tR Ab Ag Ae Aj Ac Al Ad Ak Aa Af
 replace M := Sep.new M g2
 clear g2 hby2 hs2 d
 simp only [zC, zN] at M
 obtain ⟨tR, Ab, Ag, Ae, Aj, Ac, Al, Ad, Ak, Aa, Af⟩ := M.f5 4 rfl
 go_wp2_with fail
 clear tR Ab Ag Ae Aj Ac Al Ad Ak Aa Af
 have N := M.al2 28 #[.int .i64 a, .int .i64 b, .int .i64 c, .int .i64 dd, .int .i64 ee] 35 #[.slice B0 ts.length e0, .slice B1 ks.length e1, .slice B2 fs.length e2, .int .i64 tn, .bool st]
 clear M
 obtain ⟨aP, aY, W4, e1, e2, e3, M⟩ := N
 rw [e3, e2, e1]
 clear e1 e2 e3
 obtain ⟨tY, Bb, Az, Av, Aw, Ba⟩ := M.q5 0 rfl
 obtain ⟨tP, Au, Ay, Bd, Bc, Ax⟩ := M.q5 1 rfl
 go_wp2_with fail
 clear tY Bb Az Av Aw Ba tP Au Ay Bd Bc Ax
 refine wp_region_T (S := (fun w' => w'.cell? ⟨aY, 0, none⟩ = some (.slice B0 ts.length e0) ∧ w'.cell? ⟨aY, 1, none⟩ = some (.slice B1 ks.length e1) ∧ w'.cell? ⟨aY, 2, none⟩ = some (.slice B2 fs.length e2) ∧ w'.cell? ⟨aY, 3, none⟩ = some (.int .i64 tn) ∧ w'.cell? ⟨aY, 4, none⟩ = some (.bool st) ∧ w'.cell? ⟨aP, 0, none⟩ = some (.int .i64 a) ∧ w'.cell? ⟨aP, 1, none⟩ = some (.int .i64 b) ∧ w'.cell? ⟨aP, 2, none⟩ = some (.int .i64 c) ∧ w'.cell? ⟨aP, 3, none⟩ = some (.int .i64 dd) ∧ w'.cell? ⟨aP, 4, none⟩ = some (.int .i64 ee))) (ks := []) (by kernel_rfl) ⟨M.cell 0 0 rfl, M.cell 0 1 rfl, M.cell 0 2 rfl, M.cell 0 3 rfl, M.cell 0 4 rfl, M.cell 1 0 rfl, M.cell 1 1 rfl, M.cell 1 2 rfl, M.cell 1 3 rfl, M.cell 1 4 rfl⟩ (fun hHeld => ?_)
 replace M := M.drew
 generalize W4.drew = W5 at M hHeld ⊢
 refine tkLa 0 _ rfl hHeld ?_
 try simp only [Act.put, zI, zZ, zS]
 refine tkLa 1 _ rfl hHeld ?_
 try simp only [Act.put, zI, zZ, zS]
 refine tkYa 2 _ rfl (fun _ => hHeld) ?_
 try simp only [Act.put, zI, zZ, zS]
 refine tkYa 3 _ rfl (fun _ => hHeld) ?_
 try simp only [Act.put, zI, zZ, zS]
 refine tkYa 4 _ rfl (fun _ => hHeld) ?_
 try simp only [Act.put, zI, zZ, zS]
 refine tkLa 5 _ rfl hHeld ?_
 try simp only [Act.put, zI, zZ, zS]
 refine tkYa 6 _ rfl (fun _ => hHeld) ?_
 try simp only [Act.put, zI, zZ, zS]
 refine wpAnyT_callL (i := 7) rfl (by kernel_rfl) (fun K hK => ?_)
 go_simp
 refine Calls.mono (by with_reducible exact (l1From_any B _ g A len cap (-1) ts.length (by omega) (by omega) (by omega) (M.curIn 5 rfl hc hB hl hby))) ?_
 rintro r W6 ⟨i9, rfl, i91, i92, gg, d⟩
 have MM := M.curGo 5 rfl gg d
 clear M hc gg d
 obtain ⟨cs1, hc, M⟩ := MM
 simp only [zZ, zS] at M
 clear hHeld
 go_wp2_with fail
 refine hK.out _ _ ?_ (fun hHeld => ?_)
 ·exact ⟨M.cell 0 0 rfl, M.cell 0 1 rfl, M.cell 0 2 rfl, M.cell 0 3 rfl, M.cell 0 4 rfl, M.cell 1 0 rfl, M.cell 1 1 rfl, M.cell 1 2 rfl, M.cell 1 3 rfl, M.cell 1 4 rfl⟩
 clear hK K
 try simp only [Act.put, zI, zZ, zS]
 obtain ⟨tQ, An, Ar, Am, Ap, Ah, Aq, Ai, At, Ao, As⟩ := M.f5 7 rfl
 refine wpAnyT_callL (i := 8) rfl (by kernel_rfl) (fun K hK => ?_)
 go_simp
 clear tQ An Ar Am Ap Ah Aq Ai At Ao As
 have N := M.gset5 7 rfl (.int .i64 a) (.int .i64 b) (.int .i64 c) (.int .i64 dd) (.int .i64 ee)
 clear M
 obtain ⟨W7, eW, M⟩ := N
 rw [eW]
 clear eW
 simp only [zZ, zS] at M
 clear hHeld
 refine hK.out _ _ ?_ (fun hHeld => ?_)
 ·exact ⟨M.cell 0 0 rfl, M.cell 0 1 rfl, M.cell 0 2 rfl, M.cell 0 3 rfl, M.cell 0 4 rfl, M.cell 1 0 rfl, M.cell 1 1 rfl, M.cell 1 2 rfl, M.cell 1 3 rfl, M.cell 1 4 rfl⟩
 clear hK K
 try simp only [Act.put, zI, zZ, zS]
 obtain ⟨tR, Ab, Ag, Ae, Aj, Ac, Al, Ad, Ak, Aa, Af⟩ := M.f5 6 rfl
 refine wpAnyT_callL (i := 9) rfl (by kernel_rfl) (fun K hK => ?_)
 go_simp
 clear tR Ab Ag Ae Aj Ac Al Ad Ak Aa Af
 have N := M.gset5 6 rfl (.slice B0 ts.length e0) (.slice B1 ks.length e1) (.slice B2 fs.length e2) (.int .i64 tn) (.bool st)
 clear M
 obtain ⟨W8, eW, M⟩ := N
 rw [eW]
 clear eW
 simp only [zZ, zS] at M
 clear hHeld
 refine hK.out _ _ ?_ (fun hHeld => ?_)
 ·exact ⟨M.cell 0 0 rfl, M.cell 0 1 rfl, M.cell 0 2 rfl, M.cell 0 3 rfl, M.cell 0 4 rfl, M.cell 1 0 rfl, M.cell 1 1 rfl, M.cell 1 2 rfl, M.cell 1 3 rfl, M.cell 1 4 rfl⟩
 clear hK K
 try simp only [Act.put, zI, zZ, zS]
 refine tkYa 10 _ rfl (fun _ => hHeld) ?_
 try simp only [Act.put, zI, zZ, zS]
 refine tkYa 11 _ rfl (fun _ => hHeld) ?_
 try simp only [Act.put, zI, zZ, zS]
 refine wpAnyT_done (by kernel_rfl) ?_ _
 go_wp2_with fail
 obtain ⟨tR, Ab, Ae, Ac, Ad, Aa⟩ := M.q5 6 rfl
 obtain ⟨tQ, An, Am, Ah, Ai, Ao⟩ := M.q5 7 rfl
 exact bodyPost_ret (v := .tuple #[.agg #[.int .i64 a, .int .i64 b, .int .i64 c, .int .i64 dd, .int .i64 ee], .agg #[.slice B0 ts.length e0, .slice B1 ks.length e1, .slice B2 fs.length e2, .int .i64 tn, .bool st], .int .i64 wk, .int .i64 i9]) (by simp [results, Tryz.results26, go_sem, An, Am, Ah, Ai, Ao, Ab, Ae, Ac, Ad, Aa]) rfl ⟨a, b, c, dd, ee, ts, ks, fs, tn, st, B0, B1, B2, e0, e1, e2, wk, i9, rfl, h0, h1, h2, (M.drop 2).take 3⟩
theorem drawLeveled_any (B : Nat) (w : World) (A : Option Addr) (len cap : Nat) (hB : B ≤ w.heap.size) (hl : len ≤ 4096) (hby : Bytes w B A len) :
 Calls Tryz.prog 23 #[.slice A len cap] w fun r w' => ∃ (a b c d e : Int) (ts : List T7) (ks : List Int) (fs : List F2) (tn : Int) (st : Bool) (B0 B1 B2 : Option Addr) (e0 e1 e2 : Nat) (wk i9 lv : Int), r = .returned (.tuple #[.agg #[.int .i64 a, .int .i64 b, .int .i64 c, .int .i64 d, .int .i64 e], .agg #[.slice B0 ts.length e0, .slice B1 ks.length e1, .slice B2 fs.length e2, .int .i64 tn, .bool st], .int .i64 wk, .int .i64 i9, .int .i64 lv]) ∧ ts.length ≤ 31 ∧ ks.length ≤ 31 ∧ fs.length ≤ 31 ∧ Sep [] w w' [rT ts.length B0 e0 ts, rK ks.length B1 e1 ks, rF fs.length B2 e2 fs] := by
 go_enter Tryz.func23, Tryz.ntmps23
 go_wp2_with fail
 have M := Sep.start w
 have N := M.al2 28 #[.int .i64 0, .int .i64 0, .int .i64 0, .int .i64 0, .int .i64 0] 35 #[.slice none 0 0, .slice none 0 0, .slice none 0 0, .int .i64 0, .bool false]
 clear M
 obtain ⟨aQ, aR, W1, e1, e2, e3, M⟩ := N
 rw [e3, e2, e1]
 clear e1 e2 e3
 obtain ⟨tQ, An, Ar, Am, Ap, Ah, Aq, Ai, At, Ao, As⟩ := M.f5 1 rfl
 go_wp2_with fail
 clear tQ An Ar Am Ap Ah Aq Ai At Ao As
 have hs1 := M.size
 have hby1 : Bytes W1 B A len := hby.keep fun b hb => M.below.block b (by omega)
 go_call (l1New_any B _ A len cap (by omega) hl hby1) as r W2 ⟨rfl, g1, d⟩
 obtain ⟨cs0, hc, N⟩ := cur_start d
 have N2 := sepCur g1 (Nat.le_refl _) N
 replace M := Sep.new M N2
 clear N N2 g1 hby1 hs1
 simp only [zC, zN] at M
 obtain ⟨g, hg⟩ : ∃ g, g = W1.heap.size := ⟨_, rfl⟩
 rw [← hg] at M d ⊢
 clear hg
 obtain ⟨tR, Ab, Ag, Ae, Aj, Ac, Al, Ad, Ak, Aa, Af⟩ := M.f5 1 rfl
 go_wp2_with fail
 have hs2 := M.size
 have hby2 : Bytes W2 B A len := hby.keep fun b hb => M.below.block b (by omega)
 go_call (drawJoined_any B _ A len cap (by omega) hl hby2) as r W3 ⟨a, b, c, dd, ee, ts, ks, fs, tn, st, B0, B1, B2, e0, e1, e2, wk, i9, rfl, h0, h1, h2, g2⟩
 clear tR Ab Ag Ae Aj Ac Al Ad Ak Aa Af
 replace M := Sep.new M g2
 clear g2 hby2 hs2 d
 simp only [zC, zN] at M
 obtain ⟨tR, Ab, Ag, Ae, Aj, Ac, Al, Ad, Ak, Aa, Af⟩ := M.f5 4 rfl
 go_wp2_with fail
 clear tR Ab Ag Ae Aj Ac Al Ad Ak Aa Af
 have N := M.al2 28 #[.int .i64 a, .int .i64 b, .int .i64 c, .int .i64 dd, .int .i64 ee] 35 #[.slice B0 ts.length e0, .slice B1 ks.length e1, .slice B2 fs.length e2, .int .i64 tn, .bool st]
 clear M
 obtain ⟨aP, aY, W4, e1, e2, e3, M⟩ := N
 rw [e3, e2, e1]
 clear e1 e2 e3
 obtain ⟨tY, Bb, Az, Av, Aw, Ba⟩ := M.q5 0 rfl
 obtain ⟨tP, Au, Ay, Bd, Bc, Ax⟩ := M.q5 1 rfl
 go_wp2_with fail
 clear tY Bb Az Av Aw Ba tP Au Ay Bd Bc Ax
 refine wp_region_T (S := (fun w' => w'.cell? ⟨aY, 0, none⟩ = some (.slice B0 ts.length e0) ∧ w'.cell? ⟨aY, 1, none⟩ = some (.slice B1 ks.length e1) ∧ w'.cell? ⟨aY, 2, none⟩ = some (.slice B2 fs.length e2) ∧ w'.cell? ⟨aY, 3, none⟩ = some (.int .i64 tn) ∧ w'.cell? ⟨aY, 4, none⟩ = some (.bool st) ∧ w'.cell? ⟨aP, 0, none⟩ = some (.int .i64 a) ∧ w'.cell? ⟨aP, 1, none⟩ = some (.int .i64 b) ∧ w'.cell? ⟨aP, 2, none⟩ = some (.int .i64 c) ∧ w'.cell? ⟨aP, 3, none⟩ = some (.int .i64 dd) ∧ w'.cell? ⟨aP, 4, none⟩ = some (.int .i64 ee))) (ks := []) (by kernel_rfl) ⟨M.cell 0 0 rfl, M.cell 0 1 rfl, M.cell 0 2 rfl, M.cell 0 3 rfl, M.cell 0 4 rfl, M.cell 1 0 rfl, M.cell 1 1 rfl, M.cell 1 2 rfl, M.cell 1 3 rfl, M.cell 1 4 rfl⟩ (fun hHeld => ?_)
 replace M := M.drew
 generalize W4.drew = W5 at M hHeld ⊢
 refine tkLa 0 _ rfl hHeld ?_
 try simp only [Act.put, zI, zZ, zS]
 refine tkLa 1 _ rfl hHeld ?_
 try simp only [Act.put, zI, zZ, zS]
 refine tkYa 2 _ rfl (fun _ => hHeld) ?_
 try simp only [Act.put, zI, zZ, zS]
 refine tkYa 3 _ rfl (fun _ => hHeld) ?_
 try simp only [Act.put, zI, zZ, zS]
 refine tkYa 4 _ rfl (fun _ => hHeld) ?_
 try simp only [Act.put, zI, zZ, zS]
 refine wpAnyT_callL (i := 5) rfl (by kernel_rfl) (fun K hK => ?_)
 go_simp
 refine Calls.mono (by with_reducible exact (l1From_any B _ g A len cap (-1) 3 (by omega) (by omega) (by omega) (M.curIn 5 rfl hc hB hl hby))) ?_
 rintro r W6 ⟨lv, rfl, lv1, lv2, gg, d⟩
 have MM := M.curGo 5 rfl gg d
 clear M hc gg d
 obtain ⟨cs1, hc, M⟩ := MM
 simp only [zZ, zS] at M
 clear hHeld
 go_wp2_with fail
 refine hK.out _ _ ?_ (fun hHeld => ?_)
 ·exact ⟨M.cell 0 0 rfl, M.cell 0 1 rfl, M.cell 0 2 rfl, M.cell 0 3 rfl, M.cell 0 4 rfl, M.cell 1 0 rfl, M.cell 1 1 rfl, M.cell 1 2 rfl, M.cell 1 3 rfl, M.cell 1 4 rfl⟩
 clear hK K
 try simp only [Act.put, zI, zZ, zS]
 obtain ⟨tQ, An, Ar, Am, Ap, Ah, Aq, Ai, At, Ao, As⟩ := M.f5 7 rfl
 refine wpAnyT_callL (i := 6) rfl (by kernel_rfl) (fun K hK => ?_)
 go_simp
 clear tQ An Ar Am Ap Ah Aq Ai At Ao As
 have N := M.gset5 7 rfl (.int .i64 a) (.int .i64 b) (.int .i64 c) (.int .i64 dd) (.int .i64 ee)
 clear M
 obtain ⟨W7, eW, M⟩ := N
 rw [eW]
 clear eW
 simp only [zZ, zS] at M
 clear hHeld
 refine hK.out _ _ ?_ (fun hHeld => ?_)
 ·exact ⟨M.cell 0 0 rfl, M.cell 0 1 rfl, M.cell 0 2 rfl, M.cell 0 3 rfl, M.cell 0 4 rfl, M.cell 1 0 rfl, M.cell 1 1 rfl, M.cell 1 2 rfl, M.cell 1 3 rfl, M.cell 1 4 rfl⟩
 clear hK K
 try simp only [Act.put, zI, zZ, zS]
 obtain ⟨tR, Ab, Ag, Ae, Aj, Ac, Al, Ad, Ak, Aa, Af⟩ := M.f5 6 rfl
 refine wpAnyT_callL (i := 7) rfl (by kernel_rfl) (fun K hK => ?_)
 go_simp
 clear tR Ab Ag Ae Aj Ac Al Ad Ak Aa Af
 have N := M.gset5 6 rfl (.slice B0 ts.length e0) (.slice B1 ks.length e1) (.slice B2 fs.length e2) (.int .i64 tn) (.bool st)
 clear M
 obtain ⟨W8, eW, M⟩ := N
 rw [eW]
 clear eW
 simp only [zZ, zS] at M
 clear hHeld
 refine hK.out _ _ ?_ (fun hHeld => ?_)
 ·exact ⟨M.cell 0 0 rfl, M.cell 0 1 rfl, M.cell 0 2 rfl, M.cell 0 3 rfl, M.cell 0 4 rfl, M.cell 1 0 rfl, M.cell 1 1 rfl, M.cell 1 2 rfl, M.cell 1 3 rfl, M.cell 1 4 rfl⟩
 clear hK K
 try simp only [Act.put, zI, zZ, zS]
 refine tkYa 8 _ rfl (fun _ => hHeld) ?_
 try simp only [Act.put, zI, zZ, zS]
 refine tkYa 9 _ rfl (fun _ => hHeld) ?_
 try simp only [Act.put, zI, zZ, zS]
 refine tkYa 10 _ rfl (fun _ => hHeld) ?_
 try simp only [Act.put, zI, zZ, zS]
 refine wpAnyT_done (by kernel_rfl) ?_ _
 go_wp2_with fail
 obtain ⟨tR, Ab, Ae, Ac, Ad, Aa⟩ := M.q5 6 rfl
 obtain ⟨tQ, An, Am, Ah, Ai, Ao⟩ := M.q5 7 rfl
 exact bodyPost_ret (v := .tuple #[.agg #[.int .i64 a, .int .i64 b, .int .i64 c, .int .i64 dd, .int .i64 ee], .agg #[.slice B0 ts.length e0, .slice B1 ks.length e1, .slice B2 fs.length e2, .int .i64 tn, .bool st], .int .i64 wk, .int .i64 i9, .int .i64 lv]) (by simp [results, Tryz.results23, go_sem, An, Am, Ah, Ai, Ao, Ab, Ae, Ac, Ad, Aa]) rfl ⟨a, b, c, dd, ee, ts, ks, fs, tn, st, B0, B1, B2, e0, e1, e2, wk, i9, lv, rfl, h0, h1, h2, (M.drop 2).take 3⟩
/-- A pool and an answer, part by part. -/
def GaveA (us : List T7) (ks : List Int) (fs : List F2) (tn : Int) (st : Bool) (rp ou : Int) (w : World) (r : Ending) (w' : World) : Prop :=
 ∃ (B0 B1 B2 : Option Addr) (d0 d1 d2 : Nat), r = .returned (.tuple #[.agg #[.slice B0 us.length d0, .slice B1 ks.length d1, .slice B2 fs.length d2, .int .i64 tn, .bool st], .agg #[.int .i64 rp, .int .i64 ou]]) ∧ Sep [] w w' [rT us.length B0 d0 us, rK ks.length B1 d1 ks, rF fs.length B2 d2 fs]
/-- All blocks from B on lie as they lay. -/
structure Above (B : Nat) (W W' : World) : Prop where
 size : W.heap.size ≤ W'.heap.size
 same : ∀ k, B ≤ k → k < W.heap.size → W'.heap[k]? = W.heap[k]?
theorem Above.refl (B : Nat) (W : World) : Above B W W := ⟨Nat.le_refl _, fun _ _ _ => rfl⟩
theorem Above.trans {B : Nat} {A C D : World} (h : Above B A C) (k : Above B C D) : Above B A D :=
 ⟨Nat.le_trans h.size k.size, fun i hB hi => (k.same i hB (Nat.lt_of_lt_of_le hi h.size)).trans (h.same i hB hi)⟩
theorem Above.mono {B B' : Nat} {A C : World} (h : Above B A C) (hB : B ≤ B') : Above B' A C := ⟨h.size, fun k hk hl => h.same k (Nat.le_trans hB hk) hl⟩
theorem Above.some {B k : Nat} {o : Obj} {A C : World} (h : Above B A C) (hB : B ≤ k) (ho : A.heap[k]? = some o) : C.heap[k]? = some o :=
 (h.same k hB (Array.getElem?_eq_some_iff.1 ho).1).trans ho
/-- A walk by things whose blocks all lie below B. -/
theorem Sep.above {S : List Nat} {w W : World} {rs : List Res} {B : Nat} (h : Sep S w W rs) (hS : ∀ g ∈ S, g < B) : Above B w W :=
 ⟨h.size, fun k hk hl => h.block k hl (fun hm => by have := hS k hm; omega)⟩
/-- What speaks of the blocks below B alone. -/
def Abides {β : Type} (B : Nat) (J : β → World → Prop) : Prop := ∀ s A C, J s A → Below B A C → J s C
/-- The iterator g, at what it has captured: it hands out xs, one after the other, till a round says no. -/
def SeqS {α : Type} (F : Fence) (n : Nat) (P : Program) (g : Nat) (lb : Array Value) (enc : α → Array Value) (xs : List α) (w : World) : Prop :=
 ∀ (l : Nat) (J Jx : List α → World → Prop) (W : World), Below w.heap.size w W → Abides W.heap.size J → Abides W.heap.size Jx →
  (∀ pre x W1, J pre W1 → pre ++ [x] <+: xs → YieldAt F (n - 1) P l (enc x) W1 fun e W' =>
   (e = .returned (.bool true) ∧ J (pre ++ [x]) W' ∧ Above W.heap.size W1 W') ∨ (e = .returned (.bool false) ∧ Jx (pre ++ [x]) W')) →
  J [] W →
  CallsIn F n P g (#[.func (.yield l) #[] #[]] ++ lb) W fun e W' => (∃ v, e = .returned v) ∧ (J xs W' ∨ ∃ pre, pre <+: xs ∧ Jx pre W')
/-- How the body of a round may be left. -/
def postS {α : Type} (B : Nat) (I : List α → World → Prop) (Ix : Code → List α → World → Prop) (xs : List α) (W : World) : Exit → Act → World → Prop
 | .normal, _, W' => Above B W W' ∧ I xs W'
 | .ret, _, W' => Above B W W' ∧ Ix .ret xs W'
 | _, _, _ => False
theorem below_put {B : Nat} (W : World) (l : Nat) (o : Obj) (hl : B ≤ l) (hB : B ≤ W.heap.size) : Below B W (W.putObj l o) :=
 (Below.refl B W).grown (grownBy_putObj' W l o) hB (fun k e => by cases e; exact hl)
variable {F : Fence} {n : Nat} {P : Program}
theorem wpIn_range_s {α : Type} {g : Operand} {ps : Array Tmp} {assign body : Code} {Q : Exit → Act → World → Prop} {a : Act} {w : World}
 (hro : F.round = none) (h1 : 1 ≤ n) {gf : Nat} {lb : Array Value} (hg : a.eval g = .func (.func gf) #[] lb) (hFg : F.fn gf) (eg : ∀ args w, (callFunc gf args).run P w = .ok (.enter gf args) w)
 {enc : α → Array Value} {xs : List α} {w0 : World} (hseq : SeqS F (n - 1) P gf lb enc xs w0) (hb0 : Below w0.heap.size w0 w) (hps : ∀ x, (enc x).size = ps.size)
 (I : List α → World → Prop) (Ix : Code → List α → World → Prop) (hI : Abides w.heap.size I) (hIx : ∀ c, Abides w.heap.size (Ix c)) (h0 : I [] w) (a₁ : α → Act)
 (hassign : ∀ (l : Nat) (x : α) (W : World) (K : Act → World → Prop), K (a₁ x) W →
  assign.wpIn (F.inRound l) (n - 1 - 1) P (Exit.then K (fun _ _ _ => False)) { tmps := (ps.zip (enc x)).foldl (fun t (p, v) => t.setIfInBounds p v) a.tmps, defers := [] } W)
 (hbody : ∀ (l : Nat) (pre : List α) (x : α) (W : World), w.heap.size ≤ W.heap.size → I pre W → pre ++ [x] <+: xs → body.wpIn (F.inRound l) (n - 1 - 1) P (postS w.heap.size I Ix (pre ++ [x]) W) (a₁ x) W)
 (hdone : ∀ (D : Nat) (W : World), w.heap.size ≤ D → I xs W → W.heap[D]? = some (.deferred (some [])) → Q .normal { a with defers := { target := .collected D, args := #[] } :: a.defers } W)
 (hstop : ∀ (D : Nat) (pre : List α) (W : World), w.heap.size ≤ D → pre <+: xs → Ix .ret pre W → W.heap[D]? = some (.deferred (some [])) → Code.ret.wpIn F n P Q { a with defers := { target := .collected D, args := #[] } :: a.defers } W) :
 (Code.rangeFunc g ps assign body).wpIn F n P Q a w := by
 refine wpIn_rangeFunc ?_
 intro fn hfn
 rw [hro]
 obtain ⟨rec, hrec⟩ : ∃ rec : LoopState → Option Code → Loop, rec = fun st pe => { state := st, pending := pe, fn, tmps := a.tmps, params := ps, assign, body, defers := w.heap.size } := ⟨_, rfl⟩
 obtain ⟨W1, hW1⟩ : ∃ W1, (w.alloc (.deferred (some []))).alloc (.loop (rec .ready none)) = W1 := ⟨_, rfl⟩
 have hz : W1.heap.size = w.heap.size + 2 := by rw [← hW1]; simp
 have hb1 : Below w.heap.size w W1 := by rw [← hW1]; exact ((Below.refl _ w).alloc (Nat.le_refl _) _).alloc (by simp) _
 have hL1 : W1.heap[w.heap.size + 1]? = some (.loop (rec .ready none)) := by
  rw [← hW1]; have := World.alloc_heap_new (w.alloc (.deferred (some []))) (.loop (rec .ready none)); rwa [World.size_alloc] at this
 have hK1 : W1.heap[w.heap.size]? = some (.deferred (some [])) := by
  rw [← hW1]; exact (Below.heap_alloc _ _ _ (by simp)).trans (World.alloc_heap_new w _)
 refine ⟨w.heap.size + 1, [{ target := .collected w.heap.size, args := #[] }], W1, { target := .fn (.func gf) lb, args := #[.func (.yield (w.heap.size + 1)) #[] #[]] }, W1, gf,
  #[.func (.yield (w.heap.size + 1)) #[] #[]] ++ lb, W1, ?_, ?_, ?_, ?_, fun _ => h1, ?_⟩
 ·rw [← hW1, hrec]; exact run_enterLoop_outer _ _ _ _ _
 ·simp only [resolve, hg]
  simp [go_sem]
 ·intro f' hf'; simp [Target.leads] at hf'; subst hf'; exact hFg
 ·simp [invoke, go_sem, eg]
 ·have keep : ∀ {A C : World} {k : Nat} {o : Obj}, Below W1.heap.size A C → k < w.heap.size + 2 → A.heap[k]? = some o → C.heap[k]? = some o := fun hb hk ho => (hb.block _ (by omega)).trans ho
  refine (hseq (w.heap.size + 1)
   (fun pre W => (I pre W ∧ w.heap.size ≤ W.heap.size) ∧ W.heap[w.heap.size + 1]? = some (.loop (rec .ready none)) ∧ W.heap[w.heap.size]? = some (.deferred (some [])))
   (fun pre W => Ix .ret pre W ∧ W.heap[w.heap.size + 1]? = some (.loop (rec .done (some .ret))) ∧ W.heap[w.heap.size]? = some (.deferred (some [])))
   W1 (hb0.trans (hb1.mono hb0.size))
   (fun s A C hs hb => ⟨⟨hI s A C hs.1.1 (hb.mono (by omega)), Nat.le_trans hs.1.2 hb.size⟩, keep hb (by omega) hs.2.1, keep hb (by omega) hs.2.2⟩)
   (fun s A C hs hb => ⟨hIx _ s A C hs.1 (hb.mono (by omega)), keep hb (by omega) hs.2.1, keep hb (by omega) hs.2.2⟩)
   ?_ ⟨⟨hI _ _ _ h0 hb1, hb1.size⟩, hL1, hK1⟩).mono ?_
  ·rintro pre x W ⟨⟨hi, hsz⟩, hl, hk⟩ hpre
   have hlt : w.heap.size + 1 < W.heap.size := (Array.getElem?_eq_some_iff.1 hl).1
   have hy := run_yield (P := P) (args := enc x) hl (by rw [hrec]; exact hps x)
   rw [hrec] at hy
   refine ⟨fn, _, assign, body, hy, roundIn_of_wpIn hfn (hassign _ x W _ ⟨_, run_beginRound hl (by rw [hrec]), ?_⟩)⟩
   obtain ⟨W2, hW2⟩ : ∃ W2, W.putObj (w.heap.size + 1) (.loop { rec .ready none with state := .busy }) = W2 := ⟨_, rfl⟩
   have hl2 : W2.heap[w.heap.size + 1]? = some (.loop { rec .ready none with state := .busy }) := by rw [← hW2]; exact World.putObj_heap_same hlt
   have hk2 : W2.heap[w.heap.size]? = some (.deferred (some [])) := by rw [← hW2]; exact (World.putObj_heap_other (by omega)).trans hk
   have hb2 : Below w.heap.size W W2 := by rw [← hW2]; exact below_put _ _ _ (by omega) (by omega)
   have ha2 : Above W1.heap.size W W2 := by
    rw [← hW2, hz]
    exact ⟨by simp, fun k hk _ => World.putObj_heap_other (by omega)⟩
   have hgoal := hbody (w.heap.size + 1) pre x W2 (Nat.le_trans hsz hb2.size) (hI _ _ _ hi hb2) hpre
   have hgoal2 : body.wpIn (F.inRound (w.heap.size + 1)) (n - 1 - 1) P (postS w.heap.size I Ix (pre ++ [x]) W2) (a₁ x) (W.putObj (w.heap.size + 1) (.loop { rec .ready none with state := .busy })) := by rw [hW2]; exact hgoal
   refine wpIn_mono hgoal2 ?_
   have fin : ∀ (jump : Option Code) (W3 : World), Above w.heap.size W2 W3 →
    (Instr.endRound (w.heap.size + 1) jump).run P W3 = .ok (.bool jump.isNone) (W3.putObj (w.heap.size + 1) (.loop (rec (if jump.isNone then .ready else .done) jump))) ∧
    Below w.heap.size W3 (W3.putObj (w.heap.size + 1) (.loop (rec (if jump.isNone then .ready else .done) jump))) ∧
    Above W1.heap.size W3 (W3.putObj (w.heap.size + 1) (.loop (rec (if jump.isNone then .ready else .done) jump))) ∧
    (W3.putObj (w.heap.size + 1) (.loop (rec (if jump.isNone then .ready else .done) jump))).heap[w.heap.size + 1]? = some (.loop (rec (if jump.isNone then .ready else .done) jump)) ∧
    (W3.putObj (w.heap.size + 1) (.loop (rec (if jump.isNone then .ready else .done) jump))).heap[w.heap.size]? = some (.deferred (some [])) := fun jump W3 hk3 => by
    have hl3 := hk3.some (by omega) hl2
    have hlt3 := (Array.getElem?_eq_some_iff.1 hl3).1
    refine ⟨?_, below_put _ _ _ (by omega) (by omega), ⟨by simp, fun k hk _ => World.putObj_heap_other (by omega)⟩, World.putObj_heap_same hlt3, (World.putObj_heap_other (by omega)).trans (hk3.some (Nat.le_refl _) hk2)⟩
    have := run_endRound (P := P) jump hl3
    rw [hrec] at this ⊢
    exact this
   rintro e a3 W3 hp
   cases e with
   | normal =>
    obtain ⟨hk3, hi3⟩ := hp
    obtain ⟨hr, hb4, ha4, hl4, hk4⟩ := fin none W3 hk3
    exact ⟨_, _, hr, .inl ⟨rfl, ⟨⟨hI _ _ _ hi3 hb4, Nat.le_trans (Nat.le_trans hsz hb2.size) (Nat.le_trans hk3.size hb4.size)⟩, hl4, hk4⟩, (ha2.trans (hk3.mono (by omega))).trans ha4⟩⟩
   | ret =>
    obtain ⟨hk3, hi3⟩ := hp
    obtain ⟨hr, hb4, _, hl4, hk4⟩ := fin (some .ret) W3 hk3
    exact ⟨_, _, hr, .inr ⟨rfl, hIx _ _ _ _ hi3 hb4, hl4, hk4⟩⟩
   | exit id => exact hp.elim
   | goto t => exact hp.elim
   | panic ch => exact hp.elim
   | outgrown => exact hp.elim
  ·rintro e W2 ⟨⟨v, rfl⟩, (⟨⟨hi, hsz⟩, hl, hk⟩ | ⟨pre, hpre, hi, hl, hk⟩)⟩
   ·exact ⟨none, _, by have := run_endLoop (P := P) hl (by rw [hrec]; simp); rw [hrec] at this; exact this, hdone _ _ (Nat.le_refl _) (hI _ _ _ hi (below_put _ _ _ (by omega) hsz)) ((World.putObj_heap_other (by omega)).trans hk)⟩
   ·have hlt := (Array.getElem?_eq_some_iff.1 hl).1
    exact ⟨some .ret, _, by have := run_endLoop (P := P) hl (by rw [hrec]; simp); rw [hrec] at this; exact this, hstop _ pre _ (Nat.le_refl _) hpre (hIx _ _ _ _ hi (below_put _ _ _ (by omega) (by omega))) ((World.putObj_heap_other (by omega)).trans hk)⟩
end Go.Proofs.YtfkdfkoigojciaaGreatDoor
