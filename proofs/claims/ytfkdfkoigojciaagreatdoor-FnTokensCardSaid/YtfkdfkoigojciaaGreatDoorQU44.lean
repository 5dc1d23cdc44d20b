import Derived.Test.YtfkdfkoigojciaaGreatDoorQU42
import Derived.Test.YtfkdfkoigojciaaGreatDoorQU43
import Derived.Test.YtfkdfkoigojciaaGreatDoorQU19
import Derived.Test.YtfkdfkoigojciaaGreatDoorQU13
import Derived.Deep.DeepCutAuto

namespace Go.Proofs.YtfkdfkoigojciaaGreatDoor
open Go.RowKit
set_option linter.unusedVariables false
theorem Sep.putF1 {S : List Nat} {w W : World} {rs : List Res} (h : Sep S w W rs) (i : Nat) {g n c : Nat} {fs : List F2} (hi : rs[i]? = some (rF n (some ⟨g, 0, none⟩) c fs)) {b : Bool} {v : Int} (hk : fs[0]? = some ⟨b, v⟩) (u : Int) : Sep S w (W.setCell ⟨g, 1, none⟩ (.int .i64 u)) (rs.set i (rF n (some ⟨g, 0, none⟩) c (fs.set 0 ⟨b, u⟩))) := by
 have h1 := h.setR i hi 1 (.int .i64 u)
 cases fs with
 | nil => simp at hk
 | cons x r =>
  simp only [List.getElem?_cons_zero, Option.some.injEq] at hk
  subst hk
  exact h1
def CGaveAny (B : Nat) (w : World) (g : Nat) (A : Option Addr) (len cap : Nat) (r : Ending) (w' : World) : Prop :=
 ∃ (a b c d e : Int) (ts : List T7) (ks : List Int) (fs : List F2) (tn : Int) (st : Bool) (B0 B1 B2 : Option Addr) (e0 e1 e2 n0 n1 n2 : Nat) (cs : Array Value), r = .returned (.tuple #[.agg #[.int .i64 a, .int .i64 b, .int .i64 c, .int .i64 d, .int .i64 e], .agg #[.slice B0 n0 e0, .slice B1 n1 e1, .slice B2 n2 e2, .int .i64 tn, .bool st]]) ∧ ts.length = n0 ∧ ks.length = n1 ∧ fs.length = n2 ∧ n0 ≤ 31 ∧ n1 ≤ 31 ∧ n2 ≤ 31 ∧ curC A len cap cs ∧ Sep [g] w w' [rT n0 B0 e0 ts, rK n1 B1 e1 ks, rF n2 B2 e2 fs, .blk g 143 cs]
set_option maxRecDepth 100000 in
set_option maxHeartbeats 4000000 in
theorem l3DrawAny_any (B : Nat) (w : World) (g : Nat) (A : Option Addr) (len cap : Nat) (d0 : CurAt B w g A len cap) :
 Calls Tryz.prog 140 #[.pointer (some ⟨g, 0, none⟩)] w (CGaveAny B w g A len cap) := by
 have hg := d0.lt
 go_enter Tryz.func140, Tryz.ntmps140
 go_wp2_with fail
 obtain ⟨cs0, hc, M⟩ := cur_start d0
 replace M : Sep [g] w ((w.alloc (.cells #[.int .i64 0, .int .i64 0, .int .i64 0, .int .i64 0, .int .i64 0] 28)).alloc (.cells #[.slice none 0 0, .slice none 0 0, .slice none 0 0, .int .i64 0, .bool false] 35)) [.blk (w.heap.size + 1) 35 #[.slice none 0 0, .slice none 0 0, .slice none 0 0, .int .i64 0, .bool false], .blk (w.heap.size) 28 #[.int .i64 0, .int .i64 0, .int .i64 0, .int .i64 0, .int .i64 0], .blk g 143 cs0] := ((M.alloc 28 #[.int .i64 0, .int .i64 0, .int .i64 0, .int .i64 0, .int .i64 0] (w.heap.size) rfl).alloc 35 #[.slice none 0 0, .slice none 0 0, .slice none 0 0, .int .i64 0, .bool false] (w.heap.size + 1) (by simp))
 generalize (w.alloc (.cells #[.int .i64 0, .int .i64 0, .int .i64 0, .int .i64 0, .int .i64 0] 28)).alloc (.cells #[.slice none 0 0, .slice none 0 0, .slice none 0 0, .int .i64 0, .bool false] 35) = W1 at M ⊢
 obtain ⟨tQ, Ac, Ay, Ad, Av, Ae, At, Aa, Au, Ab, As⟩ := M.f5 1 rfl
 go_wp2_with fail
 go_call (l3Draw_any B _ g A len cap (M.curAt 2 rfl d0 hc)) as r W2 ⟨a, b, c, dd, ee, ts, ks, fs, tn, st, B0, B1, B2, e0, e1, e2, cs1, rfl, hpo, ha1, ha2, hb1, hb2, hc1, hc2, hd2, he2, hc9, g1⟩
 clear tQ Ac Ay Ad Av Ae At Aa Au Ab As
 replace M := M.front 2 rfl
 replace M : Sep [g] w W2 [rT ts.length B0 e0 ts, rK ks.length B1 e1 ks, rF fs.length B2 e2 fs, .blk g 143 cs1, .blk (w.heap.size + 1) 35 #[.slice none 0 0, .slice none 0 0, .slice none 0 0, .int .i64 0, .bool false], .blk (w.heap.size) 28 #[.int .i64 0, .int .i64 0, .int .i64 0, .int .i64 0, .int .i64 0]] := Sep.comp (ps := [.blk g 143 cs0]) (rs := [.blk (w.heap.size + 1) 35 #[.slice none 0 0, .slice none 0 0, .slice none 0 0, .int .i64 0, .bool false], .blk (w.heap.size) 28 #[.int .i64 0, .int .i64 0, .int .i64 0, .int .i64 0, .int .i64 0]]) M (by simpa [fps, Res.fp] using g1)
 clear g1 hc
 have hc := hc9
 clear hc9
 have hl := poolB_lens hpo
 obtain ⟨hl0, hl1, hl2⟩ := hl
 replace hpo := hide hpo
 obtain ⟨tQ, Ac, Ay, Ad, Av, Ae, At, Aa, Au, Ab, As⟩ := M.f5 5 rfl
 go_wp2_with fail
 clear tQ Ac Ay Ad Av Ae At Aa Au Ab As
 obtain ⟨pb, hpb⟩ : ∃ pb, pb = W2.heap.size := ⟨_, rfl⟩
 obtain ⟨yb, hyb⟩ : ∃ yb, yb = W2.heap.size + 1 := ⟨_, rfl⟩
 rw [← hyb, ← hpb]
 replace M : Sep [g] w ((W2.alloc (.cells #[.int .i64 a, .int .i64 b, .int .i64 c, .int .i64 dd, .int .i64 ee] 28)).alloc (.cells #[.slice B0 ts.length e0, .slice B1 ks.length e1, .slice B2 fs.length e2, .int .i64 tn, .bool st] 35)) [.blk (yb) 35 #[.slice B0 ts.length e0, .slice B1 ks.length e1, .slice B2 fs.length e2, .int .i64 tn, .bool st], .blk (pb) 28 #[.int .i64 a, .int .i64 b, .int .i64 c, .int .i64 dd, .int .i64 ee], rT ts.length B0 e0 ts, rK ks.length B1 e1 ks, rF fs.length B2 e2 fs, .blk g 143 cs1, .blk (w.heap.size + 1) 35 #[.slice none 0 0, .slice none 0 0, .slice none 0 0, .int .i64 0, .bool false], .blk (w.heap.size) 28 #[.int .i64 0, .int .i64 0, .int .i64 0, .int .i64 0, .int .i64 0]] := (M.alloc 28 #[.int .i64 a, .int .i64 b, .int .i64 c, .int .i64 dd, .int .i64 ee] pb hpb.symm).alloc 35 #[.slice B0 ts.length e0, .slice B1 ks.length e1, .slice B2 fs.length e2, .int .i64 tn, .bool st] yb (by simp [hyb])
 generalize (W2.alloc (.cells #[.int .i64 a, .int .i64 b, .int .i64 c, .int .i64 dd, .int .i64 ee] 28)).alloc (.cells #[.slice B0 ts.length e0, .slice B1 ks.length e1, .slice B2 fs.length e2, .int .i64 tn, .bool st] 35) = W3 at M ⊢
 clear hpb hyb
 replace M : Sep [g] w W3 [rT ts.length B0 e0 ts, rK ks.length B1 e1 ks, rF fs.length B2 e2 fs, .blk g 143 cs1, .blk (w.heap.size + 1) 35 #[.slice none 0 0, .slice none 0 0, .slice none 0 0, .int .i64 0, .bool false], .blk (w.heap.size) 28 #[.int .i64 0, .int .i64 0, .int .i64 0, .int .i64 0, .int .i64 0], .blk (yb) 35 #[.slice B0 ts.length e0, .slice B1 ks.length e1, .slice B2 fs.length e2, .int .i64 tn, .bool st], .blk (pb) 28 #[.int .i64 a, .int .i64 b, .int .i64 c, .int .i64 dd, .int .i64 ee]] := M.perm ((List.perm_append_comm (l₁ := [.blk (yb) 35 #[.slice B0 ts.length e0, .slice B1 ks.length e1, .slice B2 fs.length e2, .int .i64 tn, .bool st], .blk (pb) 28 #[.int .i64 a, .int .i64 b, .int .i64 c, .int .i64 dd, .int .i64 ee]]) (l₂ := [rT ts.length B0 e0 ts, rK ks.length B1 e1 ks, rF fs.length B2 e2 fs, .blk g 143 cs1, .blk (w.heap.size + 1) 35 #[.slice none 0 0, .slice none 0 0, .slice none 0 0, .int .i64 0, .bool false], .blk (w.heap.size) 28 #[.int .i64 0, .int .i64 0, .int .i64 0, .int .i64 0, .int .i64 0]])))
 go_call (l1Once_any B _ g A len cap 6 (by omega) (by omega) (M.curAt 3 rfl d0 hc)) as r W4 ⟨z, rfl, gg, d⟩
 have MM := M.curMoved 3 rfl gg d
 clear M hc gg d
 obtain ⟨cs2, hc, M⟩ := MM
 simp only [zZ, zS] at M
 go_upto_if 12 with fail
 go_cut [] (fun wc => ∃ (a b c dd ee : Int) (ts : List T7) (ks : List Int) (fs : List F2) (tn : Int) (st : Bool) (B0 B1 B2 : Option Addr) (e0 e1 e2 n0 n1 n2 : Nat) (cs : Array Value), (ts.length = n0 ∧ ks.length = n1 ∧ fs.length = n2) ∧ (n0 ≤ 31 ∧ n1 ≤ 31 ∧ n2 ≤ 31) ∧ curC A len cap cs ∧ Sep [g] w wc [rT n0 B0 e0 ts, rK n1 B1 e1 ks, rF n2 B2 e2 fs, .blk g 143 cs, .blk (w.heap.size + 1) 35 #[.slice none 0 0, .slice none 0 0, .slice none 0 0, .int .i64 0, .bool false], .blk (w.heap.size) 28 #[.int .i64 0, .int .i64 0, .int .i64 0, .int .i64 0, .int .i64 0], .blk (yb) 35 #[.slice B0 n0 e0, .slice B1 n1 e1, .slice B2 n2 e2, .int .i64 tn, .bool st], .blk (pb) 28 #[.int .i64 a, .int .i64 b, .int .i64 c, .int .i64 dd, .int .i64 ee]])
 case first =>
  cases z
  ·obtain ⟨tQ, Ac, Ad, Ae, Aa, Ab⟩ := M.q5 5 rfl
   obtain ⟨tY, Af, Aj, Ai, Ah, Ag⟩ := M.q5 6 rfl
   obtain ⟨tP, Am, Al, Ao, An, Ak⟩ := M.q5 7 rfl
   go_wp2_with fail
   clear tQ Ac Ad Ae Aa Ab tY Af Aj Ai Ah Ag tP Am Al Ao An Ak
   replace M := M.front 7 rfl
   simp only [zE, zF] at M
   replace M := M.front 7 rfl
   simp only [zE, zF] at M
   replace M := M.front 7 rfl
   simp only [zE, zF] at M
   replace M := M.front 7 rfl
   simp only [zE, zF] at M
   replace M := M.front 7 rfl
   simp only [zE, zF] at M
   replace M := M.front 7 rfl
   simp only [zE, zF] at M
   replace M := M.front 7 rfl
   simp only [zE, zF] at M
   replace M := M.front 7 rfl
   simp only [zE, zF] at M
   go_meet
   exact ⟨a, b, c, dd, ee, ts, ks, fs, tn, st, B0, B1, B2, e0, e1, e2, _, _, _, _, ⟨rfl, rfl, rfl⟩, ⟨by omega, by omega, by omega⟩, hc, M.take 8⟩
  ·obtain ⟨tQ, Ac, Ay, Ad, Av, Ae, At, Aa, Au, Ab, As⟩ := M.f5 5 rfl
   obtain ⟨tY, Af, Ar, Aj, Aw, Ai, Ax, Ah, Ap, Ag, Aq⟩ := M.f5 6 rfl
   obtain ⟨tP, Am, Al, Ao, An, Ak⟩ := M.q5 7 rfl
   go_wp2_with fail
   go_call (l1Below_pos B _ g A len cap 6 (by omega) (by omega) (M.curAt 3 rfl d0 hc)) as r W5 ⟨t, rfl, t1, t2, gg, d⟩
   clear tQ Ac Ay Ad Av Ae At Aa Au Ab As tY Af Ar Aj Aw Ai Ax Ah Ap Ag Aq tP Am Al Ao An Ak
   have MM := M.curMoved 3 rfl gg d
   clear M hc gg d
   obtain ⟨cs3, hc, M⟩ := MM
   simp only [zZ, zS] at M
   have ht : t = 0 ∨ t = 1 ∨ t = 2 ∨ t = 3 ∨ t = 4 ∨ t = 5 := by omega
   clear t1 t2
   rcases ht with rfl | rfl | rfl | rfl | rfl | rfl
   ·obtain ⟨tQ, Ac, Ad, Ae, Aa, Ab⟩ := M.q5 5 rfl
    obtain ⟨tY, Af, Aj, Ai, Ah, Ag⟩ := M.q5 6 rfl
    obtain ⟨tP, Am, Al, Ao, An, Ak⟩ := M.q5 7 rfl
    go_wp2_with fail
    clear tQ Ac Ad Ae Aa Ab tY Af Aj Ai Ah Ag tP Am Al Ao An Ak
    replace M := M.galloc 2 #[.int .i64 0, .int .i64 1, .int .i64 999999, .int .i64 1000000, .int .i64 1000001]
    obtain ⟨W6, eW, M⟩ := M
    rw [eW]
    clear eW
    obtain ⟨tL, Bb, Bj, Bk, Bf, Be⟩ := M.q5 0 rfl
    obtain ⟨tQ, Ac, Ad, Ae, Aa, Ab⟩ := M.q5 6 rfl
    obtain ⟨tY, Af, Aj, Ai, Ah, Ag⟩ := M.q5 7 rfl
    obtain ⟨tP, Am, Al, Ao, An, Ak⟩ := M.q5 8 rfl
    go_call (l1Below_pos B _ g A len cap 5 (by omega) (by omega) (M.curAt 4 rfl d0 hc)) as r W7 ⟨v, rfl, v1, v2, gg, d⟩
    clear tL Bb Bj Bk Bf Be tQ Ac Ad Ae Aa Ab tY Af Aj Ai Ah Ag tP Am Al Ao An Ak
    have MM := M.curMoved 4 rfl gg d
    clear M hc gg d
    obtain ⟨cs4, hc, M⟩ := MM
    simp only [zZ, zS] at M
    obtain ⟨k, rfl⟩ : ∃ k : Nat, v = k := ⟨v.toNat, by omega⟩
    have hk5 : (k : Int) < 5 := by omega
    have hk0 : (0 : Int) ≤ (k : Int) := by omega
    obtain ⟨u, hu⟩ : ∃ u : Int, (#[.int .i64 0, .int .i64 1, .int .i64 999999, .int .i64 1000000, .int .i64 1000001] : Array Value)[k]? = some (.int .i64 u) := by
     have h5 : k = 0 ∨ k = 1 ∨ k = 2 ∨ k = 3 ∨ k = 4 := by omega
     rcases h5 with rfl | rfl | rfl | rfl | rfl <;> exact ⟨_, rfl⟩
    have qk : W7.cell? ⟨W5.heap.size, k, none⟩ = some (.int .i64 u) := (M.cell 0 k rfl).trans hu
    clear hu
    obtain ⟨tY, Af, Ar, Aj, Aw, Ai, Ax, Ah, Ap, Ag, Aq⟩ := M.f5 7 rfl
    obtain ⟨tP, Am, Bd, Al, Bl, Ao, Bg, An, Bn, Ak, Bi⟩ := M.f5 8 rfl
    go_wp2_with fail
    clear tY Af Ar Aj Aw Ai Ax Ah Ap Ag Aq tP Am Bd Al Bl Ao Bg An Bn Ak Bi
    replace M : Sep [g] w (W7.setCell ⟨yb, 3, none⟩ (.int .i64 u)) [.blk (W5.heap.size) 2 #[.int .i64 0, .int .i64 1, .int .i64 999999, .int .i64 1000000, .int .i64 1000001], rT ts.length B0 e0 ts, rK ks.length B1 e1 ks, rF fs.length B2 e2 fs, .blk g 143 cs4, .blk (w.heap.size + 1) 35 #[.slice none 0 0, .slice none 0 0, .slice none 0 0, .int .i64 0, .bool false], .blk (w.heap.size) 28 #[.int .i64 0, .int .i64 0, .int .i64 0, .int .i64 0, .int .i64 0], .blk (yb) 35 #[.slice B0 ts.length e0, .slice B1 ks.length e1, .slice B2 fs.length e2, .int .i64 u, .bool st], .blk (pb) 28 #[.int .i64 a, .int .i64 b, .int .i64 c, .int .i64 dd, .int .i64 ee]] := M.set 7 rfl 3 (.int .i64 u)
    generalize W7.setCell ⟨yb, 3, none⟩ (.int .i64 u) = W8 at M ⊢
    clear qk
    obtain ⟨tL, Bb, Bj, Bk, Bf, Be⟩ := M.q5 0 rfl
    obtain ⟨tQ, Ac, Ad, Ae, Aa, Ab⟩ := M.q5 6 rfl
    obtain ⟨tY, Af, Aj, Ai, Ah, Ag⟩ := M.q5 7 rfl
    obtain ⟨tP, Am, Al, Ao, An, Ak⟩ := M.q5 8 rfl
    go_wp2_with fail
    clear tL Bb Bj Bk Bf Be tQ Ac Ad Ae Aa Ab tY Af Aj Ai Ah Ag tP Am Al Ao An Ak
    replace M := M.front 8 rfl
    simp only [zE, zF] at M
    replace M := M.front 8 rfl
    simp only [zE, zF] at M
    replace M := M.front 8 rfl
    simp only [zE, zF] at M
    replace M := M.front 8 rfl
    simp only [zE, zF] at M
    replace M := M.front 8 rfl
    simp only [zE, zF] at M
    replace M := M.front 8 rfl
    simp only [zE, zF] at M
    replace M := M.front 8 rfl
    simp only [zE, zF] at M
    replace M := M.front 8 rfl
    simp only [zE, zF] at M
    go_meet
    exact ⟨a, b, c, dd, ee, ts, ks, fs, u, st, B0, B1, B2, e0, e1, e2, _, _, _, _, ⟨rfl, rfl, rfl⟩, ⟨by omega, by omega, by omega⟩, hc, M.take 8⟩
   ·obtain ⟨i0, hi, hz0, hz1, hz2⟩ := info_parts infoTask
    obtain ⟨tQ, Ac, Ad, Ae, Aa, Ab⟩ := M.q5 5 rfl
    obtain ⟨tY, Af, Aj, Ai, Ah, Ag⟩ := M.q5 6 rfl
    obtain ⟨tP, Am, Al, Ao, An, Ak⟩ := M.q5 7 rfl
    go_wp2_with fail
    clear tQ Ac Ad Ae Aa Ab tY Af Aj Ai Ah Ag tP Am Al Ao An Ak
    refine wp_region_T (S := (fun w' => w'.cell? ⟨pb, 0, none⟩ = some (.int .i64 a) ∧ w'.cell? ⟨pb, 1, none⟩ = some (.int .i64 b) ∧ w'.cell? ⟨pb, 2, none⟩ = some (.int .i64 c) ∧ w'.cell? ⟨pb, 3, none⟩ = some (.int .i64 dd) ∧ w'.cell? ⟨pb, 4, none⟩ = some (.int .i64 ee) ∧ w'.cell? ⟨yb, 0, none⟩ = some (.slice B0 ts.length e0) ∧ w'.cell? ⟨yb, 1, none⟩ = some (.slice B1 ks.length e1) ∧ w'.cell? ⟨yb, 2, none⟩ = some (.slice B2 fs.length e2) ∧ w'.cell? ⟨yb, 3, none⟩ = some (.int .i64 tn) ∧ w'.cell? ⟨yb, 4, none⟩ = some (.bool st))) (ks := [8]) (by kernel_rfl) ⟨M.cell 7 0 rfl, M.cell 7 1 rfl, M.cell 7 2 rfl, M.cell 7 3 rfl, M.cell 7 4 rfl, M.cell 6 0 rfl, M.cell 6 1 rfl, M.cell 6 2 rfl, M.cell 6 3 rfl, M.cell 6 4 rfl⟩ (fun hHeld => ?_)
    replace M := M.drew
    generalize W5.drew = W6 at M hHeld ⊢
    refine tkYa 0 _ rfl (fun _ => hHeld) ?_
    try simp only [Act.put, zI, zZ, zS]
    refine tkYa 2 _ rfl (fun _ => hHeld) ?_
    try simp only [Act.put, zI, zZ, zS]
    refine tkLa 1 _ rfl hHeld ?_
    try simp only [Act.put, zI, zZ, zS]
    refine tkLa 3 _ rfl hHeld ?_
    try simp only [Act.put, zI, zZ, zS]
    refine wpAnyT_callL (i := 4) rfl (by kernel_rfl) (fun K hK => ?_)
    go_simp
    refine Calls.mono (by with_reducible exact (l2Draw_any B _ g A len cap a b c dd ee (by omega) (by omega) (by omega) (by omega) (M.curAt 3 rfl d0 hc))) ?_
    rintro r W7 ⟨s, l, o, wt, on, v, t, rfl, hs1, hs2, hs3, hs4, hs5, hs6, hs7, gg, d⟩
    have MM := M.curMoved 3 rfl gg d
    clear M hc gg d
    obtain ⟨cs4, hc, M⟩ := MM
    simp only [zZ, zS] at M
    clear hHeld
    go_wp2_with fail
    refine hK.out _ _ ?_ (fun hHeld => ?_)
    ·exact M.c10 7 6 rfl rfl
    clear hK K
    try simp only [Act.put, zI, zZ, zS]
    refine wpAnyT_callL (i := 5) rfl (by kernel_rfl) (fun K hK => ?_)
    go_simp
    obtain ⟨lb, hlb⟩ : ∃ lb, lb = W7.heap.size := ⟨_, rfl⟩
    have hRL : Row (W7.alloc (.cells #[.int .i64 s, .int .i64 l, .int .i64 o, .int .i64 wt, .int .i64 on, .int .i64 v, .int .i64 t] 45)) (some ⟨lb, 0, none⟩) [.int .i64 s, .int .i64 l, .int .i64 o, .int .i64 wt, .int .i64 on, .int .i64 v, .int .i64 t] := by rw [hlb]; exact Row.of_own (World.ownsRow_lit (base := 0) (e := 45) (size := 7) W7 #[.int .i64 s, .int .i64 l, .int .i64 o, .int .i64 wt, .int .i64 on, .int .i64 v, .int .i64 t] 1 (Nat.zero_le _) (by simp [maxLen]) (by simp))
    rw [← hlb]
    clear hlb hHeld
    replace M := (M.allocN 45 #[.int .i64 s, .int .i64 l, .int .i64 o, .int .i64 wt, .int .i64 on, .int .i64 v, .int .i64 t]).tail
    generalize W7.alloc (.cells #[.int .i64 s, .int .i64 l, .int .i64 o, .int .i64 wt, .int .i64 on, .int .i64 v, .int .i64 t] 45) = W8 at M hRL ⊢
    refine hK.out _ _ ?_ (fun hHeld => ?_)
    ·exact M.c10 7 6 rfl rfl
    clear hK K
    try simp only [Act.put, zI, zZ, zS]
    have hO : W8.ownsRow 0 45 7 (.slice B0 ts.length e0) ts.length (tcells ts) := M.rowAt 0 rfl
    refine wpAnyT_callL (i := 6) rfl (by kernel_rfl) (fun K hK => ?_)
    refine step_append_sep rfl (.tmp 26) (.tmp 30) 31 rfl 45 i0 (.agg #[.int .i64 0, .int .i64 0, .int .i64 0, .int .i64 0, .int .i64 0, .int .i64 0, .int .i64 0]) 7 56 Tryz.underlying31 hi hz0 hz1 hz2 rfl (by decide) B0 ts.length e0 (tcells ts) rfl hO ⟨lb, 0, none⟩ 1 1 [.int .i64 s, .int .i64 l, .int .i64 o, .int .i64 wt, .int .i64 on, .int .i64 v, .int .i64 t] rfl rfl hRL (by simp) (by simp [Value.oneCell']) (by unfold maxLen; omega) (by omega) ?_
    intro A' c' W9 kk
    replace kk : Sep (fps [rT ts.length B0 e0 ts]) W8 W9 [rT (ts.length + 1) A' c' (ts ++ [⟨s, l, o, wt, on, v, t⟩])] := by
     unfold rT at kk ⊢
     rw [show tcells ts ++ [.int .i64 s, .int .i64 l, .int .i64 o, .int .i64 wt, .int .i64 on, .int .i64 v, .int .i64 t] = tcells (ts ++ [⟨s, l, o, wt, on, v, t⟩]) from by simp [tcells, T7.cs]] at kk
     exact kk
    replace M : Sep [g] w W9 [rT (ts.length + 1) A' c' (ts ++ [⟨s, l, o, wt, on, v, t⟩]), rK ks.length B1 e1 ks, rF fs.length B2 e2 fs, .blk g 143 cs4, .blk (w.heap.size + 1) 35 #[.slice none 0 0, .slice none 0 0, .slice none 0 0, .int .i64 0, .bool false], .blk (w.heap.size) 28 #[.int .i64 0, .int .i64 0, .int .i64 0, .int .i64 0, .int .i64 0], .blk (yb) 35 #[.slice B0 ts.length e0, .slice B1 ks.length e1, .slice B2 fs.length e2, .int .i64 tn, .bool st], .blk (pb) 28 #[.int .i64 a, .int .i64 b, .int .i64 c, .int .i64 dd, .int .i64 ee]] := Sep.comp (ps := [rT ts.length B0 e0 ts]) (rs := [rK ks.length B1 e1 ks, rF fs.length B2 e2 fs, .blk g 143 cs4, .blk (w.heap.size + 1) 35 #[.slice none 0 0, .slice none 0 0, .slice none 0 0, .int .i64 0, .bool false], .blk (w.heap.size) 28 #[.int .i64 0, .int .i64 0, .int .i64 0, .int .i64 0, .int .i64 0], .blk (yb) 35 #[.slice B0 ts.length e0, .slice B1 ks.length e1, .slice B2 fs.length e2, .int .i64 tn, .bool st], .blk (pb) 28 #[.int .i64 a, .int .i64 b, .int .i64 c, .int .i64 dd, .int .i64 ee]]) M kk
    clear kk hO hRL hHeld
    refine hK.out _ _ ?_ (fun hHeld => ?_)
    ·exact M.c10 7 6 rfl rfl
    clear hK K
    try simp only [Act.put, zI, zZ, zS]
    refine tkYa 7 _ rfl (fun _ => hHeld) ?_
    try simp only [Act.put, zI, zZ, zS]
    obtain ⟨tY, Af, Ar, Aj, Aw, Ai, Ax, Ah, Ap, Ag, Aq⟩ := M.f5 6 rfl
    refine wpAnyT_oneL (i := 8) rfl (by kernel_rfl) (by kernel_rfl) (fun K hK => ?_)
    go_simp
    refine hK.out _ _ ?_
    clear hK K
    try simp only [Act.put, zI, zZ, zS]
    clear tY Af Ar Aj Aw Ai Ax Ah Ap Ag Aq
    replace M : Sep [g] w (W9.setCell ⟨yb, 0, none⟩ (.slice A' (ts.length + 1) c')) [rT (ts.length + 1) A' c' (ts ++ [⟨s, l, o, wt, on, v, t⟩]), rK ks.length B1 e1 ks, rF fs.length B2 e2 fs, .blk g 143 cs4, .blk (w.heap.size + 1) 35 #[.slice none 0 0, .slice none 0 0, .slice none 0 0, .int .i64 0, .bool false], .blk (w.heap.size) 28 #[.int .i64 0, .int .i64 0, .int .i64 0, .int .i64 0, .int .i64 0], .blk (yb) 35 #[.slice A' (ts.length + 1) c', .slice B1 ks.length e1, .slice B2 fs.length e2, .int .i64 tn, .bool st], .blk (pb) 28 #[.int .i64 a, .int .i64 b, .int .i64 c, .int .i64 dd, .int .i64 ee]] := M.set 6 rfl 0 (.slice A' (ts.length + 1) c')
    generalize W9.setCell ⟨yb, 0, none⟩ (.slice A' (ts.length + 1) c') = W10 at M ⊢
    refine wpAnyT_done (by kernel_rfl) ?_ _
    replace M := M.front 2 rfl
    simp only [zE, zF] at M
    replace M := M.front 2 rfl
    simp only [zE, zF] at M
    replace M := M.front 2 rfl
    simp only [zE, zF] at M
    obtain ⟨tQ, Ac, Ad, Ae, Aa, Ab⟩ := M.q5 5 rfl
    obtain ⟨tY, Af, Aj, Ai, Ah, Ag⟩ := M.q5 6 rfl
    obtain ⟨tP, Am, Al, Ao, An, Ak⟩ := M.q5 7 rfl
    go_wp2_with fail
    clear tQ Ac Ad Ae Aa Ab tY Af Aj Ai Ah Ag tP Am Al Ao An Ak
    replace M := M.front 7 rfl
    simp only [zE, zF] at M
    replace M := M.front 7 rfl
    simp only [zE, zF] at M
    replace M := M.front 7 rfl
    simp only [zE, zF] at M
    replace M := M.front 7 rfl
    simp only [zE, zF] at M
    replace M := M.front 7 rfl
    simp only [zE, zF] at M
    replace M := M.front 7 rfl
    simp only [zE, zF] at M
    replace M := M.front 7 rfl
    simp only [zE, zF] at M
    replace M := M.front 7 rfl
    simp only [zE, zF] at M
    go_meet
    exact ⟨a, b, c, dd, ee, ts ++ [(⟨s, l, o, wt, on, v, t⟩ : T7)], ks, fs, tn, st, A', B1, B2, c', e1, e2, _, _, _, _, ⟨by simp, rfl, rfl⟩, ⟨by omega, by omega, by omega⟩, hc, M.take 8⟩
   ·obtain ⟨i0, hi, hz0, hz1, hz2⟩ := info_parts infoInt
    obtain ⟨tQ, Ac, Ad, Ae, Aa, Ab⟩ := M.q5 5 rfl
    obtain ⟨tY, Af, Aj, Ai, Ah, Ag⟩ := M.q5 6 rfl
    obtain ⟨tP, Am, Al, Ao, An, Ak⟩ := M.q5 7 rfl
    go_wp2_with fail
    clear tQ Ac Ad Ae Aa Ab tY Af Aj Ai Ah Ag tP Am Al Ao An Ak
    refine wp_region_T (S := (fun w' => w'.cell? ⟨pb, 0, none⟩ = some (.int .i64 a) ∧ w'.cell? ⟨pb, 1, none⟩ = some (.int .i64 b) ∧ w'.cell? ⟨pb, 2, none⟩ = some (.int .i64 c) ∧ w'.cell? ⟨pb, 3, none⟩ = some (.int .i64 dd) ∧ w'.cell? ⟨pb, 4, none⟩ = some (.int .i64 ee) ∧ w'.cell? ⟨yb, 0, none⟩ = some (.slice B0 ts.length e0) ∧ w'.cell? ⟨yb, 1, none⟩ = some (.slice B1 ks.length e1) ∧ w'.cell? ⟨yb, 2, none⟩ = some (.slice B2 fs.length e2) ∧ w'.cell? ⟨yb, 3, none⟩ = some (.int .i64 tn) ∧ w'.cell? ⟨yb, 4, none⟩ = some (.bool st))) (ks := [7]) (by kernel_rfl) ⟨M.cell 7 0 rfl, M.cell 7 1 rfl, M.cell 7 2 rfl, M.cell 7 3 rfl, M.cell 7 4 rfl, M.cell 6 0 rfl, M.cell 6 1 rfl, M.cell 6 2 rfl, M.cell 6 3 rfl, M.cell 6 4 rfl⟩ (fun hHeld => ?_)
    replace M := M.drew
    generalize W5.drew = W6 at M hHeld ⊢
    refine tkYa 0 _ rfl (fun _ => hHeld) ?_
    try simp only [Act.put, zI, zZ, zS]
    refine tkYa 2 _ rfl (fun _ => hHeld) ?_
    try simp only [Act.put, zI, zZ, zS]
    refine tkLa 1 _ rfl hHeld ?_
    try simp only [Act.put, zI, zZ, zS]
    refine wpAnyT_callL (i := 3) rfl (by kernel_rfl) (fun K hK => ?_)
    go_simp
    refine Calls.mono (by with_reducible exact (l1Num_any B _ g A len cap 100 (by omega) (by omega) (M.curAt 3 rfl d0 hc))) ?_
    rintro r W7 ⟨u, rfl, hu1, gg, d⟩
    have MM := M.curMoved 3 rfl gg d
    clear M hc gg d
    obtain ⟨cs4, hc, M⟩ := MM
    simp only [zZ, zS] at M
    clear hHeld
    go_wp2_with fail
    refine hK.out _ _ ?_ (fun hHeld => ?_)
    ·exact M.c10 7 6 rfl rfl
    clear hK K
    try simp only [Act.put, zI, zZ, zS]
    refine wpAnyT_callL (i := 4) rfl (by kernel_rfl) (fun K hK => ?_)
    go_simp
    obtain ⟨lb, hlb⟩ : ∃ lb, lb = W7.heap.size := ⟨_, rfl⟩
    have hRL : Row (W7.alloc (.cells #[.int .i64 u] 2)) (some ⟨lb, 0, none⟩) [.int .i64 u] := by rw [hlb]; exact Row.of_own (World.ownsRow_lit (base := 0) (e := 2) (size := 1) W7 #[.int .i64 u] 1 (Nat.zero_le _) (by simp [maxLen]) (by simp))
    rw [← hlb]
    clear hlb hHeld
    replace M := (M.allocN 2 #[.int .i64 u]).tail
    generalize W7.alloc (.cells #[.int .i64 u] 2) = W8 at M hRL ⊢
    refine hK.out _ _ ?_ (fun hHeld => ?_)
    ·exact M.c10 7 6 rfl rfl
    clear hK K
    try simp only [Act.put, zI, zZ, zS]
    replace M := M.front 1 rfl
    simp only [zE, zF] at M
    have hO : W8.ownsRow 0 2 1 (.slice B1 ks.length e1) ks.length (icells ks) := M.rowAt 0 rfl
    refine wpAnyT_callL (i := 5) rfl (by kernel_rfl) (fun K hK => ?_)
    refine step_append_sep rfl (.tmp 36) (.tmp 39) 32 rfl 2 i0 (.int .i64 0) 1 8 Tryz.underlying32 hi hz0 hz1 hz2 rfl (by decide) B1 ks.length e1 (icells ks) rfl hO ⟨lb, 0, none⟩ 1 1 [.int .i64 u] rfl rfl hRL (by simp) (by simp [Value.oneCell']) (by unfold maxLen; omega) (by omega) ?_
    intro A' c' W9 kk
    replace kk : Sep (fps [rK ks.length B1 e1 ks]) W8 W9 [rK (ks.length + 1) A' c' (ks ++ [u])] := by
     unfold rK at kk ⊢
     rw [show icells ks ++ [.int .i64 u] = icells (ks ++ [u]) from by simp [icells]] at kk
     exact kk
    replace M : Sep [g] w W9 [rK (ks.length + 1) A' c' (ks ++ [u]), rT ts.length B0 e0 ts, rF fs.length B2 e2 fs, .blk g 143 cs4, .blk (w.heap.size + 1) 35 #[.slice none 0 0, .slice none 0 0, .slice none 0 0, .int .i64 0, .bool false], .blk (w.heap.size) 28 #[.int .i64 0, .int .i64 0, .int .i64 0, .int .i64 0, .int .i64 0], .blk (yb) 35 #[.slice B0 ts.length e0, .slice B1 ks.length e1, .slice B2 fs.length e2, .int .i64 tn, .bool st], .blk (pb) 28 #[.int .i64 a, .int .i64 b, .int .i64 c, .int .i64 dd, .int .i64 ee]] := Sep.comp (ps := [rK ks.length B1 e1 ks]) (rs := [rT ts.length B0 e0 ts, rF fs.length B2 e2 fs, .blk g 143 cs4, .blk (w.heap.size + 1) 35 #[.slice none 0 0, .slice none 0 0, .slice none 0 0, .int .i64 0, .bool false], .blk (w.heap.size) 28 #[.int .i64 0, .int .i64 0, .int .i64 0, .int .i64 0, .int .i64 0], .blk (yb) 35 #[.slice B0 ts.length e0, .slice B1 ks.length e1, .slice B2 fs.length e2, .int .i64 tn, .bool st], .blk (pb) 28 #[.int .i64 a, .int .i64 b, .int .i64 c, .int .i64 dd, .int .i64 ee]]) M kk
    clear kk hO hRL hHeld
    refine hK.out _ _ ?_ (fun hHeld => ?_)
    ·exact M.c10 7 6 rfl rfl
    clear hK K
    try simp only [Act.put, zI, zZ, zS]
    refine tkYa 6 _ rfl (fun _ => hHeld) ?_
    try simp only [Act.put, zI, zZ, zS]
    obtain ⟨tY, Af, Ar, Aj, Aw, Ai, Ax, Ah, Ap, Ag, Aq⟩ := M.f5 6 rfl
    refine wpAnyT_oneL (i := 7) rfl (by kernel_rfl) (by kernel_rfl) (fun K hK => ?_)
    go_simp
    refine hK.out _ _ ?_
    clear hK K
    try simp only [Act.put, zI, zZ, zS]
    clear tY Af Ar Aj Aw Ai Ax Ah Ap Ag Aq
    replace M : Sep [g] w (W9.setCell ⟨yb, 1, none⟩ (.slice A' (ks.length + 1) c')) [rK (ks.length + 1) A' c' (ks ++ [u]), rT ts.length B0 e0 ts, rF fs.length B2 e2 fs, .blk g 143 cs4, .blk (w.heap.size + 1) 35 #[.slice none 0 0, .slice none 0 0, .slice none 0 0, .int .i64 0, .bool false], .blk (w.heap.size) 28 #[.int .i64 0, .int .i64 0, .int .i64 0, .int .i64 0, .int .i64 0], .blk (yb) 35 #[.slice B0 ts.length e0, .slice A' (ks.length + 1) c', .slice B2 fs.length e2, .int .i64 tn, .bool st], .blk (pb) 28 #[.int .i64 a, .int .i64 b, .int .i64 c, .int .i64 dd, .int .i64 ee]] := M.set 6 rfl 1 (.slice A' (ks.length + 1) c')
    generalize W9.setCell ⟨yb, 1, none⟩ (.slice A' (ks.length + 1) c') = W10 at M ⊢
    refine wpAnyT_done (by kernel_rfl) ?_ _
    replace M := M.front 2 rfl
    simp only [zE, zF] at M
    replace M := M.front 1 rfl
    simp only [zE, zF] at M
    replace M := M.front 2 rfl
    simp only [zE, zF] at M
    obtain ⟨tQ, Ac, Ad, Ae, Aa, Ab⟩ := M.q5 5 rfl
    obtain ⟨tY, Af, Aj, Ai, Ah, Ag⟩ := M.q5 6 rfl
    obtain ⟨tP, Am, Al, Ao, An, Ak⟩ := M.q5 7 rfl
    go_wp2_with fail
    clear tQ Ac Ad Ae Aa Ab tY Af Aj Ai Ah Ag tP Am Al Ao An Ak
    replace M := M.front 7 rfl
    simp only [zE, zF] at M
    replace M := M.front 7 rfl
    simp only [zE, zF] at M
    replace M := M.front 7 rfl
    simp only [zE, zF] at M
    replace M := M.front 7 rfl
    simp only [zE, zF] at M
    replace M := M.front 7 rfl
    simp only [zE, zF] at M
    replace M := M.front 7 rfl
    simp only [zE, zF] at M
    replace M := M.front 7 rfl
    simp only [zE, zF] at M
    replace M := M.front 7 rfl
    simp only [zE, zF] at M
    go_meet
    exact ⟨a, b, c, dd, ee, ts, ks ++ [u], fs, tn, st, B0, A', B2, e0, c', e2, _, _, _, _, ⟨rfl, by simp, rfl⟩, ⟨by omega, by omega, by omega⟩, hc, M.take 8⟩
   ·by_cases hk0 : ks = []
    ·subst hk0
     replace M : Sep [g] w W5 [rT ts.length B0 e0 ts, rK 0 B1 e1 [], rF fs.length B2 e2 fs, .blk g 143 cs3, .blk (w.heap.size + 1) 35 #[.slice none 0 0, .slice none 0 0, .slice none 0 0, .int .i64 0, .bool false], .blk (w.heap.size) 28 #[.int .i64 0, .int .i64 0, .int .i64 0, .int .i64 0, .int .i64 0], .blk (yb) 35 #[.slice B0 ts.length e0, .slice B1 0 e1, .slice B2 fs.length e2, .int .i64 tn, .bool st], .blk (pb) 28 #[.int .i64 a, .int .i64 b, .int .i64 c, .int .i64 dd, .int .i64 ee]] := M
     obtain ⟨tQ, Ac, Ad, Ae, Aa, Ab⟩ := M.q5 5 rfl
     obtain ⟨tY, Af, Aj, Ai, Ah, Ag⟩ := M.q5 6 rfl
     obtain ⟨tP, Am, Al, Ao, An, Ak⟩ := M.q5 7 rfl
     go_wp2_with fail
     clear tQ Ac Ad Ae Aa Ab tY Af Aj Ai Ah Ag tP Am Al Ao An Ak
     replace M := M.front 7 rfl
     simp only [zE, zF] at M
     replace M := M.front 7 rfl
     simp only [zE, zF] at M
     replace M := M.front 7 rfl
     simp only [zE, zF] at M
     replace M := M.front 7 rfl
     simp only [zE, zF] at M
     replace M := M.front 7 rfl
     simp only [zE, zF] at M
     replace M := M.front 7 rfl
     simp only [zE, zF] at M
     replace M := M.front 7 rfl
     simp only [zE, zF] at M
     replace M := M.front 7 rfl
     simp only [zE, zF] at M
     go_meet
     exact ⟨a, b, c, dd, ee, ts, [], fs, tn, st, B0, B1, B2, e0, e1, e2, _, _, _, _, ⟨rfl, rfl, rfl⟩, ⟨by omega, by omega, by omega⟩, hc, M.take 8⟩
    ·have hkn : 0 < ks.length := List.length_pos_iff.2 hk0
     have hki : (0 : Int) < (ks.length : Int) := by omega
     clear hk0
     have hrK : (rK ks.length B1 e1 ks).here W5 := M.rowAt 1 rfl
     obtain ⟨gk, rfl, hgl, hfz⟩ := rK_form hrK hkn
     clear hrK hfz
     obtain ⟨tQ, Ac, Ad, Ae, Aa, Ab⟩ := M.q5 5 rfl
     obtain ⟨tY, Af, Aj, Ai, Ah, Ag⟩ := M.q5 6 rfl
     obtain ⟨tP, Am, Al, Ao, An, Ak⟩ := M.q5 7 rfl
     go_wp2_with fail
     clear tQ Ac Ad Ae Aa Ab tY Af Aj Ai Ah Ag tP Am Al Ao An Ak
     refine wp_region_T (S := (fun w' => w'.cell? ⟨pb, 0, none⟩ = some (.int .i64 a) ∧ w'.cell? ⟨pb, 1, none⟩ = some (.int .i64 b) ∧ w'.cell? ⟨pb, 2, none⟩ = some (.int .i64 c) ∧ w'.cell? ⟨pb, 3, none⟩ = some (.int .i64 dd) ∧ w'.cell? ⟨pb, 4, none⟩ = some (.int .i64 ee) ∧ w'.cell? ⟨yb, 0, none⟩ = some (.slice B0 ts.length e0) ∧ w'.cell? ⟨yb, 1, none⟩ = some (.slice (some ⟨gk, 0, none⟩) ks.length e1) ∧ w'.cell? ⟨yb, 2, none⟩ = some (.slice B2 fs.length e2) ∧ w'.cell? ⟨yb, 3, none⟩ = some (.int .i64 tn) ∧ w'.cell? ⟨yb, 4, none⟩ = some (.bool st))) (ks := [5]) (by kernel_rfl) ⟨M.cell 7 0 rfl, M.cell 7 1 rfl, M.cell 7 2 rfl, M.cell 7 3 rfl, M.cell 7 4 rfl, M.cell 6 0 rfl, M.cell 6 1 rfl, M.cell 6 2 rfl, M.cell 6 3 rfl, M.cell 6 4 rfl⟩ (fun hHeld => ?_)
     replace M := M.drew
     generalize W5.drew = W6 at M hHeld ⊢
     refine tkYa 0 _ rfl (fun _ => hHeld) ?_
     try simp only [Act.put, zI, zZ, zS]
     refine tkLa 1 _ rfl hHeld ?_
     try simp only [Act.put, zI, zZ, zS]
     refine tkYa 2 _ rfl (fun _ => hHeld) ?_
     try simp only [Act.put, zI, zZ, zS]
     refine wpAnyT_callL (i := 3) rfl (by kernel_rfl) (fun K hK => ?_)
     go_simp
     refine Calls.mono (by with_reducible exact (l1Num_any B _ g A len cap 100 (by omega) (by omega) (M.curAt 3 rfl d0 hc))) ?_
     rintro r W7 ⟨u, rfl, hu1, gg, d⟩
     have MM := M.curMoved 3 rfl gg d
     clear M hc gg d
     obtain ⟨cs4, hc, M⟩ := MM
     simp only [zZ, zS] at M
     clear hHeld
     go_wp2_with fail
     refine hK.out _ _ ?_ (fun hHeld => ?_)
     ·exact M.c10 7 6 rfl rfl
     clear hK K
     try simp only [Act.put, zI, zZ, zS]
     refine tkYa 4 _ rfl (fun _ => hHeld) ?_
     try simp only [Act.put, zI, zZ, zS]
     have fzk : W7.frozen? ⟨gk, 0, none⟩ = false := Own.fz (M.rowAt 1 rfl) 0
     obtain ⟨ku, hku⟩ : ∃ ku, ks[0]? = some ku := ⟨_, List.getElem?_eq_getElem hkn⟩
     have qk : W7.cell? ⟨gk, 0, none⟩ = some (.int .i64 ku) := by
      obtain ⟨b', off, x0, e', _, he, hb', z0⟩ := (M.rowS 1 rfl).ks_at hkn
      injection e' with e'; injection e' with e1 e2; subst e1 e2
      rw [hku] at he; injection he with he; subst he
      simpa using z0
     refine wpAnyT_oneL (i := 5) rfl (by kernel_rfl) (by kernel_rfl) (fun K hK => ?_)
     go_simp
     refine hK.out _ _ ?_
     clear hK K
     try simp only [Act.put, zI, zZ, zS]
     replace M : Sep [g] w (W7.setCell ⟨gk, 0, none⟩ (.int .i64 u)) [rT ts.length B0 e0 ts, rK ks.length (some ⟨gk, 0, none⟩) e1 (ks.set 0 u), rF fs.length B2 e2 fs, .blk g 143 cs4, .blk (w.heap.size + 1) 35 #[.slice none 0 0, .slice none 0 0, .slice none 0 0, .int .i64 0, .bool false], .blk (w.heap.size) 28 #[.int .i64 0, .int .i64 0, .int .i64 0, .int .i64 0, .int .i64 0], .blk (yb) 35 #[.slice B0 ts.length e0, .slice (some ⟨gk, 0, none⟩) ks.length e1, .slice B2 fs.length e2, .int .i64 tn, .bool st], .blk (pb) 28 #[.int .i64 a, .int .i64 b, .int .i64 c, .int .i64 dd, .int .i64 ee]] := M.putK 1 rfl 0 u
     generalize W7.setCell ⟨gk, 0, none⟩ (.int .i64 u) = W8 at M ⊢
     clear fzk qk hku
     refine wpAnyT_done (by kernel_rfl) ?_ _
     obtain ⟨tQ, Ac, Ad, Ae, Aa, Ab⟩ := M.q5 5 rfl
     obtain ⟨tY, Af, Aj, Ai, Ah, Ag⟩ := M.q5 6 rfl
     obtain ⟨tP, Am, Al, Ao, An, Ak⟩ := M.q5 7 rfl
     go_wp2_with fail
     clear tQ Ac Ad Ae Aa Ab tY Af Aj Ai Ah Ag tP Am Al Ao An Ak
     replace M := M.front 7 rfl
     simp only [zE, zF] at M
     replace M := M.front 7 rfl
     simp only [zE, zF] at M
     replace M := M.front 7 rfl
     simp only [zE, zF] at M
     replace M := M.front 7 rfl
     simp only [zE, zF] at M
     replace M := M.front 7 rfl
     simp only [zE, zF] at M
     replace M := M.front 7 rfl
     simp only [zE, zF] at M
     replace M := M.front 7 rfl
     simp only [zE, zF] at M
     replace M := M.front 7 rfl
     simp only [zE, zF] at M
     go_meet
     exact ⟨a, b, c, dd, ee, ts, ks.set 0 u, fs, tn, st, B0, some ⟨gk, 0, none⟩, B2, e0, e1, e2, _, _, _, _, ⟨rfl, by simp, rfl⟩, ⟨by omega, by omega, by omega⟩, hc, M.take 8⟩
   ·by_cases hk0 : fs = []
    ·subst hk0
     replace M : Sep [g] w W5 [rT ts.length B0 e0 ts, rK ks.length B1 e1 ks, rF 0 B2 e2 [], .blk g 143 cs3, .blk (w.heap.size + 1) 35 #[.slice none 0 0, .slice none 0 0, .slice none 0 0, .int .i64 0, .bool false], .blk (w.heap.size) 28 #[.int .i64 0, .int .i64 0, .int .i64 0, .int .i64 0, .int .i64 0], .blk (yb) 35 #[.slice B0 ts.length e0, .slice B1 ks.length e1, .slice B2 0 e2, .int .i64 tn, .bool st], .blk (pb) 28 #[.int .i64 a, .int .i64 b, .int .i64 c, .int .i64 dd, .int .i64 ee]] := M
     obtain ⟨tQ, Ac, Ad, Ae, Aa, Ab⟩ := M.q5 5 rfl
     obtain ⟨tY, Af, Aj, Ai, Ah, Ag⟩ := M.q5 6 rfl
     obtain ⟨tP, Am, Al, Ao, An, Ak⟩ := M.q5 7 rfl
     go_wp2_with fail
     clear tQ Ac Ad Ae Aa Ab tY Af Aj Ai Ah Ag tP Am Al Ao An Ak
     replace M := M.front 7 rfl
     simp only [zE, zF] at M
     replace M := M.front 7 rfl
     simp only [zE, zF] at M
     replace M := M.front 7 rfl
     simp only [zE, zF] at M
     replace M := M.front 7 rfl
     simp only [zE, zF] at M
     replace M := M.front 7 rfl
     simp only [zE, zF] at M
     replace M := M.front 7 rfl
     simp only [zE, zF] at M
     replace M := M.front 7 rfl
     simp only [zE, zF] at M
     replace M := M.front 7 rfl
     simp only [zE, zF] at M
     go_meet
     exact ⟨a, b, c, dd, ee, ts, ks, [], tn, st, B0, B1, B2, e0, e1, e2, _, _, _, _, ⟨rfl, rfl, rfl⟩, ⟨by omega, by omega, by omega⟩, hc, M.take 8⟩
    ·have hkn : 0 < fs.length := List.length_pos_iff.2 hk0
     have hki : (0 : Int) < (fs.length : Int) := by omega
     clear hk0
     have hrK : (rF fs.length B2 e2 fs).here W5 := M.rowAt 2 rfl
     obtain ⟨gk, rfl, hgl, hfz⟩ := rF_form hrK hkn
     clear hrK hfz
     obtain ⟨tQ, Ac, Ad, Ae, Aa, Ab⟩ := M.q5 5 rfl
     obtain ⟨tY, Af, Aj, Ai, Ah, Ag⟩ := M.q5 6 rfl
     obtain ⟨tP, Am, Al, Ao, An, Ak⟩ := M.q5 7 rfl
     go_wp2_with fail
     clear tQ Ac Ad Ae Aa Ab tY Af Aj Ai Ah Ag tP Am Al Ao An Ak
     refine wp_region_T (S := (fun w' => w'.cell? ⟨pb, 0, none⟩ = some (.int .i64 a) ∧ w'.cell? ⟨pb, 1, none⟩ = some (.int .i64 b) ∧ w'.cell? ⟨pb, 2, none⟩ = some (.int .i64 c) ∧ w'.cell? ⟨pb, 3, none⟩ = some (.int .i64 dd) ∧ w'.cell? ⟨pb, 4, none⟩ = some (.int .i64 ee) ∧ w'.cell? ⟨yb, 0, none⟩ = some (.slice B0 ts.length e0) ∧ w'.cell? ⟨yb, 1, none⟩ = some (.slice B1 ks.length e1) ∧ w'.cell? ⟨yb, 2, none⟩ = some (.slice (some ⟨gk, 0, none⟩) fs.length e2) ∧ w'.cell? ⟨yb, 3, none⟩ = some (.int .i64 tn) ∧ w'.cell? ⟨yb, 4, none⟩ = some (.bool st))) (ks := [6]) (by kernel_rfl) ⟨M.cell 7 0 rfl, M.cell 7 1 rfl, M.cell 7 2 rfl, M.cell 7 3 rfl, M.cell 7 4 rfl, M.cell 6 0 rfl, M.cell 6 1 rfl, M.cell 6 2 rfl, M.cell 6 3 rfl, M.cell 6 4 rfl⟩ (fun hHeld => ?_)
     replace M := M.drew
     generalize W5.drew = W6 at M hHeld ⊢
     refine tkYa 0 _ rfl (fun _ => hHeld) ?_
     try simp only [Act.put, zI, zZ, zS]
     refine tkLa 1 _ rfl hHeld ?_
     try simp only [Act.put, zI, zZ, zS]
     refine tkYa 2 _ rfl (fun _ => hHeld) ?_
     try simp only [Act.put, zI, zZ, zS]
     refine wpAnyT_callL (i := 3) rfl (by kernel_rfl) (fun K hK => ?_)
     go_simp
     refine Calls.mono (by with_reducible exact (l1Num_any B _ g A len cap 9999 (by omega) (by omega) (M.curAt 3 rfl d0 hc))) ?_
     rintro r W7 ⟨u, rfl, hu1, gg, d⟩
     have MM := M.curMoved 3 rfl gg d
     clear M hc gg d
     obtain ⟨cs4, hc, M⟩ := MM
     simp only [zZ, zS] at M
     clear hHeld
     go_wp2_with fail
     refine hK.out _ _ ?_ (fun hHeld => ?_)
     ·exact M.c10 7 6 rfl rfl
     clear hK K
     try simp only [Act.put, zI, zZ, zS]
     refine tkYa 4 _ rfl (fun _ => hHeld) ?_
     try simp only [Act.put, zI, zZ, zS]
     refine tkYa 5 _ rfl (fun _ => hHeld) ?_
     try simp only [Act.put, zI, zZ, zS]
     have fzk : W7.frozen? ⟨gk, 1, none⟩ = false := Own.fz (M.rowAt 2 rfl) 1
     obtain ⟨⟨fb, fv⟩, hku⟩ : ∃ ku, fs[0]? = some ku := ⟨_, List.getElem?_eq_getElem hkn⟩
     have qk : W7.cell? ⟨gk, 1, none⟩ = some (.int .i64 fv) := by
      obtain ⟨b', off, x0, x1, e', _, he, hb', z0, z1⟩ := (M.rowS 2 rfl).fs_at hkn
      injection e' with e'; injection e' with e1 e2; subst e1 e2
      rw [hku] at he; injection he with he; injection he with he1 he2; subst he1 he2
      simpa using z1
     refine wpAnyT_oneL (i := 6) rfl (by kernel_rfl) (by kernel_rfl) (fun K hK => ?_)
     go_simp
     refine hK.out _ _ ?_
     clear hK K
     try simp only [Act.put, zI, zZ, zS]
     replace M : Sep [g] w (W7.setCell ⟨gk, 1, none⟩ (.int .i64 u)) [rT ts.length B0 e0 ts, rK ks.length B1 e1 ks, rF fs.length (some ⟨gk, 0, none⟩) e2 (fs.set 0 ⟨fb, u⟩), .blk g 143 cs4, .blk (w.heap.size + 1) 35 #[.slice none 0 0, .slice none 0 0, .slice none 0 0, .int .i64 0, .bool false], .blk (w.heap.size) 28 #[.int .i64 0, .int .i64 0, .int .i64 0, .int .i64 0, .int .i64 0], .blk (yb) 35 #[.slice B0 ts.length e0, .slice B1 ks.length e1, .slice (some ⟨gk, 0, none⟩) fs.length e2, .int .i64 tn, .bool st], .blk (pb) 28 #[.int .i64 a, .int .i64 b, .int .i64 c, .int .i64 dd, .int .i64 ee]] := M.putF1 2 rfl hku u
     generalize W7.setCell ⟨gk, 1, none⟩ (.int .i64 u) = W8 at M ⊢
     clear fzk qk hku
     refine wpAnyT_done (by kernel_rfl) ?_ _
     obtain ⟨tQ, Ac, Ad, Ae, Aa, Ab⟩ := M.q5 5 rfl
     obtain ⟨tY, Af, Aj, Ai, Ah, Ag⟩ := M.q5 6 rfl
     obtain ⟨tP, Am, Al, Ao, An, Ak⟩ := M.q5 7 rfl
     go_wp2_with fail
     clear tQ Ac Ad Ae Aa Ab tY Af Aj Ai Ah Ag tP Am Al Ao An Ak
     replace M := M.front 7 rfl
     simp only [zE, zF] at M
     replace M := M.front 7 rfl
     simp only [zE, zF] at M
     replace M := M.front 7 rfl
     simp only [zE, zF] at M
     replace M := M.front 7 rfl
     simp only [zE, zF] at M
     replace M := M.front 7 rfl
     simp only [zE, zF] at M
     replace M := M.front 7 rfl
     simp only [zE, zF] at M
     replace M := M.front 7 rfl
     simp only [zE, zF] at M
     replace M := M.front 7 rfl
     simp only [zE, zF] at M
     go_meet
     exact ⟨a, b, c, dd, ee, ts, ks, fs.set 0 (⟨fb, u⟩ : F2), tn, st, B0, B1, some ⟨gk, 0, none⟩, e0, e1, e2, _, _, _, _, ⟨rfl, rfl, by simp⟩, ⟨by omega, by omega, by omega⟩, hc, M.take 8⟩
   ·obtain ⟨tQ, Ac, Ay, Ad, Av, Ae, At, Aa, Au, Ab, As⟩ := M.f5 5 rfl
    obtain ⟨tY, Af, Ar, Aj, Aw, Ai, Ax, Ah, Ap, Ag, Aq⟩ := M.f5 6 rfl
    obtain ⟨tP, Am, Al, Ao, An, Ak⟩ := M.q5 7 rfl
    go_wp2_with fail
    go_call (l1DrawAny_any B _ g A len cap (M.curAt 3 rfl d0 hc)) as r W6 ⟨pa, pb2, pc, pd, pe, rfl, hs1, hs2, hs3, hs4, hs5, gg, d⟩
    clear tQ Ac Ay Ad Av Ae At Aa Au Ab As tY Af Ar Aj Aw Ai Ax Ah Ap Ag Aq tP Am Al Ao An Ak
    have MM := M.curMoved 3 rfl gg d
    clear M hc gg d
    obtain ⟨cs4, hc, M⟩ := MM
    simp only [zZ, zS] at M
    obtain ⟨tP, Am, Bd, Al, Bl, Ao, Bg, An, Bn, Ak, Bi⟩ := M.f5 7 rfl
    go_wp2_with fail
    clear tP Am Bd Al Bl Ao Bg An Bn Ak Bi
    replace M := M.gset5 7 rfl (.int .i64 pa) (.int .i64 pb2) (.int .i64 pc) (.int .i64 pd) (.int .i64 pe)
    obtain ⟨W7, eW, M⟩ := M
    rw [eW]
    clear eW
    simp only [zZ, zS] at M
    obtain ⟨tQ, Ac, Ad, Ae, Aa, Ab⟩ := M.q5 5 rfl
    obtain ⟨tY, Af, Aj, Ai, Ah, Ag⟩ := M.q5 6 rfl
    obtain ⟨tP, Am, Al, Ao, An, Ak⟩ := M.q5 7 rfl
    go_wp2_with fail
    clear tQ Ac Ad Ae Aa Ab tY Af Aj Ai Ah Ag tP Am Al Ao An Ak
    replace M := M.front 7 rfl
    simp only [zE, zF] at M
    replace M := M.front 7 rfl
    simp only [zE, zF] at M
    replace M := M.front 7 rfl
    simp only [zE, zF] at M
    replace M := M.front 7 rfl
    simp only [zE, zF] at M
    replace M := M.front 7 rfl
    simp only [zE, zF] at M
    replace M := M.front 7 rfl
    simp only [zE, zF] at M
    replace M := M.front 7 rfl
    simp only [zE, zF] at M
    replace M := M.front 7 rfl
    simp only [zE, zF] at M
    go_meet
    exact ⟨pa, pb2, pc, pd, pe, ts, ks, fs, tn, st, B0, B1, B2, e0, e1, e2, _, _, _, _, ⟨rfl, rfl, rfl⟩, ⟨by omega, by omega, by omega⟩, hc, M.take 8⟩
 case rest =>
  clear M hc hpo
  obtain ⟨a, b, c, dd, ee, ts, ks, fs, tn, st, B0, B1, B2, e0, e1, e2, n0, n1, n2, cs, hn, hn2, hc, M⟩ := hcut
  obtain ⟨hn3, hn4, hn5⟩ := hn
  obtain ⟨hn6, hn7, hn8⟩ := hn2
  replace hn3 := hide hn3
  replace hn4 := hide hn4
  replace hn5 := hide hn5
  rename World => W11
  obtain ⟨tQ, Ac, Ad, Ae, Aa, Ab⟩ := M.q5 5 rfl
  obtain ⟨tY, Af, Aj, Ai, Ah, Ag⟩ := M.q5 6 rfl
  obtain ⟨tP, Am, Al, Ao, An, Ak⟩ := M.q5 7 rfl
  go_wp2_with fail
  clear tQ Ac Ad Ae Aa Ab tY Af Aj Ai Ah Ag tP Am Al Ao An Ak
  refine wp_region_T (S := (fun w' => w'.cell? ⟨pb, 0, none⟩ = some (.int .i64 a) ∧ w'.cell? ⟨pb, 1, none⟩ = some (.int .i64 b) ∧ w'.cell? ⟨pb, 2, none⟩ = some (.int .i64 c) ∧ w'.cell? ⟨pb, 3, none⟩ = some (.int .i64 dd) ∧ w'.cell? ⟨pb, 4, none⟩ = some (.int .i64 ee) ∧ w'.cell? ⟨yb, 0, none⟩ = some (.slice B0 n0 e0) ∧ w'.cell? ⟨yb, 1, none⟩ = some (.slice B1 n1 e1) ∧ w'.cell? ⟨yb, 2, none⟩ = some (.slice B2 n2 e2) ∧ w'.cell? ⟨yb, 3, none⟩ = some (.int .i64 tn) ∧ w'.cell? ⟨yb, 4, none⟩ = some (.bool st))) (ks := [3]) (by kernel_rfl) ⟨M.cell 7 0 rfl, M.cell 7 1 rfl, M.cell 7 2 rfl, M.cell 7 3 rfl, M.cell 7 4 rfl, M.cell 6 0 rfl, M.cell 6 1 rfl, M.cell 6 2 rfl, M.cell 6 3 rfl, M.cell 6 4 rfl⟩ (fun hHeld => ?_)
  replace M := M.drew
  generalize W11.drew = W12 at M hHeld ⊢
  refine tkLa 0 _ rfl hHeld ?_
  try simp only [Act.put, zI, zZ, zS]
  refine tkLa 1 _ rfl hHeld ?_
  try simp only [Act.put, zI, zZ, zS]
  obtain ⟨tQ, Ac, Ay, Ad, Av, Ae, At, Aa, Au, Ab, As⟩ := M.f5 5 rfl
  refine wpAnyT_callL (i := 2) rfl (by kernel_rfl) (fun K hK => ?_)
  go_simp
  clear tQ Ac Ay Ad Av Ae At Aa Au Ab As
  replace M := M.gset5 5 rfl (.int .i64 a) (.int .i64 b) (.int .i64 c) (.int .i64 dd) (.int .i64 ee)
  obtain ⟨W13, eW, M⟩ := M
  rw [eW]
  clear eW
  simp only [zZ, zS] at M
  clear hHeld
  refine hK.out _ _ ?_ (fun hHeld => ?_)
  ·exact M.c10 7 6 rfl rfl
  clear hK K
  try simp only [Act.put, zI, zZ, zS]
  obtain ⟨tR, Bm, Bo, Bh, Br, Bc, Bs, Az, Bq, Ba, Bp⟩ := M.f5 4 rfl
  refine wpAnyT_oneL (i := 3) rfl (by kernel_rfl) (by kernel_rfl) (fun K hK => ?_)
  go_simp
  refine hK.out _ _ ?_
  clear hK K
  try simp only [Act.put, zI, zZ, zS]
  clear tR Bm Bo Bh Br Bc Bs Az Bq Ba Bp
  replace M := M.gset5 4 rfl (.slice B0 n0 e0) (.slice B1 n1 e1) (.slice B2 n2 e2) (.int .i64 tn) (.bool st)
  obtain ⟨W14, eW, M⟩ := M
  rw [eW]
  clear eW
  simp only [zZ, zS] at M
  refine wpAnyT_done (by kernel_rfl) ?_ _
  go_wp2_with fail
  obtain ⟨tR, Bm, Bh, Bc, Az, Ba⟩ := M.q5 4 rfl
  obtain ⟨tQ, Ac, Ad, Ae, Aa, Ab⟩ := M.q5 5 rfl
  replace M := M.sub ((List.Sublist.slnil) |>.cons _ |>.cons _ |>.cons _ |>.cons _ |>.cons_cons _ |>.cons_cons _ |>.cons_cons _ |>.cons_cons _)
  exact bodyPost_ret (v := .tuple #[.agg #[.int .i64 a, .int .i64 b, .int .i64 c, .int .i64 dd, .int .i64 ee], .agg #[.slice B0 n0 e0, .slice B1 n1 e1, .slice B2 n2 e2, .int .i64 tn, .bool st]]) (by simp [results, Tryz.results140, go_sem, Ac, Ad, Ae, Aa, Ab, Bm, Bh, Bc, Az, Ba]) rfl ⟨a, b, c, dd, ee, ts, ks, fs, tn, st, B0, B1, B2, e0, e1, e2, n0, n1, n2, _, rfl, hn3.out, hn4.out, hn5.out, hn6, hn7, hn8, hc, M⟩
end Go.Proofs.YtfkdfkoigojciaaGreatDoor
