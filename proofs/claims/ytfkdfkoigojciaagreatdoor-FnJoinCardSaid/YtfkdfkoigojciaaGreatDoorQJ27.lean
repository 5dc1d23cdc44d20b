/- The model's StoppedBy: it is stopped. Lists no longer than a million. -/
import Derived.Test.YtfkdfkoigojciaaGreatDoorQJ13
import Derived.Test.YtfkdfkoigojciaaGreatDoorQJ10
import Derived.Deep.RegionHeld3
import Derived.Deep.RegionLaw
import Derived.BigRegion

namespace Go.Proofs.YtfkdfkoigojciaaGreatDoor
open Go.RowKit
set_option linter.unusedVariables false
def openN (ts : List T7) : Nat := (ts.filter fun t => openB t.s).length
theorem openN_le (ts : List T7) : openN ts ≤ ts.length := List.length_filter_le _ _
theorem openN_take (ts : List T7) (k : Nat) (x : T7) (h : ts[k]? = some x) : openN (ts.take (k + 1)) = openN (ts.take k) + (if openB x.s then 1 else 0) := by
 have hk : k < ts.length := by
  rcases Nat.lt_or_ge k ts.length with h1 | h1
  ·exact h1
  ·rw [List.getElem?_eq_none h1] at h; cases h
 rw [List.getElem?_eq_getElem hk] at h
 injection h with h
 subst h
 rw [openN, List.take_succ_eq_append_getElem hk, List.filter_append, List.length_append]
 by_cases ho : openB ts[k].s = true <;> simp [openN, ho]
set_option maxRecDepth 100000 in
set_option maxHeartbeats 4000000 in
theorem stopped_main (a b c d e : Int) (ts : List T7) (ks : List Int) (fs : List F2) (A0 A1 A2 : Option Addr) (c0 c1 c2 : Nat) (tn : Int) (wk : Int) (w : World) (ht : ts.length ≤ 1048576) (hk : ks.length ≤ 1048576) (hf : fs.length ≤ 1048576) (h : InPool w ts ks fs A0 A1 A2) (hm : mayB a b c d e ts ks fs tn wk = true) :
 Calls Tryz.prog 163 #[.agg #[.int .i64 a, .int .i64 b, .int .i64 c, .int .i64 d, .int .i64 e], .agg #[.slice A0 ts.length c0, .slice A1 ks.length c1, .slice A2 fs.length c2, .int .i64 tn, .bool false], .int .i64 wk] w (GaveS [] w (⟨ts, ks, fs, tn, true, 1, (openN ts : Nat)⟩)) := by
 have H := hide h
 clear h
 have HY := hide (⟨hm, trivial⟩ : _ ∧ True)
 clear hm
 go_enter Tryz.func163, Tryz.ntmps163
 go_wp2_with fail
 generalize hW : (((w.alloc _).alloc _).alloc _).alloc _ = W1
 have M := Sep.e4 hW
 clear hW
 obtain ⟨tX, Ah, Af, Ai, Ac, Ab⟩ := M.q5 2 rfl
 obtain ⟨tP, Ae, Aj, Ag, Aa, Ad⟩ := M.q5 3 rfl
 go_call (l6May_v a b c d e ts ks fs A0 A1 A2 c0 c1 c2 tn false wk true HY.out.1 _ ht hk hf (H.out.below M.below)) as r W2 ⟨rfl, g1⟩
 clear tX Ah Af Ai Ac Ab tP Ae Aj Ag Aa Ad
 replace M := M.call g1
 clear g1
 obtain ⟨tX, Ah, Af, Ai, Ac, Ab⟩ := M.q5 2 rfl
 obtain ⟨tP, Ae, Aj, Ag, Aa, Ad⟩ := M.q5 3 rfl
 go_wp2_with fail
 go_call (l3Copy_s ts ks fs A0 A1 A2 c0 c1 c2 tn false _ ht hk hf (H.out.below M.below)) as r W3 ⟨C0, C1, C2, e0, e1, e2, rfl, g1⟩
 clear tX Ah Af Ai Ac Ab tP Ae Aj Ag Aa Ad
 replace M := Sep.new M g1
 simp only [List.cons_append, List.nil_append] at M
 clear g1
 obtain ⟨tX, Ah, Af, Ai, Ac, Ab⟩ := M.q5 5 rfl
 obtain ⟨tP, Ae, Aj, Ag, Aa, Ad⟩ := M.q5 6 rfl
 go_wp2_with fail
 clear tX Ah Af Ai Ac Ab tP Ae Aj Ag Aa Ad
 replace M : Sep [] w (W3.alloc (.cells #[.slice C0 ts.length e0, .slice C1 ks.length e1, .slice C2 fs.length e2, .int .i64 tn, .bool true] 35)) [.blk (W3.heap.size) 35 #[.slice C0 ts.length e0, .slice C1 ks.length e1, .slice C2 fs.length e2, .int .i64 tn, .bool true], rT ts.length C0 e0 ts, rK ks.length C1 e1 ks, rF fs.length C2 e2 fs, .blk (w.heap.size + 3) 38 #[.int .i64 0, .int .i64 0], .blk (w.heap.size + 2) 35 #[.slice none 0 0, .slice none 0 0, .slice none 0 0, .int .i64 0, .bool false], .blk (w.heap.size + 1) 35 #[.slice A0 ts.length c0, .slice A1 ks.length c1, .slice A2 fs.length c2, .int .i64 tn, .bool false], .blk (w.heap.size) 28 #[.int .i64 a, .int .i64 b, .int .i64 c, .int .i64 d, .int .i64 e]] := M.alloc 35 #[.slice C0 ts.length e0, .slice C1 ks.length e1, .slice C2 fs.length e2, .int .i64 tn, .bool true] _ rfl
 generalize W3.alloc (.cells #[.slice C0 ts.length e0, .slice C1 ks.length e1, .slice C2 fs.length e2, .int .i64 tn, .bool true] 35) = W4 at M ⊢
 replace M : Sep [] w W4 [rT ts.length C0 e0 ts, rK ks.length C1 e1 ks, rF fs.length C2 e2 fs, .blk (W3.heap.size) 35 #[.slice C0 ts.length e0, .slice C1 ks.length e1, .slice C2 fs.length e2, .int .i64 tn, .bool true], .blk (w.heap.size + 3) 38 #[.int .i64 0, .int .i64 0], .blk (w.heap.size + 2) 35 #[.slice none 0 0, .slice none 0 0, .slice none 0 0, .int .i64 0, .bool false], .blk (w.heap.size + 1) 35 #[.slice A0 ts.length c0, .slice A1 ks.length c1, .slice A2 fs.length c2, .int .i64 tn, .bool false], .blk (w.heap.size) 28 #[.int .i64 a, .int .i64 b, .int .i64 c, .int .i64 d, .int .i64 e]] := Sep.back (l1 := [rT ts.length C0 e0 ts, rK ks.length C1 e1 ks, rF fs.length C2 e2 fs]) M
 have hy0 : W4.heap.size = W4.heap.size := rfl
 clear hy0
 go_loopw [9, 10] (fun n i wr => ∃ (k : Nat), k ≤ ts.length ∧ i = .int .i64 k ∧ n = .int .i64 (openN (ts.take k) : Nat) ∧ Sep [] w wr [rT ts.length C0 e0 ts, rK ks.length C1 e1 ks, rF fs.length C2 e2 fs, .blk (W3.heap.size) 35 #[.slice C0 ts.length e0, .slice C1 ks.length e1, .slice C2 fs.length e2, .int .i64 tn, .bool true], .blk (w.heap.size + 3) 38 #[.int .i64 0, .int .i64 0], .blk (w.heap.size + 2) 35 #[.slice none 0 0, .slice none 0 0, .slice none 0 0, .int .i64 0, .bool false], .blk (w.heap.size + 1) 35 #[.slice A0 ts.length c0, .slice A1 ks.length c1, .slice A2 fs.length c2, .int .i64 tn, .bool false], .blk (w.heap.size) 28 #[.int .i64 a, .int .i64 b, .int .i64 c, .int .i64 d, .int .i64 e]]) (fun _ i _ => ts.length - (intOf i).toNat)
 case atStart => exact ⟨0, Nat.zero_le _, rfl, by simp [openN], M⟩
 case round =>
  clear M
  obtain ⟨k, hk', rfl, rfl, M⟩ := hrel
  have hol := openN_le (ts.take k)
  rw [List.length_take] at hol
  obtain ⟨tY, Al, Ax, Ay, Aq, Ap, At, Ba, Au, Av, Ak⟩ := M.f5 3 rfl
  obtain ⟨tS, Ar, Bp, Az, Bb⟩ := M.f2 4 rfl
  obtain ⟨tR, Ao, Bo, Aw, Bc, An, Bf, Am, Bj, As, Bm⟩ := M.f5 5 rfl
  obtain ⟨tX, Ah, Bd, Af, Bh, Ai, Bq, Ac, Be, Ab, Bl⟩ := M.f5 6 rfl
  obtain ⟨tP, Ae, Bn, Aj, Bg, Ag, Bi, Aa, Bk, Ad, Br⟩ := M.f5 7 rfl
  by_cases hlt : k < ts.length
  ·obtain ⟨b', off, s, l, o1, wt, on, v, t, rfl, _, hts, hb', z0, z1, z2, z3, z4, z5, z6⟩ := H.out.1.ts_at hlt
   have hot := openN_take ts k _ hts
   simp only at hot
   clear hts
   have ye0 : wr.cell? ⟨b', off + k * 7, none⟩ = some (.int .i64 s) := (M.below.cell (p := ⟨b', off + k * 7, none⟩) hb').trans z0
   have ye1 : wr.cell? ⟨b', off + k * 7 + 1, none⟩ = some (.int .i64 l) := (M.below.cell (p := ⟨b', off + k * 7 + 1, none⟩) hb').trans z1
   have ye2 : wr.cell? ⟨b', off + k * 7 + 2, none⟩ = some (.int .i64 o1) := (M.below.cell (p := ⟨b', off + k * 7 + 2, none⟩) hb').trans z2
   have ye3 : wr.cell? ⟨b', off + k * 7 + 3, none⟩ = some (.int .i64 wt) := (M.below.cell (p := ⟨b', off + k * 7 + 3, none⟩) hb').trans z3
   have ye4 : wr.cell? ⟨b', off + k * 7 + 4, none⟩ = some (.int .i64 on) := (M.below.cell (p := ⟨b', off + k * 7 + 4, none⟩) hb').trans z4
   have ye5 : wr.cell? ⟨b', off + k * 7 + 5, none⟩ = some (.int .i64 v) := (M.below.cell (p := ⟨b', off + k * 7 + 5, none⟩) hb').trans z5
   have ye6 : wr.cell? ⟨b', off + k * 7 + 6, none⟩ = some (.int .i64 t) := (M.below.cell (p := ⟨b', off + k * 7 + 6, none⟩) hb').trans z6
   clear z0 z1 z2 z3 z4 z5 z6
   rcases Bool.eq_false_or_eq_true (openB s) with ho | ho
   ·have hct : openN (ts.take (k + 1)) = openN (ts.take k) + 1 := by rw [hot, ho]; rfl
    have Hc := hide hct
    have HO := hide ho
    clear hct ho hot
    generalize openN (ts.take k) = m at *
    go_wp2_with fail
    go_call (sIsOpen_any s l o1 wt on v t _) as r W5 ⟨rfl, g1⟩
    clear tY Al Ax Ay Aq Ap At Ba Au Av Ak tS Ar Bp Az Bb tR Ao Bo Aw Bc An Bf Am Bj As Bm tX Ah Bd Af Bh Ai Bq Ac Be Ab Bl tP Ae Bn Aj Bg Ag Bi Aa Bk Ad Br
    replace M := M.call g1
    clear g1
    clear ye0 ye1 ye2 ye3 ye4 ye5 ye6
    rw [HO.out]
    obtain ⟨tY, Al, Ax, Ay, Aq, Ap, At, Ba, Au, Av, Ak⟩ := M.f5 3 rfl
    obtain ⟨tX, Ah, Af, Ai, Ac, Ab⟩ := M.q5 6 rfl
    obtain ⟨tP, Ae, Aj, Ag, Aa, Ad⟩ := M.q5 7 rfl
    go_wp2_with fail
    go_roundw
    case rel => exact ⟨k + 1, by omega, by go_num, by rw [Hc.out]; go_num, M⟩
    case measure => simp [intOf]; omega
   ·have hct : openN (ts.take (k + 1)) = openN (ts.take k) := by rw [hot, ho]; rfl
    have Hc := hide hct
    have HO := hide ho
    clear hct ho hot
    generalize openN (ts.take k) = m at *
    go_wp2_with fail
    go_call (sIsOpen_any s l o1 wt on v t _) as r W5 ⟨rfl, g1⟩
    clear tY Al Ax Ay Aq Ap At Ba Au Av Ak tS Ar Bp Az Bb tR Ao Bo Aw Bc An Bf Am Bj As Bm tX Ah Bd Af Bh Ai Bq Ac Be Ab Bl tP Ae Bn Aj Bg Ag Bi Aa Bk Ad Br
    replace M := M.call g1
    clear g1
    clear ye0 ye1 ye2 ye3 ye4 ye5 ye6
    rw [HO.out]
    obtain ⟨tY, Al, Ax, Ay, Aq, Ap, At, Ba, Au, Av, Ak⟩ := M.f5 3 rfl
    obtain ⟨tX, Ah, Af, Ai, Ac, Ab⟩ := M.q5 6 rfl
    obtain ⟨tP, Ae, Aj, Ag, Aa, Ad⟩ := M.q5 7 rfl
    go_wp2_with fail
    go_roundw
    case rel => exact ⟨k + 1, by omega, by go_num, by rw [Hc.out], M⟩
    case measure => simp [intOf]; omega
  ·obtain rfl : k = ts.length := by omega
   clear hol
   rw [List.take_length]
   go_wp2_with fail
   clear tY Al Ax Ay Aq Ap At Ba Au Av Ak tS Ar Bp Az Bb tR Ao Bo Aw Bc An Bf Am Bj As Bm tX Ah Bd Af Bh Ai Bq Ac Be Ab Bl tP Ae Bn Aj Bg Ag Bi Aa Bk Ad Br
   have N := M.gset5 5 rfl (.slice C0 ts.length e0) (.slice C1 ks.length e1) (.slice C2 fs.length e2) (.int .i64 tn) (.bool true)
   clear M
   obtain ⟨W5, eW, M⟩ := N
   rw [eW]
   clear eW
   simp only [List.set_cons_zero, List.set_cons_succ] at M
   have N := M.gset2 4 rfl (.int .i64 1) (.int .i64 (openN ts : Nat))
   clear M
   obtain ⟨W6, eW, M⟩ := N
   rw [eW]
   clear eW
   simp only [List.set_cons_zero, List.set_cons_succ] at M
   obtain ⟨tS, Ar, Az⟩ := M.q2 4 rfl
   obtain ⟨tR, Ao, Aw, An, Am, As⟩ := M.q5 5 rfl
   exact bodyPost_ret (by simp [results, Tryz.results163, go_sem, Ao, Aw, An, Am, As, Ar, Az]) rfl ⟨C0, C1, C2, e0, e1, e2, rfl, M.take 3⟩
end Go.Proofs.YtfkdfkoigojciaaGreatDoor
