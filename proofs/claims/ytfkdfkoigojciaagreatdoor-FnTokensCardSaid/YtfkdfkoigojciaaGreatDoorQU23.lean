import Derived.Shelf.Abstract
import Derived.Test.YtfkdfkoigojciaaGreatDoorQU18
import Derived.Test.YtfkdfkoigojciaaGreatDoorQU16
import Derived.Test.YtfkdfkoigojciaaGreatDoorQU20
import Derived.Test.YtfkdfkoigojciaaGreatDoorQU21
import Derived.Test.YtfkdfkoigojciaaGreatDoorQU22

namespace Go.Proofs.YtfkdfkoigojciaaGreatDoor
open Go.RowKit
set_option linter.unusedVariables false
set_option maxHeartbeats 800000
set_option maxRecDepth 100000
theorem spawnedC_no (ts : List T7) (ks : List Int) (fs : List F2) (C0 C1 C2 : Option Addr) (e0 e1 e2 : Nat) (tn : Int) (st : Bool) (g : Nat) (a b c d e : Int) (lv : Int) (bP : Nat) (blv : Nat) (rp : Int) (V : World) (h : Sep (fps [.blk g 35 #[.slice C0 ts.length e0, .slice C1 ks.length e1, .slice C2 fs.length e2, .int .i64 tn, .bool st], rT ts.length C0 e0 ts, rK ks.length C1 e1 ks, rF fs.length C2 e2 fs]) V V [.blk g 35 #[.slice C0 ts.length e0, .slice C1 ks.length e1, .slice C2 fs.length e2, .int .i64 tn, .bool st], rT ts.length C0 e0 ts, rK ks.length C1 e1 ks, rF fs.length C2 e2 fs]) (hP : ∀ j, V.cell? ⟨bP, j, none⟩ = (#[.int .i64 a, .int .i64 b, .int .i64 c, .int .i64 d, .int .i64 e] : Array Value)[j]?) (lP : bP < V.heap.size) (hlv : V.cell? ⟨blv, 0, none⟩ = some (.int .i64 lv)) (llv : blv < V.heap.size)
 (hb : ∀ V', Sep (fps [.blk g 35 #[.slice C0 ts.length e0, .slice C1 ks.length e1, .slice C2 fs.length e2, .int .i64 tn, .bool st], rT ts.length C0 e0 ts, rK ks.length C1 e1 ks, rF fs.length C2 e2 fs]) V' V' [.blk g 35 #[.slice C0 ts.length e0, .slice C1 ks.length e1, .slice C2 fs.length e2, .int .i64 tn, .bool st], rT ts.length C0 e0 ts, rK ks.length C1 e1 ks, rF fs.length C2 e2 fs] → Calls Tryz.prog 87 #[.pointer (some ⟨g, 0, none⟩), .agg #[.int .i64 a, .int .i64 b, .int .i64 c, .int .i64 d, .int .i64 e], .int .i64 lv] V' (fun r w' => r = .panicked [{ v := .iface 137 (.int .i64 rp), recovered := false }] ∧ Sep (fps [.blk g 35 #[.slice C0 ts.length e0, .slice C1 ks.length e1, .slice C2 fs.length e2, .int .i64 tn, .bool st], rT ts.length C0 e0 ts, rK ks.length C1 e1 ks, rF fs.length C2 e2 fs]) V' w' [])) :
 Calls Tryz.prog 86 (#[.pointer (some ⟨g, 0, none⟩)] ++ #[.pointer (some ⟨bP, 0, none⟩), .pointer (some ⟨blv, 0, none⟩)]) V (fun r w' => r = .panicked [{ v := .iface 137 (.int .i64 rp), recovered := false }] ∧ Sep (fps [.blk g 35 #[.slice C0 ts.length e0, .slice C1 ks.length e1, .slice C2 fs.length e2, .int .i64 tn, .bool st], rT ts.length C0 e0 ts, rK ks.length C1 e1 ks, rF fs.length C2 e2 fs]) V w' []) := by
 have H := hide h
 clear h
 have An : V.cell? ⟨bP, 0, none⟩ = some (.int .i64 a) := hP 0
 have Al : V.cell? ⟨bP, 1, none⟩ = some (.int .i64 b) := hP 1
 have Ar : V.cell? ⟨bP, 2, none⟩ = some (.int .i64 c) := hP 2
 have Ao : V.cell? ⟨bP, 3, none⟩ = some (.int .i64 d) := hP 3
 have Ak : V.cell? ⟨bP, 4, none⟩ = some (.int .i64 e) := hP 4
 clear hP
 show Calls Tryz.prog 86 #[.pointer (some ⟨g, 0, none⟩), .pointer (some ⟨bP, 0, none⟩), .pointer (some ⟨blv, 0, none⟩)] V _
 go_enter Tryz.func86, Tryz.ntmps86
 go_wp2_with fail
 have M := (H.out.allocN 38 #[.int .i64 0, .int .i64 0]).rot
 generalize V.alloc (.cells #[.int .i64 0, .int .i64 0] 38) = W1 at M ⊢
 refine Calls.mono (by with_reducible exact (hb W1 (Sep.same M (Below.refl _ _)))) ?_
 rintro r W2 ⟨rfl, g1⟩
 have M2 := Sep.comp M g1
 clear M g1
 go_wp2_with fail
 exact ⟨rfl, rfl, M2.drop 1⟩
theorem spawnedC_yes (ts : List T7) (ks : List Int) (fs : List F2) (C0 C1 C2 : Option Addr) (e0 e1 e2 : Nat) (tn : Int) (st : Bool) (g : Nat) (a b c d e : Int) (lv : Int) (bP : Nat) (blv : Nat) (o : OutP) (V : World) (h : Sep (fps [.blk g 35 #[.slice C0 ts.length e0, .slice C1 ks.length e1, .slice C2 fs.length e2, .int .i64 tn, .bool st], rT ts.length C0 e0 ts, rK ks.length C1 e1 ks, rF fs.length C2 e2 fs]) V V [.blk g 35 #[.slice C0 ts.length e0, .slice C1 ks.length e1, .slice C2 fs.length e2, .int .i64 tn, .bool st], rT ts.length C0 e0 ts, rK ks.length C1 e1 ks, rF fs.length C2 e2 fs]) (hP : ∀ j, V.cell? ⟨bP, j, none⟩ = (#[.int .i64 a, .int .i64 b, .int .i64 c, .int .i64 d, .int .i64 e] : Array Value)[j]?) (lP : bP < V.heap.size) (hlv : V.cell? ⟨blv, 0, none⟩ = some (.int .i64 lv)) (llv : blv < V.heap.size)
 (hb : ∀ V', Sep (fps [.blk g 35 #[.slice C0 ts.length e0, .slice C1 ks.length e1, .slice C2 fs.length e2, .int .i64 tn, .bool st], rT ts.length C0 e0 ts, rK ks.length C1 e1 ks, rF fs.length C2 e2 fs]) V' V' [.blk g 35 #[.slice C0 ts.length e0, .slice C1 ks.length e1, .slice C2 fs.length e2, .int .i64 tn, .bool st], rT ts.length C0 e0 ts, rK ks.length C1 e1 ks, rF fs.length C2 e2 fs] → Calls Tryz.prog 87 #[.pointer (some ⟨g, 0, none⟩), .agg #[.int .i64 a, .int .i64 b, .int .i64 c, .int .i64 d, .int .i64 e], .int .i64 lv] V' (fun r w' => ∃ (D0 D1 D2 : Option Addr) (f0 f1 f2 : Nat), r = .returned (.agg #[.int .i64 o.rp, .int .i64 o.ou]) ∧ Sep (fps [.blk g 35 #[.slice C0 ts.length e0, .slice C1 ks.length e1, .slice C2 fs.length e2, .int .i64 tn, .bool st], rT ts.length C0 e0 ts, rK ks.length C1 e1 ks, rF fs.length C2 e2 fs]) V' w' [.blk g 35 #[.slice D0 o.ts.length f0, .slice D1 o.ks.length f1, .slice D2 o.fs.length f2, .int .i64 o.tn, .bool o.st], rT o.ts.length D0 f0 o.ts, rK o.ks.length D1 f1 o.ks, rF o.fs.length D2 f2 o.fs])) :
 Calls Tryz.prog 86 (#[.pointer (some ⟨g, 0, none⟩)] ++ #[.pointer (some ⟨bP, 0, none⟩), .pointer (some ⟨blv, 0, none⟩)]) V (fun r w' => ∃ (D0 D1 D2 : Option Addr) (f0 f1 f2 : Nat), r = .returned (.agg #[.int .i64 o.rp, .int .i64 o.ou]) ∧ Sep (fps [.blk g 35 #[.slice C0 ts.length e0, .slice C1 ks.length e1, .slice C2 fs.length e2, .int .i64 tn, .bool st], rT ts.length C0 e0 ts, rK ks.length C1 e1 ks, rF fs.length C2 e2 fs]) V w' [.blk g 35 #[.slice D0 o.ts.length f0, .slice D1 o.ks.length f1, .slice D2 o.fs.length f2, .int .i64 o.tn, .bool o.st], rT o.ts.length D0 f0 o.ts, rK o.ks.length D1 f1 o.ks, rF o.fs.length D2 f2 o.fs]) := by
 have H := hide h
 clear h
 have An : V.cell? ⟨bP, 0, none⟩ = some (.int .i64 a) := hP 0
 have Al : V.cell? ⟨bP, 1, none⟩ = some (.int .i64 b) := hP 1
 have Ar : V.cell? ⟨bP, 2, none⟩ = some (.int .i64 c) := hP 2
 have Ao : V.cell? ⟨bP, 3, none⟩ = some (.int .i64 d) := hP 3
 have Ak : V.cell? ⟨bP, 4, none⟩ = some (.int .i64 e) := hP 4
 clear hP
 show Calls Tryz.prog 86 #[.pointer (some ⟨g, 0, none⟩), .pointer (some ⟨bP, 0, none⟩), .pointer (some ⟨blv, 0, none⟩)] V _
 go_enter Tryz.func86, Tryz.ntmps86
 go_wp2_with fail
 have M := (H.out.allocN 38 #[.int .i64 0, .int .i64 0]).rot
 generalize V.alloc (.cells #[.int .i64 0, .int .i64 0] 38) = W1 at M ⊢
 refine Calls.mono (by with_reducible exact (hb W1 (Sep.same M (Below.refl _ _)))) ?_
 rintro r W2 ⟨D0, D1, D2, f0, f1, f2, rfl, g1⟩
 have M2 := Sep.comp M g1
 clear M g1
 simp only [zC, zN] at M2
 obtain ⟨tR, Ab, Ae, Aa, Ai⟩ := M2.f2 4 rfl
 go_wp2_with fail
 have N := M2.gset2 4 rfl (.int .i64 o.rp) (.int .i64 o.ou)
 clear M2 Ab Aa Ae Ai tR
 obtain ⟨W3, eW, M⟩ := N
 rw [eW]
 clear eW
 simp only [zZ, zS] at M
 obtain ⟨tR, Ab, Aa⟩ := M.q2 4 rfl
 exact bodyPost_ret (by simp [results, Tryz.results86, go_sem, Ab, Aa]) rfl ⟨D0, D1, D2, f0, f1, f2, rfl, M.take 4⟩
theorem gSpawned_face (a b c d e : Int) (ts : List T7) (ks : List Int) (fs : List F2) (A0 A1 A2 : Option Addr) (c0 c1 c2 : Nat) (tn : Int) (st : Bool) (wk : Int) (lv : Int) (w : World) (ht : ts.length ≤ 1048576) (hk : ks.length ≤ 1048576) (hf : fs.length ≤ 1048576) (h : InPool w ts ks fs A0 A1 A2) (o : OutP)
 (hL : ∀ (V : World) (bP blv : Nat), Below w.heap.size w V → (∀ j, V.cell? ⟨bP, j, none⟩ = (#[.int .i64 a, .int .i64 b, .int .i64 c, .int .i64 d, .int .i64 e] : Array Value)[j]?) → bP < V.heap.size → V.cell? ⟨blv, 0, none⟩ = some (.int .i64 lv) → blv < V.heap.size → Calls Tryz.prog 62 #[.agg #[.int .i64 a, .int .i64 b, .int .i64 c, .int .i64 d, .int .i64 e], .agg #[.slice A0 ts.length c0, .slice A1 ks.length c1, .slice A2 fs.length c2, .int .i64 tn, .bool st], .int .i64 wk, .func (.func 86) #[] #[.pointer (some ⟨bP, 0, none⟩), .pointer (some ⟨blv, 0, none⟩)]] V (GaveS [] V o)) :
 Calls Tryz.prog 33 #[qF a b c d e, qP ts ks fs A0 A1 A2 c0 c1 c2 tn st, .int .i64 wk, .int .i64 lv] w (GaveS [] w o) := by
 unfold qF qP
 have hmf : ∀ (fn : Fn) (first cap : Array Value) (w : World), (Instr.makeFunc fn first cap).run Tryz.prog w = .ok (.func fn first cap) w := fun _ _ _ _ => rfl
 have HL := hide hL
 have H := hide h
 clear h hL
 go_enter Tryz.func33, Tryz.ntmps33
 go_wp2_with fail
 generalize hW : ((((w.alloc _).alloc _).alloc _).alloc _).alloc _ = W1
 have M := Sep.e5 hW
 clear hW
 obtain ⟨tS, Af, Am, Ah, Aj⟩ := M.f2 0 rfl
 obtain ⟨tR, Ab, Ae, Aa, Ai, Ag, As, Ac, Aq, Ad, Ap⟩ := M.f5 1 rfl
 obtain ⟨tVlv, qVlv0, fVlv0⟩ := M.f1 2 rfl
 obtain ⟨tX, Bf, Aw, Az, Ax, Bg, Au, Av, Bh, Bb, At⟩ := M.f5 3 rfl
 obtain ⟨tP, An, Ay, Al, Be, Ar, Ba, Ao, Bc, Ak, Bd⟩ := M.f5 4 rfl
 go_wp2_with fail
 have hC := HL.out _ (w.heap.size) (w.heap.size + 2) M.below (fun j => M.cell 4 j rfl) (M.lt 4 rfl) (M.cell 2 0 rfl) (M.lt 2 rfl)
 refine Calls.mono (by with_reducible exact hC) ?_
 clear hC
 rintro r W2 ⟨B0, B1, B2, d0, d1, d2, rfl, g1⟩
 clear tS Af Am Ah Aj tR Ab Ae Aa Ai Ag As Ac Aq Ad Ap tVlv qVlv0 fVlv0 tX Bf Aw Az Ax Bg Au Av Bh Bb At tP An Ay Al Be Ar Ba Ao Bc Ak Bd
 replace M := Sep.new M g1
 simp only [zC, zN] at M
 clear g1
 obtain ⟨tS, Af, Am, Ah, Aj⟩ := M.f2 3 rfl
 obtain ⟨tR, Ab, Ae, Aa, Ai, Ag, As, Ac, Aq, Ad, Ap⟩ := M.f5 4 rfl
 go_wp2_with fail
 clear tS Af Am Ah Aj tR Ab Ae Aa Ai Ag As Ac Aq Ad Ap
 replace M := M.gset5 4 rfl (.slice B0 o.ts.length d0) (.slice B1 o.ks.length d1) (.slice B2 o.fs.length d2) (.int .i64 o.tn) (.bool o.st)
 obtain ⟨W3, eW, M⟩ := M
 rw [eW]
 clear eW
 simp only [zZ, zS] at M
 replace M := M.gset2 3 rfl (.int .i64 o.rp) (.int .i64 o.ou)
 obtain ⟨W4, eW, M⟩ := M
 rw [eW]
 clear eW
 simp only [zZ, zS] at M
 obtain ⟨tS, Af, Ah⟩ := M.q2 3 rfl
 obtain ⟨tR, Ab, Aa, Ag, Ac, Ad⟩ := M.q5 4 rfl
 exact bodyPost_ret (by simp [results, Tryz.results33, go_sem, Ab, Aa, Ag, Ac, Ad, Af, Ah]) rfl ⟨B0, B1, B2, d0, d1, d2, rfl, M.take 3⟩
set_option maxHeartbeats 800000
set_option maxRecDepth 100000
theorem take_busy (ts : List T7) (ks : List Int) (fs : List F2) (A0 A1 A2 : Option Addr) (c0 c1 c2 : Nat) (tn : Int) (st : Bool) (g : Nat) (wk me : Int) (w : World) (ht : ts.length ≤ 1048576) (hk : ks.length ≤ 1048576) (hf : fs.length ≤ 1048576) (h : Sep (fps [.blk g 35 #[.slice A0 ts.length c0, .slice A1 ks.length c1, .slice A2 fs.length c2, .int .i64 tn, .bool st], rT ts.length A0 c0 ts, rK ks.length A1 c1 ks, rF fs.length A2 c2 fs]) w w [.blk g 35 #[.slice A0 ts.length c0, .slice A1 ks.length c1, .slice A2 fs.length c2, .int .i64 tn, .bool st], rT ts.length A0 c0 ts, rK ks.length A1 c1 ks, rF fs.length A2 c2 fs]) (hr : runM ts wk 0 = me) (hm : 0 ≤ me) :
 Calls Tryz.prog 89 #[.pointer (some ⟨g, 0, none⟩), .int .i64 wk] w (fun r w' => r = .panicked [{ v := .iface 137 (.int .i64 3), recovered := false }] ∧ Sep (fps [.blk g 35 #[.slice A0 ts.length c0, .slice A1 ks.length c1, .slice A2 fs.length c2, .int .i64 tn, .bool st], rT ts.length A0 c0 ts, rK ks.length A1 c1 ks, rF fs.length A2 c2 fs]) w w' []) := by
 obtain ⟨S, hS⟩ : ∃ S, S = fps [.blk g 35 #[.slice A0 ts.length c0, .slice A1 ks.length c1, .slice A2 fs.length c2, .int .i64 tn, .bool st], rT ts.length A0 c0 ts, rK ks.length A1 c1 ks, rF fs.length A2 c2 fs] := ⟨_, rfl⟩
 rw [← hS] at h ⊢
 clear hS
 have M0 := hide h
 clear h
 have hne : (me != -1) = true := by rw [bne_iff_ne]; omega
 go_enter Tryz.func89, Tryz.ntmps89
 go_wp2_with fail
 have M := M0.out.allocN 38 #[.int .i64 0, .int .i64 0]
 clear M0
 generalize w.alloc (.cells #[.int .i64 0, .int .i64 0] 38) = W1 at M ⊢
 have hR := runBy_any ts A0 A1 A2 c0 ks.length c1 fs.length c2 tn st wk g W1 ht (M.blk 1 rfl) (M.rowS 2 rfl)
 rw [hr] at hR
 refine Calls.mono (by with_reducible exact hR) ?_
 clear hR
 rintro r W2 ⟨rfl, g1⟩
 replace M := M.call g1
 clear g1
 go_wp2_with fail
 go_call (giveUp_yes 3 _) as r W ⟨rfl, rfl⟩
 go_wp2_with fail
 exact ⟨rfl, rfl, M.drop 5⟩
theorem take_stop (ts : List T7) (ks : List Int) (fs : List F2) (A0 A1 A2 : Option Addr) (c0 c1 c2 : Nat) (tn : Int) (g : Nat) (wk : Int) (w : World) (ht : ts.length ≤ 1048576) (hk : ks.length ≤ 1048576) (hf : fs.length ≤ 1048576) (h : Sep (fps [.blk g 35 #[.slice A0 ts.length c0, .slice A1 ks.length c1, .slice A2 fs.length c2, .int .i64 tn, .bool true], rT ts.length A0 c0 ts, rK ks.length A1 c1 ks, rF fs.length A2 c2 fs]) w w [.blk g 35 #[.slice A0 ts.length c0, .slice A1 ks.length c1, .slice A2 fs.length c2, .int .i64 tn, .bool true], rT ts.length A0 c0 ts, rK ks.length A1 c1 ks, rF fs.length A2 c2 fs]) (hr : runM ts wk 0 = -1) (hfr : firstM ts = -1) :
 Calls Tryz.prog 89 #[.pointer (some ⟨g, 0, none⟩), .int .i64 wk] w (fun r w' => r = .panicked [{ v := .iface 137 (.int .i64 6), recovered := false }] ∧ Sep (fps [.blk g 35 #[.slice A0 ts.length c0, .slice A1 ks.length c1, .slice A2 fs.length c2, .int .i64 tn, .bool true], rT ts.length A0 c0 ts, rK ks.length A1 c1 ks, rF fs.length A2 c2 fs]) w w' []) := by
 obtain ⟨S, hS⟩ : ∃ S, S = fps [.blk g 35 #[.slice A0 ts.length c0, .slice A1 ks.length c1, .slice A2 fs.length c2, .int .i64 tn, .bool true], rT ts.length A0 c0 ts, rK ks.length A1 c1 ks, rF fs.length A2 c2 fs] := ⟨_, rfl⟩
 rw [← hS] at h ⊢
 clear hS
 have M0 := hide h
 clear h
 go_enter Tryz.func89, Tryz.ntmps89
 go_wp2_with fail
 have M := M0.out.allocN 38 #[.int .i64 0, .int .i64 0]
 clear M0
 generalize w.alloc (.cells #[.int .i64 0, .int .i64 0] 38) = W1 at M ⊢
 have hR := runBy_any ts A0 A1 A2 c0 ks.length c1 fs.length c2 tn true wk g W1 ht (M.blk 1 rfl) (M.rowS 2 rfl)
 rw [hr] at hR
 refine Calls.mono (by with_reducible exact hR) ?_
 clear hR
 rintro r W2 ⟨rfl, g1⟩
 replace M := M.call g1
 clear g1
 go_wp2_with fail
 go_call (giveUp_no 3 _) as r W ⟨rfl, rfl⟩
 obtain ⟨tY, Ab, Ae, Ad, Ac, Aa⟩ := M.q5 1 rfl
 go_wp2_with fail
 have hL := readyLine_p ts g A0 c0 W2 ht (M.cell 1 0 rfl) (M.rowS 2 rfl)
 refine Calls.mono (by with_reducible exact hL) ?_
 clear hL
 rintro r W3 ⟨lb, LA, lc, ps, rfl, hl, hh, hp, g1⟩
 clear tY Ab Ae Ad Ac Aa
 replace M : Sep S w W3 [.blk (lb) 149 #[.slice LA ps.length lc], rP ps.length LA lc ps, .blk (w.heap.size) 38 #[.int .i64 0, .int .i64 0], .blk (g) 35 #[.slice A0 ts.length c0, .slice A1 ks.length c1, .slice A2 fs.length c2, .int .i64 tn, .bool true], rT ts.length A0 c0 ts, rK ks.length A1 c1 ks, rF fs.length A2 c2 fs] := Sep.new M g1
 clear g1
 have hF := first_any ps LA lc (by omega) W3 (M.rowS 1 rfl)
 rw [ready_line hh hp] at hF
 change Calls _ _ _ _ (fun r w' => r = .returned (.int .i64 (firstM ts)) ∧ w' = W3) at hF
 rw [hfr] at hF
 have HF := hide hF
 clear hF hh hp hl
 obtain ⟨Ag, Af⟩ := M.q1 0 rfl
 obtain ⟨tY, Ab, Ae, Ad, Ac, Aa⟩ := M.q5 3 rfl
 go_wp2_with fail
 refine Calls.mono (by with_reducible exact HF.out) ?_
 clear HF
 rintro r WF ⟨rfl, hWF⟩
 subst hWF
 go_wp2_with fail
 go_call (giveUp_yes 6 _) as r W ⟨rfl, rfl⟩
 clear Ag Af tY Ab Ae Ad Ac Aa
 go_wp2_with fail
 exact ⟨rfl, rfl, M.drop 7⟩
theorem take_none (ts : List T7) (ks : List Int) (fs : List F2) (A0 A1 A2 : Option Addr) (c0 c1 c2 : Nat) (tn : Int) (g : Nat) (wk : Int) (w : World) (ht : ts.length ≤ 1048576) (hk : ks.length ≤ 1048576) (hf : fs.length ≤ 1048576) (h : Sep (fps [.blk g 35 #[.slice A0 ts.length c0, .slice A1 ks.length c1, .slice A2 fs.length c2, .int .i64 tn, .bool false], rT ts.length A0 c0 ts, rK ks.length A1 c1 ks, rF fs.length A2 c2 fs]) w w [.blk g 35 #[.slice A0 ts.length c0, .slice A1 ks.length c1, .slice A2 fs.length c2, .int .i64 tn, .bool false], rT ts.length A0 c0 ts, rK ks.length A1 c1 ks, rF fs.length A2 c2 fs]) (hr : runM ts wk 0 = -1) (hfr : firstM ts = -1) :
 Calls Tryz.prog 89 #[.pointer (some ⟨g, 0, none⟩), .int .i64 wk] w (fun r w' => r = .panicked [{ v := .iface 137 (.int .i64 2), recovered := false }] ∧ Sep (fps [.blk g 35 #[.slice A0 ts.length c0, .slice A1 ks.length c1, .slice A2 fs.length c2, .int .i64 tn, .bool false], rT ts.length A0 c0 ts, rK ks.length A1 c1 ks, rF fs.length A2 c2 fs]) w w' []) := by
 obtain ⟨S, hS⟩ : ∃ S, S = fps [.blk g 35 #[.slice A0 ts.length c0, .slice A1 ks.length c1, .slice A2 fs.length c2, .int .i64 tn, .bool false], rT ts.length A0 c0 ts, rK ks.length A1 c1 ks, rF fs.length A2 c2 fs] := ⟨_, rfl⟩
 rw [← hS] at h ⊢
 clear hS
 have M0 := hide h
 clear h
 go_enter Tryz.func89, Tryz.ntmps89
 go_wp2_with fail
 have M := M0.out.allocN 38 #[.int .i64 0, .int .i64 0]
 clear M0
 generalize w.alloc (.cells #[.int .i64 0, .int .i64 0] 38) = W1 at M ⊢
 have hR := runBy_any ts A0 A1 A2 c0 ks.length c1 fs.length c2 tn false wk g W1 ht (M.blk 1 rfl) (M.rowS 2 rfl)
 rw [hr] at hR
 refine Calls.mono (by with_reducible exact hR) ?_
 clear hR
 rintro r W2 ⟨rfl, g1⟩
 replace M := M.call g1
 clear g1
 go_wp2_with fail
 go_call (giveUp_no 3 _) as r W ⟨rfl, rfl⟩
 obtain ⟨tY, Ab, Ae, Ad, Ac, Aa⟩ := M.q5 1 rfl
 go_wp2_with fail
 have hL := readyLine_p ts g A0 c0 W2 ht (M.cell 1 0 rfl) (M.rowS 2 rfl)
 refine Calls.mono (by with_reducible exact hL) ?_
 clear hL
 rintro r W3 ⟨lb, LA, lc, ps, rfl, hl, hh, hp, g1⟩
 clear tY Ab Ae Ad Ac Aa
 replace M : Sep S w W3 [.blk (lb) 149 #[.slice LA ps.length lc], rP ps.length LA lc ps, .blk (w.heap.size) 38 #[.int .i64 0, .int .i64 0], .blk (g) 35 #[.slice A0 ts.length c0, .slice A1 ks.length c1, .slice A2 fs.length c2, .int .i64 tn, .bool false], rT ts.length A0 c0 ts, rK ks.length A1 c1 ks, rF fs.length A2 c2 fs] := Sep.new M g1
 clear g1
 have hF := first_any ps LA lc (by omega) W3 (M.rowS 1 rfl)
 rw [ready_line hh hp] at hF
 change Calls _ _ _ _ (fun r w' => r = .returned (.int .i64 (firstM ts)) ∧ w' = W3) at hF
 rw [hfr] at hF
 have HF := hide hF
 clear hF hh hp hl
 obtain ⟨Ag, Af⟩ := M.q1 0 rfl
 obtain ⟨tY, Ab, Ae, Ad, Ac, Aa⟩ := M.q5 3 rfl
 go_wp2_with fail
 refine Calls.mono (by with_reducible exact HF.out) ?_
 clear HF
 rintro r WF ⟨rfl, hWF⟩
 subst hWF
 go_wp2_with fail
 go_call (giveUp_no 6 _) as r W ⟨rfl, rfl⟩
 go_wp2_with fail
 go_call (giveUp_yes 2 _) as r W ⟨rfl, rfl⟩
 clear Ag Af tY Ab Ae Ad Ac Aa
 go_wp2_with fail
 exact ⟨rfl, rfl, M.drop 7⟩
theorem take_ok (ts : List T7) (ks : List Int) (fs : List F2) (A0 A1 A2 : Option Addr) (c0 c1 c2 : Nat) (tn : Int) (st : Bool) (g : Nat) (wk : Int) (w : World) (ht : ts.length ≤ 1048576) (hk : ks.length ≤ 1048576) (hf : fs.length ≤ 1048576) (h : Sep (fps [.blk g 35 #[.slice A0 ts.length c0, .slice A1 ks.length c1, .slice A2 fs.length c2, .int .i64 tn, .bool st], rT ts.length A0 c0 ts, rK ks.length A1 c1 ks, rF fs.length A2 c2 fs]) w w [.blk g 35 #[.slice A0 ts.length c0, .slice A1 ks.length c1, .slice A2 fs.length c2, .int .i64 tn, .bool st], rT ts.length A0 c0 ts, rK ks.length A1 c1 ks, rF fs.length A2 c2 fs]) (k : Nat) (s l o1 wt on v t : Int) (hts : ts[k]? = some ⟨s, l, o1, wt, on, v, t⟩) (hr : runM ts wk 0 = -1) (hfr : firstM ts = k) :
 Calls Tryz.prog 89 #[.pointer (some ⟨g, 0, none⟩), .int .i64 wk] w (fun r w' => ∃ (D0 D1 D2 : Option Addr) (f0 f1 f2 : Nat), r = .returned (.agg #[.int .i64 1, .int .i64 k]) ∧ Sep (fps [.blk g 35 #[.slice A0 ts.length c0, .slice A1 ks.length c1, .slice A2 fs.length c2, .int .i64 tn, .bool st], rT ts.length A0 c0 ts, rK ks.length A1 c1 ks, rF fs.length A2 c2 fs]) w w' [.blk g 35 #[.slice D0 ts.length f0, .slice D1 ks.length f1, .slice D2 fs.length f2, .int .i64 tn, .bool st], rT ts.length D0 f0 (ts.set k ⟨2, l, wk, wt, on, v, t⟩), rK ks.length D1 f1 ks, rF fs.length D2 f2 fs]) := by
 have hkl : k < ts.length := by
  rcases Nat.lt_or_ge k ts.length with h1 | h1
  ·exact h1
  ·rw [List.getElem?_eq_none h1] at hts; cases hts
 have hki : (k : Int) < (ts.length : Int) := by omega
 have hk0 : (0 : Int) ≤ (k : Int) := by omega
 have hr9 : (rT ts.length A0 c0 ts).here w := h.rowAt 1 rfl
 obtain ⟨gr, rfl, hgl, hfz9⟩ := rT_form hr9 (show 0 < ts.length by omega)
 clear hr9 hfz9 hgl
 obtain ⟨S, hS⟩ : ∃ S, S = fps [.blk g 35 #[.slice (some ⟨gr, 0, none⟩) ts.length c0, .slice A1 ks.length c1, .slice A2 fs.length c2, .int .i64 tn, .bool st], rT ts.length (some ⟨gr, 0, none⟩) c0 ts, rK ks.length A1 c1 ks, rF fs.length A2 c2 fs] := ⟨_, rfl⟩
 rw [← hS] at h ⊢
 clear hS
 have M0 := hide h
 clear h
 have hne : ((k : Int) == -1) = false := by rw [beq_eq_false_iff_ne]; omega
 have HT := hide hts
 clear hts
 go_enter Tryz.func89, Tryz.ntmps89
 go_wp2_with fail
 have M := M0.out.allocN 38 #[.int .i64 0, .int .i64 0]
 clear M0
 generalize w.alloc (.cells #[.int .i64 0, .int .i64 0] 38) = W1 at M ⊢
 have hR := runBy_any ts (some ⟨gr, 0, none⟩) A1 A2 c0 ks.length c1 fs.length c2 tn st wk g W1 ht (M.blk 1 rfl) (M.rowS 2 rfl)
 rw [hr] at hR
 refine Calls.mono (by with_reducible exact hR) ?_
 clear hR
 rintro r W2 ⟨rfl, g1⟩
 replace M := M.call g1
 clear g1
 go_wp2_with fail
 go_call (giveUp_no 3 _) as r W ⟨rfl, rfl⟩
 obtain ⟨tY, Ab, Ae, Ad, Ac, Aa⟩ := M.q5 1 rfl
 go_wp2_with fail
 have hL := readyLine_p ts g (some ⟨gr, 0, none⟩) c0 W2 ht (M.cell 1 0 rfl) (M.rowS 2 rfl)
 refine Calls.mono (by with_reducible exact hL) ?_
 clear hL
 rintro r W3 ⟨lb, LA, lc, ps, rfl, hl, hh, hp, g1⟩
 clear tY Ab Ae Ad Ac Aa
 replace M : Sep S w W3 [.blk (lb) 149 #[.slice LA ps.length lc], rP ps.length LA lc ps, .blk (w.heap.size) 38 #[.int .i64 0, .int .i64 0], .blk (g) 35 #[.slice (some ⟨gr, 0, none⟩) ts.length c0, .slice A1 ks.length c1, .slice A2 fs.length c2, .int .i64 tn, .bool st], rT ts.length (some ⟨gr, 0, none⟩) c0 ts, rK ks.length A1 c1 ks, rF fs.length A2 c2 fs] := Sep.new M g1
 clear g1
 have hF := first_any ps LA lc (by omega) W3 (M.rowS 1 rfl)
 rw [ready_line hh hp] at hF
 change Calls _ _ _ _ (fun r w' => r = .returned (.int .i64 (firstM ts)) ∧ w' = W3) at hF
 rw [hfr] at hF
 have HF := hide hF
 clear hF hh hp hl
 obtain ⟨Ag, Af⟩ := M.q1 0 rfl
 obtain ⟨tY, Ab, Ae, Ad, Ac, Aa⟩ := M.q5 3 rfl
 go_wp2_with fail
 refine Calls.mono (by with_reducible exact HF.out) ?_
 clear HF
 rintro r WF ⟨rfl, hWF⟩
 subst hWF
 go_wp2_with fail
 go_call (giveUp_no 6 _) as r W ⟨rfl, rfl⟩
 go_wp2_with fail
 go_call (giveUp_no 2 _) as r W ⟨rfl, rfl⟩
 clear Ag Af tY Ab Ae Ad Ac Aa
 obtain ⟨tY, Ab, Ao, Ae, Ak, Ad, Al, Ac, Aj, Aa, An⟩ := M.f5 3 rfl
 have fz0 : WF.frozen? ⟨gr, k * 7, none⟩ = false := Own.fz (M.rowAt 4 rfl) _
 have fz2 : WF.frozen? ⟨gr, k * 7 + 2, none⟩ = false := Own.fz (M.rowAt 4 rfl) _
 obtain ⟨s', l', o', wt', on', v', t', ht', y0, y1, y2, y3, y4, y5, y6⟩ := Own.t7 (M.rowAt 4 rfl) hkl
 go_wp2_with fail
 clear tY Ab Ao Ae Ak Ad Al Ac Aj Aa An fz0 fz2 ht' y0 y1 y2 y3 y4 y5 y6
 have N : ∃ V, ((WF.setCell ⟨gr, k * 7, none⟩ (.int .i64 2)).setCell ⟨gr, k * 7 + 2, none⟩ (.int .i64 wk)) = V ∧ Sep S w V [.blk (lb) 149 #[.slice LA ps.length lc], rP ps.length LA lc ps, .blk (w.heap.size) 38 #[.int .i64 0, .int .i64 0], .blk (g) 35 #[.slice (some ⟨gr, 0, none⟩) ts.length c0, .slice A1 ks.length c1, .slice A2 fs.length c2, .int .i64 tn, .bool st], rT ts.length (some ⟨gr, 0, none⟩) c0 (ts.set k ⟨2, l, wk, wt, on, v, t⟩), rK ks.length A1 c1 ks, rF fs.length A2 c2 fs] := ⟨_, rfl, M.putT2 4 rfl k 0 2 (by omega) (by omega) ⟨s, l, o1, wt, on, v, t⟩ 2 wk HT.out⟩
 clear M
 obtain ⟨W4, eW, M⟩ := N
 rw [eW]
 clear eW
 go_call (okWith_any k _) as r WO ⟨rfl, g1⟩
 replace M := M.call g1
 clear g1
 obtain ⟨tR, Ai, Ap, Ah, Am⟩ := M.f2 2 rfl
 go_wp2_with fail
 clear tR Ai Ap Ah Am
 replace M := M.gset2 2 rfl (.int .i64 1) (.int .i64 k)
 obtain ⟨W5, eW, M⟩ := M
 rw [eW]
 clear eW
 simp only [zZ, zS] at M
 replace M := M.front 6 rfl
 simp only [zE, zF] at M
 replace M := M.front 6 rfl
 simp only [zE, zF] at M
 replace M := M.front 6 rfl
 simp only [zE, zF] at M
 replace M := M.front 6 rfl
 simp only [zE, zF] at M
 obtain ⟨tR, Ai, Ah⟩ := M.q2 6 rfl
 exact bodyPost_ret (by simp [results, Tryz.results89, go_sem, Ai, Ah]) rfl ⟨(some ⟨gr, 0, none⟩), A1, A2, c0, c1, c2, rfl, M.take 4⟩
end Go.Proofs.YtfkdfkoigojciaaGreatDoor
