import Derived.Test.YtfkdfkoigojciaaGreatDoorQU14
import Derived.Test.YtfkdfkoigojciaaGreatDoorQU13
import Derived.Test.YtfkdfkoigojciaaGreatDoorQU10
import Derived.Test.YtfkdfkoigojciaaGreatDoorQU12

namespace Go.Proofs.YtfkdfkoigojciaaGreatDoor
open Go.RowKit
set_option linter.unusedVariables false
set_option maxHeartbeats 800000
set_option maxRecDepth 100000
theorem livedAsC_no (ts : List T7) (ks : List Int) (fs : List F2) (A0 A1 A2 : Option Addr) (c0 c1 c2 : Nat) (tn : Int) (st : Bool) (g : Nat) (w : World) (ht : ts.length ≤ 1048576) (hk : ks.length ≤ 1048576) (hf : fs.length ≤ 1048576) (h : Sep (fps [.blk g 35 #[.slice A0 ts.length c0, .slice A1 ks.length c1, .slice A2 fs.length c2, .int .i64 tn, .bool st], rT ts.length A0 c0 ts, rK ks.length A1 c1 ks, rF fs.length A2 c2 fs]) w w [.blk g 35 #[.slice A0 ts.length c0, .slice A1 ks.length c1, .slice A2 fs.length c2, .int .i64 tn, .bool st], rT ts.length A0 c0 ts, rK ks.length A1 c1 ks, rF fs.length A2 c2 fs]) (G2 : FuncId) (cap2 : Array Value) (hG2 : ∀ args w, (callFunc G2 args).run Tryz.prog w = .ok (.enter G2 args) w) (er : Value) (rp ou : Int)
 (hA : ∀ V : World, V.cell? ⟨0, 0, none⟩ = some (.iface 206 (.agg #[.pointer (some ⟨1, 84, none⟩)])) → Calls Tryz.prog 124 #[er] V fun r w' => r = .returned (.agg #[.int .i64 rp, .int .i64 ou]) ∧ Below V.heap.size V w')
 (hK : ∀ V : World, Calls Tryz.prog 126 #[er] V fun r w' => r = .returned (.bool false) ∧ Below V.heap.size V w')
 (bL : Nat) (hbL : w.cell? ⟨bL, 0, none⟩ = some (.func (.func G2) #[] cap2)) (lbL : bL < w.heap.size)
 (hg0 : w.cell? ⟨0, 0, none⟩ = some (.iface 206 (.agg #[.pointer (some ⟨1, 84, none⟩)]))) (h0 : ∀ q ∈ fps [.blk g 35 #[.slice A0 ts.length c0, .slice A1 ks.length c1, .slice A2 fs.length c2, .int .i64 tn, .bool st], rT ts.length A0 c0 ts, rK ks.length A1 c1 ks, rF fs.length A2 c2 fs], 1 ≤ q)
 (hb : ∀ V : World, Below w.heap.size w V → Sep (fps [.blk g 35 #[.slice A0 ts.length c0, .slice A1 ks.length c1, .slice A2 fs.length c2, .int .i64 tn, .bool st], rT ts.length A0 c0 ts, rK ks.length A1 c1 ks, rF fs.length A2 c2 fs]) V V [.blk g 35 #[.slice A0 ts.length c0, .slice A1 ks.length c1, .slice A2 fs.length c2, .int .i64 tn, .bool st], rT ts.length A0 c0 ts, rK ks.length A1 c1 ks, rF fs.length A2 c2 fs] → Calls Tryz.prog G2 (#[.pointer (some ⟨g, 0, none⟩)] ++ cap2) V (fun r w' => r = .returned er ∧ Sep (fps [.blk g 35 #[.slice A0 ts.length c0, .slice A1 ks.length c1, .slice A2 fs.length c2, .int .i64 tn, .bool st], rT ts.length A0 c0 ts, rK ks.length A1 c1 ks, rF fs.length A2 c2 fs]) V w' [])) :
 Calls Tryz.prog 123 #[.pointer (some ⟨g, 0, none⟩), .pointer (some ⟨bL, 0, none⟩)] w (fun r w' => r = .panicked [{ v := .iface 137 (.int .i64 rp), recovered := false }] ∧ Sep (fps [.blk g 35 #[.slice A0 ts.length c0, .slice A1 ks.length c1, .slice A2 fs.length c2, .int .i64 tn, .bool st], rT ts.length A0 c0 ts, rK ks.length A1 c1 ks, rF fs.length A2 c2 fs]) w w' []) := by
 have h00 : 0 ∉ fps [.blk g 35 #[.slice A0 ts.length c0, .slice A1 ks.length c1, .slice A2 fs.length c2, .int .i64 tn, .bool st], rT ts.length A0 c0 ts, rK ks.length A1 c1 ks, rF fs.length A2 c2 fs] := fun hm => by have := h0 0 hm; omega
 have hlt0 := World.block_lt_of_cell? w _ hg0
 have HB := hide hb
 clear hb
 obtain ⟨S, hS⟩ : ∃ S, S = fps [.blk g 35 #[.slice A0 ts.length c0, .slice A1 ks.length c1, .slice A2 fs.length c2, .int .i64 tn, .bool st], rT ts.length A0 c0 ts, rK ks.length A1 c1 ks, rF fs.length A2 c2 fs] := ⟨_, rfl⟩
 rw [← hS] at h h00 ⊢
 clear hS
 have M0 := hide h
 clear h
 have HA := hide hA
 have HK := hide hK
 have HG0 := hide hg0
 have H0 := hide h0
 clear hA hK hg0 h0
 show Calls Tryz.prog 123 #[.pointer (some ⟨g, 0, none⟩), .pointer (some ⟨bL, 0, none⟩)] w _
 go_enter Tryz.func123, Tryz.ntmps123
 go_wp2_with fail
 have M := M0.out.allocN 38 #[.int .i64 0, .int .i64 0]
 clear M0
 have g0 : Below w.heap.size w (w.alloc (.cells #[.int .i64 0, .int .i64 0] 38)) := by go_grown
 generalize w.alloc (.cells #[.int .i64 0, .int .i64 0] 38) = W1 at M g0 ⊢
 replace M := M.front 4 rfl
 simp only [zE, zF] at M
 replace M := M.front 4 rfl
 simp only [zE, zF] at M
 replace M := M.front 4 rfl
 simp only [zE, zF] at M
 replace M := M.front 4 rfl
 simp only [zE, zF] at M
 have hC := HB.out _ g0 (Sep.same (ps := [.blk (g) 35 #[.slice A0 ts.length c0, .slice A1 ks.length c1, .slice A2 fs.length c2, .int .i64 tn, .bool st], rT ts.length A0 c0 ts, rK ks.length A1 c1 ks, rF fs.length A2 c2 fs]) (rs := [.blk (w.heap.size) 38 #[.int .i64 0, .int .i64 0]]) M (Below.refl _ _))
 clear HB g0
 refine Calls.mono (by with_reducible exact hC) ?_
 clear hC
 rintro r W2 ⟨rfl, g1⟩
 replace M : Sep S w W2 [.blk (w.heap.size) 38 #[.int .i64 0, .int .i64 0]] := Sep.comp (ps := [.blk (g) 35 #[.slice A0 ts.length c0, .slice A1 ks.length c1, .slice A2 fs.length c2, .int .i64 tn, .bool st], rT ts.length A0 c0 ts, rK ks.length A1 c1 ks, rF fs.length A2 c2 fs]) (rs := [.blk (w.heap.size) 38 #[.int .i64 0, .int .i64 0]]) M g1
 clear g1
 have hc0 : W2.cell? ⟨0, 0, none⟩ = some (.iface 206 (.agg #[.pointer (some ⟨1, 84, none⟩)])) := by
  have hB1 : Below 1 w W2 := ⟨M.os, M.tape, M.output, M.size, fun b hb => M.block b (by omega) (by rw [show b = 0 by omega]; exact h00)⟩
  exact (hB1.cell (p := ⟨0, 0, none⟩) (by simp)).trans HG0.out
 go_wp2_with fail
 refine Calls.mono (by with_reducible exact (HA.out _ hc0)) ?_
 clear hc0
 rintro r W3 ⟨rfl, g1⟩
 replace M := M.call g1
 clear g1
 go_wp2_with fail
 replace M := M.galloc 38 #[.int .i64 rp, .int .i64 ou]
 obtain ⟨W4, eW, M⟩ := M
 rw [eW]
 clear eW
 refine wp_region_T (S := (fun w' => w'.cell? ⟨W3.heap.size, 0, none⟩ = some (.int .i64 rp) ∧ w'.cell? ⟨W3.heap.size, 1, none⟩ = some (.int .i64 ou))) (ks := []) (by kernel_rfl) ⟨M.cell 0 0 rfl, M.cell 0 1 rfl⟩ (fun hHeld => ?_)
 replace M := M.drew
 generalize W4.drew = W5 at M hHeld ⊢
 refine tkYa 0 _ rfl (fun _ => hHeld) ?_
 try simp only [Act.put, zI, zZ, zS]
 refine tkYa 3 _ rfl (fun _ => hHeld) ?_
 try simp only [Act.put, zI, zZ, zS]
 refine tkLa 4 _ rfl hHeld ?_
 try simp only [Act.put, zI, zZ, zS]
 refine wpAnyT_callL (i := 1) rfl (by kernel_rfl) (fun K hK => ?_)
 go_simp
 refine Calls.mono (by with_reducible exact (HK.out _)) ?_
 rintro r W6 ⟨rfl, g1⟩
 replace M := M.call g1
 clear g1
 clear hHeld
 go_wp2_with fail
 refine hK.out _ _ ?_ (fun hHeld => ?_)
 ·exact ⟨M.cell 0 0 rfl, M.cell 0 1 rfl⟩
 clear hK K
 try simp only [Act.put, zI, zZ, zS]
 refine tkYa 2 _ rfl (fun _ => hHeld) ?_
 try simp only [Act.put, zI, zZ, zS]
 refine wpAnyT_callL (i := 5) rfl (by kernel_rfl) (fun K hK => ?_)
 go_simp
 refine Calls.mono (by with_reducible exact (giveUp_yes rp _)) ?_
 rintro r WG ⟨rfl, hWG⟩
 subst hWG
 go_wp2_with fail
 exact ⟨rfl, rfl, M.drop 2⟩
theorem livedAsC_yes (ts : List T7) (ks : List Int) (fs : List F2) (A0 A1 A2 : Option Addr) (c0 c1 c2 : Nat) (tn : Int) (st : Bool) (g : Nat) (w : World) (ht : ts.length ≤ 1048576) (hk : ks.length ≤ 1048576) (hf : fs.length ≤ 1048576) (h : Sep (fps [.blk g 35 #[.slice A0 ts.length c0, .slice A1 ks.length c1, .slice A2 fs.length c2, .int .i64 tn, .bool st], rT ts.length A0 c0 ts, rK ks.length A1 c1 ks, rF fs.length A2 c2 fs]) w w [.blk g 35 #[.slice A0 ts.length c0, .slice A1 ks.length c1, .slice A2 fs.length c2, .int .i64 tn, .bool st], rT ts.length A0 c0 ts, rK ks.length A1 c1 ks, rF fs.length A2 c2 fs]) (G2 : FuncId) (cap2 : Array Value) (hG2 : ∀ args w, (callFunc G2 args).run Tryz.prog w = .ok (.enter G2 args) w) (er : Value) (o : OutP)
 (hA : ∀ V : World, V.cell? ⟨0, 0, none⟩ = some (.iface 206 (.agg #[.pointer (some ⟨1, 84, none⟩)])) → Calls Tryz.prog 124 #[er] V fun r w' => r = .returned (.agg #[.int .i64 o.rp, .int .i64 o.ou]) ∧ Below V.heap.size V w')
 (hK : ∀ V : World, Calls Tryz.prog 126 #[er] V fun r w' => r = .returned (.bool true) ∧ Below V.heap.size V w')
 (bL : Nat) (hbL : w.cell? ⟨bL, 0, none⟩ = some (.func (.func G2) #[] cap2)) (lbL : bL < w.heap.size)
 (hg0 : w.cell? ⟨0, 0, none⟩ = some (.iface 206 (.agg #[.pointer (some ⟨1, 84, none⟩)]))) (h0 : ∀ q ∈ fps [.blk g 35 #[.slice A0 ts.length c0, .slice A1 ks.length c1, .slice A2 fs.length c2, .int .i64 tn, .bool st], rT ts.length A0 c0 ts, rK ks.length A1 c1 ks, rF fs.length A2 c2 fs], 1 ≤ q)
 (hb : ∀ V : World, Below w.heap.size w V → Sep (fps [.blk g 35 #[.slice A0 ts.length c0, .slice A1 ks.length c1, .slice A2 fs.length c2, .int .i64 tn, .bool st], rT ts.length A0 c0 ts, rK ks.length A1 c1 ks, rF fs.length A2 c2 fs]) V V [.blk g 35 #[.slice A0 ts.length c0, .slice A1 ks.length c1, .slice A2 fs.length c2, .int .i64 tn, .bool st], rT ts.length A0 c0 ts, rK ks.length A1 c1 ks, rF fs.length A2 c2 fs] → Calls Tryz.prog G2 (#[.pointer (some ⟨g, 0, none⟩)] ++ cap2) V (fun r w' => ∃ (D0 D1 D2 : Option Addr) (f0 f1 f2 : Nat), r = .returned er ∧ Sep (fps [.blk g 35 #[.slice A0 ts.length c0, .slice A1 ks.length c1, .slice A2 fs.length c2, .int .i64 tn, .bool st], rT ts.length A0 c0 ts, rK ks.length A1 c1 ks, rF fs.length A2 c2 fs]) V w' [.blk g 35 #[.slice D0 o.ts.length f0, .slice D1 o.ks.length f1, .slice D2 o.fs.length f2, .int .i64 o.tn, .bool o.st], rT o.ts.length D0 f0 o.ts, rK o.ks.length D1 f1 o.ks, rF o.fs.length D2 f2 o.fs])) :
 Calls Tryz.prog 123 #[.pointer (some ⟨g, 0, none⟩), .pointer (some ⟨bL, 0, none⟩)] w (fun r w' => ∃ (D0 D1 D2 : Option Addr) (f0 f1 f2 : Nat), r = .returned (.agg #[.int .i64 o.rp, .int .i64 o.ou]) ∧ Sep (fps [.blk g 35 #[.slice A0 ts.length c0, .slice A1 ks.length c1, .slice A2 fs.length c2, .int .i64 tn, .bool st], rT ts.length A0 c0 ts, rK ks.length A1 c1 ks, rF fs.length A2 c2 fs]) w w' [.blk g 35 #[.slice D0 o.ts.length f0, .slice D1 o.ks.length f1, .slice D2 o.fs.length f2, .int .i64 o.tn, .bool o.st], rT o.ts.length D0 f0 o.ts, rK o.ks.length D1 f1 o.ks, rF o.fs.length D2 f2 o.fs]) := by
 have h00 : 0 ∉ fps [.blk g 35 #[.slice A0 ts.length c0, .slice A1 ks.length c1, .slice A2 fs.length c2, .int .i64 tn, .bool st], rT ts.length A0 c0 ts, rK ks.length A1 c1 ks, rF fs.length A2 c2 fs] := fun hm => by have := h0 0 hm; omega
 have hlt0 := World.block_lt_of_cell? w _ hg0
 have HB := hide hb
 clear hb
 obtain ⟨S, hS⟩ : ∃ S, S = fps [.blk g 35 #[.slice A0 ts.length c0, .slice A1 ks.length c1, .slice A2 fs.length c2, .int .i64 tn, .bool st], rT ts.length A0 c0 ts, rK ks.length A1 c1 ks, rF fs.length A2 c2 fs] := ⟨_, rfl⟩
 rw [← hS] at h h00 ⊢
 clear hS
 have M0 := hide h
 clear h
 have HA := hide hA
 have HK := hide hK
 have HG0 := hide hg0
 have H0 := hide h0
 clear hA hK hg0 h0
 show Calls Tryz.prog 123 #[.pointer (some ⟨g, 0, none⟩), .pointer (some ⟨bL, 0, none⟩)] w _
 go_enter Tryz.func123, Tryz.ntmps123
 go_wp2_with fail
 have M := M0.out.allocN 38 #[.int .i64 0, .int .i64 0]
 clear M0
 have g0 : Below w.heap.size w (w.alloc (.cells #[.int .i64 0, .int .i64 0] 38)) := by go_grown
 generalize w.alloc (.cells #[.int .i64 0, .int .i64 0] 38) = W1 at M g0 ⊢
 replace M := M.front 4 rfl
 simp only [zE, zF] at M
 replace M := M.front 4 rfl
 simp only [zE, zF] at M
 replace M := M.front 4 rfl
 simp only [zE, zF] at M
 replace M := M.front 4 rfl
 simp only [zE, zF] at M
 have hC := HB.out _ g0 (Sep.same (ps := [.blk (g) 35 #[.slice A0 ts.length c0, .slice A1 ks.length c1, .slice A2 fs.length c2, .int .i64 tn, .bool st], rT ts.length A0 c0 ts, rK ks.length A1 c1 ks, rF fs.length A2 c2 fs]) (rs := [.blk (w.heap.size) 38 #[.int .i64 0, .int .i64 0]]) M (Below.refl _ _))
 clear HB g0
 refine Calls.mono (by with_reducible exact hC) ?_
 clear hC
 rintro r W2 ⟨D0, D1, D2, f0, f1, f2, rfl, g1⟩
 replace M : Sep S w W2 [.blk (g) 35 #[.slice D0 o.ts.length f0, .slice D1 o.ks.length f1, .slice D2 o.fs.length f2, .int .i64 o.tn, .bool o.st], rT o.ts.length D0 f0 o.ts, rK o.ks.length D1 f1 o.ks, rF o.fs.length D2 f2 o.fs, .blk (w.heap.size) 38 #[.int .i64 0, .int .i64 0]] := Sep.comp (ps := [.blk (g) 35 #[.slice A0 ts.length c0, .slice A1 ks.length c1, .slice A2 fs.length c2, .int .i64 tn, .bool st], rT ts.length A0 c0 ts, rK ks.length A1 c1 ks, rF fs.length A2 c2 fs]) (rs := [.blk (w.heap.size) 38 #[.int .i64 0, .int .i64 0]]) M g1
 clear g1
 have hc0 : W2.cell? ⟨0, 0, none⟩ = some (.iface 206 (.agg #[.pointer (some ⟨1, 84, none⟩)])) := by
  have hB1 : Below 1 w W2 := ⟨M.os, M.tape, M.output, M.size, fun b hb => M.block b (by omega) (by rw [show b = 0 by omega]; exact h00)⟩
  exact (hB1.cell (p := ⟨0, 0, none⟩) (by simp)).trans HG0.out
 go_wp2_with fail
 refine Calls.mono (by with_reducible exact (HA.out _ hc0)) ?_
 clear hc0
 rintro r W3 ⟨rfl, g1⟩
 replace M := M.call g1
 clear g1
 go_wp2_with fail
 replace M := M.galloc 38 #[.int .i64 o.rp, .int .i64 o.ou]
 obtain ⟨W4, eW, M⟩ := M
 rw [eW]
 clear eW
 refine wp_region_T (S := (fun w' => w'.cell? ⟨W3.heap.size, 0, none⟩ = some (.int .i64 o.rp) ∧ w'.cell? ⟨W3.heap.size, 1, none⟩ = some (.int .i64 o.ou))) (ks := []) (by kernel_rfl) ⟨M.cell 0 0 rfl, M.cell 0 1 rfl⟩ (fun hHeld => ?_)
 replace M := M.drew
 generalize W4.drew = W5 at M hHeld ⊢
 refine tkYa 0 _ rfl (fun _ => hHeld) ?_
 try simp only [Act.put, zI, zZ, zS]
 refine tkYa 3 _ rfl (fun _ => hHeld) ?_
 try simp only [Act.put, zI, zZ, zS]
 refine tkLa 4 _ rfl hHeld ?_
 try simp only [Act.put, zI, zZ, zS]
 refine wpAnyT_callL (i := 1) rfl (by kernel_rfl) (fun K hK => ?_)
 go_simp
 refine Calls.mono (by with_reducible exact (HK.out _)) ?_
 rintro r W6 ⟨rfl, g1⟩
 replace M := M.call g1
 clear g1
 clear hHeld
 go_wp2_with fail
 refine hK.out _ _ ?_ (fun hHeld => ?_)
 ·exact ⟨M.cell 0 0 rfl, M.cell 0 1 rfl⟩
 clear hK K
 try simp only [Act.put, zI, zZ, zS]
 refine tkYa 2 _ rfl (fun _ => hHeld) ?_
 try simp only [Act.put, zI, zZ, zS]
 refine wpAnyT_callL (i := 5) rfl (by kernel_rfl) (fun K hK => ?_)
 go_simp
 refine Calls.mono (by with_reducible exact (giveUp_no o.rp _)) ?_
 rintro r WG ⟨rfl, hWG⟩
 subst hWG
 clear hHeld
 go_wp2_with fail
 refine hK.out _ _ ?_ (fun hHeld => ?_)
 ·exact ⟨M.cell 0 0 rfl, M.cell 0 1 rfl⟩
 clear hK K
 try simp only [Act.put, zI, zZ, zS]
 clear hHeld
 refine wpAnyT_done (by kernel_rfl) ?_ _
 obtain ⟨tQ, Ar, Bj, Az, Bd⟩ := M.f2 0 rfl
 obtain ⟨tR, Ab, Ae, Aa, Ai⟩ := M.f2 5 rfl
 go_wp2_with fail
 clear tQ Ar Bj Az Bd tR Ab Ae Aa Ai
 replace M := M.gset2 5 rfl (.int .i64 o.rp) (.int .i64 o.ou)
 obtain ⟨W7, eW, M⟩ := M
 rw [eW]
 clear eW
 simp only [zZ, zS] at M
 replace M := M.front 4 rfl
 simp only [zE, zF] at M
 replace M := M.front 4 rfl
 simp only [zE, zF] at M
 replace M := M.front 4 rfl
 simp only [zE, zF] at M
 replace M := M.front 4 rfl
 simp only [zE, zF] at M
 obtain ⟨tR, Ab, Aa⟩ := M.q2 5 rfl
 exact bodyPost_ret (by simp [results, Tryz.results123, go_sem, Ab, Aa]) rfl ⟨D0, D1, D2, f0, f1, f2, rfl, M.take 4⟩
theorem livedAs_face (a b c d e : Int) (ts : List T7) (ks : List Int) (fs : List F2) (A0 A1 A2 : Option Addr) (c0 c1 c2 : Nat) (tn : Int) (st : Bool) (wk : Int) (G2 : FuncId) (cap2 : Array Value) (w : World) (ht : ts.length ≤ 1048576) (hk : ks.length ≤ 1048576) (hf : fs.length ≤ 1048576) (h : InPool w ts ks fs A0 A1 A2) (o : OutP)
 (hL : ∀ (V : World) (bL : Nat), Below w.heap.size w V → V.cell? ⟨bL, 0, none⟩ = some (.func (.func G2) #[] cap2) → bL < V.heap.size → Calls Tryz.prog 62 #[.agg #[.int .i64 a, .int .i64 b, .int .i64 c, .int .i64 d, .int .i64 e], .agg #[.slice A0 ts.length c0, .slice A1 ks.length c1, .slice A2 fs.length c2, .int .i64 tn, .bool st], .int .i64 wk, .func (.func 123) #[] #[.pointer (some ⟨bL, 0, none⟩)]] V (GaveS [] V o)) :
 Calls Tryz.prog 59 #[qF a b c d e, qP ts ks fs A0 A1 A2 c0 c1 c2 tn st, .int .i64 wk, .func (.func G2) #[] cap2] w (GaveS [] w o) := by
 unfold qF qP
 have hmf : ∀ (fn : Fn) (first cap : Array Value) (w : World), (Instr.makeFunc fn first cap).run Tryz.prog w = .ok (.func fn first cap) w := fun _ _ _ _ => rfl
 have HL := hide hL
 have H := hide h
 clear h hL
 go_enter Tryz.func59, Tryz.ntmps59
 go_wp2_with fail
 generalize hW : ((((w.alloc _).alloc _).alloc _).alloc _).alloc _ = W1
 have M := Sep.e5 hW
 clear hW
 obtain ⟨tS, Af, Ak, Ah, Aj⟩ := M.f2 0 rfl
 obtain ⟨tR, Ab, Ae, Aa, Ai, Ag, An, Ac, Am, Ad, Al⟩ := M.f5 1 rfl
 obtain ⟨tF, Ap, Bh⟩ := M.f1 2 rfl
 obtain ⟨tX, Bk, Au, Ay, Aw, Bl, Aq, At, Bn, Bb, Ao⟩ := M.f5 3 rfl
 obtain ⟨tP, Be, Ax, Av, Bi, Bm, Ba, Bg, Bc, As, Bf⟩ := M.f5 4 rfl
 go_wp2_with fail
 have hC := HL.out _ (w.heap.size + 2) M.below (M.cell 2 0 rfl) (M.lt 2 rfl)
 refine Calls.mono (by with_reducible exact hC) ?_
 clear hC
 rintro r W2 ⟨B0, B1, B2, d0, d1, d2, rfl, g1⟩
 clear tS Af Ak Ah Aj tR Ab Ae Aa Ai Ag An Ac Am Ad Al tF Ap Bh tX Bk Au Ay Aw Bl Aq At Bn Bb Ao tP Be Ax Av Bi Bm Ba Bg Bc As Bf
 replace M := Sep.new M g1
 simp only [zC, zN] at M
 clear g1
 obtain ⟨tS, Af, Ak, Ah, Aj⟩ := M.f2 3 rfl
 obtain ⟨tR, Ab, Ae, Aa, Ai, Ag, An, Ac, Am, Ad, Al⟩ := M.f5 4 rfl
 go_wp2_with fail
 clear tS Af Ak Ah Aj tR Ab Ae Aa Ai Ag An Ac Am Ad Al
 replace M := M.gset5 4 rfl (.slice B0 o.ts.length d0) (.slice B1 o.ks.length d1) (.slice B2 o.fs.length d2) (.int .i64 o.tn) (.bool o.st)
 obtain ⟨W3, eW, M⟩ := M
 rw [eW]
 clear eW
 simp only [zZ, zS] at M
 replace M := M.gset2 3 rfl (.int .i64 o.rp) (.int .i64 o.ou)
 obtain ⟨W4, eW, M⟩ := M
 rw [eW]
 clear eW
 simp only [zZ, zS] at M
 obtain ⟨tS, Af, Ah⟩ := M.q2 3 rfl
 obtain ⟨tR, Ab, Aa, Ag, Ac, Ad⟩ := M.q5 4 rfl
 exact bodyPost_ret (by simp [results, Tryz.results59, go_sem, Ab, Aa, Ag, Ac, Ad, Af, Ah]) rfl ⟨B0, B1, B2, d0, d1, d2, rfl, M.take 3⟩
theorem allFrom_iff (P : Nat → T7 → Bool) (ts : List T7) (i : Nat) : allFrom P i ts = true ↔ ∀ (k : Nat) (t : T7), ts[k]? = some t → P (i + k) t = true := by
 induction ts generalizing i with
 | nil => simp [allFrom]
 | cons x r ih =>
  simp only [allFrom, Bool.and_eq_true, ih]
  constructor
  ·rintro ⟨h1, h2⟩ k t hk
   cases k with
   | zero => simp only [List.getElem?_cons_zero, Option.some.injEq] at hk; subst hk; exact h1
   | succ k =>
    have := h2 k t (by simpa using hk)
    rwa [show i + 1 + k = i + (k + 1) by omega] at this
  ·intro h
   refine ⟨h 0 x rfl, fun k t hk => ?_⟩
   have := h (k + 1) t (by simpa using hk)
   rwa [show i + (k + 1) = i + 1 + k by omega] at this
theorem tasksB_iff (a b c d e : Int) (ts : List T7) (tn : Int) : tasksB a b c d e ts tn = true ↔ ∀ (k : Nat) (t : T7), ts[k]? = some t → fitB a b c d e ts tn k t = true := by
 unfold tasksB
 rw [allFrom_iff]
 simp
theorem soloTo_set {ts : List T7} {k : Nat} {y : T7} (hy : y.s ≠ 2) (j : Nat) (s o : Int) (h : soloTo ts j s o = true) : soloTo (ts.set k y) j s o = true := by
 unfold soloTo at h ⊢
 rw [Bool.or_eq_true] at h ⊢
 rcases h with h | h
 ·exact .inl h
 ·refine .inr ?_
  rw [List.all_eq_true] at h ⊢
  intro u hu
  rw [List.take_set] at hu
  rcases List.mem_or_eq_of_mem_set hu with hu | rfl
  ·exact h u hu
  ·simp [hy]
theorem tasksB_set {a b c d e : Int} {ts : List T7} {tn tn' : Int} {k : Nat} {y : T7} (h : tasksB a b c d e ts tn = true) (ht : tn ≤ tn') (hs : y.s ≠ 2) (hy : fitB a b c d e (ts.set k y) tn' k y = true) : tasksB a b c d e (ts.set k y) tn' = true := by
 rw [tasksB_iff] at h ⊢
 intro j t hj
 by_cases e1 : k = j
 ·subst e1
  rw [List.getElem?_set] at hj
  by_cases hl : k < ts.length
  ·simp only [if_true, if_pos hl, Option.some.injEq] at hj
   subst hj; exact hy
  ·simp [hl] at hj
 ·rw [List.getElem?_set_ne e1] at hj
  have h1 := h j t hj
  simp only [fitB, Bool.and_eq_true, decide_eq_true_eq] at h1 ⊢
  refine ⟨h1.1, by omega, soloTo_set hs j _ _ h1.2.2.1, ?_⟩
  rw [List.length_set]
  exact h1.2.2.2
theorem poolB_parts {a b c d e : Int} {ts : List T7} {ks : List Int} {fs : List F2} {tn : Int} (h : poolB a b c d e ts ks fs tn = true) : planB a b c d e = true ∧ (0 ≤ tn ∧ tn ≤ 1000000) ∧ (ts.length : Int) ≤ b ∧ tasksB a b c d e ts tn = true := by
 simp only [poolB, Bool.and_eq_true, decide_eq_true_eq] at h
 refine ⟨h.1, ?_, h.2.2.1.1, h.2.2.1.2⟩
 have := h.2.1
 simp [btw] at this
 exact this
theorem poolB_turn {a b c d e : Int} {ts us : List T7} {ks : List Int} {fs : List F2} {tn tn' : Int} (h : poolB a b c d e ts ks fs tn = true) (hl : us.length = ts.length) (ht : 0 ≤ tn' ∧ tn' ≤ 1000000) (hu : tasksB a b c d e us tn' = true) : poolB a b c d e us ks fs tn' = true := by
 simp only [poolB, Bool.and_eq_true, decide_eq_true_eq] at h ⊢
 refine ⟨h.1, ?_, ⟨?_, hu⟩, h.2.2.2⟩
 ·simp [btw]; exact ht
 ·rw [hl]; exact h.2.2.1.1
theorem wakeT_fit {a b c d e : Int} {ts us : List T7} {tn v : Int} {k : Nat} {x : T7} (hp : planB a b c d e = true) (ht : 0 ≤ tn ∧ tn ≤ 1000000) (hx : fitB a b c d e ts tn k x = true) (hs : x.s = 3) (hv : btw v 0 9999 = true) : fitB a b c d e us (tn + 1) k (wakeT x tn v) = true := by
 simp only [fitB, taskB, Bool.and_eq_true, decide_eq_true_eq] at hx ⊢
 obtain ⟨⟨_, _, hl, ho, hw, _, _⟩, _⟩ := hx
 refine ⟨⟨hp, by simp [wakeT, btw], hl, ?_, ?_, hv, ?_⟩, by show tn < tn + 1; omega, by simp [soloTo, wakeT], by simp [waitsOk, wakeT]⟩
 ·rw [hs] at ho
  simp only [wakeT]
  unfold ownB at ho ⊢
  simpa using ho
 ·simp only [wakeT]
  unfold waitB
  simp
 ·exact btw_t ht.1 ht.2
theorem wake_right {a b c d e : Int} {ts : List T7} {ks : List Int} {fs : List F2} {tn v : Int} {k : Nat} {x : T7} (h : poolB a b c d e ts ks fs tn = true) (hx : ts[k]? = some x) (hs : x.s = 3) (hv : btw v 0 9999 = true) (ht : tn < 1000000) : poolB a b c d e (ts.set k (wakeT x tn v)) ks fs (tn + 1) = true := by
 obtain ⟨hp, hb, _, hT⟩ := poolB_parts h
 refine poolB_turn h (by simp) (by omega) (tasksB_set hT (by omega) (by simp [wakeT]) ?_)
 exact wakeT_fit hp hb ((tasksB_iff ..).1 hT k x hx) hs hv
theorem turn_over {a b c d e : Int} {ts : List T7} {ks : List Int} {fs : List F2} {tn : Int} (h : ¬ tn ≤ 1000000) : poolB a b c d e ts ks fs tn = false := by
 rw [Bool.eq_false_iff]
 intro h1
 exact h (poolB_parts h1).2.1.2
end Go.Proofs.YtfkdfkoigojciaaGreatDoor
