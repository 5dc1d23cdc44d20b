/- The program's end, way by way. Lists no longer than a million. -/
import Derived.Shelf.Abstract
import Derived.Test.YtfjgelegojbmgaaGreatQFnLives01
import Derived.Test.YtfjgelegojbmgaaGreatQFnLives03
import Derived.Test.YtfjgelegojbmgaaGreatQFnLives06
import Derived.Test.YtfjgelegojbmgaaGreatQFnLives07
import Derived.Test.YtfjgelegojbmgaaGreatQB30

namespace Go.Proofs.YtfjgelegojbmgaaGreat
open Go.RowKit
set_option linter.unusedVariables false
set_option maxRecDepth 100000
set_option maxHeartbeats 400000 in
theorem spawnedC_no (ts : List T7) (ks : List Int) (fs : List F2) (C0 C1 C2 : Option Addr) (e0 e1 e2 : Nat) (tn : Int) (st : Bool) (g : Nat) (a b c d e : Int) (lv : Int) (bP : Nat) (blv : Nat) (rp : Int) (V : World) (h : Sep (fps [.blk g 30 #[.slice C0 ts.length e0, .slice C1 ks.length e1, .slice C2 fs.length e2, .int .i64 tn, .bool st], rT ts.length C0 e0 ts, rK ks.length C1 e1 ks, rF fs.length C2 e2 fs]) V V [.blk g 30 #[.slice C0 ts.length e0, .slice C1 ks.length e1, .slice C2 fs.length e2, .int .i64 tn, .bool st], rT ts.length C0 e0 ts, rK ks.length C1 e1 ks, rF fs.length C2 e2 fs]) (hP : ∀ j, V.cell? ⟨bP, j, none⟩ = (#[.int .i64 a, .int .i64 b, .int .i64 c, .int .i64 d, .int .i64 e] : Array Value)[j]?) (lP : bP < V.heap.size) (hlv : V.cell? ⟨blv, 0, none⟩ = some (.int .i64 lv)) (llv : blv < V.heap.size)
 (hb : ∀ V', Sep (fps [.blk g 30 #[.slice C0 ts.length e0, .slice C1 ks.length e1, .slice C2 fs.length e2, .int .i64 tn, .bool st], rT ts.length C0 e0 ts, rK ks.length C1 e1 ks, rF fs.length C2 e2 fs]) V' V' [.blk g 30 #[.slice C0 ts.length e0, .slice C1 ks.length e1, .slice C2 fs.length e2, .int .i64 tn, .bool st], rT ts.length C0 e0 ts, rK ks.length C1 e1 ks, rF fs.length C2 e2 fs] → Calls Tryz.prog 79 #[.pointer (some ⟨g, 0, none⟩), .agg #[.int .i64 a, .int .i64 b, .int .i64 c, .int .i64 d, .int .i64 e], .int .i64 lv] V' (fun r w' => r = .panicked [{ v := .iface 128 (.int .i64 rp), recovered := false }] ∧ Sep (fps [.blk g 30 #[.slice C0 ts.length e0, .slice C1 ks.length e1, .slice C2 fs.length e2, .int .i64 tn, .bool st], rT ts.length C0 e0 ts, rK ks.length C1 e1 ks, rF fs.length C2 e2 fs]) V' w' [])) :
 Calls Tryz.prog 78 (#[.pointer (some ⟨g, 0, none⟩)] ++ #[.pointer (some ⟨bP, 0, none⟩), .pointer (some ⟨blv, 0, none⟩)]) V (fun r w' => r = .panicked [{ v := .iface 128 (.int .i64 rp), recovered := false }] ∧ Sep (fps [.blk g 30 #[.slice C0 ts.length e0, .slice C1 ks.length e1, .slice C2 fs.length e2, .int .i64 tn, .bool st], rT ts.length C0 e0 ts, rK ks.length C1 e1 ks, rF fs.length C2 e2 fs]) V w' []) := by
 have H := hide h
 clear h
 have Aq : V.cell? ⟨bP, 0, none⟩ = some (.int .i64 a) := hP 0
 have Aj : V.cell? ⟨bP, 1, none⟩ = some (.int .i64 b) := hP 1
 have Al : V.cell? ⟨bP, 2, none⟩ = some (.int .i64 c) := hP 2
 have Ao : V.cell? ⟨bP, 3, none⟩ = some (.int .i64 d) := hP 3
 have Ap : V.cell? ⟨bP, 4, none⟩ = some (.int .i64 e) := hP 4
 clear hP
 show Calls Tryz.prog 78 #[.pointer (some ⟨g, 0, none⟩), .pointer (some ⟨bP, 0, none⟩), .pointer (some ⟨blv, 0, none⟩)] V _
 go_enter Tryz.func78, Tryz.ntmps78
 go_wp2_with fail
 have M := (H.out.allocN 55 #[.int .i64 0, .int .i64 0]).rot
 generalize V.alloc (.cells #[.int .i64 0, .int .i64 0] 55) = W1 at M ⊢
 refine Calls.mono (by with_reducible exact (hb W1 (Sep.same M (Below.refl _ _)))) ?_
 rintro r W2 ⟨rfl, g1⟩
 have M2 := Sep.comp M g1
 clear M g1
 go_wp2_with fail
 exact ⟨rfl, rfl, M2.drop 1⟩
set_option maxHeartbeats 400000 in
theorem spawnedC_yes (ts : List T7) (ks : List Int) (fs : List F2) (C0 C1 C2 : Option Addr) (e0 e1 e2 : Nat) (tn : Int) (st : Bool) (g : Nat) (a b c d e : Int) (lv : Int) (bP : Nat) (blv : Nat) (o : OutP) (V : World) (h : Sep (fps [.blk g 30 #[.slice C0 ts.length e0, .slice C1 ks.length e1, .slice C2 fs.length e2, .int .i64 tn, .bool st], rT ts.length C0 e0 ts, rK ks.length C1 e1 ks, rF fs.length C2 e2 fs]) V V [.blk g 30 #[.slice C0 ts.length e0, .slice C1 ks.length e1, .slice C2 fs.length e2, .int .i64 tn, .bool st], rT ts.length C0 e0 ts, rK ks.length C1 e1 ks, rF fs.length C2 e2 fs]) (hP : ∀ j, V.cell? ⟨bP, j, none⟩ = (#[.int .i64 a, .int .i64 b, .int .i64 c, .int .i64 d, .int .i64 e] : Array Value)[j]?) (lP : bP < V.heap.size) (hlv : V.cell? ⟨blv, 0, none⟩ = some (.int .i64 lv)) (llv : blv < V.heap.size)
 (hb : ∀ V', Sep (fps [.blk g 30 #[.slice C0 ts.length e0, .slice C1 ks.length e1, .slice C2 fs.length e2, .int .i64 tn, .bool st], rT ts.length C0 e0 ts, rK ks.length C1 e1 ks, rF fs.length C2 e2 fs]) V' V' [.blk g 30 #[.slice C0 ts.length e0, .slice C1 ks.length e1, .slice C2 fs.length e2, .int .i64 tn, .bool st], rT ts.length C0 e0 ts, rK ks.length C1 e1 ks, rF fs.length C2 e2 fs] → Calls Tryz.prog 79 #[.pointer (some ⟨g, 0, none⟩), .agg #[.int .i64 a, .int .i64 b, .int .i64 c, .int .i64 d, .int .i64 e], .int .i64 lv] V' (fun r w' => ∃ (D0 D1 D2 : Option Addr) (f0 f1 f2 : Nat), r = .returned (.agg #[.int .i64 o.rp, .int .i64 o.ou]) ∧ Sep (fps [.blk g 30 #[.slice C0 ts.length e0, .slice C1 ks.length e1, .slice C2 fs.length e2, .int .i64 tn, .bool st], rT ts.length C0 e0 ts, rK ks.length C1 e1 ks, rF fs.length C2 e2 fs]) V' w' [.blk g 30 #[.slice D0 o.ts.length f0, .slice D1 o.ks.length f1, .slice D2 o.fs.length f2, .int .i64 o.tn, .bool o.st], rT o.ts.length D0 f0 o.ts, rK o.ks.length D1 f1 o.ks, rF o.fs.length D2 f2 o.fs])) :
 Calls Tryz.prog 78 (#[.pointer (some ⟨g, 0, none⟩)] ++ #[.pointer (some ⟨bP, 0, none⟩), .pointer (some ⟨blv, 0, none⟩)]) V (fun r w' => ∃ (D0 D1 D2 : Option Addr) (f0 f1 f2 : Nat), r = .returned (.agg #[.int .i64 o.rp, .int .i64 o.ou]) ∧ Sep (fps [.blk g 30 #[.slice C0 ts.length e0, .slice C1 ks.length e1, .slice C2 fs.length e2, .int .i64 tn, .bool st], rT ts.length C0 e0 ts, rK ks.length C1 e1 ks, rF fs.length C2 e2 fs]) V w' [.blk g 30 #[.slice D0 o.ts.length f0, .slice D1 o.ks.length f1, .slice D2 o.fs.length f2, .int .i64 o.tn, .bool o.st], rT o.ts.length D0 f0 o.ts, rK o.ks.length D1 f1 o.ks, rF o.fs.length D2 f2 o.fs]) := by
 have H := hide h
 clear h
 have Aq : V.cell? ⟨bP, 0, none⟩ = some (.int .i64 a) := hP 0
 have Aj : V.cell? ⟨bP, 1, none⟩ = some (.int .i64 b) := hP 1
 have Al : V.cell? ⟨bP, 2, none⟩ = some (.int .i64 c) := hP 2
 have Ao : V.cell? ⟨bP, 3, none⟩ = some (.int .i64 d) := hP 3
 have Ap : V.cell? ⟨bP, 4, none⟩ = some (.int .i64 e) := hP 4
 clear hP
 show Calls Tryz.prog 78 #[.pointer (some ⟨g, 0, none⟩), .pointer (some ⟨bP, 0, none⟩), .pointer (some ⟨blv, 0, none⟩)] V _
 go_enter Tryz.func78, Tryz.ntmps78
 go_wp2_with fail
 have M := (H.out.allocN 55 #[.int .i64 0, .int .i64 0]).rot
 generalize V.alloc (.cells #[.int .i64 0, .int .i64 0] 55) = W1 at M ⊢
 refine Calls.mono (by with_reducible exact (hb W1 (Sep.same M (Below.refl _ _)))) ?_
 rintro r W2 ⟨D0, D1, D2, f0, f1, f2, rfl, g1⟩
 have M2 := Sep.comp M g1
 clear M g1
 simp only [List.cons_append, List.nil_append] at M2
 obtain ⟨tR, Ab, Ae, Aa, Ac⟩ := M2.f2 4 rfl
 go_wp2_with fail
 have N := M2.gset2 4 rfl (.int .i64 o.rp) (.int .i64 o.ou)
 clear M2 Ab Aa Ae Ac tR
 obtain ⟨W3, eW, M⟩ := N
 rw [eW]
 clear eW
 simp only [List.set_cons_zero, List.set_cons_succ] at M
 obtain ⟨tR, Ab, Aa⟩ := M.q2 4 rfl
 exact bodyPost_ret (by simp [results, Tryz.results78, go_sem, Ab, Aa]) rfl ⟨D0, D1, D2, f0, f1, f2, rfl, M.take 4⟩
set_option maxHeartbeats 800000 in
theorem gSpawned_face (a b c d e : Int) (ts : List T7) (ks : List Int) (fs : List F2) (A0 A1 A2 : Option Addr) (c0 c1 c2 : Nat) (tn : Int) (st : Bool) (wk : Int) (lv : Int) (w : World) (ht : ts.length ≤ 1048576) (hk : ks.length ≤ 1048576) (hf : fs.length ≤ 1048576) (h : InPool w ts ks fs A0 A1 A2) (o : OutP)
 (hL : ∀ (V : World) (bP blv : Nat), Below w.heap.size w V → (∀ j, V.cell? ⟨bP, j, none⟩ = (#[.int .i64 a, .int .i64 b, .int .i64 c, .int .i64 d, .int .i64 e] : Array Value)[j]?) → bP < V.heap.size → V.cell? ⟨blv, 0, none⟩ = some (.int .i64 lv) → blv < V.heap.size → Calls Tryz.prog 68 #[.agg #[.int .i64 a, .int .i64 b, .int .i64 c, .int .i64 d, .int .i64 e], .agg #[.slice A0 ts.length c0, .slice A1 ks.length c1, .slice A2 fs.length c2, .int .i64 tn, .bool st], .int .i64 wk, .func (.func 78) #[] #[.pointer (some ⟨bP, 0, none⟩), .pointer (some ⟨blv, 0, none⟩)]] V (GaveS [] V o)) :
 Calls Tryz.prog 32 #[.agg #[.int .i64 a, .int .i64 b, .int .i64 c, .int .i64 d, .int .i64 e], .agg #[.slice A0 ts.length c0, .slice A1 ks.length c1, .slice A2 fs.length c2, .int .i64 tn, .bool st], .int .i64 wk, .int .i64 lv] w (GaveS [] w o) := by
 have hmf : ∀ (fn : Fn) (first cap : Array Value) (w : World), (Instr.makeFunc fn first cap).run Tryz.prog w = .ok (.func fn first cap) w := fun _ _ _ _ => rfl
 have HL := hide hL
 have H := hide h
 clear h hL
 go_enter Tryz.func32, Tryz.ntmps32
 go_wp2_with fail
 generalize hW : ((((w.alloc _).alloc _).alloc _).alloc _).alloc _ = W1
 have M := Sep.e5 hW
 clear hW
 obtain ⟨tS, Ag, Ar, Ah, As⟩ := M.f2 0 rfl
 obtain ⟨tR, Ab, Ae, Aa, Ac, Ai, Am, Ad, Ak, Af, An⟩ := M.f5 1 rfl
 obtain ⟨tVlv, qVlv0, fVlv0⟩ := M.f1 2 rfl
 obtain ⟨tX, Bh, Au, Bg, Bc, Bd, Ax, Bf, Aw, At, Az⟩ := M.f5 3 rfl
 obtain ⟨tP, Aq, Av, Aj, Be, Al, Ay, Ao, Ba, Ap, Bb⟩ := M.f5 4 rfl
 go_wp2_with fail
 have hC := HL.out _ (w.heap.size) (w.heap.size + 2) M.below (fun j => M.cell 4 j rfl) (M.lt 4 rfl) (M.cell 2 0 rfl) (M.lt 2 rfl)
 refine Calls.mono (by with_reducible exact hC) ?_
 clear hC
 rintro r W2 ⟨B0, B1, B2, d0, d1, d2, rfl, g1⟩
 clear tS Ag Ar Ah As tR Ab Ae Aa Ac Ai Am Ad Ak Af An tVlv qVlv0 fVlv0 tX Bh Au Bg Bc Bd Ax Bf Aw At Az tP Aq Av Aj Be Al Ay Ao Ba Ap Bb
 replace M := Sep.new M g1
 simp only [List.cons_append, List.nil_append] at M
 clear g1
 obtain ⟨tS, Ag, Ar, Ah, As⟩ := M.f2 3 rfl
 obtain ⟨tR, Ab, Ae, Aa, Ac, Ai, Am, Ad, Ak, Af, An⟩ := M.f5 4 rfl
 go_wp2_with fail
 clear tS Ag Ar Ah As tR Ab Ae Aa Ac Ai Am Ad Ak Af An
 have N := M.gset5 4 rfl (.slice B0 o.ts.length d0) (.slice B1 o.ks.length d1) (.slice B2 o.fs.length d2) (.int .i64 o.tn) (.bool o.st)
 clear M
 obtain ⟨W3, eW, M⟩ := N
 rw [eW]
 clear eW
 simp only [List.set_cons_zero, List.set_cons_succ] at M
 have N := M.gset2 3 rfl (.int .i64 o.rp) (.int .i64 o.ou)
 clear M
 obtain ⟨W4, eW, M⟩ := N
 rw [eW]
 clear eW
 simp only [List.set_cons_zero, List.set_cons_succ] at M
 obtain ⟨tS, Ag, Ah⟩ := M.q2 3 rfl
 obtain ⟨tR, Ab, Aa, Ai, Ad, Af⟩ := M.q5 4 rfl
 exact bodyPost_ret (by simp [results, Tryz.results32, go_sem, Ab, Aa, Ai, Ad, Af, Ag, Ah]) rfl ⟨B0, B1, B2, d0, d1, d2, rfl, M.take 3⟩
theorem spawned_told (a b c d e : Int) (ts : List T7) (ks : List Int) (fs : List F2) (tn : Int) (st : Bool) (wk : Int) (lv : Int) (hl : ts.length + ks.length + fs.length ≤ 1048576) :
 ∃ (us : List T7) (ks2 : List Int) (fs2 : List F2) (tn2 : Int) (st2 : Bool) (rp ou : Int), us.length + ks2.length + fs2.length ≤ 1048576 ∧
 (rp = 1 → us = ts ++ [(⟨1, lv, -1, 0, 0, 0, tn⟩ : T7)] ∧ ou = ts.length) ∧
 Hid (∀ (A0 A1 A2 : Option Addr) (c0 c1 c2 : Nat) (w : World), InPool w ts ks fs A0 A1 A2 → Calls Tryz.prog 33 #[.agg #[.int .i64 a, .int .i64 b, .int .i64 c, .int .i64 d, .int .i64 e], .agg #[.slice A0 ts.length c0, .slice A1 ks.length c1, .slice A2 fs.length c2, .int .i64 tn, .bool st], .int .i64 wk, .int .i64 lv] w (GaveA us ks2 fs2 tn2 st2 rp ou w)) ∧
 Hid (∀ (A0 A1 A2 : Option Addr) (c0 c1 c2 : Nat) (w : World), InPool w ts ks fs A0 A1 A2 → Calls Tryz.prog 32 #[.agg #[.int .i64 a, .int .i64 b, .int .i64 c, .int .i64 d, .int .i64 e], .agg #[.slice A0 ts.length c0, .slice A1 ks.length c1, .slice A2 fs.length c2, .int .i64 tn, .bool st], .int .i64 wk, .int .i64 lv] w (GaveA us ks2 fs2 tn2 st2 rp ou w)) := by
 have ht : ts.length ≤ 1048576 := by omega
 have hk : ks.length ≤ 1048576 := by omega
 have hf : fs.length ≤ 1048576 := by omega
 cases hp : poolB a b c d e ts ks fs tn
 ·exact ⟨[], [], [], 0, false, 8, 0, by simp, (fun h => by omega), hide (fun A0 A1 A2 c0 c1 c2 w h => (spawned_may a b c d e ts ks fs A0 A1 A2 c0 c1 c2 tn st wk lv w ht hk hf h (by simp [mayB, hp])).mono (fun r w' hh => by rw [hp] at hh; exact hh)), hide (fun A0 A1 A2 c0 c1 c2 w h => gSpawned_face a b c d e ts ks fs A0 A1 A2 c0 c1 c2 tn st wk lv w ht hk hf h ⟨[], [], [], 0, false, 8, 0⟩ (fun V bP blv hV hP lP hlv llv => lived_bad a b c d e ts ks fs A0 A1 A2 c0 c1 c2 tn st wk 78 #[.pointer (some ⟨bP, 0, none⟩), .pointer (some ⟨blv, 0, none⟩)] (Go.Proofs.enters_of Tryz.func78 (by kernel_rfl) rfl) V ht hk hf (h.below hV) hp))⟩
 have hpl := (poolB_parts hp).1
 have hT := (poolB_parts hp).2.1
 cases hw : btw wk 0 (a - 1)
 ·exact ⟨ts, ks, fs, tn, st, 8, 0, hl, (fun h => by omega), hide (fun A0 A1 A2 c0 c1 c2 w h => (spawned_may a b c d e ts ks fs A0 A1 A2 c0 c1 c2 tn st wk lv w ht hk hf h (by simp [mayB, workB, hp, hw])).mono (fun r w' hh => by rw [hp] at hh; exact hh)), hide (fun A0 A1 A2 c0 c1 c2 w h => gSpawned_face a b c d e ts ks fs A0 A1 A2 c0 c1 c2 tn st wk lv w ht hk hf h ⟨ts, ks, fs, tn, st, 8, 0⟩ (fun V bP blv hV hP lP hlv llv => lived_worker a b c d e ts ks fs A0 A1 A2 c0 c1 c2 tn st wk 78 #[.pointer (some ⟨bP, 0, none⟩), .pointer (some ⟨blv, 0, none⟩)] (Go.Proofs.enters_of Tryz.func78 (by kernel_rfl) rfl) V ht hk hf (h.below hV) hp hw))⟩
 have hm : mayB a b c d e ts ks fs tn wk = true := by simp [mayB, workB, hp, hw, hpl]
 obtain ⟨pl1, pl2⟩ : 1 ≤ c ∧ c ≤ 30 := by have := planB_c hpl; omega
 cases hq9 : btw lv 0 (c - 1)
 ·exact ⟨ts, ks, fs, tn, st, 8, 0, hl, (fun h => by omega), hide (fun A0 A1 A2 c0 c1 c2 w h => (spawned_lev a b c d e ts ks fs A0 A1 A2 c0 c1 c2 tn st wk lv w ht hk hf h hm (by simp [levelB, hq9])).mono (fun r w' hh => by rw [hp] at hh; exact hh)), hide (fun A0 A1 A2 c0 c1 c2 w h => gSpawned_face a b c d e ts ks fs A0 A1 A2 c0 c1 c2 tn st wk lv w ht hk hf h ⟨ts, ks, fs, tn, st, 8, 0⟩ (fun V bP blv hV hP lP hlv llv => lived_no a b c d e ts ks fs A0 A1 A2 c0 c1 c2 tn st wk 78 #[.pointer (some ⟨bP, 0, none⟩), .pointer (some ⟨blv, 0, none⟩)] (Go.Proofs.enters_of Tryz.func78 (by kernel_rfl) rfl) V ht hk hf (h.below hV) hp hw 8 (fun V2 g C0 C1 C2 e0 e1 e2 hV2 hM => spawnedC_no ts ks fs C0 C1 C2 e0 e1 e2 tn st g a b c d e lv bP blv 8 V2 hM (fun j => (hV2.cell (p := ⟨bP, j, none⟩) lP).trans (hP j)) (Nat.lt_of_lt_of_le lP hV2.size) ((hV2.cell (p := ⟨blv, 0, none⟩) llv).trans hlv) (Nat.lt_of_lt_of_le llv hV2.size) (fun V3 hM3 => spawn_level ts ks fs C0 C1 C2 e0 e1 e2 tn st g a b c d e lv V3 ht hk hf hM3 pl1 pl2 hq9))))⟩
 have hlb : levelB a b c d e lv = true := by simp [levelB, hq9, hpl]
 have hlen : ts.length + ks.length + fs.length + 1 ≤ 1048576 ∨ b ≤ (ts.length : Int) := by
  have h1 := planB_all hpl
  have h2 := hp
  simp only [poolB, Bool.and_eq_true, decide_eq_true_eq] at h2
  omega
 cases st
 ·by_cases hb : b ≤ (ts.length : Int)
  ·exact ⟨ts, ks, fs, tn, false, 4, 0, hl, (fun h => by omega), hide (fun A0 A1 A2 c0 c1 c2 w h => (spawned_full a b c d e ts ks fs A0 A1 A2 c0 c1 c2 tn wk lv w ht hk hf h hm hlb hb).mono (fun r w' hh => by rw [hp] at hh; exact hh)), hide (fun A0 A1 A2 c0 c1 c2 w h => gSpawned_face a b c d e ts ks fs A0 A1 A2 c0 c1 c2 tn false wk lv w ht hk hf h ⟨ts, ks, fs, tn, false, 4, 0⟩ (fun V bP blv hV hP lP hlv llv => lived_no a b c d e ts ks fs A0 A1 A2 c0 c1 c2 tn false wk 78 #[.pointer (some ⟨bP, 0, none⟩), .pointer (some ⟨blv, 0, none⟩)] (Go.Proofs.enters_of Tryz.func78 (by kernel_rfl) rfl) V ht hk hf (h.below hV) hp hw 4 (fun V2 g C0 C1 C2 e0 e1 e2 hV2 hM => spawnedC_no ts ks fs C0 C1 C2 e0 e1 e2 tn false g a b c d e lv bP blv 4 V2 hM (fun j => (hV2.cell (p := ⟨bP, j, none⟩) lP).trans (hP j)) (Nat.lt_of_lt_of_le lP hV2.size) ((hV2.cell (p := ⟨blv, 0, none⟩) llv).trans hlv) (Nat.lt_of_lt_of_le llv hV2.size) (fun V3 hM3 => spawn_full ts ks fs C0 C1 C2 e0 e1 e2 tn g a b c d e lv V3 ht hk hf hM3 pl1 pl2 hq9 hb))))⟩
  by_cases t1 : tn < 1000000
  ·have hz := spawnP_right hp hq9 (show (ts.length : Int) < b by omega) t1
   exact ⟨(ts ++ [(⟨1, lv, -1, 0, 0, 0, tn⟩ : T7)]), ks, fs, tn + 1, false, 1, ts.length, by simp; omega, (fun _ => ⟨rfl, rfl⟩), hide (fun A0 A1 A2 c0 c1 c2 w h => (spawned_main a b c d e ts ks fs A0 A1 A2 c0 c1 c2 tn wk lv w ht hk hf h hm hlb hb).mono (fun r w' hh => by rw [hz] at hh; exact hh)), hide (fun A0 A1 A2 c0 c1 c2 w h => gSpawned_face a b c d e ts ks fs A0 A1 A2 c0 c1 c2 tn false wk lv w ht hk hf h ⟨(ts ++ [(⟨1, lv, -1, 0, 0, 0, tn⟩ : T7)]), ks, fs, tn + 1, false, 1, ts.length⟩ (fun V bP blv hV hP lP hlv llv => lived_yes a b c d e ts ks fs A0 A1 A2 c0 c1 c2 tn false wk 78 #[.pointer (some ⟨bP, 0, none⟩), .pointer (some ⟨blv, 0, none⟩)] (Go.Proofs.enters_of Tryz.func78 (by kernel_rfl) rfl) V ht hk hf (h.below hV) hp hw _ (fun V2 g C0 C1 C2 e0 e1 e2 hV2 hM => spawnedC_yes ts ks fs C0 C1 C2 e0 e1 e2 tn false g a b c d e lv bP blv _ V2 hM (fun j => (hV2.cell (p := ⟨bP, j, none⟩) lP).trans (hP j)) (Nat.lt_of_lt_of_le lP hV2.size) ((hV2.cell (p := ⟨blv, 0, none⟩) llv).trans hlv) (Nat.lt_of_lt_of_le llv hV2.size) (fun V3 hM3 => spawn_ok ts ks fs C0 C1 C2 e0 e1 e2 tn g a b c d e lv V3 ht hk hf hM3 pl1 pl2 hq9 hb hT.1 t1))))⟩
  ·have hz : poolB a b c d e (ts ++ [(⟨1, lv, -1, 0, 0, 0, tn⟩ : T7)]) ks fs (tn + 1) = false := turn_over (by omega)
   exact ⟨ts, ks, fs, tn, false, 4, 0, hl, (fun h => by omega), hide (fun A0 A1 A2 c0 c1 c2 w h => (spawned_main a b c d e ts ks fs A0 A1 A2 c0 c1 c2 tn wk lv w ht hk hf h hm hlb hb).mono (fun r w' hh => by rw [hz] at hh; exact hh)), hide (fun A0 A1 A2 c0 c1 c2 w h => gSpawned_face a b c d e ts ks fs A0 A1 A2 c0 c1 c2 tn false wk lv w ht hk hf h ⟨ts, ks, fs, tn, false, 4, 0⟩ (fun V bP blv hV hP lP hlv llv => lived_no a b c d e ts ks fs A0 A1 A2 c0 c1 c2 tn false wk 78 #[.pointer (some ⟨bP, 0, none⟩), .pointer (some ⟨blv, 0, none⟩)] (Go.Proofs.enters_of Tryz.func78 (by kernel_rfl) rfl) V ht hk hf (h.below hV) hp hw 4 (fun V2 g C0 C1 C2 e0 e1 e2 hV2 hM => spawnedC_no ts ks fs C0 C1 C2 e0 e1 e2 tn false g a b c d e lv bP blv 4 V2 hM (fun j => (hV2.cell (p := ⟨bP, j, none⟩) lP).trans (hP j)) (Nat.lt_of_lt_of_le lP hV2.size) ((hV2.cell (p := ⟨blv, 0, none⟩) llv).trans hlv) (Nat.lt_of_lt_of_le llv hV2.size) (fun V3 hM3 => spawn_turn ts ks fs C0 C1 C2 e0 e1 e2 tn g a b c d e lv V3 ht hk hf hM3 pl1 pl2 hq9 hb t1))))⟩
 ·exact ⟨ts, ks, fs, tn, true, 6, 0, hl, (fun h => by omega), hide (fun A0 A1 A2 c0 c1 c2 w h => (spawned_stop a b c d e ts ks fs A0 A1 A2 c0 c1 c2 tn wk lv w ht hk hf h hm hlb).mono (fun r w' hh => by rw [hp] at hh; exact hh)), hide (fun A0 A1 A2 c0 c1 c2 w h => gSpawned_face a b c d e ts ks fs A0 A1 A2 c0 c1 c2 tn true wk lv w ht hk hf h ⟨ts, ks, fs, tn, true, 6, 0⟩ (fun V bP blv hV hP lP hlv llv => lived_no a b c d e ts ks fs A0 A1 A2 c0 c1 c2 tn true wk 78 #[.pointer (some ⟨bP, 0, none⟩), .pointer (some ⟨blv, 0, none⟩)] (Go.Proofs.enters_of Tryz.func78 (by kernel_rfl) rfl) V ht hk hf (h.below hV) hp hw 6 (fun V2 g C0 C1 C2 e0 e1 e2 hV2 hM => spawnedC_no ts ks fs C0 C1 C2 e0 e1 e2 tn true g a b c d e lv bP blv 6 V2 hM (fun j => (hV2.cell (p := ⟨bP, j, none⟩) lP).trans (hP j)) (Nat.lt_of_lt_of_le lP hV2.size) ((hV2.cell (p := ⟨blv, 0, none⟩) llv).trans hlv) (Nat.lt_of_lt_of_le llv hV2.size) (fun V3 hM3 => spawn_stop ts ks fs C0 C1 C2 e0 e1 e2 tn g a b c d e lv V3 ht hk hf hM3 pl1 pl2 hq9))))⟩
set_option maxRecDepth 100000
set_option maxHeartbeats 800000 in
theorem end_val (ts : List T7) (ks : List Int) (fs : List F2) (A0 A1 A2 : Option Addr) (c0 c1 c2 : Nat) (tn : Int) (st : Bool) (g : Nat) (wk vv : Int) (w : World) (ht : ts.length ≤ 1048576) (hk : ks.length ≤ 1048576) (hf : fs.length ≤ 1048576) (h : Sep (fps [.blk g 30 #[.slice A0 ts.length c0, .slice A1 ks.length c1, .slice A2 fs.length c2, .int .i64 tn, .bool st], rT ts.length A0 c0 ts, rK ks.length A1 c1 ks, rF fs.length A2 c2 fs]) w w [.blk g 30 #[.slice A0 ts.length c0, .slice A1 ks.length c1, .slice A2 fs.length c2, .int .i64 tn, .bool st], rT ts.length A0 c0 ts, rK ks.length A1 c1 ks, rF fs.length A2 c2 fs]) (hv : btw vv 0 9999 = false) :
 Calls Tryz.prog 84 #[.pointer (some ⟨g, 0, none⟩), .int .i64 wk, .int .i64 vv] w (fun r w' => r = .panicked [{ v := .iface 128 (.int .i64 8), recovered := false }] ∧ Sep (fps [.blk g 30 #[.slice A0 ts.length c0, .slice A1 ks.length c1, .slice A2 fs.length c2, .int .i64 tn, .bool st], rT ts.length A0 c0 ts, rK ks.length A1 c1 ks, rF fs.length A2 c2 fs]) w w' []) := by
 obtain ⟨S, hS⟩ : ∃ S, S = fps [.blk g 30 #[.slice A0 ts.length c0, .slice A1 ks.length c1, .slice A2 fs.length c2, .int .i64 tn, .bool st], rT ts.length A0 c0 ts, rK ks.length A1 c1 ks, rF fs.length A2 c2 fs] := ⟨_, rfl⟩
 rw [← hS] at h ⊢
 clear hS
 have M0 := hide h
 clear h
 go_enter Tryz.func84, Tryz.ntmps84
 go_wp2_with fail
 have M := M0.out.allocN 55 #[.int .i64 0, .int .i64 0]
 clear M0
 generalize w.alloc (.cells #[.int .i64 0, .int .i64 0] 55) = W1 at M ⊢
 have hB := between_any vv 0 9999 W1
 rw [hv] at hB
 refine Calls.mono (by with_reducible exact hB) ?_
 clear hB
 rintro r WB ⟨rfl, rfl⟩
 go_wp2_with fail
 go_call (giveUp_yes 8 _) as r W ⟨rfl, rfl⟩
 go_wp2_with fail
 exact ⟨rfl, rfl, M.drop 5⟩
set_option maxHeartbeats 800000 in
theorem end_none (ts : List T7) (ks : List Int) (fs : List F2) (A0 A1 A2 : Option Addr) (c0 c1 c2 : Nat) (tn : Int) (st : Bool) (g : Nat) (wk vv : Int) (w : World) (ht : ts.length ≤ 1048576) (hk : ks.length ≤ 1048576) (hf : fs.length ≤ 1048576) (h : Sep (fps [.blk g 30 #[.slice A0 ts.length c0, .slice A1 ks.length c1, .slice A2 fs.length c2, .int .i64 tn, .bool st], rT ts.length A0 c0 ts, rK ks.length A1 c1 ks, rF fs.length A2 c2 fs]) w w [.blk g 30 #[.slice A0 ts.length c0, .slice A1 ks.length c1, .slice A2 fs.length c2, .int .i64 tn, .bool st], rT ts.length A0 c0 ts, rK ks.length A1 c1 ks, rF fs.length A2 c2 fs]) (hv : btw vv 0 9999 = true) (hr : runM ts wk 0 = -1) :
 Calls Tryz.prog 84 #[.pointer (some ⟨g, 0, none⟩), .int .i64 wk, .int .i64 vv] w (fun r w' => r = .panicked [{ v := .iface 128 (.int .i64 2), recovered := false }] ∧ Sep (fps [.blk g 30 #[.slice A0 ts.length c0, .slice A1 ks.length c1, .slice A2 fs.length c2, .int .i64 tn, .bool st], rT ts.length A0 c0 ts, rK ks.length A1 c1 ks, rF fs.length A2 c2 fs]) w w' []) := by
 obtain ⟨S, hS⟩ : ∃ S, S = fps [.blk g 30 #[.slice A0 ts.length c0, .slice A1 ks.length c1, .slice A2 fs.length c2, .int .i64 tn, .bool st], rT ts.length A0 c0 ts, rK ks.length A1 c1 ks, rF fs.length A2 c2 fs] := ⟨_, rfl⟩
 rw [← hS] at h ⊢
 clear hS
 have M0 := hide h
 clear h
 go_enter Tryz.func84, Tryz.ntmps84
 go_wp2_with fail
 have M := M0.out.allocN 55 #[.int .i64 0, .int .i64 0]
 clear M0
 generalize w.alloc (.cells #[.int .i64 0, .int .i64 0] 55) = W1 at M ⊢
 have hB := between_any vv 0 9999 W1
 rw [hv] at hB
 refine Calls.mono (by with_reducible exact hB) ?_
 clear hB
 rintro r WB ⟨rfl, rfl⟩
 go_wp2_with fail
 go_call (giveUp_no 8 _) as r W ⟨rfl, rfl⟩
 go_wp2_with fail
 go_call (runNone_no ts A0 A1 A2 c0 ks.length c1 fs.length c2 tn st wk g _ ht (M.blk 1 rfl) (M.rowS 2 rfl) hr) as r W2 ⟨rfl, g1⟩
 replace M := M.call g1
 clear g1
 go_wp2_with fail
 exact ⟨rfl, rfl, M.drop 5⟩
set_option maxHeartbeats 800000 in
theorem end_full (ts : List T7) (ks : List Int) (fs : List F2) (A0 A1 A2 : Option Addr) (c0 c1 c2 : Nat) (tn : Int) (st : Bool) (g : Nat) (wk vv : Int) (w : World) (ht : ts.length ≤ 1048576) (hk : ks.length ≤ 1048576) (hf : fs.length ≤ 1048576) (h : Sep (fps [.blk g 30 #[.slice A0 ts.length c0, .slice A1 ks.length c1, .slice A2 fs.length c2, .int .i64 tn, .bool st], rT ts.length A0 c0 ts, rK ks.length A1 c1 ks, rF fs.length A2 c2 fs]) w w [.blk g 30 #[.slice A0 ts.length c0, .slice A1 ks.length c1, .slice A2 fs.length c2, .int .i64 tn, .bool st], rT ts.length A0 c0 ts, rK ks.length A1 c1 ks, rF fs.length A2 c2 fs]) (k : Nat) (s l o1 wt on v t : Int) (hts : ts[k]? = some ⟨s, l, o1, wt, on, v, t⟩) (hv : btw vv 0 9999 = true) (hr : runM ts wk 0 = k) (t0 : 0 ≤ tn) (t1 : tn ≤ 1000000) (ho : okAll (waitersM (ts.set k ⟨4, l, -1, wt, on, vv, t⟩) 1 k) vv tn = false) :
 Calls Tryz.prog 84 #[.pointer (some ⟨g, 0, none⟩), .int .i64 wk, .int .i64 vv] w (fun r w' => r = .panicked [{ v := .iface 128 (.int .i64 4), recovered := false }] ∧ Sep (fps [.blk g 30 #[.slice A0 ts.length c0, .slice A1 ks.length c1, .slice A2 fs.length c2, .int .i64 tn, .bool st], rT ts.length A0 c0 ts, rK ks.length A1 c1 ks, rF fs.length A2 c2 fs]) w w' []) := by
 have hkl : k < ts.length := by
  rcases Nat.lt_or_ge k ts.length with h1 | h1
  ·exact h1
  ·rw [List.getElem?_eq_none h1] at hts; cases hts
 have hki : (k : Int) < (ts.length : Int) := by omega
 have hk0 : (0 : Int) ≤ (k : Int) := by omega
 have hr9 : (rT ts.length A0 c0 ts).here w := h.rowAt 1 rfl
 obtain ⟨gr, rfl, hgl, hfz9⟩ := rT_form hr9 (show 0 < ts.length by omega)
 clear hr9 hfz9 hgl
 obtain ⟨S, hS⟩ : ∃ S, S = fps [.blk g 30 #[.slice (some ⟨gr, 0, none⟩) ts.length c0, .slice A1 ks.length c1, .slice A2 fs.length c2, .int .i64 tn, .bool st], rT ts.length (some ⟨gr, 0, none⟩) c0 ts, rK ks.length A1 c1 ks, rF fs.length A2 c2 fs] := ⟨_, rfl⟩
 rw [← hS] at h ⊢
 clear hS
 have M0 := hide h
 clear h
 have HT := hide hts
 clear hts
 go_enter Tryz.func84, Tryz.ntmps84
 go_wp2_with fail
 have M := M0.out.allocN 55 #[.int .i64 0, .int .i64 0]
 clear M0
 generalize w.alloc (.cells #[.int .i64 0, .int .i64 0] 55) = W1 at M ⊢
 have hB := between_any vv 0 9999 W1
 rw [hv] at hB
 refine Calls.mono (by with_reducible exact hB) ?_
 clear hB
 rintro r WB ⟨rfl, rfl⟩
 go_wp2_with fail
 go_call (giveUp_no 8 _) as r W ⟨rfl, rfl⟩
 go_wp2_with fail
 go_call (runNone_ok ts (some ⟨gr, 0, none⟩) A1 A2 c0 ks.length c1 fs.length c2 tn st wk g k _ ht (M.blk 1 rfl) (M.rowS 2 rfl) hr hk0) as r W2 ⟨rfl, g1⟩
 replace M := M.call g1
 clear g1
 obtain ⟨tY, Ak, Af, Al, Ac, Ab, Ah, Ag, Ad, Aj, Ai⟩ := M.f5 1 rfl
 have fz0 : W2.frozen? ⟨gr, k * 7, none⟩ = false := Own.fz (M.rowAt 2 rfl) _
 have fz2 : W2.frozen? ⟨gr, k * 7 + 2, none⟩ = false := Own.fz (M.rowAt 2 rfl) _
 have fz5 : W2.frozen? ⟨gr, k * 7 + 5, none⟩ = false := Own.fz (M.rowAt 2 rfl) _
 obtain ⟨s', l', o', wt', on', v', t', ht', y0, y1, y2, y3, y4, y5, y6⟩ := Own.t7 (M.rowAt 2 rfl) hkl
 go_wp2_with fail
 clear tY Ak Af Al Ac Ab Ah Ag Ad Aj Ai fz0 fz2 fz5 ht' y0 y1 y2 y3 y4 y5 y6
 have N : ∃ V, (((W2.setCell ⟨gr, k * 7, none⟩ (.int .i64 4)).setCell ⟨gr, k * 7 + 2, none⟩ (.int .i64 (-1))).setCell ⟨gr, k * 7 + 5, none⟩ (.int .i64 vv)) = V ∧ Sep S w V [.blk (w.heap.size) 55 #[.int .i64 0, .int .i64 0], .blk (g) 30 #[.slice (some ⟨gr, 0, none⟩) ts.length c0, .slice A1 ks.length c1, .slice A2 fs.length c2, .int .i64 tn, .bool st], rT ts.length (some ⟨gr, 0, none⟩) c0 (ts.set k ⟨4, l, -1, wt, on, vv, t⟩), rK ks.length A1 c1 ks, rF fs.length A2 c2 fs] := ⟨_, rfl, by have h2 := (M.putT2 2 rfl k 0 2 (by omega) (by omega) ⟨s, l, o1, wt, on, v, t⟩ 4 (-1) HT.out).putT 2 rfl k 5 (by omega) ⟨4, l, -1, wt, on, v, t⟩ vv (List.getElem?_set_self hkl); simp only [List.set_set] at h2; exact h2⟩
 clear M
 obtain ⟨W3, eW, M⟩ := N
 rw [eW]
 clear eW
 replace M := M.front 2 rfl
 simp only [List.eraseIdx_cons_succ, List.eraseIdx_cons_zero] at M
 replace M := M.front 2 rfl
 simp only [List.eraseIdx_cons_succ, List.eraseIdx_cons_zero] at M
 obtain ⟨us1, hus1⟩ : ∃ us1, us1 = ts.set k ⟨4, l, -1, wt, on, vv, t⟩ := ⟨_, rfl⟩
 rw [← hus1] at M ho
 have hl1 : us1.length = ts.length := by rw [hus1]; simp
 have hA := wakeAll_any us1 (some ⟨gr, 0, none⟩) A1 A2 c0 ks.length c1 fs.length c2 tn st g 1 k vv W3 (by omega) t0 t1 (by rw [hl1]; exact Sep.same (ps := [.blk (g) 30 #[.slice (some ⟨gr, 0, none⟩) ts.length c0, .slice A1 ks.length c1, .slice A2 fs.length c2, .int .i64 tn, .bool st], rT ts.length (some ⟨gr, 0, none⟩) c0 us1]) (rs := [.blk (w.heap.size) 55 #[.int .i64 0, .int .i64 0], rK ks.length A1 c1 ks, rF fs.length A2 c2 fs]) M (Below.refl _ _))
 rw [hl1] at hA
 refine Calls.mono (by with_reducible exact hA) ?_
 clear hA
 rintro r W4 ⟨us, tn', cnt, rfl, hul, g1, hR⟩
 replace M : Sep S w W4 [.blk (g) 30 #[.slice (some ⟨gr, 0, none⟩) ts.length c0, .slice A1 ks.length c1, .slice A2 fs.length c2, .int .i64 tn', .bool st], rT ts.length (some ⟨gr, 0, none⟩) c0 us, .blk (w.heap.size) 55 #[.int .i64 0, .int .i64 0], rK ks.length A1 c1 ks, rF fs.length A2 c2 fs] := Sep.comp (ps := [.blk (g) 30 #[.slice (some ⟨gr, 0, none⟩) ts.length c0, .slice A1 ks.length c1, .slice A2 fs.length c2, .int .i64 tn, .bool st], rT ts.length (some ⟨gr, 0, none⟩) c0 us1]) (rs := [.blk (w.heap.size) 55 #[.int .i64 0, .int .i64 0], rK ks.length A1 c1 ks, rF fs.length A2 c2 fs]) M g1
 clear g1
 obtain rfl : cnt = -1 := hR.elim (fun h => by rw [ho] at h; cases h.1) (fun h => h.2)
 clear hR hul hl1
 go_wp2_with fail
 go_call (giveUp_yes 4 _) as r W ⟨rfl, rfl⟩
 go_wp2_with fail
 exact ⟨rfl, rfl, M.drop 5⟩
set_option maxHeartbeats 800000 in
theorem end_ok (ts : List T7) (ks : List Int) (fs : List F2) (A0 A1 A2 : Option Addr) (c0 c1 c2 : Nat) (tn : Int) (st : Bool) (g : Nat) (wk vv : Int) (w : World) (ht : ts.length ≤ 1048576) (hk : ks.length ≤ 1048576) (hf : fs.length ≤ 1048576) (h : Sep (fps [.blk g 30 #[.slice A0 ts.length c0, .slice A1 ks.length c1, .slice A2 fs.length c2, .int .i64 tn, .bool st], rT ts.length A0 c0 ts, rK ks.length A1 c1 ks, rF fs.length A2 c2 fs]) w w [.blk g 30 #[.slice A0 ts.length c0, .slice A1 ks.length c1, .slice A2 fs.length c2, .int .i64 tn, .bool st], rT ts.length A0 c0 ts, rK ks.length A1 c1 ks, rF fs.length A2 c2 fs]) (k : Nat) (s l o1 wt on v t : Int) (hts : ts[k]? = some ⟨s, l, o1, wt, on, v, t⟩) (hv : btw vv 0 9999 = true) (hr : runM ts wk 0 = k) (t0 : 0 ≤ tn) (t1 : tn ≤ 1000000) (ho : okAll (waitersM (ts.set k ⟨4, l, -1, wt, on, vv, t⟩) 1 k) vv tn = true) :
 Calls Tryz.prog 84 #[.pointer (some ⟨g, 0, none⟩), .int .i64 wk, .int .i64 vv] w (fun r w' => ∃ (D0 D1 D2 : Option Addr) (f0 f1 f2 : Nat), r = .returned (.agg #[.int .i64 1, .int .i64 ((waitersM (ts.set k ⟨4, l, -1, wt, on, vv, t⟩) 1 k).length : Int)]) ∧ Sep (fps [.blk g 30 #[.slice A0 ts.length c0, .slice A1 ks.length c1, .slice A2 fs.length c2, .int .i64 tn, .bool st], rT ts.length A0 c0 ts, rK ks.length A1 c1 ks, rF fs.length A2 c2 fs]) w w' [.blk g 30 #[.slice D0 ts.length f0, .slice D1 ks.length f1, .slice D2 fs.length f2, .int .i64 (tn + ((waitersM (ts.set k ⟨4, l, -1, wt, on, vv, t⟩) 1 k).length : Int)), .bool st], rT ts.length D0 f0 (wakeAllT (waitersM (ts.set k ⟨4, l, -1, wt, on, vv, t⟩) 1 k) (ts.set k ⟨4, l, -1, wt, on, vv, t⟩) tn vv), rK ks.length D1 f1 ks, rF fs.length D2 f2 fs]) := by
 have hkl : k < ts.length := by
  rcases Nat.lt_or_ge k ts.length with h1 | h1
  ·exact h1
  ·rw [List.getElem?_eq_none h1] at hts; cases hts
 have hki : (k : Int) < (ts.length : Int) := by omega
 have hk0 : (0 : Int) ≤ (k : Int) := by omega
 have hr9 : (rT ts.length A0 c0 ts).here w := h.rowAt 1 rfl
 obtain ⟨gr, rfl, hgl, hfz9⟩ := rT_form hr9 (show 0 < ts.length by omega)
 clear hr9 hfz9 hgl
 obtain ⟨S, hS⟩ : ∃ S, S = fps [.blk g 30 #[.slice (some ⟨gr, 0, none⟩) ts.length c0, .slice A1 ks.length c1, .slice A2 fs.length c2, .int .i64 tn, .bool st], rT ts.length (some ⟨gr, 0, none⟩) c0 ts, rK ks.length A1 c1 ks, rF fs.length A2 c2 fs] := ⟨_, rfl⟩
 rw [← hS] at h ⊢
 clear hS
 have M0 := hide h
 clear h
 have HT := hide hts
 clear hts
 go_enter Tryz.func84, Tryz.ntmps84
 go_wp2_with fail
 have M := M0.out.allocN 55 #[.int .i64 0, .int .i64 0]
 clear M0
 generalize w.alloc (.cells #[.int .i64 0, .int .i64 0] 55) = W1 at M ⊢
 have hB := between_any vv 0 9999 W1
 rw [hv] at hB
 refine Calls.mono (by with_reducible exact hB) ?_
 clear hB
 rintro r WB ⟨rfl, rfl⟩
 go_wp2_with fail
 go_call (giveUp_no 8 _) as r W ⟨rfl, rfl⟩
 go_wp2_with fail
 go_call (runNone_ok ts (some ⟨gr, 0, none⟩) A1 A2 c0 ks.length c1 fs.length c2 tn st wk g k _ ht (M.blk 1 rfl) (M.rowS 2 rfl) hr hk0) as r W2 ⟨rfl, g1⟩
 replace M := M.call g1
 clear g1
 obtain ⟨tY, Ak, Af, Al, Ac, Ab, Ah, Ag, Ad, Aj, Ai⟩ := M.f5 1 rfl
 have fz0 : W2.frozen? ⟨gr, k * 7, none⟩ = false := Own.fz (M.rowAt 2 rfl) _
 have fz2 : W2.frozen? ⟨gr, k * 7 + 2, none⟩ = false := Own.fz (M.rowAt 2 rfl) _
 have fz5 : W2.frozen? ⟨gr, k * 7 + 5, none⟩ = false := Own.fz (M.rowAt 2 rfl) _
 obtain ⟨s', l', o', wt', on', v', t', ht', y0, y1, y2, y3, y4, y5, y6⟩ := Own.t7 (M.rowAt 2 rfl) hkl
 go_wp2_with fail
 clear tY Ak Af Al Ac Ab Ah Ag Ad Aj Ai fz0 fz2 fz5 ht' y0 y1 y2 y3 y4 y5 y6
 have N : ∃ V, (((W2.setCell ⟨gr, k * 7, none⟩ (.int .i64 4)).setCell ⟨gr, k * 7 + 2, none⟩ (.int .i64 (-1))).setCell ⟨gr, k * 7 + 5, none⟩ (.int .i64 vv)) = V ∧ Sep S w V [.blk (w.heap.size) 55 #[.int .i64 0, .int .i64 0], .blk (g) 30 #[.slice (some ⟨gr, 0, none⟩) ts.length c0, .slice A1 ks.length c1, .slice A2 fs.length c2, .int .i64 tn, .bool st], rT ts.length (some ⟨gr, 0, none⟩) c0 (ts.set k ⟨4, l, -1, wt, on, vv, t⟩), rK ks.length A1 c1 ks, rF fs.length A2 c2 fs] := ⟨_, rfl, by have h2 := (M.putT2 2 rfl k 0 2 (by omega) (by omega) ⟨s, l, o1, wt, on, v, t⟩ 4 (-1) HT.out).putT 2 rfl k 5 (by omega) ⟨4, l, -1, wt, on, v, t⟩ vv (List.getElem?_set_self hkl); simp only [List.set_set] at h2; exact h2⟩
 clear M
 obtain ⟨W3, eW, M⟩ := N
 rw [eW]
 clear eW
 replace M := M.front 2 rfl
 simp only [List.eraseIdx_cons_succ, List.eraseIdx_cons_zero] at M
 replace M := M.front 2 rfl
 simp only [List.eraseIdx_cons_succ, List.eraseIdx_cons_zero] at M
 obtain ⟨us1, hus1⟩ : ∃ us1, us1 = ts.set k ⟨4, l, -1, wt, on, vv, t⟩ := ⟨_, rfl⟩
 rw [← hus1] at M ho
 have hl1 : us1.length = ts.length := by rw [hus1]; simp
 have hA := wakeAll_any us1 (some ⟨gr, 0, none⟩) A1 A2 c0 ks.length c1 fs.length c2 tn st g 1 k vv W3 (by omega) t0 t1 (by rw [hl1]; exact Sep.same (ps := [.blk (g) 30 #[.slice (some ⟨gr, 0, none⟩) ts.length c0, .slice A1 ks.length c1, .slice A2 fs.length c2, .int .i64 tn, .bool st], rT ts.length (some ⟨gr, 0, none⟩) c0 us1]) (rs := [.blk (w.heap.size) 55 #[.int .i64 0, .int .i64 0], rK ks.length A1 c1 ks, rF fs.length A2 c2 fs]) M (Below.refl _ _))
 rw [hl1] at hA
 refine Calls.mono (by with_reducible exact hA) ?_
 clear hA
 rintro r W4 ⟨us, tn', cnt, rfl, hul, g1, hR⟩
 replace M : Sep S w W4 [.blk (g) 30 #[.slice (some ⟨gr, 0, none⟩) ts.length c0, .slice A1 ks.length c1, .slice A2 fs.length c2, .int .i64 tn', .bool st], rT ts.length (some ⟨gr, 0, none⟩) c0 us, .blk (w.heap.size) 55 #[.int .i64 0, .int .i64 0], rK ks.length A1 c1 ks, rF fs.length A2 c2 fs] := Sep.comp (ps := [.blk (g) 30 #[.slice (some ⟨gr, 0, none⟩) ts.length c0, .slice A1 ks.length c1, .slice A2 fs.length c2, .int .i64 tn, .bool st], rT ts.length (some ⟨gr, 0, none⟩) c0 us1]) (rs := [.blk (w.heap.size) 55 #[.int .i64 0, .int .i64 0], rK ks.length A1 c1 ks, rF fs.length A2 c2 fs]) M g1
 clear g1
 have HR : Hid (us = wakeAllT (waitersM us1 1 k) us1 tn vv ∧ us1 = ts.set k ⟨4, l, -1, wt, on, vv, t⟩) := hide ⟨hR.elim (fun h => h.2.2.1) (fun h => by rw [ho] at h; cases h.1), hus1⟩
 obtain ⟨hcn, htn⟩ : cnt = ((waitersM us1 1 k).length : Int) ∧ tn' = tn + ((waitersM us1 1 k).length : Int) := hR.elim (fun h => ⟨h.2.1, h.2.2.2⟩) (fun h => by rw [ho] at h; cases h.1)
 clear hR hus1 ho
 obtain ⟨nL, hnL⟩ : ∃ nL, nL = (waitersM us1 1 k).length := ⟨_, rfl⟩
 rw [← hnL] at hcn htn
 subst hcn htn
 have HN := hide hnL
 clear hnL hul hl1
 have hne : ((nL : Int) == -1) = false := by rw [beq_eq_false_iff_ne]; omega
 go_wp2_with fail
 go_call (giveUp_no 4 _) as r W ⟨rfl, rfl⟩
 go_wp2_with fail
 go_call (okWith_any nL _) as r WO ⟨rfl, g1⟩
 replace M := M.call g1
 clear g1
 obtain ⟨tR, Ae, An, Aa, Am⟩ := M.f2 2 rfl
 go_wp2_with fail
 clear tR Ae An Aa Am
 have N := M.gset2 2 rfl (.int .i64 1) (.int .i64 nL)
 clear M
 obtain ⟨W5, eW, M⟩ := N
 rw [eW]
 clear eW
 simp only [List.set_cons_zero, List.set_cons_succ] at M
 replace M := M.front 4 rfl
 simp only [List.eraseIdx_cons_succ, List.eraseIdx_cons_zero] at M
 replace M := M.front 4 rfl
 simp only [List.eraseIdx_cons_succ, List.eraseIdx_cons_zero] at M
 replace M := M.front 3 rfl
 simp only [List.eraseIdx_cons_succ, List.eraseIdx_cons_zero] at M
 replace M := M.front 3 rfl
 simp only [List.eraseIdx_cons_succ, List.eraseIdx_cons_zero] at M
 obtain ⟨tR, Ae, Aa⟩ := M.q2 4 rfl
 have hfin : us = wakeAllT (waitersM (ts.set k ⟨4, l, -1, wt, on, vv, t⟩) 1 k) (ts.set k ⟨4, l, -1, wt, on, vv, t⟩) tn vv := by rw [← HR.out.2]; exact HR.out.1
 have hnn : nL = (waitersM (ts.set k ⟨4, l, -1, wt, on, vv, t⟩) 1 k).length := by rw [← HR.out.2]; exact HN.out
 exact bodyPost_ret (v := .agg #[.int .i64 1, .int .i64 nL]) (by simp [results, Tryz.results84, go_sem, Ae, Aa]) rfl (by rw [← hfin, ← hnn]; exact ⟨(some ⟨gr, 0, none⟩), A1, A2, c0, c1, c2, rfl, M.take 4⟩)
end Go.Proofs.YtfjgelegojbmgaaGreat
