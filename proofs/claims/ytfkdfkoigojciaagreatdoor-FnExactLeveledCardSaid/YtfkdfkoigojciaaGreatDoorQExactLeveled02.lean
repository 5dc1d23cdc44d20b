/- Leveled of the program and of the model answer alike. Lists no longer than a million. -/
import Derived.Shelf.Abstract
import Derived.Test.YtfkdfkoigojciaaGreatDoorQB09
import Derived.Test.YtfkdfkoigojciaaGreatDoorQB12
import Derived.Test.YtfkdfkoigojciaaGreatDoorQB15
import Derived.Test.YtfkdfkoigojciaaGreatDoorQExactLeveled01

namespace Go.Proofs.YtfkdfkoigojciaaGreatDoor
open Go.RowKit
set_option linter.unusedVariables false
set_option maxRecDepth 100000
theorem Sep.enterSixL {o1 o2 o3 o4 o5 o6 : Array Value} {t1 t2 t3 t4 t5 t6 : TypeId} (w : World) : Sep [] w ((((((w.alloc (.cells o1 t1)).alloc (.cells o2 t2)).alloc (.cells o3 t3)).alloc (.cells o4 t4)).alloc (.cells o5 t5)).alloc (.cells o6 t6)) [.blk (w.heap.size + 5) t6 o6, .blk (w.heap.size + 4) t5 o5, .blk (w.heap.size + 3) t4 o4, .blk (w.heap.size + 2) t3 o3, .blk (w.heap.size + 1) t2 o2, .blk w.heap.size t1 o1] :=
 (Sep.enter5 w).alloc t6 o6 _ (by simp)
set_option maxHeartbeats 400000 in
theorem leveledC (a b c d e : Int) (id : Int) (lv : Int) (bP : Nat) (bid : Nat) (blv : Nat) (g : Nat) (V : World) (hP : ∀ j, V.cell? ⟨bP, j, none⟩ = (#[.int .i64 a, .int .i64 b, .int .i64 c, .int .i64 d, .int .i64 e] : Array Value)[j]?) (lP : bP < V.heap.size) (hid : V.cell? ⟨bid, 0, none⟩ = some (.int .i64 id)) (lid : bid < V.heap.size) (hlv : V.cell? ⟨blv, 0, none⟩ = some (.int .i64 lv)) (llv : blv < V.heap.size) (er : Value) (R : World → Prop)
 (hb : Calls Tryz.prog 70 #[.pointer (some ⟨g, 0, none⟩), .agg #[.int .i64 a, .int .i64 b, .int .i64 c, .int .i64 d, .int .i64 e], .int .i64 id, .int .i64 lv] V (fun r w' => r = .returned er ∧ R w')) :
 Calls Tryz.prog 69 (#[.pointer (some ⟨g, 0, none⟩)] ++ #[.pointer (some ⟨bP, 0, none⟩), .pointer (some ⟨bid, 0, none⟩), .pointer (some ⟨blv, 0, none⟩)]) V (fun r w' => r = .returned er ∧ R w') := by
 have HB := hide hb
 clear hb
 have Ap : V.cell? ⟨bP, 0, none⟩ = some (.int .i64 a) := hP 0
 have Ao : V.cell? ⟨bP, 1, none⟩ = some (.int .i64 b) := hP 1
 have Ar : V.cell? ⟨bP, 2, none⟩ = some (.int .i64 c) := hP 2
 have Aq : V.cell? ⟨bP, 3, none⟩ = some (.int .i64 d) := hP 3
 have As : V.cell? ⟨bP, 4, none⟩ = some (.int .i64 e) := hP 4
 clear hP
 show Calls Tryz.prog 69 #[.pointer (some ⟨g, 0, none⟩), .pointer (some ⟨bP, 0, none⟩), .pointer (some ⟨bid, 0, none⟩), .pointer (some ⟨blv, 0, none⟩)] V _
 go_enter Tryz.func69, Tryz.ntmps69
 go_wp2_with fail
 refine Calls.mono (by with_reducible exact HB.out) ?_
 rintro r W ⟨rfl, hR⟩
 go_wp2_with fail
 go_ret
 exact ⟨rfl, hR⟩
set_option maxHeartbeats 800000 in
theorem gLeveled_face (a b c d e : Int) (ts : List T7) (ks : List Int) (fs : List F2) (A0 A1 A2 : Option Addr) (c0 c1 c2 : Nat) (tn : Int) (st : Bool) (wk : Int) (id : Int) (lv : Int) (w : World) (ht : ts.length ≤ 1048576) (hk : ks.length ≤ 1048576) (hf : fs.length ≤ 1048576) (h : InPool w ts ks fs A0 A1 A2) (o : OutP)
 (hL : ∀ (V : World) (bP bid blv : Nat), Below w.heap.size w V → (∀ j, V.cell? ⟨bP, j, none⟩ = (#[.int .i64 a, .int .i64 b, .int .i64 c, .int .i64 d, .int .i64 e] : Array Value)[j]?) → bP < V.heap.size → V.cell? ⟨bid, 0, none⟩ = some (.int .i64 id) → bid < V.heap.size → V.cell? ⟨blv, 0, none⟩ = some (.int .i64 lv) → blv < V.heap.size → Calls Tryz.prog 59 #[.agg #[.int .i64 a, .int .i64 b, .int .i64 c, .int .i64 d, .int .i64 e], .agg #[.slice A0 ts.length c0, .slice A1 ks.length c1, .slice A2 fs.length c2, .int .i64 tn, .bool st], .int .i64 wk, .func (.func 69) #[] #[.pointer (some ⟨bP, 0, none⟩), .pointer (some ⟨bid, 0, none⟩), .pointer (some ⟨blv, 0, none⟩)]] V (GaveS [] V o)) :
 Calls Tryz.prog 24 #[.agg #[.int .i64 a, .int .i64 b, .int .i64 c, .int .i64 d, .int .i64 e], .agg #[.slice A0 ts.length c0, .slice A1 ks.length c1, .slice A2 fs.length c2, .int .i64 tn, .bool st], .int .i64 wk, .int .i64 id, .int .i64 lv] w (GaveS [] w o) := by
 have hmf : ∀ (fn : Fn) (first cap : Array Value) (w : World), (Instr.makeFunc fn first cap).run Tryz.prog w = .ok (.func fn first cap) w := fun _ _ _ _ => rfl
 have HL := hide hL
 have H := hide h
 clear h hL
 go_enter Tryz.func24, Tryz.ntmps24
 go_wp2_with fail
 have M : Sep [] w ((((((w.alloc (.cells #[.int .i64 a, .int .i64 b, .int .i64 c, .int .i64 d, .int .i64 e] 28)).alloc (.cells #[.slice A0 ts.length c0, .slice A1 ks.length c1, .slice A2 fs.length c2, .int .i64 tn, .bool st] 35)).alloc (.cells #[.int .i64 id] 2)).alloc (.cells #[.int .i64 lv] 2)).alloc (.cells #[.slice none 0 0, .slice none 0 0, .slice none 0 0, .int .i64 0, .bool false] 35)).alloc (.cells #[.int .i64 0, .int .i64 0] 38)) [.blk (w.heap.size + 5) 38 #[.int .i64 0, .int .i64 0], .blk (w.heap.size + 4) 35 #[.slice none 0 0, .slice none 0 0, .slice none 0 0, .int .i64 0, .bool false], .blk (w.heap.size + 3) 2 #[.int .i64 lv], .blk (w.heap.size + 2) 2 #[.int .i64 id], .blk (w.heap.size + 1) 35 #[.slice A0 ts.length c0, .slice A1 ks.length c1, .slice A2 fs.length c2, .int .i64 tn, .bool st], .blk (w.heap.size) 28 #[.int .i64 a, .int .i64 b, .int .i64 c, .int .i64 d, .int .i64 e]] := Sep.enterSixL w
 generalize (((((w.alloc (.cells #[.int .i64 a, .int .i64 b, .int .i64 c, .int .i64 d, .int .i64 e] 28)).alloc (.cells #[.slice A0 ts.length c0, .slice A1 ks.length c1, .slice A2 fs.length c2, .int .i64 tn, .bool st] 35)).alloc (.cells #[.int .i64 id] 2)).alloc (.cells #[.int .i64 lv] 2)).alloc (.cells #[.slice none 0 0, .slice none 0 0, .slice none 0 0, .int .i64 0, .bool false] 35)).alloc (.cells #[.int .i64 0, .int .i64 0] 38) = W1 at M ⊢
 obtain ⟨tS, Ac, Ak, Ad, Ai⟩ := M.f2 0 rfl
 obtain ⟨tR, Ae, Ah, Af, An, Aa, Am, Ab, Al, Ag, Aj⟩ := M.f5 1 rfl
 obtain ⟨tVlv, qVlv0, fVlv0⟩ := M.f1 2 rfl
 obtain ⟨tVid, qVid0, fVid0⟩ := M.f1 3 rfl
 obtain ⟨tX, Bc, Ba, Bd, Bh, Bb, Ax, Be, Bf, At, Av⟩ := M.f5 4 rfl
 obtain ⟨tP, Ap, Bg, Ao, Az, Ar, Ay, Aq, Aw, As, Au⟩ := M.f5 5 rfl
 go_wp2_with fail
 have hC := HL.out _ (w.heap.size) (w.heap.size + 2) (w.heap.size + 3) M.below (fun j => M.cell 5 j rfl) (M.lt 5 rfl) (M.cell 3 0 rfl) (M.lt 3 rfl) (M.cell 2 0 rfl) (M.lt 2 rfl)
 refine Calls.mono (by with_reducible exact hC) ?_
 clear hC
 rintro r W2 ⟨B0, B1, B2, d0, d1, d2, rfl, g1⟩
 clear tS Ac Ak Ad Ai tR Ae Ah Af An Aa Am Ab Al Ag Aj tVlv qVlv0 fVlv0 tVid qVid0 fVid0 tX Bc Ba Bd Bh Bb Ax Be Bf At Av tP Ap Bg Ao Az Ar Ay Aq Aw As Au
 replace M := Sep.new M g1
 simp only [List.cons_append, List.nil_append] at M
 clear g1
 obtain ⟨tS, Ac, Ak, Ad, Ai⟩ := M.f2 3 rfl
 obtain ⟨tR, Ae, Ah, Af, An, Aa, Am, Ab, Al, Ag, Aj⟩ := M.f5 4 rfl
 go_wp2_with fail
 clear tS Ac Ak Ad Ai tR Ae Ah Af An Aa Am Ab Al Ag Aj
 have N := M.gset5 4 rfl (.slice B0 o.ts.length d0) (.slice B1 o.ks.length d1) (.slice B2 o.fs.length d2) (.int .i64 o.tn) (.bool o.st)
 clear M
 obtain ⟨W3, eW, M⟩ := N
 rw [eW]
 clear eW
 simp only [List.set_cons_zero, List.set_cons_succ] at M
 have N := M.gset2 3 rfl (.int .i64 o.rp) (.int .i64 o.ou)
 clear M
 obtain ⟨W4, eW, M⟩ := N
 rw [eW]
 clear eW
 simp only [List.set_cons_zero, List.set_cons_succ] at M
 obtain ⟨tS, Ac, Ad⟩ := M.q2 3 rfl
 obtain ⟨tR, Ae, Af, Aa, Ab, Ag⟩ := M.q5 4 rfl
 exact bodyPost_ret (by simp [results, Tryz.results24, go_sem, Ae, Af, Aa, Ab, Ag, Ac, Ad]) rfl ⟨B0, B1, B2, d0, d1, d2, rfl, M.take 3⟩
theorem leveled_told (a b c d e : Int) (ts : List T7) (ks : List Int) (fs : List F2) (tn : Int) (st : Bool) (wk : Int) (id : Int) (lv : Int) (hl : ts.length + ks.length + fs.length ≤ 1048576) :
 ∃ (us : List T7) (ks2 : List Int) (fs2 : List F2) (tn2 : Int) (st2 : Bool) (rp ou : Int), us.length + ks2.length + fs2.length ≤ 1048576 ∧
 ((rp = 1 → poolB a b c d e ts ks fs tn = true ∧ ∃ (k : Nat) (x : T7), id = k ∧ ts[k]? = some x ∧ us = ts.set k ⟨x.s, lv, x.o, x.wt, x.on, x.v, x.t⟩ ∧ ou = x.l ∧ ks2 = ks ∧ fs2 = fs ∧ tn2 = tn ∧ st2 = st) ∧ (rp ≠ 1 → poolB a b c d e ts ks fs tn = true → us = ts ∧ ks2 = ks ∧ fs2 = fs ∧ tn2 = tn ∧ st2 = st)) ∧
 Hid (∀ (A0 A1 A2 : Option Addr) (c0 c1 c2 : Nat) (w : World), InPool w ts ks fs A0 A1 A2 → Calls Tryz.prog 25 #[.agg #[.int .i64 a, .int .i64 b, .int .i64 c, .int .i64 d, .int .i64 e], .agg #[.slice A0 ts.length c0, .slice A1 ks.length c1, .slice A2 fs.length c2, .int .i64 tn, .bool st], .int .i64 wk, .int .i64 id, .int .i64 lv] w (GaveA us ks2 fs2 tn2 st2 rp ou w)) ∧
 Hid (∀ (A0 A1 A2 : Option Addr) (c0 c1 c2 : Nat) (w : World), Laid w → InPool w ts ks fs A0 A1 A2 → Calls Tryz.prog 24 #[.agg #[.int .i64 a, .int .i64 b, .int .i64 c, .int .i64 d, .int .i64 e], .agg #[.slice A0 ts.length c0, .slice A1 ks.length c1, .slice A2 fs.length c2, .int .i64 tn, .bool st], .int .i64 wk, .int .i64 id, .int .i64 lv] w (GaveA us ks2 fs2 tn2 st2 rp ou w)) := by
 have ht : ts.length ≤ 1048576 := by omega
 have hk : ks.length ≤ 1048576 := by omega
 have hf : fs.length ≤ 1048576 := by omega
 cases hp : poolB a b c d e ts ks fs tn
 ·exact ⟨[], [], [], 0, false, 8, 0, by simp, ⟨fun h => by omega, fun _ h => by cases h⟩, hide (fun A0 A1 A2 c0 c1 c2 w h => (lev_may a b c d e ts ks fs A0 A1 A2 c0 c1 c2 tn st wk id lv w ht hk hf h (by simp [mayB, hp])).mono (fun r w' hh => by rw [hp] at hh; exact hh)), hide (fun A0 A1 A2 c0 c1 c2 w hg h => gLeveled_face a b c d e ts ks fs A0 A1 A2 c0 c1 c2 tn st wk id lv w ht hk hf h ⟨[], [], [], 0, false, 8, 0⟩ (fun V bP bid blv hV hP lP hid lid hlv llv => livedAs_bad a b c d e ts ks fs A0 A1 A2 c0 c1 c2 tn st wk 69 #[.pointer (some ⟨bP, 0, none⟩), .pointer (some ⟨bid, 0, none⟩), .pointer (some ⟨blv, 0, none⟩)] V ht hk hf (h.below hV) hp))⟩
 have hpl := (poolB_parts hp).1
 have hT := (poolB_parts hp).2.1
 cases hw : btw wk 0 (a - 1)
 ·exact ⟨ts, ks, fs, tn, st, 8, 0, hl, ⟨fun h => by omega, fun _ _ => ⟨rfl, rfl, rfl, rfl, rfl⟩⟩, hide (fun A0 A1 A2 c0 c1 c2 w h => (lev_may a b c d e ts ks fs A0 A1 A2 c0 c1 c2 tn st wk id lv w ht hk hf h (by simp [mayB, workB, hp, hw])).mono (fun r w' hh => by rw [hp] at hh; exact hh)), hide (fun A0 A1 A2 c0 c1 c2 w hg h => gLeveled_face a b c d e ts ks fs A0 A1 A2 c0 c1 c2 tn st wk id lv w ht hk hf h ⟨ts, ks, fs, tn, st, 8, 0⟩ (fun V bP bid blv hV hP lP hid lid hlv llv => livedAs_worker a b c d e ts ks fs A0 A1 A2 c0 c1 c2 tn st wk 69 #[.pointer (some ⟨bP, 0, none⟩), .pointer (some ⟨bid, 0, none⟩), .pointer (some ⟨blv, 0, none⟩)] V ht hk hf (h.below hV) hp hw))⟩
 have hm : mayB a b c d e ts ks fs tn wk = true := by simp [mayB, workB, hp, hw, hpl]
 obtain ⟨pl1, pl2⟩ : 1 ≤ c ∧ c ≤ 30 := by have := planB_c hpl; omega
 cases hh : btw id 0 ((ts.length : Int) - 1)
 ·exact ⟨ts, ks, fs, tn, st, 8, 0, hl, ⟨fun h => by omega, fun _ _ => ⟨rfl, rfl, rfl, rfl, rfl⟩⟩, hide (fun A0 A1 A2 c0 c1 c2 w h => (lev_has a b c d e ts ks fs A0 A1 A2 c0 c1 c2 tn st wk id lv w ht hk hf h hm hh).mono (fun r w' hh => by rw [hp] at hh; exact hh)), hide (fun A0 A1 A2 c0 c1 c2 w hg h => gLeveled_face a b c d e ts ks fs A0 A1 A2 c0 c1 c2 tn st wk id lv w ht hk hf h ⟨ts, ks, fs, tn, st, 8, 0⟩ (fun V bP bid blv hV hP lP hid lid hlv llv => livedAs_no a b c d e ts ks fs A0 A1 A2 c0 c1 c2 tn st wk 69 #[.pointer (some ⟨bP, 0, none⟩), .pointer (some ⟨bid, 0, none⟩), .pointer (some ⟨blv, 0, none⟩)] (Go.Proofs.enters_of Tryz.func69 (by kernel_rfl) rfl) V ht hk hf (h.below hV) (hg.below hV) hp hw 8 (by omega) (by omega) (fun V2 g C0 C1 C2 e0 e1 e2 hV2 hM => leveledC a b c d e id lv bP bid blv g V2 (fun j => (hV2.cell (p := ⟨bP, j, none⟩) lP).trans (hP j)) (Nat.lt_of_lt_of_le lP hV2.size) ((hV2.cell (p := ⟨bid, 0, none⟩) lid).trans hid) (Nat.lt_of_lt_of_le lid hV2.size) ((hV2.cell (p := ⟨blv, 0, none⟩) llv).trans hlv) (Nat.lt_of_lt_of_le llv hV2.size) _ _ (setLevel_has ts ks fs C0 C1 C2 e0 e1 e2 tn st g a b c d e id lv V2 ht hk hf hM pl1 pl2 hh))))⟩
 cases hq9 : btw lv 0 (c - 1)
 ·exact ⟨ts, ks, fs, tn, st, 8, 0, hl, ⟨fun h => by omega, fun _ _ => ⟨rfl, rfl, rfl, rfl, rfl⟩⟩, hide (fun A0 A1 A2 c0 c1 c2 w h => (lev_lev a b c d e ts ks fs A0 A1 A2 c0 c1 c2 tn st wk id lv w ht hk hf h hm hh (by simp [levelB, hq9])).mono (fun r w' hh => by rw [hp] at hh; exact hh)), hide (fun A0 A1 A2 c0 c1 c2 w hg h => gLeveled_face a b c d e ts ks fs A0 A1 A2 c0 c1 c2 tn st wk id lv w ht hk hf h ⟨ts, ks, fs, tn, st, 8, 0⟩ (fun V bP bid blv hV hP lP hid lid hlv llv => livedAs_no a b c d e ts ks fs A0 A1 A2 c0 c1 c2 tn st wk 69 #[.pointer (some ⟨bP, 0, none⟩), .pointer (some ⟨bid, 0, none⟩), .pointer (some ⟨blv, 0, none⟩)] (Go.Proofs.enters_of Tryz.func69 (by kernel_rfl) rfl) V ht hk hf (h.below hV) (hg.below hV) hp hw 8 (by omega) (by omega) (fun V2 g C0 C1 C2 e0 e1 e2 hV2 hM => leveledC a b c d e id lv bP bid blv g V2 (fun j => (hV2.cell (p := ⟨bP, j, none⟩) lP).trans (hP j)) (Nat.lt_of_lt_of_le lP hV2.size) ((hV2.cell (p := ⟨bid, 0, none⟩) lid).trans hid) (Nat.lt_of_lt_of_le lid hV2.size) ((hV2.cell (p := ⟨blv, 0, none⟩) llv).trans hlv) (Nat.lt_of_lt_of_le llv hV2.size) _ _ (setLevel_lev ts ks fs C0 C1 C2 e0 e1 e2 tn st g a b c d e id lv V2 ht hk hf hM pl1 pl2 hh hq9))))⟩
 have hlb : levelB a b c d e lv = true := by simp [levelB, hq9, hpl]
 obtain ⟨k, s, l, o1, wt, on, v, t, rfl, hkl, hts⟩ := task_nat hh
 cases ho : openB s
 ·exact ⟨ts, ks, fs, tn, st, 5, 0, hl, ⟨fun h => by omega, fun _ _ => ⟨rfl, rfl, rfl, rfl, rfl⟩⟩, hide (fun A0 A1 A2 c0 c1 c2 w h => (lev_gone a b c d e ts ks fs A0 A1 A2 c0 c1 c2 tn st wk k lv w ht hk hf h k s l o1 wt on v t rfl hts hm hh hlb ho).mono (fun r w' hh => by rw [hp] at hh; exact hh)), hide (fun A0 A1 A2 c0 c1 c2 w hg h => gLeveled_face a b c d e ts ks fs A0 A1 A2 c0 c1 c2 tn st wk k lv w ht hk hf h ⟨ts, ks, fs, tn, st, 5, 0⟩ (fun V bP bid blv hV hP lP hid lid hlv llv => livedAs_no a b c d e ts ks fs A0 A1 A2 c0 c1 c2 tn st wk 69 #[.pointer (some ⟨bP, 0, none⟩), .pointer (some ⟨bid, 0, none⟩), .pointer (some ⟨blv, 0, none⟩)] (Go.Proofs.enters_of Tryz.func69 (by kernel_rfl) rfl) V ht hk hf (h.below hV) (hg.below hV) hp hw 5 (by omega) (by omega) (fun V2 g C0 C1 C2 e0 e1 e2 hV2 hM => leveledC a b c d e k lv bP bid blv g V2 (fun j => (hV2.cell (p := ⟨bP, j, none⟩) lP).trans (hP j)) (Nat.lt_of_lt_of_le lP hV2.size) ((hV2.cell (p := ⟨bid, 0, none⟩) lid).trans hid) (Nat.lt_of_lt_of_le lid hV2.size) ((hV2.cell (p := ⟨blv, 0, none⟩) llv).trans hlv) (Nat.lt_of_lt_of_le llv hV2.size) _ _ (setLevel_gone ts ks fs C0 C1 C2 e0 e1 e2 tn st g a b c d e lv k s l o1 wt on v t hts V2 ht hk hf hM pl1 pl2 hh hq9 ho))))⟩
 ·have hz := levelP_right hp hts hq9
  exact ⟨(ts.set k ⟨s, lv, o1, wt, on, v, t⟩), ks, fs, tn, st, 1, l, by simpa using hl, ⟨fun _ => ⟨rfl, k, _, rfl, hts, rfl, rfl, rfl, rfl, rfl, rfl⟩, fun h => absurd rfl h⟩, hide (fun A0 A1 A2 c0 c1 c2 w h => (lev_main a b c d e ts ks fs A0 A1 A2 c0 c1 c2 tn st wk k lv w ht hk hf h k s l o1 wt on v t rfl hts hm hh hlb ho).mono (fun r w' hh => by rw [hz] at hh; exact hh)), hide (fun A0 A1 A2 c0 c1 c2 w hg h => gLeveled_face a b c d e ts ks fs A0 A1 A2 c0 c1 c2 tn st wk k lv w ht hk hf h ⟨(ts.set k ⟨s, lv, o1, wt, on, v, t⟩), ks, fs, tn, st, 1, l⟩ (fun V bP bid blv hV hP lP hid lid hlv llv => livedAs_yes a b c d e ts ks fs A0 A1 A2 c0 c1 c2 tn st wk 69 #[.pointer (some ⟨bP, 0, none⟩), .pointer (some ⟨bid, 0, none⟩), .pointer (some ⟨blv, 0, none⟩)] (Go.Proofs.enters_of Tryz.func69 (by kernel_rfl) rfl) V ht hk hf (h.below hV) (hg.below hV) hp hw ⟨(ts.set k ⟨s, lv, o1, wt, on, v, t⟩), ks, fs, tn, st, 1, l⟩ (.inl rfl) (fun V2 g C0 C1 C2 e0 e1 e2 hV2 hM => leveledC a b c d e k lv bP bid blv g V2 (fun j => (hV2.cell (p := ⟨bP, j, none⟩) lP).trans (hP j)) (Nat.lt_of_lt_of_le lP hV2.size) ((hV2.cell (p := ⟨bid, 0, none⟩) lid).trans hid) (Nat.lt_of_lt_of_le lid hV2.size) ((hV2.cell (p := ⟨blv, 0, none⟩) llv).trans hlv) (Nat.lt_of_lt_of_le llv hV2.size) _ _ (setLevel_ok ts ks fs C0 C1 C2 e0 e1 e2 tn st g a b c d e lv k s l o1 wt on v t hts V2 ht hk hf hM pl1 pl2 hh hq9 ho))))⟩
end Go.Proofs.YtfkdfkoigojciaaGreatDoor
