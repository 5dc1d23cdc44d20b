import Derived.Shelf.Abstract
import Derived.Test.YtfkdfkoigojciaaGreatDoorQU18
import Derived.Test.YtfkdfkoigojciaaGreatDoorQU25
import Derived.Test.YtfkdfkoigojciaaGreatDoorQU26
import Derived.Test.YtfkdfkoigojciaaGreatDoorQU27
import Derived.Test.YtfkdfkoigojciaaGreatDoorQU28
import Derived.Test.YtfkdfkoigojciaaGreatDoorQU20
import Derived.Test.YtfkdfkoigojciaaGreatDoorQU14

namespace Go.Proofs.YtfkdfkoigojciaaGreatDoor
open Go.RowKit
set_option linter.unusedVariables false
set_option maxHeartbeats 800000
set_option maxRecDepth 100000
theorem Sep.enterSixD {o1 o2 o3 o4 o5 o6 : Array Value} {t1 t2 t3 t4 t5 t6 : TypeId} (w : World) : Sep [] w ((((((w.alloc (.cells o1 t1)).alloc (.cells o2 t2)).alloc (.cells o3 t3)).alloc (.cells o4 t4)).alloc (.cells o5 t5)).alloc (.cells o6 t6)) [.blk (w.heap.size + 5) t6 o6, .blk (w.heap.size + 4) t5 o5, .blk (w.heap.size + 3) t4 o4, .blk (w.heap.size + 2) t3 o3, .blk (w.heap.size + 1) t2 o2, .blk w.heap.size t1 o1] :=
 (Sep.enter5 w).alloc t6 o6 _ (by simp)
theorem downedC (a b c d e : Int) (wk : Int) (id : Int) (bP : Nat) (bwk : Nat) (bid : Nat) (g : Nat) (V : World) (hP : ∀ j, V.cell? ⟨bP, j, none⟩ = (#[.int .i64 a, .int .i64 b, .int .i64 c, .int .i64 d, .int .i64 e] : Array Value)[j]?) (lP : bP < V.heap.size) (hwk : V.cell? ⟨bwk, 0, none⟩ = some (.int .i64 wk)) (lwk : bwk < V.heap.size) (hid : V.cell? ⟨bid, 0, none⟩ = some (.int .i64 id)) (lid : bid < V.heap.size) (er : Value) (R : World → Prop)
 (hb : Calls Tryz.prog 93 #[.pointer (some ⟨g, 0, none⟩), .agg #[.int .i64 a, .int .i64 b, .int .i64 c, .int .i64 d, .int .i64 e], .int .i64 wk, .int .i64 id] V (fun r w' => r = .returned er ∧ R w')) :
 Calls Tryz.prog 92 (#[.pointer (some ⟨g, 0, none⟩)] ++ #[.pointer (some ⟨bP, 0, none⟩), .pointer (some ⟨bwk, 0, none⟩), .pointer (some ⟨bid, 0, none⟩)]) V (fun r w' => r = .returned er ∧ R w') := by
 have HB := hide hb
 clear hb
 have Aq : V.cell? ⟨bP, 0, none⟩ = some (.int .i64 a) := hP 0
 have Ap : V.cell? ⟨bP, 1, none⟩ = some (.int .i64 b) := hP 1
 have As : V.cell? ⟨bP, 2, none⟩ = some (.int .i64 c) := hP 2
 have Ar : V.cell? ⟨bP, 3, none⟩ = some (.int .i64 d) := hP 3
 have Ao : V.cell? ⟨bP, 4, none⟩ = some (.int .i64 e) := hP 4
 clear hP
 show Calls Tryz.prog 92 #[.pointer (some ⟨g, 0, none⟩), .pointer (some ⟨bP, 0, none⟩), .pointer (some ⟨bwk, 0, none⟩), .pointer (some ⟨bid, 0, none⟩)] V _
 go_enter Tryz.func92, Tryz.ntmps92
 go_wp2_with fail
 refine Calls.mono (by with_reducible exact HB.out) ?_
 rintro r W ⟨rfl, hR⟩
 go_wp2_with fail
 go_ret
 exact ⟨rfl, hR⟩
theorem gDowned_face (a b c d e : Int) (ts : List T7) (ks : List Int) (fs : List F2) (A0 A1 A2 : Option Addr) (c0 c1 c2 : Nat) (tn : Int) (st : Bool) (wk : Int) (id : Int) (w : World) (ht : ts.length ≤ 1048576) (hk : ks.length ≤ 1048576) (hf : fs.length ≤ 1048576) (h : InPool w ts ks fs A0 A1 A2) (o : OutP)
 (hL : ∀ (V : World) (bP bwk bid : Nat), Below w.heap.size w V → (∀ j, V.cell? ⟨bP, j, none⟩ = (#[.int .i64 a, .int .i64 b, .int .i64 c, .int .i64 d, .int .i64 e] : Array Value)[j]?) → bP < V.heap.size → V.cell? ⟨bwk, 0, none⟩ = some (.int .i64 wk) → bwk < V.heap.size → V.cell? ⟨bid, 0, none⟩ = some (.int .i64 id) → bid < V.heap.size → Calls Tryz.prog 59 #[.agg #[.int .i64 a, .int .i64 b, .int .i64 c, .int .i64 d, .int .i64 e], .agg #[.slice A0 ts.length c0, .slice A1 ks.length c1, .slice A2 fs.length c2, .int .i64 tn, .bool st], .int .i64 wk, .func (.func 92) #[] #[.pointer (some ⟨bP, 0, none⟩), .pointer (some ⟨bwk, 0, none⟩), .pointer (some ⟨bid, 0, none⟩)]] V (GaveS [] V o)) :
 Calls Tryz.prog 36 #[qF a b c d e, qP ts ks fs A0 A1 A2 c0 c1 c2 tn st, .int .i64 wk, .int .i64 id] w (GaveS [] w o) := by
 unfold qF qP
 have hmf : ∀ (fn : Fn) (first cap : Array Value) (w : World), (Instr.makeFunc fn first cap).run Tryz.prog w = .ok (.func fn first cap) w := fun _ _ _ _ => rfl
 have HL := hide hL
 have H := hide h
 clear h hL
 go_enter Tryz.func36, Tryz.ntmps36
 go_wp2_with fail
 have M : Sep [] w ((((((w.alloc (.cells #[.int .i64 a, .int .i64 b, .int .i64 c, .int .i64 d, .int .i64 e] 28)).alloc (.cells #[.slice A0 ts.length c0, .slice A1 ks.length c1, .slice A2 fs.length c2, .int .i64 tn, .bool st] 35)).alloc (.cells #[.int .i64 wk] 2)).alloc (.cells #[.int .i64 id] 2)).alloc (.cells #[.slice none 0 0, .slice none 0 0, .slice none 0 0, .int .i64 0, .bool false] 35)).alloc (.cells #[.int .i64 0, .int .i64 0] 38)) [.blk (w.heap.size + 5) 38 #[.int .i64 0, .int .i64 0], .blk (w.heap.size + 4) 35 #[.slice none 0 0, .slice none 0 0, .slice none 0 0, .int .i64 0, .bool false], .blk (w.heap.size + 3) 2 #[.int .i64 id], .blk (w.heap.size + 2) 2 #[.int .i64 wk], .blk (w.heap.size + 1) 35 #[.slice A0 ts.length c0, .slice A1 ks.length c1, .slice A2 fs.length c2, .int .i64 tn, .bool st], .blk (w.heap.size) 28 #[.int .i64 a, .int .i64 b, .int .i64 c, .int .i64 d, .int .i64 e]] := Sep.enterSixD w
 generalize (((((w.alloc (.cells #[.int .i64 a, .int .i64 b, .int .i64 c, .int .i64 d, .int .i64 e] 28)).alloc (.cells #[.slice A0 ts.length c0, .slice A1 ks.length c1, .slice A2 fs.length c2, .int .i64 tn, .bool st] 35)).alloc (.cells #[.int .i64 wk] 2)).alloc (.cells #[.int .i64 id] 2)).alloc (.cells #[.slice none 0 0, .slice none 0 0, .slice none 0 0, .int .i64 0, .bool false] 35)).alloc (.cells #[.int .i64 0, .int .i64 0] 38) = W1 at M ⊢
 obtain ⟨tS, Ac, Aj, Ae, Ai⟩ := M.f2 0 rfl
 obtain ⟨tR, Ag, Ah, Af, Am, Ad, An, Aa, Al, Ab, Ak⟩ := M.f5 1 rfl
 obtain ⟨tVid, qVid0, fVid0⟩ := M.f1 2 rfl
 obtain ⟨tVwk, qVwk0, fVwk0⟩ := M.f1 3 rfl
 obtain ⟨tX, Bf, Aw, Az, Ax, Bg, Au, Av, Bh, Bb, At⟩ := M.f5 4 rfl
 obtain ⟨tP, Aq, Ay, Ap, Be, As, Ba, Ar, Bc, Ao, Bd⟩ := M.f5 5 rfl
 go_wp2_with fail
 have hC := HL.out _ (w.heap.size) (w.heap.size + 2) (w.heap.size + 3) M.below (fun j => M.cell 5 j rfl) (M.lt 5 rfl) (M.cell 3 0 rfl) (M.lt 3 rfl) (M.cell 2 0 rfl) (M.lt 2 rfl)
 refine Calls.mono (by with_reducible exact hC) ?_
 clear hC
 rintro r W2 ⟨B0, B1, B2, d0, d1, d2, rfl, g1⟩
 clear tS Ac Aj Ae Ai tR Ag Ah Af Am Ad An Aa Al Ab Ak tVid qVid0 fVid0 tVwk qVwk0 fVwk0 tX Bf Aw Az Ax Bg Au Av Bh Bb At tP Aq Ay Ap Be As Ba Ar Bc Ao Bd
 replace M := Sep.new M g1
 simp only [zC, zN] at M
 clear g1
 obtain ⟨tS, Ac, Aj, Ae, Ai⟩ := M.f2 3 rfl
 obtain ⟨tR, Ag, Ah, Af, Am, Ad, An, Aa, Al, Ab, Ak⟩ := M.f5 4 rfl
 go_wp2_with fail
 clear tS Ac Aj Ae Ai tR Ag Ah Af Am Ad An Aa Al Ab Ak
 replace M := M.gset5 4 rfl (.slice B0 o.ts.length d0) (.slice B1 o.ks.length d1) (.slice B2 o.fs.length d2) (.int .i64 o.tn) (.bool o.st)
 obtain ⟨W3, eW, M⟩ := M
 rw [eW]
 clear eW
 simp only [zZ, zS] at M
 replace M := M.gset2 3 rfl (.int .i64 o.rp) (.int .i64 o.ou)
 obtain ⟨W4, eW, M⟩ := M
 rw [eW]
 clear eW
 simp only [zZ, zS] at M
 obtain ⟨tS, Ac, Ae⟩ := M.q2 3 rfl
 obtain ⟨tR, Ag, Af, Ad, Aa, Ab⟩ := M.q5 4 rfl
 exact bodyPost_ret (by simp [results, Tryz.results36, go_sem, Ag, Af, Ad, Aa, Ab, Ac, Ae]) rfl ⟨B0, B1, B2, d0, d1, d2, rfl, M.take 3⟩
theorem downed_told (a b c d e : Int) (ts : List T7) (ks : List Int) (fs : List F2) (tn : Int) (st : Bool) (wk : Int) (id : Int) (hl : ts.length + ks.length + fs.length ≤ 1048576) :
 ∃ (us : List T7) (ks2 : List Int) (fs2 : List F2) (tn2 : Int) (st2 : Bool) (rp ou : Int), us.length + ks2.length + fs2.length ≤ 1048576 ∧
 ((rp = 1 → poolB a b c d e ts ks fs tn = true ∧ poolB a b c d e us ks2 fs2 tn2 = true ∧ fs2 = fs ∧ st2 = st ∧ ∃ (k : Nat) (kv : Int), id = k ∧ ks[k]? = some kv ∧ 0 < kv ∧ us = ts ∧ ks2 = ks.set k (kv - 1) ∧ tn2 = tn) ∧ (rp = 7 → poolB a b c d e ts ks fs tn = true ∧ poolB a b c d e us ks2 fs2 tn2 = true ∧ fs2 = fs ∧ st2 = st ∧ ∃ (k m : Nat) (x : T7), id = k ∧ ks[k]? = some 0 ∧ ts[m]? = some x ∧ x.s = 2 ∧ us = ts.set m (parkT x tn 2 k) ∧ ks2 = ks ∧ tn2 = tn + 1) ∧ (rp ≠ 1 → rp ≠ 7 → poolB a b c d e ts ks fs tn = true → us = ts ∧ ks2 = ks ∧ fs2 = fs ∧ tn2 = tn ∧ st2 = st)) ∧
 Hid (∀ (A0 A1 A2 : Option Addr) (c0 c1 c2 : Nat) (w : World), InPool w ts ks fs A0 A1 A2 → Calls Tryz.prog 47 #[.agg #[.int .i64 a, .int .i64 b, .int .i64 c, .int .i64 d, .int .i64 e], .agg #[.slice A0 ts.length c0, .slice A1 ks.length c1, .slice A2 fs.length c2, .int .i64 tn, .bool st], .int .i64 wk, .int .i64 id] w (GaveA us ks2 fs2 tn2 st2 rp ou w)) ∧
 Hid (∀ (A0 A1 A2 : Option Addr) (c0 c1 c2 : Nat) (w : World), Laid w → InPool w ts ks fs A0 A1 A2 → Calls Tryz.prog 36 #[.agg #[.int .i64 a, .int .i64 b, .int .i64 c, .int .i64 d, .int .i64 e], .agg #[.slice A0 ts.length c0, .slice A1 ks.length c1, .slice A2 fs.length c2, .int .i64 tn, .bool st], .int .i64 wk, .int .i64 id] w (GaveA us ks2 fs2 tn2 st2 rp ou w)) := by
 have ht : ts.length ≤ 1048576 := by omega
 have hk : ks.length ≤ 1048576 := by omega
 have hf : fs.length ≤ 1048576 := by omega
 cases hp : poolB a b c d e ts ks fs tn
 ·exact ⟨[], [], [], 0, false, 8, 0, by simp, ⟨fun h => by omega, fun h => by omega, fun _ _ h => by cases h⟩, hide (fun A0 A1 A2 c0 c1 c2 w h => (downed_may a b c d e ts ks fs A0 A1 A2 c0 c1 c2 tn st wk id w ht hk hf h _ rfl (by simp [mayB, hp])).mono (fun r w' hh => by rw [hp] at hh; exact hh)), hide (fun A0 A1 A2 c0 c1 c2 w hg h => gDowned_face a b c d e ts ks fs A0 A1 A2 c0 c1 c2 tn st wk id w ht hk hf h ⟨[], [], [], 0, false, 8, 0⟩ (fun V bP bwk bid hV hP lP hwk lwk hid lid => livedAs_bad a b c d e ts ks fs A0 A1 A2 c0 c1 c2 tn st wk 92 #[.pointer (some ⟨bP, 0, none⟩), .pointer (some ⟨bwk, 0, none⟩), .pointer (some ⟨bid, 0, none⟩)] V ht hk hf (h.below hV) hp))⟩
 have hpl := (poolB_parts hp).1
 have hT := (poolB_parts hp).2.1
 cases hw : btw wk 0 (a - 1)
 ·exact ⟨ts, ks, fs, tn, st, 8, 0, hl, ⟨fun h => by omega, fun h => by omega, fun _ _ _ => ⟨rfl, rfl, rfl, rfl, rfl⟩⟩, hide (fun A0 A1 A2 c0 c1 c2 w h => (downed_may a b c d e ts ks fs A0 A1 A2 c0 c1 c2 tn st wk id w ht hk hf h _ rfl (by simp [mayB, workB, hp, hw])).mono (fun r w' hh => by rw [hp] at hh; exact hh)), hide (fun A0 A1 A2 c0 c1 c2 w hg h => gDowned_face a b c d e ts ks fs A0 A1 A2 c0 c1 c2 tn st wk id w ht hk hf h ⟨ts, ks, fs, tn, st, 8, 0⟩ (fun V bP bwk bid hV hP lP hwk lwk hid lid => livedAs_worker a b c d e ts ks fs A0 A1 A2 c0 c1 c2 tn st wk 92 #[.pointer (some ⟨bP, 0, none⟩), .pointer (some ⟨bwk, 0, none⟩), .pointer (some ⟨bid, 0, none⟩)] V ht hk hf (h.below hV) hp hw))⟩
 have hm : mayB a b c d e ts ks fs tn wk = true := by simp [mayB, workB, hp, hw, hpl]
 have hd := (pool_len hp).2.1
 obtain ⟨pd1, pd2⟩ : 0 ≤ d ∧ d ≤ 30 := by have := planB_all hpl; omega
 by_cases h0 : runM ts wk 0 < 0
 ·have hr := runM_none h0
  exact ⟨ts, ks, fs, tn, st, 2, 0, hl, ⟨fun h => by omega, fun h => by omega, fun _ _ _ => ⟨rfl, rfl, rfl, rfl, rfl⟩⟩, hide (fun A0 A1 A2 c0 c1 c2 w h => (downed_none a b c d e ts ks fs A0 A1 A2 c0 c1 c2 tn st wk id w ht hk hf h _ rfl h0 hm).mono (fun r w' hh => by rw [hp] at hh; exact hh)), hide (fun A0 A1 A2 c0 c1 c2 w hg h => gDowned_face a b c d e ts ks fs A0 A1 A2 c0 c1 c2 tn st wk id w ht hk hf h ⟨ts, ks, fs, tn, st, 2, 0⟩ (fun V bP bwk bid hV hP lP hwk lwk hid lid => livedAs_no a b c d e ts ks fs A0 A1 A2 c0 c1 c2 tn st wk 92 #[.pointer (some ⟨bP, 0, none⟩), .pointer (some ⟨bwk, 0, none⟩), .pointer (some ⟨bid, 0, none⟩)] (Go.Proofs.enters_of Tryz.func92 (by kernel_rfl) rfl) V ht hk hf (h.below hV) (hg.below hV) hp hw 2 (by omega) (by omega) (fun V2 g C0 C1 C2 e0 e1 e2 hV2 hM => downedC a b c d e wk id bP bwk bid g V2 (fun j => (hV2.cell (p := ⟨bP, j, none⟩) lP).trans (hP j)) (Nat.lt_of_lt_of_le lP hV2.size) ((hV2.cell (p := ⟨bwk, 0, none⟩) lwk).trans hwk) (Nat.lt_of_lt_of_le lwk hV2.size) ((hV2.cell (p := ⟨bid, 0, none⟩) lid).trans hid) (Nat.lt_of_lt_of_le lid hV2.size) _ _ (down_none ts ks fs C0 C1 C2 e0 e1 e2 tn st g a b c d e wk id V2 ht hk hf hM hr))))⟩
 obtain ⟨m, hr⟩ : ∃ m : Nat, runM ts wk 0 = m := ⟨(runM ts wk 0).toNat, by omega⟩
 obtain ⟨⟨s2, l2, o2, wt2, on2, v2, t2⟩, ht2, hs2, _⟩ := runM_runs (Int.le_refl 0) (show runM ts wk 0 = 0 + (m : Int) by omega)
 simp only at hs2
 have hc2 : isInB ts m 2 = true := (isInB_of ht2 2).trans (by simp [hs2])
 have hm0 : (0 : Int) ≤ (m : Int) := by omega
 cases hi : btw id 0 ((ks.length : Int) - 1)
 ·exact ⟨ts, ks, fs, tn, st, 8, 0, hl, ⟨fun h => by omega, fun h => by omega, fun _ _ _ => ⟨rfl, rfl, rfl, rfl, rfl⟩⟩, hide (fun A0 A1 A2 c0 c1 c2 w h => (downed_in a b c d e ts ks fs A0 A1 A2 c0 c1 c2 tn st wk id w ht hk hf h m hr hm0 hm hi).mono (fun r w' hh => by rw [hp] at hh; exact hh)), hide (fun A0 A1 A2 c0 c1 c2 w hg h => gDowned_face a b c d e ts ks fs A0 A1 A2 c0 c1 c2 tn st wk id w ht hk hf h ⟨ts, ks, fs, tn, st, 8, 0⟩ (fun V bP bwk bid hV hP lP hwk lwk hid lid => livedAs_no a b c d e ts ks fs A0 A1 A2 c0 c1 c2 tn st wk 92 #[.pointer (some ⟨bP, 0, none⟩), .pointer (some ⟨bwk, 0, none⟩), .pointer (some ⟨bid, 0, none⟩)] (Go.Proofs.enters_of Tryz.func92 (by kernel_rfl) rfl) V ht hk hf (h.below hV) (hg.below hV) hp hw 8 (by omega) (by omega) (fun V2 g C0 C1 C2 e0 e1 e2 hV2 hM => downedC a b c d e wk id bP bwk bid g V2 (fun j => (hV2.cell (p := ⟨bP, j, none⟩) lP).trans (hP j)) (Nat.lt_of_lt_of_le lP hV2.size) ((hV2.cell (p := ⟨bwk, 0, none⟩) lwk).trans hwk) (Nat.lt_of_lt_of_le lwk hV2.size) ((hV2.cell (p := ⟨bid, 0, none⟩) lid).trans hid) (Nat.lt_of_lt_of_le lid hV2.size) _ _ (down_kind ts ks fs C0 C1 C2 e0 e1 e2 tn st g a b c d e wk id V2 ht hk hf hM pd1 pd2 m hr hm0 (by rw [← hd]; exact hi)))))⟩
 obtain ⟨k, kv, rfl, hkl, hks⟩ := kind_nat hi
 have hi9 : btw (k : Int) 0 (d - 1) = true := by rw [← hd]; exact hi
 have htk := token_get hp hks
 by_cases hkv : 0 < kv
 ·have hz := tokenP_right (k := k) (u := kv - 1) hp (by simp [btw]; omega)
  exact ⟨ts, ks.set k (kv - 1), fs, tn, st, 1, kv - 1, by simpa using hl, ⟨fun _ => ⟨rfl, hz, rfl, rfl, k, kv, rfl, hks, hkv, rfl, rfl, rfl⟩, fun h => by omega, fun h => absurd rfl h⟩, hide (fun A0 A1 A2 c0 c1 c2 w h => (downed_free a b c d e ts ks fs A0 A1 A2 c0 c1 c2 tn st wk k w ht hk hf h k kv rfl hks hkv m hr hm hi).mono (fun r w' hh => by rw [hz] at hh; exact hh)), hide (fun A0 A1 A2 c0 c1 c2 w hg h => gDowned_face a b c d e ts ks fs A0 A1 A2 c0 c1 c2 tn st wk k w ht hk hf h ⟨ts, ks.set k (kv - 1), fs, tn, st, 1, kv - 1⟩ (fun V bP bwk bid hV hP lP hwk lwk hid lid => livedAs_yes a b c d e ts ks fs A0 A1 A2 c0 c1 c2 tn st wk 92 #[.pointer (some ⟨bP, 0, none⟩), .pointer (some ⟨bwk, 0, none⟩), .pointer (some ⟨bid, 0, none⟩)] (Go.Proofs.enters_of Tryz.func92 (by kernel_rfl) rfl) V ht hk hf (h.below hV) (hg.below hV) hp hw ⟨ts, ks.set k (kv - 1), fs, tn, st, 1, kv - 1⟩ (.inl rfl) (fun V2 g C0 C1 C2 e0 e1 e2 hV2 hM => downedC a b c d e wk k bP bwk bid g V2 (fun j => (hV2.cell (p := ⟨bP, j, none⟩) lP).trans (hP j)) (Nat.lt_of_lt_of_le lP hV2.size) ((hV2.cell (p := ⟨bwk, 0, none⟩) lwk).trans hwk) (Nat.lt_of_lt_of_le lwk hV2.size) ((hV2.cell (p := ⟨bid, 0, none⟩) lid).trans hid) (Nat.lt_of_lt_of_le lid hV2.size) _ _ (down_ok ts ks fs C0 C1 C2 e0 e1 e2 tn st g a b c d e wk k kv hks V2 ht hk hf hM pd1 pd2 m hr hm0 hkv htk.2 hi9))))⟩
 have hk0 : kv = 0 := by omega
 have hwt : waitB b d e 3 2 k = true := by
  simp [waitB, cnt, btw]
  omega
 by_cases t1 : tn < 1000000
 ·have hz := parkP_right hp ht2 t1 hwt (by simp [waitsOk])
  exact ⟨ts.set m (parkT ⟨s2, l2, o2, wt2, on2, v2, t2⟩ tn 2 k), ks, fs, tn + 1, st, 7, m, by simpa using hl, ⟨fun h => by omega, fun _ => ⟨rfl, hz, rfl, rfl, k, m, _, rfl, hk0 ▸ hks, ht2, hs2, rfl, rfl, rfl⟩, fun _ h => absurd rfl h⟩, hide (fun A0 A1 A2 c0 c1 c2 w h => (downed_park a b c d e ts ks fs A0 A1 A2 c0 c1 c2 tn st wk k w ht hk hf h k kv rfl hks hkv m s2 l2 o2 wt2 on2 v2 t2 ht2 hr hm hi).mono (fun r w' hh => by rw [hz] at hh; exact hh)), hide (fun A0 A1 A2 c0 c1 c2 w hg h => gDowned_face a b c d e ts ks fs A0 A1 A2 c0 c1 c2 tn st wk k w ht hk hf h ⟨ts.set m (parkT ⟨s2, l2, o2, wt2, on2, v2, t2⟩ tn 2 k), ks, fs, tn + 1, st, 7, m⟩ (fun V bP bwk bid hV hP lP hwk lwk hid lid => livedAs_yes a b c d e ts ks fs A0 A1 A2 c0 c1 c2 tn st wk 92 #[.pointer (some ⟨bP, 0, none⟩), .pointer (some ⟨bwk, 0, none⟩), .pointer (some ⟨bid, 0, none⟩)] (Go.Proofs.enters_of Tryz.func92 (by kernel_rfl) rfl) V ht hk hf (h.below hV) (hg.below hV) hp hw ⟨ts.set m (parkT ⟨s2, l2, o2, wt2, on2, v2, t2⟩ tn 2 k), ks, fs, tn + 1, st, 7, m⟩ (.inr rfl) (fun V2 g C0 C1 C2 e0 e1 e2 hV2 hM => downedC a b c d e wk k bP bwk bid g V2 (fun j => (hV2.cell (p := ⟨bP, j, none⟩) lP).trans (hP j)) (Nat.lt_of_lt_of_le lP hV2.size) ((hV2.cell (p := ⟨bwk, 0, none⟩) lwk).trans hwk) (Nat.lt_of_lt_of_le lwk hV2.size) ((hV2.cell (p := ⟨bid, 0, none⟩) lid).trans hid) (Nat.lt_of_lt_of_le lid hV2.size) _ _ (down_park ts ks fs C0 C1 C2 e0 e1 e2 tn st g a b c d e wk k kv hks m s2 l2 o2 wt2 on2 v2 t2 V2 ht hk hf hM pd1 pd2 hk0 hT.1 hT.2 hr ht2 hc2 hi9 hz))))⟩
 ·have hz : poolB a b c d e (ts.set m (parkT ⟨s2, l2, o2, wt2, on2, v2, t2⟩ tn 2 k)) ks fs (tn + 1) = false := turn_over (by omega)
  exact ⟨ts, ks, fs, tn, st, 4, 0, hl, ⟨fun h => by omega, fun h => by omega, fun _ _ _ => ⟨rfl, rfl, rfl, rfl, rfl⟩⟩, hide (fun A0 A1 A2 c0 c1 c2 w h => (downed_park a b c d e ts ks fs A0 A1 A2 c0 c1 c2 tn st wk k w ht hk hf h k kv rfl hks hkv m s2 l2 o2 wt2 on2 v2 t2 ht2 hr hm hi).mono (fun r w' hh => by rw [hz] at hh; exact hh)), hide (fun A0 A1 A2 c0 c1 c2 w hg h => gDowned_face a b c d e ts ks fs A0 A1 A2 c0 c1 c2 tn st wk k w ht hk hf h ⟨ts, ks, fs, tn, st, 4, 0⟩ (fun V bP bwk bid hV hP lP hwk lwk hid lid => livedAs_no a b c d e ts ks fs A0 A1 A2 c0 c1 c2 tn st wk 92 #[.pointer (some ⟨bP, 0, none⟩), .pointer (some ⟨bwk, 0, none⟩), .pointer (some ⟨bid, 0, none⟩)] (Go.Proofs.enters_of Tryz.func92 (by kernel_rfl) rfl) V ht hk hf (h.below hV) (hg.below hV) hp hw 4 (by omega) (by omega) (fun V2 g C0 C1 C2 e0 e1 e2 hV2 hM => downedC a b c d e wk k bP bwk bid g V2 (fun j => (hV2.cell (p := ⟨bP, j, none⟩) lP).trans (hP j)) (Nat.lt_of_lt_of_le lP hV2.size) ((hV2.cell (p := ⟨bwk, 0, none⟩) lwk).trans hwk) (Nat.lt_of_lt_of_le lwk hV2.size) ((hV2.cell (p := ⟨bid, 0, none⟩) lid).trans hid) (Nat.lt_of_lt_of_le lid hV2.size) _ _ (down_full ts ks fs C0 C1 C2 e0 e1 e2 tn st g a b c d e wk k kv hks m s2 l2 o2 wt2 on2 v2 t2 V2 ht hk hf hM pd1 pd2 hk0 hT.1 hT.2 hr ht2 hc2 hi9 hz))))⟩
theorem mem_pick {q : Nat → Bool} {n k : Nat} (hk : k < n) (hq : q k = true) : k ∈ pick q n := by
 induction n with
 | zero => omega
 | succ n ih =>
  simp only [pick]
  by_cases h : k = n
  ·subst h; simp [hq]
  ·have h2 := ih (by omega)
   split
   ·exact List.mem_append_left _ h2
   ·exact h2
theorem mem_line {q : Nat → Bool} {P : Nat → Int → Bool} {n k : Nat} (hk : k < n) (hq : q k = true) : (k : Int) ∈ lineM q P n :=
 (lineM_perm q P n).mem_iff.2 (List.mem_map.2 ⟨k, mem_pick hk hq, rfl⟩)
theorem get_lt {α : Type} {ts : List α} {k : Nat} {x : α} (h : ts[k]? = some x) : k < ts.length := (List.getElem?_eq_some_iff.1 h).1
theorem mem_waiters {ts : List T7} {wt on : Int} {k : Nat} {x : T7} (h : ts[k]? = some x) (hs : x.s = 3) (hw : x.wt = wt) (ho : x.on = on) : (k : Int) ∈ waitersM ts wt on := by
 refine mem_line (get_lt h) ?_
 simp [waitQ, List.getD_eq_getElem?_getD, h, hs, hw, ho]
theorem mem_ready {ts : List T7} {k : Nat} {x : T7} (h : ts[k]? = some x) (hs : x.s = 1) : (k : Int) ∈ readyM ts := by
 refine mem_line (get_lt h) ?_
 simp [readyQ, List.getD_eq_getElem?_getD, h, hs]
set_option maxHeartbeats 4000000
set_option maxRecDepth 100000
def EmptyPtr (w : World) (d e : Nat) (r : Ending) (w' : World) : Prop :=
 ∃ (g : Nat) (A1 A2 : Option Addr), r = .returned (.pointer (some ⟨g, 0, none⟩)) ∧ Blk w' g 35 #[.slice none 0 0, .slice A1 (List.replicate d (0 : Int)).length d, .slice A2 (List.replicate e (⟨false, 0⟩ : F2)).length e, .int .i64 1, .bool false] ∧ OwnPool w' w.heap.size w'.heap.size [] (List.replicate d 0) (List.replicate e ⟨false, 0⟩) none A1 A2 0 d e ∧ Below w.heap.size w w'
theorem emptyPool_any (a b c : Int) (d e : Nat) (w : World) (hd : d ≤ 4) (he : e ≤ 4) :
 Calls Tryz.prog 84 #[.agg #[.int .i64 a, .int .i64 b, .int .i64 c, .int .i64 d, .int .i64 e]] w (EmptyPtr w d e) := by
 obtain ⟨i0, hi, hz0, hz1, hz2⟩ := info_parts infoInt
 obtain ⟨i1, gi, gz0, gz1, gz2⟩ := info_parts infoFut
 have m0 := fun w => run_make (P := Tryz.prog) w 32 2 i0 (.int .i64 0) Tryz.underlying32 hi hz0 .i64 .i64 d d (by omega) (by omega) (by rw [hz2]; omega) (by omega)
 have m1 := fun w => run_make (P := Tryz.prog) w 33 103 i1 (.agg #[.bool false, .int .i64 0]) Tryz.underlying33 gi gz0 .i64 .i64 e e (by omega) (by omega) (by rw [gz2]; omega) (by omega)
 rw [hz1] at m0
 rw [gz1] at m1
 simp only [Int.toNat_natCast] at m0 m1
 go_enter Tryz.func84, Tryz.ntmps84
 go_wp2_with fail
 have G := Below.refl w.heap.size w
 have kP := Blk.new w 28 #[.int .i64 a, .int .i64 b, .int .i64 c, .int .i64 d, .int .i64 e]
 have hbs := G.size
 replace G := G.alloc (by omega) (.cells #[.int .i64 a, .int .i64 b, .int .i64 c, .int .i64 d, .int .i64 e] 28)
 have z1 : (w.alloc (.cells #[.int .i64 a, .int .i64 b, .int .i64 c, .int .i64 d, .int .i64 e] 28)).heap.size = w.heap.size + 1 := by simp
 clear hbs
 generalize w.alloc (.cells #[.int .i64 a, .int .i64 b, .int .i64 c, .int .i64 d, .int .i64 e] 28) = W1 at kP G z1 ⊢
 obtain ⟨tP, qP0, qP1, qP2, qP3, qP4⟩ := kP.q5
 have tP1 : w.heap.size < W1.heap.size + 1 := by omega
 have HZ := hide z1
 clear z1
 go_region
 all_goals go_wp2
 ·have z1 := HZ.out
  clear tP qP0 qP1 qP2 qP3 qP4
  have kI : Blk (W1.alloc (.cells (madeCells #[.int .i64 0] d) 2)) (W1.heap.size) 2 (madeCells #[.int .i64 0] d) := by
   have h := Blk.new W1 2 (madeCells #[.int .i64 0] d)
   rw [show W1.heap.size = W1.heap.size by omega] at h
   exact h
  replace kP := kP.alloc (.cells (madeCells #[.int .i64 0] d) 2)
  have hbs := G.size
  replace G := G.alloc (by omega) (.cells (madeCells #[.int .i64 0] d) 2)
  have z2 : (W1.alloc (.cells (madeCells #[.int .i64 0] d) 2)).heap.size = W1.heap.size + 1 := by simp
  clear hbs
  generalize W1.alloc (.cells (madeCells #[.int .i64 0] d) 2) = W2 at kP kI G z2 ⊢
  have kF : Blk (W2.alloc (.cells (madeCells #[.bool false, .int .i64 0] (e * 2)) 103)) (W1.heap.size + 1) 103 (madeCells #[.bool false, .int .i64 0] (e * 2)) := by
   have h := Blk.new W2 103 (madeCells #[.bool false, .int .i64 0] (e * 2))
   rw [show W2.heap.size = W1.heap.size + 1 by omega] at h
   exact h
  replace kP := kP.alloc (.cells (madeCells #[.bool false, .int .i64 0] (e * 2)) 103)
  replace kI := kI.alloc (.cells (madeCells #[.bool false, .int .i64 0] (e * 2)) 103)
  have hbs := G.size
  replace G := G.alloc (by omega) (.cells (madeCells #[.bool false, .int .i64 0] (e * 2)) 103)
  have z3 : (W2.alloc (.cells (madeCells #[.bool false, .int .i64 0] (e * 2)) 103)).heap.size = W2.heap.size + 1 := by simp
  clear hbs
  generalize W2.alloc (.cells (madeCells #[.bool false, .int .i64 0] (e * 2)) 103) = W3 at kP kI kF G z3 ⊢
  have kX : Blk (W3.alloc (.cells #[.slice none 0 0, .slice (some ⟨W1.heap.size, 0, none⟩) d d, .slice (some ⟨W1.heap.size + 1, 0, none⟩) e e, .int .i64 1, .bool false] 35)) (W1.heap.size + 2) 35 #[.slice none 0 0, .slice (some ⟨W1.heap.size, 0, none⟩) d d, .slice (some ⟨W1.heap.size + 1, 0, none⟩) e e, .int .i64 1, .bool false] := by
   have h := Blk.new W3 35 #[.slice none 0 0, .slice (some ⟨W1.heap.size, 0, none⟩) d d, .slice (some ⟨W1.heap.size + 1, 0, none⟩) e e, .int .i64 1, .bool false]
   rw [show W3.heap.size = W1.heap.size + 2 by omega] at h
   exact h
  replace kP := kP.alloc (.cells #[.slice none 0 0, .slice (some ⟨W1.heap.size, 0, none⟩) d d, .slice (some ⟨W1.heap.size + 1, 0, none⟩) e e, .int .i64 1, .bool false] 35)
  replace kI := kI.alloc (.cells #[.slice none 0 0, .slice (some ⟨W1.heap.size, 0, none⟩) d d, .slice (some ⟨W1.heap.size + 1, 0, none⟩) e e, .int .i64 1, .bool false] 35)
  replace kF := kF.alloc (.cells #[.slice none 0 0, .slice (some ⟨W1.heap.size, 0, none⟩) d d, .slice (some ⟨W1.heap.size + 1, 0, none⟩) e e, .int .i64 1, .bool false] 35)
  have hbs := G.size
  replace G := G.alloc (by omega) (.cells #[.slice none 0 0, .slice (some ⟨W1.heap.size, 0, none⟩) d d, .slice (some ⟨W1.heap.size + 1, 0, none⟩) e e, .int .i64 1, .bool false] 35)
  have z4 : (W3.alloc (.cells #[.slice none 0 0, .slice (some ⟨W1.heap.size, 0, none⟩) d d, .slice (some ⟨W1.heap.size + 1, 0, none⟩) e e, .int .i64 1, .bool false] 35)).heap.size = W3.heap.size + 1 := by simp
  clear hbs
  generalize W3.alloc (.cells #[.slice none 0 0, .slice (some ⟨W1.heap.size, 0, none⟩) d d, .slice (some ⟨W1.heap.size + 1, 0, none⟩) e e, .int .i64 1, .bool false] 35) = W4 at kP kI kF kX G z4 ⊢
  replace kP := kP.drew
  replace kI := kI.drew
  replace kF := kF.drew
  replace kX := kX.drew
  replace G := G.drew
  have z5 : (W4.drew).heap.size = W4.heap.size := rfl
  generalize W4.drew = W5 at kP kI kF kX G z5 ⊢
  go_ret
  refine ⟨W1.heap.size + 2, some ⟨W1.heap.size, 0, none⟩, some ⟨W1.heap.size + 1, 0, none⟩, by simp, by simpa using kX, ⟨OwnR.nil_ _ _ _ _ _, madeI d _ _ _ (by omega) (by omega) kI, madeF e _ _ _ (by omega) (by omega) kF⟩, G⟩
 ·have z1 := HZ.out
  clear tP qP0 qP1 qP2 qP3 qP4
  have kF : Blk (W1.alloc (.cells (madeCells #[.bool false, .int .i64 0] (e * 2)) 103)) (W1.heap.size) 103 (madeCells #[.bool false, .int .i64 0] (e * 2)) := by
   have h := Blk.new W1 103 (madeCells #[.bool false, .int .i64 0] (e * 2))
   rw [show W1.heap.size = W1.heap.size by omega] at h
   exact h
  replace kP := kP.alloc (.cells (madeCells #[.bool false, .int .i64 0] (e * 2)) 103)
  have hbs := G.size
  replace G := G.alloc (by omega) (.cells (madeCells #[.bool false, .int .i64 0] (e * 2)) 103)
  have z2 : (W1.alloc (.cells (madeCells #[.bool false, .int .i64 0] (e * 2)) 103)).heap.size = W1.heap.size + 1 := by simp
  clear hbs
  generalize W1.alloc (.cells (madeCells #[.bool false, .int .i64 0] (e * 2)) 103) = W2 at kP kF G z2 ⊢
  have kI : Blk (W2.alloc (.cells (madeCells #[.int .i64 0] d) 2)) (W1.heap.size + 1) 2 (madeCells #[.int .i64 0] d) := by
   have h := Blk.new W2 2 (madeCells #[.int .i64 0] d)
   rw [show W2.heap.size = W1.heap.size + 1 by omega] at h
   exact h
  replace kP := kP.alloc (.cells (madeCells #[.int .i64 0] d) 2)
  replace kF := kF.alloc (.cells (madeCells #[.int .i64 0] d) 2)
  have hbs := G.size
  replace G := G.alloc (by omega) (.cells (madeCells #[.int .i64 0] d) 2)
  have z3 : (W2.alloc (.cells (madeCells #[.int .i64 0] d) 2)).heap.size = W2.heap.size + 1 := by simp
  clear hbs
  generalize W2.alloc (.cells (madeCells #[.int .i64 0] d) 2) = W3 at kP kF kI G z3 ⊢
  have kX : Blk (W3.alloc (.cells #[.slice none 0 0, .slice (some ⟨W1.heap.size + 1, 0, none⟩) d d, .slice (some ⟨W1.heap.size, 0, none⟩) e e, .int .i64 1, .bool false] 35)) (W1.heap.size + 2) 35 #[.slice none 0 0, .slice (some ⟨W1.heap.size + 1, 0, none⟩) d d, .slice (some ⟨W1.heap.size, 0, none⟩) e e, .int .i64 1, .bool false] := by
   have h := Blk.new W3 35 #[.slice none 0 0, .slice (some ⟨W1.heap.size + 1, 0, none⟩) d d, .slice (some ⟨W1.heap.size, 0, none⟩) e e, .int .i64 1, .bool false]
   rw [show W3.heap.size = W1.heap.size + 2 by omega] at h
   exact h
  replace kP := kP.alloc (.cells #[.slice none 0 0, .slice (some ⟨W1.heap.size + 1, 0, none⟩) d d, .slice (some ⟨W1.heap.size, 0, none⟩) e e, .int .i64 1, .bool false] 35)
  replace kF := kF.alloc (.cells #[.slice none 0 0, .slice (some ⟨W1.heap.size + 1, 0, none⟩) d d, .slice (some ⟨W1.heap.size, 0, none⟩) e e, .int .i64 1, .bool false] 35)
  replace kI := kI.alloc (.cells #[.slice none 0 0, .slice (some ⟨W1.heap.size + 1, 0, none⟩) d d, .slice (some ⟨W1.heap.size, 0, none⟩) e e, .int .i64 1, .bool false] 35)
  have hbs := G.size
  replace G := G.alloc (by omega) (.cells #[.slice none 0 0, .slice (some ⟨W1.heap.size + 1, 0, none⟩) d d, .slice (some ⟨W1.heap.size, 0, none⟩) e e, .int .i64 1, .bool false] 35)
  have z4 : (W3.alloc (.cells #[.slice none 0 0, .slice (some ⟨W1.heap.size + 1, 0, none⟩) d d, .slice (some ⟨W1.heap.size, 0, none⟩) e e, .int .i64 1, .bool false] 35)).heap.size = W3.heap.size + 1 := by simp
  clear hbs
  generalize W3.alloc (.cells #[.slice none 0 0, .slice (some ⟨W1.heap.size + 1, 0, none⟩) d d, .slice (some ⟨W1.heap.size, 0, none⟩) e e, .int .i64 1, .bool false] 35) = W4 at kP kF kI kX G z4 ⊢
  replace kP := kP.drew
  replace kF := kF.drew
  replace kI := kI.drew
  replace kX := kX.drew
  replace G := G.drew
  have z5 : (W4.drew).heap.size = W4.heap.size := rfl
  generalize W4.drew = W5 at kP kF kI kX G z5 ⊢
  go_ret
  refine ⟨W1.heap.size + 2, some ⟨W1.heap.size + 1, 0, none⟩, some ⟨W1.heap.size, 0, none⟩, by simp, by simpa using kX, ⟨OwnR.nil_ _ _ _ _ _, madeI d _ _ _ (by omega) (by omega) kI, madeF e _ _ _ (by omega) (by omega) kF⟩, G⟩
theorem gNewPool_any (a b c : Int) (d e : Nat) (w : World) (hp : planB a b c d e = true) :
 Calls Tryz.prog 32 #[.agg #[.int .i64 a, .int .i64 b, .int .i64 c, .int .i64 d, .int .i64 e]] w (MadePool w [] (List.replicate d 0) (List.replicate e ⟨false, 0⟩) 1 false) := by
 have hbd := planB_all hp
 go_enter Tryz.func32, Tryz.ntmps32
 go_wp2_with fail
 have G := Below.refl w.heap.size w
 have kP := Blk.new w 28 #[.int .i64 a, .int .i64 b, .int .i64 c, .int .i64 d, .int .i64 e]
 have hbs := G.size
 replace G := G.alloc (by omega) (.cells #[.int .i64 a, .int .i64 b, .int .i64 c, .int .i64 d, .int .i64 e] 28)
 have z1 : (w.alloc (.cells #[.int .i64 a, .int .i64 b, .int .i64 c, .int .i64 d, .int .i64 e] 28)).heap.size = w.heap.size + 1 := by simp
 clear hbs
 generalize w.alloc (.cells #[.int .i64 a, .int .i64 b, .int .i64 c, .int .i64 d, .int .i64 e] 28) = W1 at kP G z1 ⊢
 have kR : Blk (W1.alloc (.cells #[.slice none 0 0, .slice none 0 0, .slice none 0 0, .int .i64 0, .bool false] 35)) (w.heap.size + 1) 35 #[.slice none 0 0, .slice none 0 0, .slice none 0 0, .int .i64 0, .bool false] := by
  have h := Blk.new W1 35 #[.slice none 0 0, .slice none 0 0, .slice none 0 0, .int .i64 0, .bool false]
  rw [show W1.heap.size = w.heap.size + 1 by omega] at h
  exact h
 replace kP := kP.alloc (.cells #[.slice none 0 0, .slice none 0 0, .slice none 0 0, .int .i64 0, .bool false] 35)
 have hbs := G.size
 replace G := G.alloc (by omega) (.cells #[.slice none 0 0, .slice none 0 0, .slice none 0 0, .int .i64 0, .bool false] 35)
 have z2 : (W1.alloc (.cells #[.slice none 0 0, .slice none 0 0, .slice none 0 0, .int .i64 0, .bool false] 35)).heap.size = W1.heap.size + 1 := by simp
 clear hbs
 generalize W1.alloc (.cells #[.slice none 0 0, .slice none 0 0, .slice none 0 0, .int .i64 0, .bool false] 35) = W2 at kP kR G z2 ⊢
 go_call (right_any a b c d e _) as r W3 ⟨rfl, g1⟩
 have hbs := G.size
 replace kP := kP.below g1 kP.lt
 replace kR := kR.below g1 kR.lt
 replace G := G.trans (g1.mono (by omega))
 have z3 := g1.size
 clear g1 hbs
 rw [hp]
 obtain ⟨tP, qP0, fP0, qP1, fP1, qP2, fP2, qP3, fP3, qP4, fP4⟩ := kP.f5
 obtain ⟨tR, qR0, fR0, qR1, fR1, qR2, fR2, qR3, fR3, qR4, fR4⟩ := kR.f5
 go_wp2_with fail
 go_call (emptyPool_any a b c d e _ (by omega) (by omega)) as r W4 ⟨gX, B1, B2, rfl, kX, own, g1⟩
 clear tP qP0 fP0 qP1 fP1 qP2 fP2 qP3 fP3 qP4 fP4 tR qR0 fR0 qR1 fR1 qR2 fR2 qR3 fR3 qR4 fR4
 have hbs := G.size
 replace kP := kP.below g1 kP.lt
 replace kR := kR.below g1 kR.lt
 replace G := G.trans (g1.mono (by omega))
 have z4 := g1.size
 clear g1 hbs
 obtain ⟨tP, qP0, fP0, qP1, fP1, qP2, fP2, qP3, fP3, qP4, fP4⟩ := kP.f5
 obtain ⟨tR, qR0, fR0, qR1, fR1, qR2, fR2, qR3, fR3, qR4, fR4⟩ := kR.f5
 go_wp2_with fail
 go_call (copied_any [] (List.replicate d 0) (List.replicate e ⟨false, 0⟩) none B1 B2 0 d e 1 false gX _ (by simp) (by simp; omega) (by simp; omega) kX own.reads) as r W5 ⟨C0, C1, C2, q0, q1, q2, rfl, own2, g1⟩
 clear tP qP0 fP0 qP1 fP1 qP2 fP2 qP3 fP3 qP4 fP4 tR qR0 fR0 qR1 fR1 qR2 fR2 qR3 fR3 qR4 fR4
 have hbs := G.size
 replace kP := kP.below g1 kP.lt
 replace kR := kR.below g1 kR.lt
 replace kX := kX.below g1 kX.lt
 replace G := G.trans (g1.mono (by omega))
 have z5 := g1.size
 clear g1 hbs
 have rC := own2
 clear own own2 kX
 obtain ⟨tP, qP0, fP0, qP1, fP1, qP2, fP2, qP3, fP3, qP4, fP4⟩ := kP.f5
 obtain ⟨tR, qR0, fR0, qR1, fR1, qR2, fR2, qR3, fR3, qR4, fR4⟩ := kR.f5
 go_wp2_with fail
 clear tP qP0 fP0 qP1 fP1 qP2 fP2 qP3 fP3 qP4 fP4 tR qR0 fR0 qR1 fR1 qR2 fR2 qR3 fR3 qR4 fR4
 replace kP := kP.far (p := ⟨w.heap.size + 1, 0, none⟩) (show w.heap.size ≠ w.heap.size + 1 by omega) (.slice C0 0 q0)
 replace kR : Blk (W5.setCell ⟨w.heap.size + 1, 0, none⟩ (.slice C0 0 q0)) (w.heap.size + 1) 35 #[.slice C0 0 q0, .slice none 0 0, .slice none 0 0, .int .i64 0, .bool false] := kR.set_ 0 (.slice C0 0 q0)
 replace rC := rC.store (p := ⟨w.heap.size + 1, 0, none⟩) (show w.heap.size + 1 < W4.heap.size ∨ W5.heap.size ≤ w.heap.size + 1 by omega) (.slice C0 0 q0)
 replace G : Below w.heap.size w (W5.setCell ⟨w.heap.size + 1, 0, none⟩ (.slice C0 0 q0)) := Below.setCell G (show w.heap.size ≤ w.heap.size + 1 by omega) _
 have z6 : (W5.setCell ⟨w.heap.size + 1, 0, none⟩ (.slice C0 0 q0)).heap.size = W5.heap.size := by simp [World.setCell]
 generalize W5.setCell ⟨w.heap.size + 1, 0, none⟩ (.slice C0 0 q0) = W6 at kP kR rC G z6 ⊢
 replace kP := kP.far (p := ⟨w.heap.size + 1, 1, none⟩) (show w.heap.size ≠ w.heap.size + 1 by omega) (.slice C1 d q1)
 replace kR : Blk (W6.setCell ⟨w.heap.size + 1, 1, none⟩ (.slice C1 d q1)) (w.heap.size + 1) 35 #[.slice C0 0 q0, .slice C1 d q1, .slice none 0 0, .int .i64 0, .bool false] := kR.set_ 1 (.slice C1 d q1)
 replace rC := rC.store (p := ⟨w.heap.size + 1, 1, none⟩) (show w.heap.size + 1 < W4.heap.size ∨ W5.heap.size ≤ w.heap.size + 1 by omega) (.slice C1 d q1)
 replace G : Below w.heap.size w (W6.setCell ⟨w.heap.size + 1, 1, none⟩ (.slice C1 d q1)) := Below.setCell G (show w.heap.size ≤ w.heap.size + 1 by omega) _
 have z7 : (W6.setCell ⟨w.heap.size + 1, 1, none⟩ (.slice C1 d q1)).heap.size = W6.heap.size := by simp [World.setCell]
 generalize W6.setCell ⟨w.heap.size + 1, 1, none⟩ (.slice C1 d q1) = W7 at kP kR rC G z7 ⊢
 replace kP := kP.far (p := ⟨w.heap.size + 1, 2, none⟩) (show w.heap.size ≠ w.heap.size + 1 by omega) (.slice C2 e q2)
 replace kR : Blk (W7.setCell ⟨w.heap.size + 1, 2, none⟩ (.slice C2 e q2)) (w.heap.size + 1) 35 #[.slice C0 0 q0, .slice C1 d q1, .slice C2 e q2, .int .i64 0, .bool false] := kR.set_ 2 (.slice C2 e q2)
 replace rC := rC.store (p := ⟨w.heap.size + 1, 2, none⟩) (show w.heap.size + 1 < W4.heap.size ∨ W5.heap.size ≤ w.heap.size + 1 by omega) (.slice C2 e q2)
 replace G : Below w.heap.size w (W7.setCell ⟨w.heap.size + 1, 2, none⟩ (.slice C2 e q2)) := Below.setCell G (show w.heap.size ≤ w.heap.size + 1 by omega) _
 have z8 : (W7.setCell ⟨w.heap.size + 1, 2, none⟩ (.slice C2 e q2)).heap.size = W7.heap.size := by simp [World.setCell]
 generalize W7.setCell ⟨w.heap.size + 1, 2, none⟩ (.slice C2 e q2) = W8 at kP kR rC G z8 ⊢
 replace kP := kP.far (p := ⟨w.heap.size + 1, 3, none⟩) (show w.heap.size ≠ w.heap.size + 1 by omega) (.int .i64 1)
 replace kR : Blk (W8.setCell ⟨w.heap.size + 1, 3, none⟩ (.int .i64 1)) (w.heap.size + 1) 35 #[.slice C0 0 q0, .slice C1 d q1, .slice C2 e q2, .int .i64 1, .bool false] := kR.set_ 3 (.int .i64 1)
 replace rC := rC.store (p := ⟨w.heap.size + 1, 3, none⟩) (show w.heap.size + 1 < W4.heap.size ∨ W5.heap.size ≤ w.heap.size + 1 by omega) (.int .i64 1)
 replace G : Below w.heap.size w (W8.setCell ⟨w.heap.size + 1, 3, none⟩ (.int .i64 1)) := Below.setCell G (show w.heap.size ≤ w.heap.size + 1 by omega) _
 have z9 : (W8.setCell ⟨w.heap.size + 1, 3, none⟩ (.int .i64 1)).heap.size = W8.heap.size := by simp [World.setCell]
 generalize W8.setCell ⟨w.heap.size + 1, 3, none⟩ (.int .i64 1) = W9 at kP kR rC G z9 ⊢
 replace kP := kP.far (p := ⟨w.heap.size + 1, 4, none⟩) (show w.heap.size ≠ w.heap.size + 1 by omega) (.bool false)
 replace kR : Blk (W9.setCell ⟨w.heap.size + 1, 4, none⟩ (.bool false)) (w.heap.size + 1) 35 #[.slice C0 0 q0, .slice C1 d q1, .slice C2 e q2, .int .i64 1, .bool false] := kR.set_ 4 (.bool false)
 replace rC := rC.store (p := ⟨w.heap.size + 1, 4, none⟩) (show w.heap.size + 1 < W4.heap.size ∨ W5.heap.size ≤ w.heap.size + 1 by omega) (.bool false)
 replace G : Below w.heap.size w (W9.setCell ⟨w.heap.size + 1, 4, none⟩ (.bool false)) := Below.setCell G (show w.heap.size ≤ w.heap.size + 1 by omega) _
 have z10 : (W9.setCell ⟨w.heap.size + 1, 4, none⟩ (.bool false)).heap.size = W9.heap.size := by simp [World.setCell]
 generalize W9.setCell ⟨w.heap.size + 1, 4, none⟩ (.bool false) = W10 at kP kR rC G z10 ⊢
 obtain ⟨tR, qR0, qR1, qR2, qR3, qR4⟩ := kR.q5
 exact bodyPost_ret (v := .agg #[.slice C0 0 q0, .slice C1 d q1, .slice C2 e q2, .int .i64 1, .bool false]) (by simp [results, Tryz.results32, go_sem, qR0, qR1, qR2, qR3, qR4]) rfl ⟨C0, C1, C2, q0, q1, q2, by simp, rC.wide (by omega) (by omega), G⟩
end Go.Proofs.YtfkdfkoigojciaaGreatDoor
