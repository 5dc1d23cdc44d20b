/- Joined of the program and of the model answer alike. Lists no longer than a million. -/
import Derived.Shelf.Abstract
import Derived.Test.YtfkdfkoigojciaaGreatDoorQT35
import Derived.Test.YtfkdfkoigojciaaGreatDoorQT18
import Derived.Test.YtfkdfkoigojciaaGreatDoorQT39
import Derived.Test.YtfkdfkoigojciaaGreatDoorQT41
import Derived.Test.YtfkdfkoigojciaaGreatDoorQT22
import Derived.Test.YtfkdfkoigojciaaGreatDoorQT23

namespace Go.Proofs.YtfkdfkoigojciaaGreatDoor
open Go.RowKit
set_option linter.unusedVariables false
set_option maxHeartbeats 800000
set_option maxRecDepth 100000
theorem nat_task {k : Nat} {x : T7} {ts : List T7} (h : ts[k]? = some x) : btw (k : Int) 0 ((ts.length : Int) - 1) = true := by
 have hk : k < ts.length := by
  rcases Nat.lt_or_ge k ts.length with h1 | h1
  ·exact h1
  ·rw [List.getElem?_eq_none h1] at h; cases h
 simp [btw]
 omega
theorem Sep.enterSix {o1 o2 o3 o4 o5 o6 : Array Value} {t1 t2 t3 t4 t5 t6 : TypeId} (w : World) : Sep [] w ((((((w.alloc (.cells o1 t1)).alloc (.cells o2 t2)).alloc (.cells o3 t3)).alloc (.cells o4 t4)).alloc (.cells o5 t5)).alloc (.cells o6 t6)) [.blk (w.heap.size + 5) t6 o6, .blk (w.heap.size + 4) t5 o5, .blk (w.heap.size + 3) t4 o4, .blk (w.heap.size + 2) t3 o3, .blk (w.heap.size + 1) t2 o2, .blk w.heap.size t1 o1] :=
 (Sep.enter5 w).alloc t6 o6 _ (by simp)
theorem joinedC (a b c d e : Int) (wk : Int) (id : Int) (bP : Nat) (bwk : Nat) (bid : Nat) (g : Nat) (V : World) (hP : ∀ j, V.cell? ⟨bP, j, none⟩ = (#[.int .i64 a, .int .i64 b, .int .i64 c, .int .i64 d, .int .i64 e] : Array Value)[j]?) (lP : bP < V.heap.size) (hwk : V.cell? ⟨bwk, 0, none⟩ = some (.int .i64 wk)) (lwk : bwk < V.heap.size) (hid : V.cell? ⟨bid, 0, none⟩ = some (.int .i64 id)) (lid : bid < V.heap.size) (er : Value) (R : World → Prop)
 (hb : Calls Tryz.prog 61 #[.pointer (some ⟨g, 0, none⟩), .agg #[.int .i64 a, .int .i64 b, .int .i64 c, .int .i64 d, .int .i64 e], .int .i64 wk, .int .i64 id] V (fun r w' => r = .returned er ∧ R w')) :
 Calls Tryz.prog 60 (#[.pointer (some ⟨g, 0, none⟩)] ++ #[.pointer (some ⟨bP, 0, none⟩), .pointer (some ⟨bwk, 0, none⟩), .pointer (some ⟨bid, 0, none⟩)]) V (fun r w' => r = .returned er ∧ R w') := by
 have HB := hide hb
 clear hb
 have Ao : V.cell? ⟨bP, 0, none⟩ = some (.int .i64 a) := hP 0
 have Aq : V.cell? ⟨bP, 1, none⟩ = some (.int .i64 b) := hP 1
 have As : V.cell? ⟨bP, 2, none⟩ = some (.int .i64 c) := hP 2
 have Ar : V.cell? ⟨bP, 3, none⟩ = some (.int .i64 d) := hP 3
 have Ap : V.cell? ⟨bP, 4, none⟩ = some (.int .i64 e) := hP 4
 clear hP
 show Calls Tryz.prog 60 #[.pointer (some ⟨g, 0, none⟩), .pointer (some ⟨bP, 0, none⟩), .pointer (some ⟨bwk, 0, none⟩), .pointer (some ⟨bid, 0, none⟩)] V _
 go_enter Tryz.func60, Tryz.ntmps60
 go_wp2_with fail
 refine Calls.mono (by with_reducible exact HB.out) ?_
 rintro r W ⟨rfl, hR⟩
 go_wp2_with fail
 go_ret
 exact ⟨rfl, hR⟩
theorem gJoined_face (a b c d e : Int) (ts : List T7) (ks : List Int) (fs : List F2) (A0 A1 A2 : Option Addr) (c0 c1 c2 : Nat) (tn : Int) (st : Bool) (wk : Int) (id : Int) (w : World) (ht : ts.length ≤ 1048576) (hk : ks.length ≤ 1048576) (hf : fs.length ≤ 1048576) (h : InPool w ts ks fs A0 A1 A2) (o : OutP)
 (hL : ∀ (V : World) (bP bwk bid : Nat), Below w.heap.size w V → (∀ j, V.cell? ⟨bP, j, none⟩ = (#[.int .i64 a, .int .i64 b, .int .i64 c, .int .i64 d, .int .i64 e] : Array Value)[j]?) → bP < V.heap.size → V.cell? ⟨bwk, 0, none⟩ = some (.int .i64 wk) → bwk < V.heap.size → V.cell? ⟨bid, 0, none⟩ = some (.int .i64 id) → bid < V.heap.size → Calls Tryz.prog 59 #[.agg #[.int .i64 a, .int .i64 b, .int .i64 c, .int .i64 d, .int .i64 e], .agg #[.slice A0 ts.length c0, .slice A1 ks.length c1, .slice A2 fs.length c2, .int .i64 tn, .bool st], .int .i64 wk, .func (.func 60) #[] #[.pointer (some ⟨bP, 0, none⟩), .pointer (some ⟨bwk, 0, none⟩), .pointer (some ⟨bid, 0, none⟩)]] V (GaveS [] V o)) :
 Calls Tryz.prog 20 #[.agg #[.int .i64 a, .int .i64 b, .int .i64 c, .int .i64 d, .int .i64 e], .agg #[.slice A0 ts.length c0, .slice A1 ks.length c1, .slice A2 fs.length c2, .int .i64 tn, .bool st], .int .i64 wk, .int .i64 id] w (GaveS [] w o) := by
 have hmf : ∀ (fn : Fn) (first cap : Array Value) (w : World), (Instr.makeFunc fn first cap).run Tryz.prog w = .ok (.func fn first cap) w := fun _ _ _ _ => rfl
 have HL := hide hL
 have H := hide h
 clear h hL
 go_enter Tryz.func20, Tryz.ntmps20
 go_wp2_with fail
 have M : Sep [] w ((((((w.alloc (.cells #[.int .i64 a, .int .i64 b, .int .i64 c, .int .i64 d, .int .i64 e] 28)).alloc (.cells #[.slice A0 ts.length c0, .slice A1 ks.length c1, .slice A2 fs.length c2, .int .i64 tn, .bool st] 35)).alloc (.cells #[.int .i64 wk] 2)).alloc (.cells #[.int .i64 id] 2)).alloc (.cells #[.slice none 0 0, .slice none 0 0, .slice none 0 0, .int .i64 0, .bool false] 35)).alloc (.cells #[.int .i64 0, .int .i64 0] 38)) [.blk (w.heap.size + 5) 38 #[.int .i64 0, .int .i64 0], .blk (w.heap.size + 4) 35 #[.slice none 0 0, .slice none 0 0, .slice none 0 0, .int .i64 0, .bool false], .blk (w.heap.size + 3) 2 #[.int .i64 id], .blk (w.heap.size + 2) 2 #[.int .i64 wk], .blk (w.heap.size + 1) 35 #[.slice A0 ts.length c0, .slice A1 ks.length c1, .slice A2 fs.length c2, .int .i64 tn, .bool st], .blk (w.heap.size) 28 #[.int .i64 a, .int .i64 b, .int .i64 c, .int .i64 d, .int .i64 e]] := Sep.enterSix w
 generalize (((((w.alloc (.cells #[.int .i64 a, .int .i64 b, .int .i64 c, .int .i64 d, .int .i64 e] 28)).alloc (.cells #[.slice A0 ts.length c0, .slice A1 ks.length c1, .slice A2 fs.length c2, .int .i64 tn, .bool st] 35)).alloc (.cells #[.int .i64 wk] 2)).alloc (.cells #[.int .i64 id] 2)).alloc (.cells #[.slice none 0 0, .slice none 0 0, .slice none 0 0, .int .i64 0, .bool false] 35)).alloc (.cells #[.int .i64 0, .int .i64 0] 38) = W1 at M ⊢
 obtain ⟨tS, Aa, An, Ae, Am⟩ := M.f2 0 rfl
 obtain ⟨tR, Ac, Ai, Ag, Aj, Ad, Al, Af, Ak, Ab, Ah⟩ := M.f5 1 rfl
 obtain ⟨tVid, qVid0, fVid0⟩ := M.f1 2 rfl
 obtain ⟨tVwk, qVwk0, fVwk0⟩ := M.f1 3 rfl
 obtain ⟨tX, Bd, Bg, Ay, At, Au, Bh, Ba, Bb, Av, Az⟩ := M.f5 4 rfl
 obtain ⟨tP, Ao, Ax, Aq, Be, As, Bc, Ar, Bf, Ap, Aw⟩ := M.f5 5 rfl
 go_wp2_with fail
 have hC := HL.out _ (w.heap.size) (w.heap.size + 2) (w.heap.size + 3) M.below (fun j => M.cell 5 j rfl) (M.lt 5 rfl) (M.cell 3 0 rfl) (M.lt 3 rfl) (M.cell 2 0 rfl) (M.lt 2 rfl)
 refine Calls.mono (by with_reducible exact hC) ?_
 clear hC
 rintro r W2 ⟨B0, B1, B2, d0, d1, d2, rfl, g1⟩
 clear tS Aa An Ae Am tR Ac Ai Ag Aj Ad Al Af Ak Ab Ah tVid qVid0 fVid0 tVwk qVwk0 fVwk0 tX Bd Bg Ay At Au Bh Ba Bb Av Az tP Ao Ax Aq Be As Bc Ar Bf Ap Aw
 replace M := Sep.new M g1
 simp only [zC, zN] at M
 clear g1
 obtain ⟨tS, Aa, An, Ae, Am⟩ := M.f2 3 rfl
 obtain ⟨tR, Ac, Ai, Ag, Aj, Ad, Al, Af, Ak, Ab, Ah⟩ := M.f5 4 rfl
 go_wp2_with fail
 clear tS Aa An Ae Am tR Ac Ai Ag Aj Ad Al Af Ak Ab Ah
 have N := M.gset5 4 rfl (.slice B0 o.ts.length d0) (.slice B1 o.ks.length d1) (.slice B2 o.fs.length d2) (.int .i64 o.tn) (.bool o.st)
 clear M
 obtain ⟨W3, eW, M⟩ := N
 rw [eW]
 clear eW
 simp only [zZ, zS] at M
 have N := M.gset2 3 rfl (.int .i64 o.rp) (.int .i64 o.ou)
 clear M
 obtain ⟨W4, eW, M⟩ := N
 rw [eW]
 clear eW
 simp only [zZ, zS] at M
 obtain ⟨tS, Aa, Ae⟩ := M.q2 3 rfl
 obtain ⟨tR, Ac, Ag, Ad, Af, Ab⟩ := M.q5 4 rfl
 exact bodyPost_ret (by simp [results, Tryz.results20, go_sem, Ac, Ag, Ad, Af, Ab, Aa, Ae]) rfl ⟨B0, B1, B2, d0, d1, d2, rfl, M.take 3⟩
theorem joined_told (a b c d e : Int) (ts : List T7) (ks : List Int) (fs : List F2) (tn : Int) (st : Bool) (wk : Int) (id : Int) (hl : ts.length + ks.length + fs.length ≤ 1048576) :
 ∃ (us : List T7) (ks2 : List Int) (fs2 : List F2) (tn2 : Int) (st2 : Bool) (rp ou : Int), us.length + ks2.length + fs2.length ≤ 1048576 ∧
 ((rp ≠ 1 → rp ≠ 7 → poolB a b c d e ts ks fs tn = true → us = ts ∧ ks2 = ks ∧ fs2 = fs ∧ tn2 = tn ∧ st2 = st) ∧ (poolB a b c d e ts ks fs tn = true → btw wk 0 (a - 1) = true → ∀ (m : Nat) (x2 : T7), runM ts wk 0 = m → ts[m]? = some x2 → (id = m → rp = 8) ∧ (∀ (k : Nat) (x : T7), id = k → ts[k]? = some x → k ≠ m → (x.s = 5 → rp = 5) ∧ (x.s ≠ 5 → x.s ≠ 4 → tn < 1000000 → rp = 7 ∧ ou = m ∧ us = ts.set m (parkT x2 tn 1 k) ∧ ks2 = ks ∧ fs2 = fs ∧ tn2 = tn + 1 ∧ st2 = st ∧ poolB a b c d e us ks2 fs2 tn2 = true)))) ∧
 Hid (∀ (A0 A1 A2 : Option Addr) (c0 c1 c2 : Nat) (w : World), InPool w ts ks fs A0 A1 A2 → Calls Tryz.prog 27 #[.agg #[.int .i64 a, .int .i64 b, .int .i64 c, .int .i64 d, .int .i64 e], .agg #[.slice A0 ts.length c0, .slice A1 ks.length c1, .slice A2 fs.length c2, .int .i64 tn, .bool st], .int .i64 wk, .int .i64 id] w (GaveA us ks2 fs2 tn2 st2 rp ou w)) ∧
 Hid (∀ (A0 A1 A2 : Option Addr) (c0 c1 c2 : Nat) (w : World), Laid w → InPool w ts ks fs A0 A1 A2 → Calls Tryz.prog 20 #[.agg #[.int .i64 a, .int .i64 b, .int .i64 c, .int .i64 d, .int .i64 e], .agg #[.slice A0 ts.length c0, .slice A1 ks.length c1, .slice A2 fs.length c2, .int .i64 tn, .bool st], .int .i64 wk, .int .i64 id] w (GaveA us ks2 fs2 tn2 st2 rp ou w)) := by
 have ht : ts.length ≤ 1048576 := by omega
 have hk : ks.length ≤ 1048576 := by omega
 have hf : fs.length ≤ 1048576 := by omega
 cases hp : poolB a b c d e ts ks fs tn
 ·exact ⟨[], [], [], 0, false, 8, 0, by simp, ⟨(fun _ _ h => by cases h), (fun h => by cases h)⟩, hide (fun A0 A1 A2 c0 c1 c2 w h => (joined_may a b c d e ts ks fs A0 A1 A2 c0 c1 c2 tn st wk id w ht hk hf h _ rfl (by simp [mayB, hp])).mono (fun r w' hh => by rw [hp] at hh; exact hh)), hide (fun A0 A1 A2 c0 c1 c2 w hg h => gJoined_face a b c d e ts ks fs A0 A1 A2 c0 c1 c2 tn st wk id w ht hk hf h ⟨[], [], [], 0, false, 8, 0⟩ (fun V bP bwk bid hV hP lP hwk lwk hid lid => livedAs_bad a b c d e ts ks fs A0 A1 A2 c0 c1 c2 tn st wk 60 #[.pointer (some ⟨bP, 0, none⟩), .pointer (some ⟨bwk, 0, none⟩), .pointer (some ⟨bid, 0, none⟩)] V ht hk hf (h.below hV) hp))⟩
 have hpl := (poolB_parts hp).1
 have hT := (poolB_parts hp).2.1
 cases hw : btw wk 0 (a - 1)
 ·exact ⟨ts, ks, fs, tn, st, 8, 0, hl, ⟨fun _ _ _ => ⟨rfl, rfl, rfl, rfl, rfl⟩, (fun _ h => by cases h)⟩, hide (fun A0 A1 A2 c0 c1 c2 w h => (joined_may a b c d e ts ks fs A0 A1 A2 c0 c1 c2 tn st wk id w ht hk hf h _ rfl (by simp [mayB, workB, hp, hw])).mono (fun r w' hh => by rw [hp] at hh; exact hh)), hide (fun A0 A1 A2 c0 c1 c2 w hg h => gJoined_face a b c d e ts ks fs A0 A1 A2 c0 c1 c2 tn st wk id w ht hk hf h ⟨ts, ks, fs, tn, st, 8, 0⟩ (fun V bP bwk bid hV hP lP hwk lwk hid lid => livedAs_worker a b c d e ts ks fs A0 A1 A2 c0 c1 c2 tn st wk 60 #[.pointer (some ⟨bP, 0, none⟩), .pointer (some ⟨bwk, 0, none⟩), .pointer (some ⟨bid, 0, none⟩)] V ht hk hf (h.below hV) hp hw))⟩
 have hm : mayB a b c d e ts ks fs tn wk = true := by simp [mayB, workB, hp, hw, hpl]
 by_cases h0 : runM ts wk 0 < 0
 ·have hr := runM_none h0
  exact ⟨ts, ks, fs, tn, st, 2, 0, hl, ⟨fun _ _ _ => ⟨rfl, rfl, rfl, rfl, rfl⟩, fun _ _ m x2 h1 _ => by omega⟩, hide (fun A0 A1 A2 c0 c1 c2 w h => (joined_none a b c d e ts ks fs A0 A1 A2 c0 c1 c2 tn st wk id w ht hk hf h _ rfl h0 hm).mono (fun r w' hh => by rw [hp] at hh; exact hh)), hide (fun A0 A1 A2 c0 c1 c2 w hg h => gJoined_face a b c d e ts ks fs A0 A1 A2 c0 c1 c2 tn st wk id w ht hk hf h ⟨ts, ks, fs, tn, st, 2, 0⟩ (fun V bP bwk bid hV hP lP hwk lwk hid lid => livedAs_no a b c d e ts ks fs A0 A1 A2 c0 c1 c2 tn st wk 60 #[.pointer (some ⟨bP, 0, none⟩), .pointer (some ⟨bwk, 0, none⟩), .pointer (some ⟨bid, 0, none⟩)] (Go.Proofs.enters_of Tryz.func60 (by kernel_rfl) rfl) V ht hk hf (h.below hV) (hg.below hV) hp hw 2 (by omega) (by omega) (fun V2 g C0 C1 C2 e0 e1 e2 hV2 hM => joinedC a b c d e wk id bP bwk bid g V2 (fun j => (hV2.cell (p := ⟨bP, j, none⟩) lP).trans (hP j)) (Nat.lt_of_lt_of_le lP hV2.size) ((hV2.cell (p := ⟨bwk, 0, none⟩) lwk).trans hwk) (Nat.lt_of_lt_of_le lwk hV2.size) ((hV2.cell (p := ⟨bid, 0, none⟩) lid).trans hid) (Nat.lt_of_lt_of_le lid hV2.size) _ _ (join_none ts ks fs C0 C1 C2 e0 e1 e2 tn st g a b c d e wk id V2 ht hk hf hM hr))))⟩
 obtain ⟨m, hr⟩ : ∃ m : Nat, runM ts wk 0 = m := ⟨(runM ts wk 0).toNat, by omega⟩
 obtain ⟨⟨s2, l2, o2, wt2, on2, v2, t2⟩, ht2, hs2, _⟩ := runM_runs (Int.le_refl 0) (show runM ts wk 0 = 0 + (m : Int) by omega)
 simp only at hs2
 have hc2 : isInB ts m 2 = true := (isInB_of ht2 2).trans (by simp [hs2])
 have hm0 : (0 : Int) ≤ (m : Int) := by omega
 cases hh : btw id 0 ((ts.length : Int) - 1)
 ·exact ⟨ts, ks, fs, tn, st, 8, 0, hl, ⟨fun _ _ _ => ⟨rfl, rfl, rfl, rfl, rfl⟩, fun _ _ m9 x9 _ _ => ⟨fun _ => rfl, fun k x h1 h2 _ => by rw [h1, nat_task h2] at hh; cases hh⟩⟩, hide (fun A0 A1 A2 c0 c1 c2 w h => (joined_has a b c d e ts ks fs A0 A1 A2 c0 c1 c2 tn st wk id w ht hk hf h m hr hm0 hm hh).mono (fun r w' hh => by rw [hp] at hh; exact hh)), hide (fun A0 A1 A2 c0 c1 c2 w hg h => gJoined_face a b c d e ts ks fs A0 A1 A2 c0 c1 c2 tn st wk id w ht hk hf h ⟨ts, ks, fs, tn, st, 8, 0⟩ (fun V bP bwk bid hV hP lP hwk lwk hid lid => livedAs_no a b c d e ts ks fs A0 A1 A2 c0 c1 c2 tn st wk 60 #[.pointer (some ⟨bP, 0, none⟩), .pointer (some ⟨bwk, 0, none⟩), .pointer (some ⟨bid, 0, none⟩)] (Go.Proofs.enters_of Tryz.func60 (by kernel_rfl) rfl) V ht hk hf (h.below hV) (hg.below hV) hp hw 8 (by omega) (by omega) (fun V2 g C0 C1 C2 e0 e1 e2 hV2 hM => joinedC a b c d e wk id bP bwk bid g V2 (fun j => (hV2.cell (p := ⟨bP, j, none⟩) lP).trans (hP j)) (Nat.lt_of_lt_of_le lP hV2.size) ((hV2.cell (p := ⟨bwk, 0, none⟩) lwk).trans hwk) (Nat.lt_of_lt_of_le lwk hV2.size) ((hV2.cell (p := ⟨bid, 0, none⟩) lid).trans hid) (Nat.lt_of_lt_of_le lid hV2.size) _ _ (join_has ts ks fs C0 C1 C2 e0 e1 e2 tn st g a b c d e wk id V2 ht hk hf hM m hr hm0 hh))))⟩
 obtain ⟨k, s, l, o1, wt, on, v, t, rfl, hkl, hts⟩ := task_nat hh
 have i5 := isInB_of hts 5
 have i4 := isInB_of hts 4
 simp only at i5 i4
 by_cases hkm : k = m
 ·subst hkm
  exact ⟨ts, ks, fs, tn, st, 8, 0, hl, ⟨fun _ _ _ => ⟨rfl, rfl, rfl, rfl, rfl⟩, fun _ _ m9 x9 h1 _ => ⟨fun _ => rfl, fun k9 x h2 _ h3 => absurd (show k9 = m9 by omega) h3⟩⟩, hide (fun A0 A1 A2 c0 c1 c2 w h => (joined_self a b c d e ts ks fs A0 A1 A2 c0 c1 c2 tn st wk k w ht hk hf h k hr hm0 hm hh rfl).mono (fun r w' hh => by rw [hp] at hh; exact hh)), hide (fun A0 A1 A2 c0 c1 c2 w hg h => gJoined_face a b c d e ts ks fs A0 A1 A2 c0 c1 c2 tn st wk k w ht hk hf h ⟨ts, ks, fs, tn, st, 8, 0⟩ (fun V bP bwk bid hV hP lP hwk lwk hid lid => livedAs_no a b c d e ts ks fs A0 A1 A2 c0 c1 c2 tn st wk 60 #[.pointer (some ⟨bP, 0, none⟩), .pointer (some ⟨bwk, 0, none⟩), .pointer (some ⟨bid, 0, none⟩)] (Go.Proofs.enters_of Tryz.func60 (by kernel_rfl) rfl) V ht hk hf (h.below hV) (hg.below hV) hp hw 8 (by omega) (by omega) (fun V2 g C0 C1 C2 e0 e1 e2 hV2 hM => joinedC a b c d e wk k bP bwk bid g V2 (fun j => (hV2.cell (p := ⟨bP, j, none⟩) lP).trans (hP j)) (Nat.lt_of_lt_of_le lP hV2.size) ((hV2.cell (p := ⟨bwk, 0, none⟩) lwk).trans hwk) (Nat.lt_of_lt_of_le lwk hV2.size) ((hV2.cell (p := ⟨bid, 0, none⟩) lid).trans hid) (Nat.lt_of_lt_of_le lid hV2.size) _ _ (join_self ts ks fs C0 C1 C2 e0 e1 e2 tn st g a b c d e wk k V2 ht hk hf hM hr hm0 hh))))⟩
 have hne : ¬ (k : Int) = (m : Int) := by omega
 by_cases h5 : s = 5
 ·exact ⟨ts, ks, fs, tn, st, 5, 0, hl, ⟨fun _ _ _ => ⟨rfl, rfl, rfl, rfl, rfl⟩, fun _ _ m9 x9 h1 _ => ⟨fun h2 => absurd (show k = m by omega) hkm, fun k9 x h2 h3 _ => ⟨fun _ => rfl, fun h4 => absurd (by obtain rfl : k9 = k := (by omega); rw [hts] at h3; injection h3 with h3; subst h3; exact h5) h4⟩⟩⟩, hide (fun A0 A1 A2 c0 c1 c2 w h => (joined_gone a b c d e ts ks fs A0 A1 A2 c0 c1 c2 tn st wk k w ht hk hf h k s l o1 wt on v t rfl hts h5 m hr hm0 hne hm hh).mono (fun r w' hh => by rw [hp] at hh; exact hh)), hide (fun A0 A1 A2 c0 c1 c2 w hg h => gJoined_face a b c d e ts ks fs A0 A1 A2 c0 c1 c2 tn st wk k w ht hk hf h ⟨ts, ks, fs, tn, st, 5, 0⟩ (fun V bP bwk bid hV hP lP hwk lwk hid lid => livedAs_no a b c d e ts ks fs A0 A1 A2 c0 c1 c2 tn st wk 60 #[.pointer (some ⟨bP, 0, none⟩), .pointer (some ⟨bwk, 0, none⟩), .pointer (some ⟨bid, 0, none⟩)] (Go.Proofs.enters_of Tryz.func60 (by kernel_rfl) rfl) V ht hk hf (h.below hV) (hg.below hV) hp hw 5 (by omega) (by omega) (fun V2 g C0 C1 C2 e0 e1 e2 hV2 hM => joinedC a b c d e wk k bP bwk bid g V2 (fun j => (hV2.cell (p := ⟨bP, j, none⟩) lP).trans (hP j)) (Nat.lt_of_lt_of_le lP hV2.size) ((hV2.cell (p := ⟨bwk, 0, none⟩) lwk).trans hwk) (Nat.lt_of_lt_of_le lwk hV2.size) ((hV2.cell (p := ⟨bid, 0, none⟩) lid).trans hid) (Nat.lt_of_lt_of_le lid hV2.size) _ _ (join_gone ts ks fs C0 C1 C2 e0 e1 e2 tn st g a b c d e wk k V2 ht hk hf hM m hr hm0 hh hne (i5.trans (by simp [h5]))))))⟩
 by_cases h4 : s = 4
 ·exact ⟨ts, ks, fs, tn, st, 1, v, hl, ⟨fun h => absurd rfl h, fun _ _ m9 x9 h1 _ => ⟨fun h2 => absurd (show k = m by omega) hkm, fun k9 x h2 h3 _ => by obtain rfl : k9 = k := (by omega); rw [hts] at h3; injection h3 with h3; subst h3; exact ⟨fun h => absurd h h5, fun _ h => absurd h4 h⟩⟩⟩, hide (fun A0 A1 A2 c0 c1 c2 w h => (joined_done a b c d e ts ks fs A0 A1 A2 c0 c1 c2 tn st wk k w ht hk hf h k s l o1 wt on v t rfl hts h4 m hr hm0 hne hm hh).mono (fun r w' hh => by exact hh)), hide (fun A0 A1 A2 c0 c1 c2 w hg h => gJoined_face a b c d e ts ks fs A0 A1 A2 c0 c1 c2 tn st wk k w ht hk hf h ⟨ts, ks, fs, tn, st, 1, v⟩ (fun V bP bwk bid hV hP lP hwk lwk hid lid => livedAs_yes a b c d e ts ks fs A0 A1 A2 c0 c1 c2 tn st wk 60 #[.pointer (some ⟨bP, 0, none⟩), .pointer (some ⟨bwk, 0, none⟩), .pointer (some ⟨bid, 0, none⟩)] (Go.Proofs.enters_of Tryz.func60 (by kernel_rfl) rfl) V ht hk hf (h.below hV) (hg.below hV) hp hw ⟨ts, ks, fs, tn, st, 1, v⟩ (.inl rfl) (fun V2 g C0 C1 C2 e0 e1 e2 hV2 hM => joinedC a b c d e wk k bP bwk bid g V2 (fun j => (hV2.cell (p := ⟨bP, j, none⟩) lP).trans (hP j)) (Nat.lt_of_lt_of_le lP hV2.size) ((hV2.cell (p := ⟨bwk, 0, none⟩) lwk).trans hwk) (Nat.lt_of_lt_of_le lwk hV2.size) ((hV2.cell (p := ⟨bid, 0, none⟩) lid).trans hid) (Nat.lt_of_lt_of_le lid hV2.size) _ _ (join_done ts ks fs C0 C1 C2 e0 e1 e2 tn st g a b c d e wk k s l o1 wt on v t hts V2 ht hk hf hM m hr hm0 hh hne (i5.trans (by simp [h5])) (i4.trans (by simp [h4]))))))⟩
 have hwt : waitB b d e 3 1 k = true := by
  have h1 := (pool_len hp).1
  simp [waitB, cnt, btw]
  omega
 have hwo : waitsOk ts.length m 1 k = true := by
  simp [waitsOk]
  omega
 by_cases t1 : tn < 1000000
 ·have hz := parkP_right hp ht2 t1 hwt hwo
  exact ⟨ts.set m (parkT ⟨s2, l2, o2, wt2, on2, v2, t2⟩ tn 1 k), ks, fs, tn + 1, st, 7, m, by simpa using hl, ⟨fun _ h => absurd rfl h, fun _ _ m9 x9 h1 h9 => by
   obtain rfl : m9 = m := (by omega)
   rw [ht2] at h9
   injection h9 with h9
   subst h9
   exact ⟨fun h2 => absurd (show k = m9 by omega) hkm, fun k9 x h2 h3 _ => by obtain rfl : k9 = k := (by omega); rw [hts] at h3; injection h3 with h3; subst h3; exact ⟨fun h => absurd h h5, fun _ _ _ => ⟨rfl, rfl, rfl, rfl, rfl, rfl, rfl, hz⟩⟩⟩⟩, hide (fun A0 A1 A2 c0 c1 c2 w h => (joined_park a b c d e ts ks fs A0 A1 A2 c0 c1 c2 tn st wk k w ht hk hf h k s l o1 wt on v t rfl hts h4 h5 m s2 l2 o2 wt2 on2 v2 t2 ht2 hr hne hkm hm hh).mono (fun r w' hh => by rw [hz] at hh; exact hh)), hide (fun A0 A1 A2 c0 c1 c2 w hg h => gJoined_face a b c d e ts ks fs A0 A1 A2 c0 c1 c2 tn st wk k w ht hk hf h ⟨ts.set m (parkT ⟨s2, l2, o2, wt2, on2, v2, t2⟩ tn 1 k), ks, fs, tn + 1, st, 7, m⟩ (fun V bP bwk bid hV hP lP hwk lwk hid lid => livedAs_yes a b c d e ts ks fs A0 A1 A2 c0 c1 c2 tn st wk 60 #[.pointer (some ⟨bP, 0, none⟩), .pointer (some ⟨bwk, 0, none⟩), .pointer (some ⟨bid, 0, none⟩)] (Go.Proofs.enters_of Tryz.func60 (by kernel_rfl) rfl) V ht hk hf (h.below hV) (hg.below hV) hp hw ⟨ts.set m (parkT ⟨s2, l2, o2, wt2, on2, v2, t2⟩ tn 1 k), ks, fs, tn + 1, st, 7, m⟩ (.inr rfl) (fun V2 g C0 C1 C2 e0 e1 e2 hV2 hM => joinedC a b c d e wk k bP bwk bid g V2 (fun j => (hV2.cell (p := ⟨bP, j, none⟩) lP).trans (hP j)) (Nat.lt_of_lt_of_le lP hV2.size) ((hV2.cell (p := ⟨bwk, 0, none⟩) lwk).trans hwk) (Nat.lt_of_lt_of_le lwk hV2.size) ((hV2.cell (p := ⟨bid, 0, none⟩) lid).trans hid) (Nat.lt_of_lt_of_le lid hV2.size) _ _ (join_park ts ks fs C0 C1 C2 e0 e1 e2 tn st g a b c d e wk k m s2 l2 o2 wt2 on2 v2 t2 V2 ht hk hf hM hT.1 hT.2 hr ht2 hc2 hh hne (i5.trans (by simp [h5])) (i4.trans (by simp [h4])) hz))))⟩
 ·have hz : poolB a b c d e (ts.set m (parkT ⟨s2, l2, o2, wt2, on2, v2, t2⟩ tn 1 k)) ks fs (tn + 1) = false := turn_over (by omega)
  exact ⟨ts, ks, fs, tn, st, 4, 0, hl, ⟨fun _ _ _ => ⟨rfl, rfl, rfl, rfl, rfl⟩, fun _ _ m9 x9 h1 _ => ⟨fun h2 => absurd (show k = m by omega) hkm, fun k9 x h2 h3 _ => by obtain rfl : k9 = k := (by omega); rw [hts] at h3; injection h3 with h3; subst h3; exact ⟨fun h => absurd h h5, fun _ _ h => absurd h t1⟩⟩⟩, hide (fun A0 A1 A2 c0 c1 c2 w h => (joined_park a b c d e ts ks fs A0 A1 A2 c0 c1 c2 tn st wk k w ht hk hf h k s l o1 wt on v t rfl hts h4 h5 m s2 l2 o2 wt2 on2 v2 t2 ht2 hr hne hkm hm hh).mono (fun r w' hh => by rw [hz] at hh; exact hh)), hide (fun A0 A1 A2 c0 c1 c2 w hg h => gJoined_face a b c d e ts ks fs A0 A1 A2 c0 c1 c2 tn st wk k w ht hk hf h ⟨ts, ks, fs, tn, st, 4, 0⟩ (fun V bP bwk bid hV hP lP hwk lwk hid lid => livedAs_no a b c d e ts ks fs A0 A1 A2 c0 c1 c2 tn st wk 60 #[.pointer (some ⟨bP, 0, none⟩), .pointer (some ⟨bwk, 0, none⟩), .pointer (some ⟨bid, 0, none⟩)] (Go.Proofs.enters_of Tryz.func60 (by kernel_rfl) rfl) V ht hk hf (h.below hV) (hg.below hV) hp hw 4 (by omega) (by omega) (fun V2 g C0 C1 C2 e0 e1 e2 hV2 hM => joinedC a b c d e wk k bP bwk bid g V2 (fun j => (hV2.cell (p := ⟨bP, j, none⟩) lP).trans (hP j)) (Nat.lt_of_lt_of_le lP hV2.size) ((hV2.cell (p := ⟨bwk, 0, none⟩) lwk).trans hwk) (Nat.lt_of_lt_of_le lwk hV2.size) ((hV2.cell (p := ⟨bid, 0, none⟩) lid).trans hid) (Nat.lt_of_lt_of_le lid hV2.size) _ _ (join_full ts ks fs C0 C1 C2 e0 e1 e2 tn st g a b c d e wk k m s2 l2 o2 wt2 on2 v2 t2 V2 ht hk hf hM hT.1 hT.2 hr ht2 hc2 hh hne (i5.trans (by simp [h5])) (i4.trans (by simp [h4])) hz))))⟩
end Go.Proofs.YtfkdfkoigojciaaGreatDoor
