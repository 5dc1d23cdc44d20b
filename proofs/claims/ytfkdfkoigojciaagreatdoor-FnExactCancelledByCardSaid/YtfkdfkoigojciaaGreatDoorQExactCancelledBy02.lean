/- CancelledBy of the program and of the model answer alike. Lists no longer than a million. -/
import Derived.Shelf.Abstract
import Derived.Test.YtfkdfkoigojciaaGreatDoorQB09
import Derived.Test.YtfkdfkoigojciaaGreatDoorQB12
import Derived.Test.YtfkdfkoigojciaaGreatDoorQB15
import Derived.Test.YtfkdfkoigojciaaGreatDoorQExactCancelledBy01

namespace Go.Proofs.YtfkdfkoigojciaaGreatDoor
open Go.RowKit
set_option linter.unusedVariables false
set_option maxRecDepth 100000
theorem nat_task2 {k : Nat} {x : T7} {ts : List T7} (h : ts[k]? = some x) : btw (k : Int) 0 ((ts.length : Int) - 1) = true := by
 have hk : k < ts.length := by
  rcases Nat.lt_or_ge k ts.length with h1 | h1
  ·exact h1
  ·rw [List.getElem?_eq_none h1] at h; cases h
 simp [btw]
 omega
theorem okAll_room {L : List Int} {tn : Int} (h : tn + (L.length : Int) ≤ 1000000) : okAll L 0 tn = true := by
 simp [okAll, btw, h]
set_option maxHeartbeats 400000 in
theorem cancelledbyC (id : Int) (bid : Nat) (g : Nat) (V : World) (hid : V.cell? ⟨bid, 0, none⟩ = some (.int .i64 id)) (lid : bid < V.heap.size) (er : Value) (R : World → Prop)
 (hb : Calls Tryz.prog 66 #[.pointer (some ⟨g, 0, none⟩), .int .i64 id] V (fun r w' => r = .returned er ∧ R w')) :
 Calls Tryz.prog 65 (#[.pointer (some ⟨g, 0, none⟩)] ++ #[.pointer (some ⟨bid, 0, none⟩)]) V (fun r w' => r = .returned er ∧ R w') := by
 have HB := hide hb
 clear hb
 show Calls Tryz.prog 65 #[.pointer (some ⟨g, 0, none⟩), .pointer (some ⟨bid, 0, none⟩)] V _
 go_enter Tryz.func65, Tryz.ntmps65
 go_wp2_with fail
 refine Calls.mono (by with_reducible exact HB.out) ?_
 rintro r W ⟨rfl, hR⟩
 go_wp2_with fail
 go_ret
 exact ⟨rfl, hR⟩
set_option maxHeartbeats 800000 in
theorem gCancelledBy_face (a b c d e : Int) (ts : List T7) (ks : List Int) (fs : List F2) (A0 A1 A2 : Option Addr) (c0 c1 c2 : Nat) (tn : Int) (st : Bool) (wk : Int) (id : Int) (w : World) (ht : ts.length ≤ 1048576) (hk : ks.length ≤ 1048576) (hf : fs.length ≤ 1048576) (h : InPool w ts ks fs A0 A1 A2) (o : OutP)
 (hL : ∀ (V : World) (bid : Nat), Below w.heap.size w V → V.cell? ⟨bid, 0, none⟩ = some (.int .i64 id) → bid < V.heap.size → Calls Tryz.prog 59 #[.agg #[.int .i64 a, .int .i64 b, .int .i64 c, .int .i64 d, .int .i64 e], .agg #[.slice A0 ts.length c0, .slice A1 ks.length c1, .slice A2 fs.length c2, .int .i64 tn, .bool st], .int .i64 wk, .func (.func 65) #[] #[.pointer (some ⟨bid, 0, none⟩)]] V (GaveS [] V o)) :
 Calls Tryz.prog 22 #[.agg #[.int .i64 a, .int .i64 b, .int .i64 c, .int .i64 d, .int .i64 e], .agg #[.slice A0 ts.length c0, .slice A1 ks.length c1, .slice A2 fs.length c2, .int .i64 tn, .bool st], .int .i64 wk, .int .i64 id] w (GaveS [] w o) := by
 have hmf : ∀ (fn : Fn) (first cap : Array Value) (w : World), (Instr.makeFunc fn first cap).run Tryz.prog w = .ok (.func fn first cap) w := fun _ _ _ _ => rfl
 have HL := hide hL
 have H := hide h
 clear h hL
 go_enter Tryz.func22, Tryz.ntmps22
 go_wp2_with fail
 generalize hW : ((((w.alloc _).alloc _).alloc _).alloc _).alloc _ = W1
 have M := Sep.e5 hW
 clear hW
 obtain ⟨tS, Ag, Ai, Aa, Ah⟩ := M.f2 0 rfl
 obtain ⟨tR, Af, An, Ae, Ak, Ac, Aj, Ad, Am, Ab, Al⟩ := M.f5 1 rfl
 obtain ⟨tVid, qVid0, fVid0⟩ := M.f1 2 rfl
 obtain ⟨tX, As, Bh, Ba, At, Ap, Aw, Av, Be, Bf, Bb⟩ := M.f5 3 rfl
 obtain ⟨tP, Az, Bg, Bc, Ar, Ao, Au, Ay, Bd, Ax, Aq⟩ := M.f5 4 rfl
 go_wp2_with fail
 have hC := HL.out _ (w.heap.size + 2) M.below (M.cell 2 0 rfl) (M.lt 2 rfl)
 refine Calls.mono (by with_reducible exact hC) ?_
 clear hC
 rintro r W2 ⟨B0, B1, B2, d0, d1, d2, rfl, g1⟩
 clear tS Ag Ai Aa Ah tR Af An Ae Ak Ac Aj Ad Am Ab Al tVid qVid0 fVid0 tX As Bh Ba At Ap Aw Av Be Bf Bb tP Az Bg Bc Ar Ao Au Ay Bd Ax Aq
 replace M := Sep.new M g1
 simp only [List.cons_append, List.nil_append] at M
 clear g1
 obtain ⟨tS, Ag, Ai, Aa, Ah⟩ := M.f2 3 rfl
 obtain ⟨tR, Af, An, Ae, Ak, Ac, Aj, Ad, Am, Ab, Al⟩ := M.f5 4 rfl
 go_wp2_with fail
 clear tS Ag Ai Aa Ah tR Af An Ae Ak Ac Aj Ad Am Ab Al
 have N := M.gset5 4 rfl (.slice B0 o.ts.length d0) (.slice B1 o.ks.length d1) (.slice B2 o.fs.length d2) (.int .i64 o.tn) (.bool o.st)
 clear M
 obtain ⟨W3, eW, M⟩ := N
 rw [eW]
 clear eW
 simp only [List.set_cons_zero, List.set_cons_succ] at M
 have N := M.gset2 3 rfl (.int .i64 o.rp) (.int .i64 o.ou)
 clear M
 obtain ⟨W4, eW, M⟩ := N
 rw [eW]
 clear eW
 simp only [List.set_cons_zero, List.set_cons_succ] at M
 obtain ⟨tS, Ag, Aa⟩ := M.q2 3 rfl
 obtain ⟨tR, Af, Ae, Ac, Ad, Ab⟩ := M.q5 4 rfl
 exact bodyPost_ret (by simp [results, Tryz.results22, go_sem, Af, Ae, Ac, Ad, Ab, Ag, Aa]) rfl ⟨B0, B1, B2, d0, d1, d2, rfl, M.take 3⟩
theorem cancelledby_told (a b c d e : Int) (ts : List T7) (ks : List Int) (fs : List F2) (tn : Int) (st : Bool) (wk : Int) (id : Int) (hl : ts.length + ks.length + fs.length ≤ 1048576) :
 ∃ (us : List T7) (ks2 : List Int) (fs2 : List F2) (tn2 : Int) (st2 : Bool) (rp ou : Int), us.length + ks2.length + fs2.length ≤ 1048576 ∧
 ((rp ≠ 1 → poolB a b c d e ts ks fs tn = true → us = ts ∧ ks2 = ks ∧ fs2 = fs ∧ tn2 = tn ∧ st2 = st) ∧ (poolB a b c d e ts ks fs tn = true → btw wk 0 (a - 1) = true → ∀ (k : Nat) (x : T7), id = k → ts[k]? = some x → (x.s = 2 → rp = 3) ∧ (x.s = 4 ∨ x.s = 5 → rp = 5) ∧ (x.s = 1 ∨ x.s = 3 → tn + ((waitersM (ts.set k ⟨5, x.l, x.o, 0, 0, x.v, x.t⟩) 1 k).length : Int) ≤ 1000000 → rp = 1 ∧ us = wakeAllT (waitersM (ts.set k ⟨5, x.l, x.o, 0, 0, x.v, x.t⟩) 1 k) (ts.set k ⟨5, x.l, x.o, 0, 0, x.v, x.t⟩) tn 0 ∧ ks2 = ks ∧ fs2 = fs ∧ tn2 = tn + ((waitersM (ts.set k ⟨5, x.l, x.o, 0, 0, x.v, x.t⟩) 1 k).length : Int) ∧ st2 = st ∧ poolB a b c d e us ks2 fs2 tn2 = true))) ∧
 Hid (∀ (A0 A1 A2 : Option Addr) (c0 c1 c2 : Nat) (w : World), InPool w ts ks fs A0 A1 A2 → Calls Tryz.prog 28 #[.agg #[.int .i64 a, .int .i64 b, .int .i64 c, .int .i64 d, .int .i64 e], .agg #[.slice A0 ts.length c0, .slice A1 ks.length c1, .slice A2 fs.length c2, .int .i64 tn, .bool st], .int .i64 wk, .int .i64 id] w (GaveA us ks2 fs2 tn2 st2 rp ou w)) ∧
 Hid (∀ (A0 A1 A2 : Option Addr) (c0 c1 c2 : Nat) (w : World), Laid w → InPool w ts ks fs A0 A1 A2 → Calls Tryz.prog 22 #[.agg #[.int .i64 a, .int .i64 b, .int .i64 c, .int .i64 d, .int .i64 e], .agg #[.slice A0 ts.length c0, .slice A1 ks.length c1, .slice A2 fs.length c2, .int .i64 tn, .bool st], .int .i64 wk, .int .i64 id] w (GaveA us ks2 fs2 tn2 st2 rp ou w)) := by
 have ht : ts.length ≤ 1048576 := by omega
 have hk : ks.length ≤ 1048576 := by omega
 have hf : fs.length ≤ 1048576 := by omega
 cases hp : poolB a b c d e ts ks fs tn
 ·exact ⟨[], [], [], 0, false, 8, 0, by simp, ⟨(fun _ h => by cases h), (fun h => by cases h)⟩, hide (fun A0 A1 A2 c0 c1 c2 w h => (cancelled_may a b c d e ts ks fs A0 A1 A2 c0 c1 c2 tn st wk id w ht hk hf h (by simp [mayB, hp])).mono (fun r w' hh => by rw [hp] at hh; exact hh)), hide (fun A0 A1 A2 c0 c1 c2 w hg h => gCancelledBy_face a b c d e ts ks fs A0 A1 A2 c0 c1 c2 tn st wk id w ht hk hf h ⟨[], [], [], 0, false, 8, 0⟩ (fun V bid hV hid lid => livedAs_bad a b c d e ts ks fs A0 A1 A2 c0 c1 c2 tn st wk 65 #[.pointer (some ⟨bid, 0, none⟩)] V ht hk hf (h.below hV) hp))⟩
 have hpl := (poolB_parts hp).1
 have hT := (poolB_parts hp).2.1
 cases hw : btw wk 0 (a - 1)
 ·exact ⟨ts, ks, fs, tn, st, 8, 0, hl, ⟨fun _ _ => ⟨rfl, rfl, rfl, rfl, rfl⟩, fun _ h => by cases h⟩, hide (fun A0 A1 A2 c0 c1 c2 w h => (cancelled_may a b c d e ts ks fs A0 A1 A2 c0 c1 c2 tn st wk id w ht hk hf h (by simp [mayB, workB, hp, hw])).mono (fun r w' hh => by rw [hp] at hh; exact hh)), hide (fun A0 A1 A2 c0 c1 c2 w hg h => gCancelledBy_face a b c d e ts ks fs A0 A1 A2 c0 c1 c2 tn st wk id w ht hk hf h ⟨ts, ks, fs, tn, st, 8, 0⟩ (fun V bid hV hid lid => livedAs_worker a b c d e ts ks fs A0 A1 A2 c0 c1 c2 tn st wk 65 #[.pointer (some ⟨bid, 0, none⟩)] V ht hk hf (h.below hV) hp hw))⟩
 have hm : mayB a b c d e ts ks fs tn wk = true := by simp [mayB, workB, hp, hw, hpl]
 cases hh : btw id 0 ((ts.length : Int) - 1)
 ·exact ⟨ts, ks, fs, tn, st, 8, 0, hl, ⟨fun _ _ => ⟨rfl, rfl, rfl, rfl, rfl⟩, fun _ _ k x h1 h2 => by rw [h1, nat_task2 h2] at hh; cases hh⟩, hide (fun A0 A1 A2 c0 c1 c2 w h => (cancelled_has a b c d e ts ks fs A0 A1 A2 c0 c1 c2 tn st wk id w ht hk hf h hm hh).mono (fun r w' hh => by rw [hp] at hh; exact hh)), hide (fun A0 A1 A2 c0 c1 c2 w hg h => gCancelledBy_face a b c d e ts ks fs A0 A1 A2 c0 c1 c2 tn st wk id w ht hk hf h ⟨ts, ks, fs, tn, st, 8, 0⟩ (fun V bid hV hid lid => livedAs_no a b c d e ts ks fs A0 A1 A2 c0 c1 c2 tn st wk 65 #[.pointer (some ⟨bid, 0, none⟩)] (Go.Proofs.enters_of Tryz.func65 (by kernel_rfl) rfl) V ht hk hf (h.below hV) (hg.below hV) hp hw 8 (by omega) (by omega) (fun V2 g C0 C1 C2 e0 e1 e2 hV2 hM => cancelledbyC id bid g V2 ((hV2.cell (p := ⟨bid, 0, none⟩) lid).trans hid) (Nat.lt_of_lt_of_le lid hV2.size) _ _ (cancel_has ts ks fs C0 C1 C2 e0 e1 e2 tn st g id V2 ht hk hf hM hh))))⟩
 obtain ⟨k, s, l, o1, wt, on, v, t, rfl, hkl, hts⟩ := task_nat hh
 have i2 := isInB_of hts 2
 simp only at i2
 have hs15 : 1 ≤ s ∧ s ≤ 5 := by
  have h1 := (fit_parts (pool_fit hp hts)).2.1
  simp [btw] at h1
  exact h1
 by_cases h2 : s = 2
 ·exact ⟨ts, ks, fs, tn, st, 3, 0, hl, ⟨fun _ _ => ⟨rfl, rfl, rfl, rfl, rfl⟩, fun _ _ k9 x h1 h3 => by obtain rfl : k9 = k := (by omega); rw [hts] at h3; injection h3 with h3; subst h3; dsimp only; exact ⟨fun _ => rfl, fun h => by omega, fun h => by omega⟩⟩, hide (fun A0 A1 A2 c0 c1 c2 w h => (cancelled_busy a b c d e ts ks fs A0 A1 A2 c0 c1 c2 tn st wk k w ht hk hf h k s l o1 wt on v t rfl hts h2 hm hh).mono (fun r w' hh => by rw [hp] at hh; exact hh)), hide (fun A0 A1 A2 c0 c1 c2 w hg h => gCancelledBy_face a b c d e ts ks fs A0 A1 A2 c0 c1 c2 tn st wk k w ht hk hf h ⟨ts, ks, fs, tn, st, 3, 0⟩ (fun V bid hV hid lid => livedAs_no a b c d e ts ks fs A0 A1 A2 c0 c1 c2 tn st wk 65 #[.pointer (some ⟨bid, 0, none⟩)] (Go.Proofs.enters_of Tryz.func65 (by kernel_rfl) rfl) V ht hk hf (h.below hV) (hg.below hV) hp hw 3 (by omega) (by omega) (fun V2 g C0 C1 C2 e0 e1 e2 hV2 hM => cancelledbyC k bid g V2 ((hV2.cell (p := ⟨bid, 0, none⟩) lid).trans hid) (Nat.lt_of_lt_of_le lid hV2.size) _ _ (cancel_busy ts ks fs C0 C1 C2 e0 e1 e2 tn st g k V2 ht hk hf hM hh (i2.trans (by simp [h2]))))))⟩
 have hi2 : isInB ts k 2 = false := i2.trans (by simp [h2])
 cases ho : openB s
 ·have ho9 : 4 ≤ s := by simp [openB, btw] at ho; omega
  exact ⟨ts, ks, fs, tn, st, 5, 0, hl, ⟨fun _ _ => ⟨rfl, rfl, rfl, rfl, rfl⟩, fun _ _ k9 x h1 h3 => by obtain rfl : k9 = k := (by omega); rw [hts] at h3; injection h3 with h3; subst h3; dsimp only; exact ⟨fun h => absurd h h2, fun _ => rfl, fun h => by omega⟩⟩, hide (fun A0 A1 A2 c0 c1 c2 w h => (cancelled_gone a b c d e ts ks fs A0 A1 A2 c0 c1 c2 tn st wk k w ht hk hf h k s l o1 wt on v t rfl hts h2 hm hh ho).mono (fun r w' hh => by rw [hp] at hh; exact hh)), hide (fun A0 A1 A2 c0 c1 c2 w hg h => gCancelledBy_face a b c d e ts ks fs A0 A1 A2 c0 c1 c2 tn st wk k w ht hk hf h ⟨ts, ks, fs, tn, st, 5, 0⟩ (fun V bid hV hid lid => livedAs_no a b c d e ts ks fs A0 A1 A2 c0 c1 c2 tn st wk 65 #[.pointer (some ⟨bid, 0, none⟩)] (Go.Proofs.enters_of Tryz.func65 (by kernel_rfl) rfl) V ht hk hf (h.below hV) (hg.below hV) hp hw 5 (by omega) (by omega) (fun V2 g C0 C1 C2 e0 e1 e2 hV2 hM => cancelledbyC k bid g V2 ((hV2.cell (p := ⟨bid, 0, none⟩) lid).trans hid) (Nat.lt_of_lt_of_le lid hV2.size) _ _ (cancel_gone ts ks fs C0 C1 C2 e0 e1 e2 tn st g k s l o1 wt on v t hts V2 ht hk hf hM hh hi2 ho))))⟩
 have ho9 : s ≤ 3 := by simp [openB, btw] at ho; omega
 have hz0 := wakeAll_ok (v := 0) (wt := 1) (on := k) (by simp [btw]) (cancelP_right hp hts h2)
 cases ho2 : okAll (waitersM (ts.set k ⟨5, l, o1, 0, 0, v, t⟩) 1 k) 0 tn
 ·have hz := hz0.trans ho2
  exact ⟨ts, ks, fs, tn, st, 4, 0, hl, ⟨fun _ _ => ⟨rfl, rfl, rfl, rfl, rfl⟩, fun _ _ k9 x h1 h3 => by obtain rfl : k9 = k := (by omega); rw [hts] at h3; injection h3 with h3; subst h3; dsimp only; exact ⟨fun h => absurd h h2, fun h => by omega, fun _ h => by rw [okAll_room h] at ho2; cases ho2⟩⟩, hide (fun A0 A1 A2 c0 c1 c2 w h => (cancelled_main a b c d e ts ks fs A0 A1 A2 c0 c1 c2 tn st wk k w ht hk hf h k s l o1 wt on v t rfl hts h2 hm hh ho).mono (fun r w' hh => by rw [hz] at hh; exact hh)), hide (fun A0 A1 A2 c0 c1 c2 w hg h => gCancelledBy_face a b c d e ts ks fs A0 A1 A2 c0 c1 c2 tn st wk k w ht hk hf h ⟨ts, ks, fs, tn, st, 4, 0⟩ (fun V bid hV hid lid => livedAs_no a b c d e ts ks fs A0 A1 A2 c0 c1 c2 tn st wk 65 #[.pointer (some ⟨bid, 0, none⟩)] (Go.Proofs.enters_of Tryz.func65 (by kernel_rfl) rfl) V ht hk hf (h.below hV) (hg.below hV) hp hw 4 (by omega) (by omega) (fun V2 g C0 C1 C2 e0 e1 e2 hV2 hM => cancelledbyC k bid g V2 ((hV2.cell (p := ⟨bid, 0, none⟩) lid).trans hid) (Nat.lt_of_lt_of_le lid hV2.size) _ _ (cancel_full ts ks fs C0 C1 C2 e0 e1 e2 tn st g k s l o1 wt on v t hts V2 ht hk hf hM hh hi2 ho hT.1 hT.2 ho2))))⟩
 ·have hz := hz0.trans ho2
  exact ⟨(wakeAllT (waitersM (ts.set k ⟨5, l, o1, 0, 0, v, t⟩) 1 k) (ts.set k ⟨5, l, o1, 0, 0, v, t⟩) tn 0), ks, fs, tn + ((waitersM (ts.set k ⟨5, l, o1, 0, 0, v, t⟩) 1 k).length : Int), st, 1, ((waitersM (ts.set k ⟨5, l, o1, 0, 0, v, t⟩) 1 k).length : Int), by rw [wakeAllT_length, List.length_set]; exact hl, ⟨fun h => absurd rfl h, fun _ _ k9 x h1 h3 => by obtain rfl : k9 = k := (by omega); rw [hts] at h3; injection h3 with h3; subst h3; dsimp only; exact ⟨fun h => absurd h h2, fun h => by omega, fun _ _ => ⟨rfl, rfl, rfl, rfl, rfl, rfl, hz⟩⟩⟩, hide (fun A0 A1 A2 c0 c1 c2 w h => (cancelled_main a b c d e ts ks fs A0 A1 A2 c0 c1 c2 tn st wk k w ht hk hf h k s l o1 wt on v t rfl hts h2 hm hh ho).mono (fun r w' hh => by rw [hz] at hh; exact hh)), hide (fun A0 A1 A2 c0 c1 c2 w hg h => gCancelledBy_face a b c d e ts ks fs A0 A1 A2 c0 c1 c2 tn st wk k w ht hk hf h ⟨(wakeAllT (waitersM (ts.set k ⟨5, l, o1, 0, 0, v, t⟩) 1 k) (ts.set k ⟨5, l, o1, 0, 0, v, t⟩) tn 0), ks, fs, tn + ((waitersM (ts.set k ⟨5, l, o1, 0, 0, v, t⟩) 1 k).length : Int), st, 1, ((waitersM (ts.set k ⟨5, l, o1, 0, 0, v, t⟩) 1 k).length : Int)⟩ (fun V bid hV hid lid => livedAs_yes a b c d e ts ks fs A0 A1 A2 c0 c1 c2 tn st wk 65 #[.pointer (some ⟨bid, 0, none⟩)] (Go.Proofs.enters_of Tryz.func65 (by kernel_rfl) rfl) V ht hk hf (h.below hV) (hg.below hV) hp hw ⟨(wakeAllT (waitersM (ts.set k ⟨5, l, o1, 0, 0, v, t⟩) 1 k) (ts.set k ⟨5, l, o1, 0, 0, v, t⟩) tn 0), ks, fs, tn + ((waitersM (ts.set k ⟨5, l, o1, 0, 0, v, t⟩) 1 k).length : Int), st, 1, ((waitersM (ts.set k ⟨5, l, o1, 0, 0, v, t⟩) 1 k).length : Int)⟩ (.inl rfl) (fun V2 g C0 C1 C2 e0 e1 e2 hV2 hM => cancelledbyC k bid g V2 ((hV2.cell (p := ⟨bid, 0, none⟩) lid).trans hid) (Nat.lt_of_lt_of_le lid hV2.size) _ _ (cancel_ok ts ks fs C0 C1 C2 e0 e1 e2 tn st g k s l o1 wt on v t hts V2 ht hk hf hM hh hi2 ho hT.1 hT.2 ho2))))⟩
end Go.Proofs.YtfkdfkoigojciaaGreatDoor
