/- Upped of the program and of the model answer alike. Lists no longer than a million. -/
import Derived.Shelf.Abstract
import Derived.Test.YtfkdfkoigojciaaGreatDoorQB09
import Derived.Test.YtfkdfkoigojciaaGreatDoorQB12
import Derived.Test.YtfkdfkoigojciaaGreatDoorQB15
import Derived.Test.YtfkdfkoigojciaaGreatDoorQExactUpped01

namespace Go.Proofs.YtfkdfkoigojciaaGreatDoor
open Go.RowKit
set_option linter.unusedVariables false
set_option maxRecDepth 100000
theorem token_over {a b c d e : Int} {ts : List T7} {ks : List Int} {fs : List F2} {tn : Int} {k : Nat} {u : Int} (hk : k < ks.length) (hu : 100 < u) : poolB a b c d e ts (ks.set k u) fs tn = false := by
 have h1 : (ks.set k u).all tokB = false := by
  rw [List.all_eq_false]
  exact ⟨u, List.mem_set hk u, by simp [tokB, btw]; omega⟩
 simp [poolB, h1]
set_option maxHeartbeats 400000 in
theorem uppedC (a b c d e : Int) (id : Int) (bP : Nat) (bid : Nat) (g : Nat) (V : World) (hP : ∀ j, V.cell? ⟨bP, j, none⟩ = (#[.int .i64 a, .int .i64 b, .int .i64 c, .int .i64 d, .int .i64 e] : Array Value)[j]?) (lP : bP < V.heap.size) (hid : V.cell? ⟨bid, 0, none⟩ = some (.int .i64 id)) (lid : bid < V.heap.size) (er : Value) (R : World → Prop)
 (hb : Calls Tryz.prog 91 #[.pointer (some ⟨g, 0, none⟩), .agg #[.int .i64 a, .int .i64 b, .int .i64 c, .int .i64 d, .int .i64 e], .int .i64 id] V (fun r w' => r = .returned er ∧ R w')) :
 Calls Tryz.prog 90 (#[.pointer (some ⟨g, 0, none⟩)] ++ #[.pointer (some ⟨bP, 0, none⟩), .pointer (some ⟨bid, 0, none⟩)]) V (fun r w' => r = .returned er ∧ R w') := by
 have HB := hide hb
 clear hb
 have Ao : V.cell? ⟨bP, 0, none⟩ = some (.int .i64 a) := hP 0
 have Ar : V.cell? ⟨bP, 1, none⟩ = some (.int .i64 b) := hP 1
 have Ap : V.cell? ⟨bP, 2, none⟩ = some (.int .i64 c) := hP 2
 have Aq : V.cell? ⟨bP, 3, none⟩ = some (.int .i64 d) := hP 3
 have As : V.cell? ⟨bP, 4, none⟩ = some (.int .i64 e) := hP 4
 clear hP
 show Calls Tryz.prog 90 #[.pointer (some ⟨g, 0, none⟩), .pointer (some ⟨bP, 0, none⟩), .pointer (some ⟨bid, 0, none⟩)] V _
 go_enter Tryz.func90, Tryz.ntmps90
 go_wp2_with fail
 refine Calls.mono (by with_reducible exact HB.out) ?_
 rintro r W ⟨rfl, hR⟩
 go_wp2_with fail
 go_ret
 exact ⟨rfl, hR⟩
set_option maxHeartbeats 800000 in
theorem gUpped_face (a b c d e : Int) (ts : List T7) (ks : List Int) (fs : List F2) (A0 A1 A2 : Option Addr) (c0 c1 c2 : Nat) (tn : Int) (st : Bool) (wk : Int) (id : Int) (w : World) (ht : ts.length ≤ 1048576) (hk : ks.length ≤ 1048576) (hf : fs.length ≤ 1048576) (h : InPool w ts ks fs A0 A1 A2) (o : OutP)
 (hL : ∀ (V : World) (bP bid : Nat), Below w.heap.size w V → (∀ j, V.cell? ⟨bP, j, none⟩ = (#[.int .i64 a, .int .i64 b, .int .i64 c, .int .i64 d, .int .i64 e] : Array Value)[j]?) → bP < V.heap.size → V.cell? ⟨bid, 0, none⟩ = some (.int .i64 id) → bid < V.heap.size → Calls Tryz.prog 59 #[.agg #[.int .i64 a, .int .i64 b, .int .i64 c, .int .i64 d, .int .i64 e], .agg #[.slice A0 ts.length c0, .slice A1 ks.length c1, .slice A2 fs.length c2, .int .i64 tn, .bool st], .int .i64 wk, .func (.func 90) #[] #[.pointer (some ⟨bP, 0, none⟩), .pointer (some ⟨bid, 0, none⟩)]] V (GaveS [] V o)) :
 Calls Tryz.prog 35 #[.agg #[.int .i64 a, .int .i64 b, .int .i64 c, .int .i64 d, .int .i64 e], .agg #[.slice A0 ts.length c0, .slice A1 ks.length c1, .slice A2 fs.length c2, .int .i64 tn, .bool st], .int .i64 wk, .int .i64 id] w (GaveS [] w o) := by
 have hmf : ∀ (fn : Fn) (first cap : Array Value) (w : World), (Instr.makeFunc fn first cap).run Tryz.prog w = .ok (.func fn first cap) w := fun _ _ _ _ => rfl
 have HL := hide hL
 have H := hide h
 clear h hL
 go_enter Tryz.func35, Tryz.ntmps35
 go_wp2_with fail
 generalize hW : ((((w.alloc _).alloc _).alloc _).alloc _).alloc _ = W1
 have M := Sep.e5 hW
 clear hW
 obtain ⟨tS, Ac, Ak, Ag, Al⟩ := M.f2 0 rfl
 obtain ⟨tR, Aa, An, Af, Ah, Ae, Ai, Ab, Am, Ad, Aj⟩ := M.f5 1 rfl
 obtain ⟨tVid, qVid0, fVid0⟩ := M.f1 2 rfl
 obtain ⟨tX, Az, Ay, Bh, Ba, Bb, Be, Bg, Ax, Bc, At⟩ := M.f5 3 rfl
 obtain ⟨tP, Ao, Au, Ar, Bd, Ap, Av, Aq, Bf, As, Aw⟩ := M.f5 4 rfl
 go_wp2_with fail
 have hC := HL.out _ (w.heap.size) (w.heap.size + 2) M.below (fun j => M.cell 4 j rfl) (M.lt 4 rfl) (M.cell 2 0 rfl) (M.lt 2 rfl)
 refine Calls.mono (by with_reducible exact hC) ?_
 clear hC
 rintro r W2 ⟨B0, B1, B2, d0, d1, d2, rfl, g1⟩
 clear tS Ac Ak Ag Al tR Aa An Af Ah Ae Ai Ab Am Ad Aj tVid qVid0 fVid0 tX Az Ay Bh Ba Bb Be Bg Ax Bc At tP Ao Au Ar Bd Ap Av Aq Bf As Aw
 replace M := Sep.new M g1
 simp only [List.cons_append, List.nil_append] at M
 clear g1
 obtain ⟨tS, Ac, Ak, Ag, Al⟩ := M.f2 3 rfl
 obtain ⟨tR, Aa, An, Af, Ah, Ae, Ai, Ab, Am, Ad, Aj⟩ := M.f5 4 rfl
 go_wp2_with fail
 clear tS Ac Ak Ag Al tR Aa An Af Ah Ae Ai Ab Am Ad Aj
 have N := M.gset5 4 rfl (.slice B0 o.ts.length d0) (.slice B1 o.ks.length d1) (.slice B2 o.fs.length d2) (.int .i64 o.tn) (.bool o.st)
 clear M
 obtain ⟨W3, eW, M⟩ := N
 rw [eW]
 clear eW
 simp only [List.set_cons_zero, List.set_cons_succ] at M
 have N := M.gset2 3 rfl (.int .i64 o.rp) (.int .i64 o.ou)
 clear M
 obtain ⟨W4, eW, M⟩ := N
 rw [eW]
 clear eW
 simp only [List.set_cons_zero, List.set_cons_succ] at M
 obtain ⟨tS, Ac, Ag⟩ := M.q2 3 rfl
 obtain ⟨tR, Aa, Af, Ae, Ab, Ad⟩ := M.q5 4 rfl
 exact bodyPost_ret (by simp [results, Tryz.results35, go_sem, Aa, Af, Ae, Ab, Ad, Ac, Ag]) rfl ⟨B0, B1, B2, d0, d1, d2, rfl, M.take 3⟩
theorem upped_told (a b c d e : Int) (ts : List T7) (ks : List Int) (fs : List F2) (tn : Int) (st : Bool) (wk : Int) (id : Int) (hl : ts.length + ks.length + fs.length ≤ 1048576) :
 ∃ (us : List T7) (ks2 : List Int) (fs2 : List F2) (tn2 : Int) (st2 : Bool) (rp ou : Int), us.length + ks2.length + fs2.length ≤ 1048576 ∧
 ((rp = 1 → poolB a b c d e ts ks fs tn = true ∧ poolB a b c d e us ks2 fs2 tn2 = true ∧ fs2 = fs ∧ st2 = st ∧ ∃ (k : Nat) (kv : Int), id = k ∧ ks[k]? = some kv ∧ ((ou = 0 ∧ waitersM ts 2 k = [] ∧ us = ts ∧ ks2 = ks.set k (kv + 1) ∧ tn2 = tn) ∨ (∃ (j : Nat) (jr : List Int) (x : T7), ou = (j : Int) + 1 ∧ waitersM ts 2 k = (j : Int) :: jr ∧ ts[j]? = some x ∧ us = ts.set j (wakeT x tn 0) ∧ ks2 = ks ∧ tn2 = tn + 1))) ∧ (rp ≠ 1 → poolB a b c d e ts ks fs tn = true → us = ts ∧ ks2 = ks ∧ fs2 = fs ∧ tn2 = tn ∧ st2 = st)) ∧
 Hid (∀ (A0 A1 A2 : Option Addr) (c0 c1 c2 : Nat) (w : World), InPool w ts ks fs A0 A1 A2 → Calls Tryz.prog 39 #[.agg #[.int .i64 a, .int .i64 b, .int .i64 c, .int .i64 d, .int .i64 e], .agg #[.slice A0 ts.length c0, .slice A1 ks.length c1, .slice A2 fs.length c2, .int .i64 tn, .bool st], .int .i64 wk, .int .i64 id] w (GaveA us ks2 fs2 tn2 st2 rp ou w)) ∧
 Hid (∀ (A0 A1 A2 : Option Addr) (c0 c1 c2 : Nat) (w : World), Laid w → InPool w ts ks fs A0 A1 A2 → Calls Tryz.prog 35 #[.agg #[.int .i64 a, .int .i64 b, .int .i64 c, .int .i64 d, .int .i64 e], .agg #[.slice A0 ts.length c0, .slice A1 ks.length c1, .slice A2 fs.length c2, .int .i64 tn, .bool st], .int .i64 wk, .int .i64 id] w (GaveA us ks2 fs2 tn2 st2 rp ou w)) := by
 have ht : ts.length ≤ 1048576 := by omega
 have hk : ks.length ≤ 1048576 := by omega
 have hf : fs.length ≤ 1048576 := by omega
 cases hp : poolB a b c d e ts ks fs tn
 ·exact ⟨[], [], [], 0, false, 8, 0, by simp, ⟨fun h => by omega, fun _ h => by cases h⟩, hide (fun A0 A1 A2 c0 c1 c2 w h => (upped_may a b c d e ts ks fs A0 A1 A2 c0 c1 c2 tn st wk id w ht hk hf h (by simp [mayB, hp])).mono (fun r w' hh => by rw [hp] at hh; exact hh)), hide (fun A0 A1 A2 c0 c1 c2 w hg h => gUpped_face a b c d e ts ks fs A0 A1 A2 c0 c1 c2 tn st wk id w ht hk hf h ⟨[], [], [], 0, false, 8, 0⟩ (fun V bP bid hV hP lP hid lid => livedAs_bad a b c d e ts ks fs A0 A1 A2 c0 c1 c2 tn st wk 90 #[.pointer (some ⟨bP, 0, none⟩), .pointer (some ⟨bid, 0, none⟩)] V ht hk hf (h.below hV) hp))⟩
 have hpl := (poolB_parts hp).1
 have hT := (poolB_parts hp).2.1
 cases hw : btw wk 0 (a - 1)
 ·exact ⟨ts, ks, fs, tn, st, 8, 0, hl, ⟨fun h => by omega, fun _ _ => ⟨rfl, rfl, rfl, rfl, rfl⟩⟩, hide (fun A0 A1 A2 c0 c1 c2 w h => (upped_may a b c d e ts ks fs A0 A1 A2 c0 c1 c2 tn st wk id w ht hk hf h (by simp [mayB, workB, hp, hw])).mono (fun r w' hh => by rw [hp] at hh; exact hh)), hide (fun A0 A1 A2 c0 c1 c2 w hg h => gUpped_face a b c d e ts ks fs A0 A1 A2 c0 c1 c2 tn st wk id w ht hk hf h ⟨ts, ks, fs, tn, st, 8, 0⟩ (fun V bP bid hV hP lP hid lid => livedAs_worker a b c d e ts ks fs A0 A1 A2 c0 c1 c2 tn st wk 90 #[.pointer (some ⟨bP, 0, none⟩), .pointer (some ⟨bid, 0, none⟩)] V ht hk hf (h.below hV) hp hw))⟩
 have hm : mayB a b c d e ts ks fs tn wk = true := by simp [mayB, workB, hp, hw, hpl]
 have hd := (pool_len hp).2.1
 obtain ⟨pd1, pd2⟩ : 0 ≤ d ∧ d ≤ 30 := by have := planB_all hpl; omega
 cases hi : btw id 0 ((ks.length : Int) - 1)
 ·exact ⟨ts, ks, fs, tn, st, 8, 0, hl, ⟨fun h => by omega, fun _ _ => ⟨rfl, rfl, rfl, rfl, rfl⟩⟩, hide (fun A0 A1 A2 c0 c1 c2 w h => (upped_in a b c d e ts ks fs A0 A1 A2 c0 c1 c2 tn st wk id w ht hk hf h hm hi).mono (fun r w' hh => by rw [hp] at hh; exact hh)), hide (fun A0 A1 A2 c0 c1 c2 w hg h => gUpped_face a b c d e ts ks fs A0 A1 A2 c0 c1 c2 tn st wk id w ht hk hf h ⟨ts, ks, fs, tn, st, 8, 0⟩ (fun V bP bid hV hP lP hid lid => livedAs_no a b c d e ts ks fs A0 A1 A2 c0 c1 c2 tn st wk 90 #[.pointer (some ⟨bP, 0, none⟩), .pointer (some ⟨bid, 0, none⟩)] (Go.Proofs.enters_of Tryz.func90 (by kernel_rfl) rfl) V ht hk hf (h.below hV) (hg.below hV) hp hw 8 (by omega) (by omega) (fun V2 g C0 C1 C2 e0 e1 e2 hV2 hM => uppedC a b c d e id bP bid g V2 (fun j => (hV2.cell (p := ⟨bP, j, none⟩) lP).trans (hP j)) (Nat.lt_of_lt_of_le lP hV2.size) ((hV2.cell (p := ⟨bid, 0, none⟩) lid).trans hid) (Nat.lt_of_lt_of_le lid hV2.size) _ _ (up_kind ts ks fs C0 C1 C2 e0 e1 e2 tn st g a b c d e id _ V2 ht hk hf hM pd1 pd2 rfl (by rw [← hd]; exact hi)))))⟩
 obtain ⟨k, kv, rfl, hkl, hks⟩ := kind_nat hi
 have hi9 : btw (k : Int) 0 (d - 1) = true := by rw [← hd]; exact hi
 cases hwm : waitersM ts 2 k with
 | nil =>
  have hfr : (waitersM ts 2 k).headD (-1) = -1 := by rw [hwm]; rfl
  have htk := token_get hp hks
  by_cases hv : kv < 100
  ·have hz := tokenP_right (k := k) (u := kv + 1) hp (by simp [btw]; omega)
   exact ⟨ts, ks.set k (kv + 1), fs, tn, st, 1, 0, by simpa using hl, ⟨fun _ => ⟨rfl, hz, rfl, rfl, k, kv, rfl, hks, .inl ⟨rfl, hwm, rfl, rfl, rfl⟩⟩, fun h => absurd rfl h⟩, hide (fun A0 A1 A2 c0 c1 c2 w h => (upped_free a b c d e ts ks fs A0 A1 A2 c0 c1 c2 tn st wk k w ht hk hf h k kv rfl hks hwm hm hi).mono (fun r w' hh => by rw [hz] at hh; exact hh)), hide (fun A0 A1 A2 c0 c1 c2 w hg h => gUpped_face a b c d e ts ks fs A0 A1 A2 c0 c1 c2 tn st wk k w ht hk hf h ⟨ts, ks.set k (kv + 1), fs, tn, st, 1, 0⟩ (fun V bP bid hV hP lP hid lid => livedAs_yes a b c d e ts ks fs A0 A1 A2 c0 c1 c2 tn st wk 90 #[.pointer (some ⟨bP, 0, none⟩), .pointer (some ⟨bid, 0, none⟩)] (Go.Proofs.enters_of Tryz.func90 (by kernel_rfl) rfl) V ht hk hf (h.below hV) (hg.below hV) hp hw ⟨ts, ks.set k (kv + 1), fs, tn, st, 1, 0⟩ (.inl rfl) (fun V2 g C0 C1 C2 e0 e1 e2 hV2 hM => uppedC a b c d e k bP bid g V2 (fun j => (hV2.cell (p := ⟨bP, j, none⟩) lP).trans (hP j)) (Nat.lt_of_lt_of_le lP hV2.size) ((hV2.cell (p := ⟨bid, 0, none⟩) lid).trans hid) (Nat.lt_of_lt_of_le lid hV2.size) _ _ (up_free ts ks fs C0 C1 C2 e0 e1 e2 tn st g a b c d e k kv hks V2 ht hk hf hM pd1 pd2 htk.1 hv hfr hi9))))⟩
  ·have hz := token_over (d := d) (a := a) (b := b) (c := c) (e := e) (ts := ts) (fs := fs) (tn := tn) (u := kv + 1) hkl (by omega)
   exact ⟨ts, ks, fs, tn, st, 4, 0, hl, ⟨fun h => by omega, fun _ _ => ⟨rfl, rfl, rfl, rfl, rfl⟩⟩, hide (fun A0 A1 A2 c0 c1 c2 w h => (upped_free a b c d e ts ks fs A0 A1 A2 c0 c1 c2 tn st wk k w ht hk hf h k kv rfl hks hwm hm hi).mono (fun r w' hh => by rw [hz] at hh; exact hh)), hide (fun A0 A1 A2 c0 c1 c2 w hg h => gUpped_face a b c d e ts ks fs A0 A1 A2 c0 c1 c2 tn st wk k w ht hk hf h ⟨ts, ks, fs, tn, st, 4, 0⟩ (fun V bP bid hV hP lP hid lid => livedAs_no a b c d e ts ks fs A0 A1 A2 c0 c1 c2 tn st wk 90 #[.pointer (some ⟨bP, 0, none⟩), .pointer (some ⟨bid, 0, none⟩)] (Go.Proofs.enters_of Tryz.func90 (by kernel_rfl) rfl) V ht hk hf (h.below hV) (hg.below hV) hp hw 4 (by omega) (by omega) (fun V2 g C0 C1 C2 e0 e1 e2 hV2 hM => uppedC a b c d e k bP bid g V2 (fun j => (hV2.cell (p := ⟨bP, j, none⟩) lP).trans (hP j)) (Nat.lt_of_lt_of_le lP hV2.size) ((hV2.cell (p := ⟨bid, 0, none⟩) lid).trans hid) (Nat.lt_of_lt_of_le lid hV2.size) _ _ (up_full ts ks fs C0 C1 C2 e0 e1 e2 tn st g a b c d e k kv hks V2 ht hk hf hM pd1 pd2 hv (by simp [canB, isInB, btw]) hfr hi9))))⟩
 | cons i0 jr =>
  obtain ⟨j, ⟨s, l, o1, wt, on, v, t⟩, rfl, hjl, hts, hs3, _⟩ := waitersM_mem (show i0 ∈ waitersM ts 2 k by rw [hwm]; exact List.mem_cons_self ..)
  simp only at hs3
  have hfr : (waitersM ts 2 k).headD (-1) = (j : Int) := by rw [hwm]; rfl
  by_cases t1 : tn < 1000000
  ·have hz := wake_right (v := 0) hp hts hs3 (by simp [btw]) t1
   have hcb : canB ts j 0 tn = true := by simp [canB, isInB_of hts 3, hs3, btw, t1]
   exact ⟨ts.set j (wakeT ⟨s, l, o1, wt, on, v, t⟩ tn 0), ks, fs, tn + 1, st, 1, (j : Int) + 1, by simpa using hl, ⟨fun _ => ⟨rfl, hz, rfl, rfl, k, kv, rfl, hks, .inr ⟨j, jr, _, rfl, hwm, hts, rfl, rfl, rfl⟩⟩, fun h => absurd rfl h⟩, hide (fun A0 A1 A2 c0 c1 c2 w h => (upped_wake a b c d e ts ks fs A0 A1 A2 c0 c1 c2 tn st wk k w ht hk hf h k rfl hkl j jr s l o1 wt on v t hts hjl hwm hm hi).mono (fun r w' hh => by rw [hz] at hh; exact hh)), hide (fun A0 A1 A2 c0 c1 c2 w hg h => gUpped_face a b c d e ts ks fs A0 A1 A2 c0 c1 c2 tn st wk k w ht hk hf h ⟨ts.set j (wakeT ⟨s, l, o1, wt, on, v, t⟩ tn 0), ks, fs, tn + 1, st, 1, (j : Int) + 1⟩ (fun V bP bid hV hP lP hid lid => livedAs_yes a b c d e ts ks fs A0 A1 A2 c0 c1 c2 tn st wk 90 #[.pointer (some ⟨bP, 0, none⟩), .pointer (some ⟨bid, 0, none⟩)] (Go.Proofs.enters_of Tryz.func90 (by kernel_rfl) rfl) V ht hk hf (h.below hV) (hg.below hV) hp hw ⟨ts.set j (wakeT ⟨s, l, o1, wt, on, v, t⟩ tn 0), ks, fs, tn + 1, st, 1, (j : Int) + 1⟩ (.inl rfl) (fun V2 g C0 C1 C2 e0 e1 e2 hV2 hM => uppedC a b c d e k bP bid g V2 (fun j => (hV2.cell (p := ⟨bP, j, none⟩) lP).trans (hP j)) (Nat.lt_of_lt_of_le lP hV2.size) ((hV2.cell (p := ⟨bid, 0, none⟩) lid).trans hid) (Nat.lt_of_lt_of_le lid hV2.size) _ _ (up_wake ts ks fs C0 C1 C2 e0 e1 e2 tn st g a b c d e k j s l o1 wt on v t V2 ht hk hf hM pd1 pd2 hT.1 hjl hts hcb hfr hi9))))⟩
  ·have hz : poolB a b c d e (ts.set j (wakeT ⟨s, l, o1, wt, on, v, t⟩ tn 0)) ks fs (tn + 1) = false := turn_over (by omega)
   have hcb : canB ts j 0 tn = false := by simp [canB, t1]
   exact ⟨ts, ks, fs, tn, st, 4, 0, hl, ⟨fun h => by omega, fun _ _ => ⟨rfl, rfl, rfl, rfl, rfl⟩⟩, hide (fun A0 A1 A2 c0 c1 c2 w h => (upped_wake a b c d e ts ks fs A0 A1 A2 c0 c1 c2 tn st wk k w ht hk hf h k rfl hkl j jr s l o1 wt on v t hts hjl hwm hm hi).mono (fun r w' hh => by rw [hz] at hh; exact hh)), hide (fun A0 A1 A2 c0 c1 c2 w hg h => gUpped_face a b c d e ts ks fs A0 A1 A2 c0 c1 c2 tn st wk k w ht hk hf h ⟨ts, ks, fs, tn, st, 4, 0⟩ (fun V bP bid hV hP lP hid lid => livedAs_no a b c d e ts ks fs A0 A1 A2 c0 c1 c2 tn st wk 90 #[.pointer (some ⟨bP, 0, none⟩), .pointer (some ⟨bid, 0, none⟩)] (Go.Proofs.enters_of Tryz.func90 (by kernel_rfl) rfl) V ht hk hf (h.below hV) (hg.below hV) hp hw 4 (by omega) (by omega) (fun V2 g C0 C1 C2 e0 e1 e2 hV2 hM => uppedC a b c d e k bP bid g V2 (fun j => (hV2.cell (p := ⟨bP, j, none⟩) lP).trans (hP j)) (Nat.lt_of_lt_of_le lP hV2.size) ((hV2.cell (p := ⟨bid, 0, none⟩) lid).trans hid) (Nat.lt_of_lt_of_le lid hV2.size) _ _ (up_wfull ts ks fs C0 C1 C2 e0 e1 e2 tn st g a b c d e k j V2 ht hk hf hM pd1 pd2 hjl hcb hfr hi9))))⟩
end Go.Proofs.YtfkdfkoigojciaaGreatDoor
