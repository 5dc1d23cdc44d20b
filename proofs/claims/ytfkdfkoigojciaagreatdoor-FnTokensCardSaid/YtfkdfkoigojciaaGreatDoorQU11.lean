import Derived.Test.YtfkdfkoigojciaaGreatDoorQU10
import Derived.Test.YtfkdfkoigojciaaGreatDoorQU05
import Derived.Deep.RegionWith
import Derived.Test.YtfkdfkoigojciaaGreatDoorQU01

namespace Go.Proofs.YtfkdfkoigojciaaGreatDoor
open Go.RowKit
set_option linter.unusedVariables false
def wakeAllT : List Int → List T7 → Int → Int → List T7
 | [], ts, _, _ => ts
 | j :: r, ts, tn, v => wakeAllT r (ts.set j.toNat (wakeT (taskAt ts j) tn v)) (tn + 1) v
theorem wakeAllT_length (l : List Int) (ts : List T7) (tn v : Int) : (wakeAllT l ts tn v).length = ts.length := by
 induction l generalizing ts tn with
 | nil => rfl
 | cons j r ih => simp only [wakeAllT]; rw [ih]; simp
set_option maxRecDepth 100000 in
set_option maxHeartbeats 4000000 in
theorem l5WakeAll_any (ts : List T7) (A0 A1 A2 : Option Addr) (c0 n1 c1 n2 c2 : Nat) (tn : Int) (st : Bool) (wa oa v : Int) (lo hi : Nat) (w : World) (hhi : hi ≤ w.heap.size) (hlen : ts.length ≤ 1048576) (t0 : -500000000 ≤ tn) (t1 : tn ≤ 500000000) (h : OwnR w lo hi 45 7 (.slice A0 ts.length c0) ts.length (tcells ts)) :
 Calls Tryz.prog 75 #[.agg #[.slice A0 ts.length c0, .slice A1 n1 c1, .slice A2 n2 c2, .int .i64 tn, .bool st], .int .i64 wa, .int .i64 oa, .int .i64 v] w fun r w' => r = .returned (.tuple #[.agg #[.slice A0 ts.length c0, .slice A1 n1 c1, .slice A2 n2 c2, .int .i64 (tn + (waitersM ts wa oa).length), .bool st], .int .i64 ((waitersM ts wa oa).length : Nat)]) ∧ OwnR w' lo hi 45 7 (.slice A0 ts.length c0) ts.length (tcells (wakeAllT (waitersM ts wa oa) ts tn v)) ∧ Within lo hi w w' := by
 have hmem : Hid (∀ x ∈ waitersM ts wa oa, ∃ j : Nat, x = j ∧ j < ts.length) := hide (lineM_mem _ _ _)
 have hll : (waitersM ts wa oa).length ≤ ts.length := lineM_length _ _ _
 have hW : Hid (∀ V, Row V A0 (tcells ts) → Calls Tryz.prog 97 #[.agg #[.slice A0 ts.length c0, .slice A1 n1 c1, .slice A2 n2 c2, .int .i64 tn, .bool st], .int .i64 wa, .int .i64 oa] V fun r w' => ∃ (A : Option Addr) (c : Nat), r = .returned (.slice A (waitersM ts wa oa).length c) ∧ w'.ownsRow V.heap.size 2 1 (.slice A (waitersM ts wa oa).length c) (waitersM ts wa oa).length (icells (waitersM ts wa oa)) ∧ Below V.heap.size V w') := hide (fun V hV => waitersOn_any ts A0 A1 A2 c0 n1 c1 n2 c2 tn st wa oa V hlen hV)
 generalize waitersM ts wa oa = l at *
 go_enter Tryz.func75, Tryz.ntmps75
 go_wp2_with fail
 have G := Within.refl lo hi w
 have rT := h
 clear h
 have kX := Blk.new w 35 #[.slice A0 ts.length c0, .slice A1 n1 c1, .slice A2 n2 c2, .int .i64 tn, .bool st]
 replace rT := rT.alloc (.cells #[.slice A0 ts.length c0, .slice A1 n1 c1, .slice A2 n2 c2, .int .i64 tn, .bool st] 35)
 have hbs := G.size
 replace G := G.alloc (by omega) (.cells #[.slice A0 ts.length c0, .slice A1 n1 c1, .slice A2 n2 c2, .int .i64 tn, .bool st] 35)
 have z1 : (w.alloc (.cells #[.slice A0 ts.length c0, .slice A1 n1 c1, .slice A2 n2 c2, .int .i64 tn, .bool st] 35)).heap.size = w.heap.size + 1 := by simp
 clear hbs
 generalize w.alloc (.cells #[.slice A0 ts.length c0, .slice A1 n1 c1, .slice A2 n2 c2, .int .i64 tn, .bool st] 35) = W1 at kX rT G z1 ⊢
 have kR : Blk (W1.alloc (.cells #[.slice none 0 0, .slice none 0 0, .slice none 0 0, .int .i64 0, .bool false] 35)) (w.heap.size + 1) 35 #[.slice none 0 0, .slice none 0 0, .slice none 0 0, .int .i64 0, .bool false] := by
  have h := Blk.new W1 35 #[.slice none 0 0, .slice none 0 0, .slice none 0 0, .int .i64 0, .bool false]
  rw [show W1.heap.size = w.heap.size + 1 by omega] at h
  exact h
 replace kX := kX.alloc (.cells #[.slice none 0 0, .slice none 0 0, .slice none 0 0, .int .i64 0, .bool false] 35)
 replace rT := rT.alloc (.cells #[.slice none 0 0, .slice none 0 0, .slice none 0 0, .int .i64 0, .bool false] 35)
 have hbs := G.size
 replace G := G.alloc (by omega) (.cells #[.slice none 0 0, .slice none 0 0, .slice none 0 0, .int .i64 0, .bool false] 35)
 have z2 : (W1.alloc (.cells #[.slice none 0 0, .slice none 0 0, .slice none 0 0, .int .i64 0, .bool false] 35)).heap.size = W1.heap.size + 1 := by simp
 clear hbs
 generalize W1.alloc (.cells #[.slice none 0 0, .slice none 0 0, .slice none 0 0, .int .i64 0, .bool false] 35) = W2 at kX kR rT G z2 ⊢
 go_call (hW.out _ rT.row) as r W3 ⟨A, c, rfl, own, g1⟩
 have hbs := G.size
 replace kX := kX.below g1 kX.lt
 replace kR := kR.below g1 kR.lt
 replace rT := rT.below g1
 replace G := G.trans (Within.of_below g1)
 have z3 := g1.size
 clear g1 hbs
 have rL := OwnR.of own (Nat.le_refl _)
 clear own hW
 have tX : w.heap.size < W3.heap.size := kX.lt
 have qX0 : W3.cell? ⟨w.heap.size, 0, none⟩ = some (.slice A0 ts.length c0) := kX.cell 0
 have fX0 : W3.frozen? ⟨w.heap.size, 0, none⟩ = false := kX.frozen 0
 have qX1 : W3.cell? ⟨w.heap.size, 1, none⟩ = some (.slice A1 n1 c1) := kX.cell 1
 have fX1 : W3.frozen? ⟨w.heap.size, 1, none⟩ = false := kX.frozen 1
 have qX2 : W3.cell? ⟨w.heap.size, 2, none⟩ = some (.slice A2 n2 c2) := kX.cell 2
 have fX2 : W3.frozen? ⟨w.heap.size, 2, none⟩ = false := kX.frozen 2
 have qX3 : W3.cell? ⟨w.heap.size, 3, none⟩ = some (.int .i64 tn) := kX.cell 3
 have fX3 : W3.frozen? ⟨w.heap.size, 3, none⟩ = false := kX.frozen 3
 have qX4 : W3.cell? ⟨w.heap.size, 4, none⟩ = some (.bool st) := kX.cell 4
 have fX4 : W3.frozen? ⟨w.heap.size, 4, none⟩ = false := kX.frozen 4
 have tR : w.heap.size + 1 < W3.heap.size := kR.lt
 have qR0 : W3.cell? ⟨w.heap.size + 1, 0, none⟩ = some (.slice none 0 0) := kR.cell 0
 have fR0 : W3.frozen? ⟨w.heap.size + 1, 0, none⟩ = false := kR.frozen 0
 have qR1 : W3.cell? ⟨w.heap.size + 1, 1, none⟩ = some (.slice none 0 0) := kR.cell 1
 have fR1 : W3.frozen? ⟨w.heap.size + 1, 1, none⟩ = false := kR.frozen 1
 have qR2 : W3.cell? ⟨w.heap.size + 1, 2, none⟩ = some (.slice none 0 0) := kR.cell 2
 have fR2 : W3.frozen? ⟨w.heap.size + 1, 2, none⟩ = false := kR.frozen 2
 have qR3 : W3.cell? ⟨w.heap.size + 1, 3, none⟩ = some (.int .i64 0) := kR.cell 3
 have fR3 : W3.frozen? ⟨w.heap.size + 1, 3, none⟩ = false := kR.frozen 3
 have qR4 : W3.cell? ⟨w.heap.size + 1, 4, none⟩ = some (.bool false) := kR.cell 4
 have fR4 : W3.frozen? ⟨w.heap.size + 1, 4, none⟩ = false := kR.frozen 4
 go_wp2_with fail
 clear tX qX0 fX0 qX1 fX1 qX2 fX2 qX3 fX3 qX4 fX4 tR qR0 fR0 qR1 fR1 qR2 fR2 qR3 fR3 qR4 fR4
 go_loopw [11] (fun i wr => ∃ (k : Nat) (us : List T7), k ≤ l.length ∧ i = .int .i64 k ∧ us.length = ts.length ∧ wakeAllT l ts tn v = wakeAllT (l.drop k) us (tn + k) v ∧ OwnR wr lo hi 45 7 (.slice A0 ts.length c0) ts.length (tcells us) ∧ Blk wr w.heap.size 35 #[.slice A0 ts.length c0, .slice A1 n1 c1, .slice A2 n2 c2, .int .i64 (tn + k), .bool st] ∧ Blk wr (w.heap.size + 1) 35 #[.slice none 0 0, .slice none 0 0, .slice none 0 0, .int .i64 0, .bool false] ∧ OwnR wr (W2.heap.size) (W3.heap.size) 2 1 (.slice A l.length c) l.length (icells l) ∧ Within lo hi w wr) (fun i _ => l.length - (intOf i).toNat)
 case atStart => exact ⟨0, ts, Nat.zero_le _, rfl, rfl, by simp, rT, by simpa using kX, kR, rL, G⟩
 case round =>
  clear rT kX kR rL G
  rename World => V
  obtain ⟨k, us, hk, rfl, hul, hwk, rT, kX, kR, rL, G⟩ := hrel
  have Hwk := hide (⟨hwk, hul⟩ : _ ∧ _)
  clear hwk hul
  have z0 := G.size
  by_cases hlt : k < l.length
  ·obtain ⟨b', off, xv, rfl, hd, hx, hb', y0⟩ := rL.row.ks_at hlt
   obtain ⟨j, rfl, hj⟩ := hmem.out xv (List.mem_of_getElem? hx)
   have Hd := hide (⟨hd, hx⟩ : _ ∧ _)
   clear hd hx
   obtain ⟨s, lv, o, wt, on, v0, tt, hus⟩ : ∃ s l o wt on v t : Int, us[j]? = some ⟨s, l, o, wt, on, v, t⟩ := ⟨_, _, _, _, _, _, _, by rw [List.getElem?_eq_getElem (by have := Hwk.out.2; omega)]⟩
   have hul := Hwk.out.2
   have hcon : Hid (∀ V', hi ≤ V'.heap.size → OwnR V' lo hi 45 7 (.slice A0 ts.length c0) ts.length (tcells us) → Calls Tryz.prog 98 #[.agg #[.slice A0 ts.length c0, .slice A1 n1 c1, .slice A2 n2 c2, .int .i64 (tn + k), .bool st], .int .i64 j, .int .i64 v] V' fun r w' => r = .returned (.agg #[.slice A0 ts.length c0, .slice A1 n1 c1, .slice A2 n2 c2, .int .i64 (tn + k + 1), .bool st]) ∧ OwnR w' lo hi 45 7 (.slice A0 ts.length c0) ts.length (tcells (us.set j (wakeT ⟨s, lv, o, wt, on, v0, tt⟩ (tn + k) v))) ∧ Within lo hi V' w') := hide (fun V' hV hO => by
    have h0 := l5Wake_any us A0 A1 A2 c0 n1 c1 n2 c2 (tn + k) st j s lv o wt on v0 tt v lo hi V' hV (by omega) (by omega) (by omega) hus (by rw [hul]; exact hO)
    rw [hul] at h0
    exact h0)
   have Hus := hide hus
   clear hus hul
   have tX : w.heap.size < V.heap.size := kX.lt
   have qX0 : V.cell? ⟨w.heap.size, 0, none⟩ = some (.slice A0 ts.length c0) := kX.cell 0
   have fX0 : V.frozen? ⟨w.heap.size, 0, none⟩ = false := kX.frozen 0
   have qX1 : V.cell? ⟨w.heap.size, 1, none⟩ = some (.slice A1 n1 c1) := kX.cell 1
   have fX1 : V.frozen? ⟨w.heap.size, 1, none⟩ = false := kX.frozen 1
   have qX2 : V.cell? ⟨w.heap.size, 2, none⟩ = some (.slice A2 n2 c2) := kX.cell 2
   have fX2 : V.frozen? ⟨w.heap.size, 2, none⟩ = false := kX.frozen 2
   have qX3 : V.cell? ⟨w.heap.size, 3, none⟩ = some (.int .i64 (tn + k)) := kX.cell 3
   have fX3 : V.frozen? ⟨w.heap.size, 3, none⟩ = false := kX.frozen 3
   have qX4 : V.cell? ⟨w.heap.size, 4, none⟩ = some (.bool st) := kX.cell 4
   have fX4 : V.frozen? ⟨w.heap.size, 4, none⟩ = false := kX.frozen 4
   have tR : w.heap.size + 1 < V.heap.size := kR.lt
   have qR0 : V.cell? ⟨w.heap.size + 1, 0, none⟩ = some (.slice none 0 0) := kR.cell 0
   have fR0 : V.frozen? ⟨w.heap.size + 1, 0, none⟩ = false := kR.frozen 0
   have qR1 : V.cell? ⟨w.heap.size + 1, 1, none⟩ = some (.slice none 0 0) := kR.cell 1
   have fR1 : V.frozen? ⟨w.heap.size + 1, 1, none⟩ = false := kR.frozen 1
   have qR2 : V.cell? ⟨w.heap.size + 1, 2, none⟩ = some (.slice none 0 0) := kR.cell 2
   have fR2 : V.frozen? ⟨w.heap.size + 1, 2, none⟩ = false := kR.frozen 2
   have qR3 : V.cell? ⟨w.heap.size + 1, 3, none⟩ = some (.int .i64 0) := kR.cell 3
   have fR3 : V.frozen? ⟨w.heap.size + 1, 3, none⟩ = false := kR.frozen 3
   have qR4 : V.cell? ⟨w.heap.size + 1, 4, none⟩ = some (.bool false) := kR.cell 4
   have fR4 : V.frozen? ⟨w.heap.size + 1, 4, none⟩ = false := kR.frozen 4
   go_wp2_with fail
   go_region_with (go_at_call 98; (refine (hcon.out V.drew (Nat.le_trans hhi z0) rT.drew).mono ?_; rintro r w2 ⟨rfl, rT2, N2⟩; have kX2 := N2.blk kX.drew (.inr (by omega)); have p0 : w2.cell? ⟨w.heap.size, 0, none⟩ = some (.slice A0 ts.length c0) := kX2.cell 0; have g0 : w2.frozen? ⟨w.heap.size, 0, none⟩ = false := kX2.frozen 0; have p1 : w2.cell? ⟨w.heap.size, 1, none⟩ = some (.slice A1 n1 c1) := kX2.cell 1; have g1 : w2.frozen? ⟨w.heap.size, 1, none⟩ = false := kX2.frozen 1; have p2 : w2.cell? ⟨w.heap.size, 2, none⟩ = some (.slice A2 n2 c2) := kX2.cell 2; have g2 : w2.frozen? ⟨w.heap.size, 2, none⟩ = false := kX2.frozen 2; have p3 : w2.cell? ⟨w.heap.size, 3, none⟩ = some (.int .i64 (tn + k)) := kX2.cell 3; have g3 : w2.frozen? ⟨w.heap.size, 3, none⟩ = false := kX2.frozen 3; have p4 : w2.cell? ⟨w.heap.size, 4, none⟩ = some (.bool st) := kX2.cell 4; have g4 : w2.frozen? ⟨w.heap.size, 4, none⟩ = false := kX2.frozen 4; skip))
   all_goals
    clear p0 g0 p1 g1 p2 g2 p3 g3 p4 g4 qX0 fX0 qX1 fX1 qX2 fX2 qX3 fX3 qX4 fX4 qR0 fR0 qR1 fR1 qR2 fR2 qR3 fR3 qR4 fR4 tX tR
    have kR2 := N2.blk kR.drew (.inr (by omega))
    have rL2 := N2.own rL.drew (.inr (by omega))
    have G2 := Within.trans G.drew N2
    have z31 : V.heap.size ≤ w2.heap.size := N2.size
    clear kX kR rL G rT
    have kX := kX2
    have kR := kR2
    have rL := rL2
    have rT := rT2
    have G := G2
    clear kX2 kR2 rL2 rT2 G2 N2
    replace kR := kR.far (p := ⟨w.heap.size, 0, none⟩) (show w.heap.size + 1 ≠ w.heap.size by omega) (.slice A0 ts.length c0)
    replace kX : Blk (w2.setCell ⟨w.heap.size, 0, none⟩ (.slice A0 ts.length c0)) (w.heap.size) 35 #[.slice A0 ts.length c0, .slice A1 n1 c1, .slice A2 n2 c2, .int .i64 (tn + k), .bool st] := kX.set_ 0 (.slice A0 ts.length c0)
    replace rT := rT.store (p := ⟨w.heap.size, 0, none⟩) (show w.heap.size < lo ∨ hi ≤ w.heap.size by omega) (.slice A0 ts.length c0)
    replace rL := rL.store (p := ⟨w.heap.size, 0, none⟩) (show w.heap.size < W2.heap.size ∨ W3.heap.size ≤ w.heap.size by omega) (.slice A0 ts.length c0)
    replace G : Within lo hi w (w2.setCell ⟨w.heap.size, 0, none⟩ (.slice A0 ts.length c0)) := Within.setNew G (show w.heap.size ≤ w.heap.size by omega) _
    have z32 : (w2.setCell ⟨w.heap.size, 0, none⟩ (.slice A0 ts.length c0)).heap.size = w2.heap.size := by simp [World.setCell]
    generalize w2.setCell ⟨w.heap.size, 0, none⟩ (.slice A0 ts.length c0) = W32 at kX kR rT rL G z32 ⊢
    replace kR := kR.far (p := ⟨w.heap.size, 1, none⟩) (show w.heap.size + 1 ≠ w.heap.size by omega) (.slice A1 n1 c1)
    replace kX : Blk (W32.setCell ⟨w.heap.size, 1, none⟩ (.slice A1 n1 c1)) (w.heap.size) 35 #[.slice A0 ts.length c0, .slice A1 n1 c1, .slice A2 n2 c2, .int .i64 (tn + k), .bool st] := kX.set_ 1 (.slice A1 n1 c1)
    replace rT := rT.store (p := ⟨w.heap.size, 1, none⟩) (show w.heap.size < lo ∨ hi ≤ w.heap.size by omega) (.slice A1 n1 c1)
    replace rL := rL.store (p := ⟨w.heap.size, 1, none⟩) (show w.heap.size < W2.heap.size ∨ W3.heap.size ≤ w.heap.size by omega) (.slice A1 n1 c1)
    replace G : Within lo hi w (W32.setCell ⟨w.heap.size, 1, none⟩ (.slice A1 n1 c1)) := Within.setNew G (show w.heap.size ≤ w.heap.size by omega) _
    have z33 : (W32.setCell ⟨w.heap.size, 1, none⟩ (.slice A1 n1 c1)).heap.size = W32.heap.size := by simp [World.setCell]
    generalize W32.setCell ⟨w.heap.size, 1, none⟩ (.slice A1 n1 c1) = W33 at kX kR rT rL G z33 ⊢
    replace kR := kR.far (p := ⟨w.heap.size, 2, none⟩) (show w.heap.size + 1 ≠ w.heap.size by omega) (.slice A2 n2 c2)
    replace kX : Blk (W33.setCell ⟨w.heap.size, 2, none⟩ (.slice A2 n2 c2)) (w.heap.size) 35 #[.slice A0 ts.length c0, .slice A1 n1 c1, .slice A2 n2 c2, .int .i64 (tn + k), .bool st] := kX.set_ 2 (.slice A2 n2 c2)
    replace rT := rT.store (p := ⟨w.heap.size, 2, none⟩) (show w.heap.size < lo ∨ hi ≤ w.heap.size by omega) (.slice A2 n2 c2)
    replace rL := rL.store (p := ⟨w.heap.size, 2, none⟩) (show w.heap.size < W2.heap.size ∨ W3.heap.size ≤ w.heap.size by omega) (.slice A2 n2 c2)
    replace G : Within lo hi w (W33.setCell ⟨w.heap.size, 2, none⟩ (.slice A2 n2 c2)) := Within.setNew G (show w.heap.size ≤ w.heap.size by omega) _
    have z34 : (W33.setCell ⟨w.heap.size, 2, none⟩ (.slice A2 n2 c2)).heap.size = W33.heap.size := by simp [World.setCell]
    generalize W33.setCell ⟨w.heap.size, 2, none⟩ (.slice A2 n2 c2) = W34 at kX kR rT rL G z34 ⊢
    replace kR := kR.far (p := ⟨w.heap.size, 3, none⟩) (show w.heap.size + 1 ≠ w.heap.size by omega) (.int .i64 (tn + k + 1))
    replace kX : Blk (W34.setCell ⟨w.heap.size, 3, none⟩ (.int .i64 (tn + k + 1))) (w.heap.size) 35 #[.slice A0 ts.length c0, .slice A1 n1 c1, .slice A2 n2 c2, .int .i64 (tn + k + 1), .bool st] := kX.set_ 3 (.int .i64 (tn + k + 1))
    replace rT := rT.store (p := ⟨w.heap.size, 3, none⟩) (show w.heap.size < lo ∨ hi ≤ w.heap.size by omega) (.int .i64 (tn + k + 1))
    replace rL := rL.store (p := ⟨w.heap.size, 3, none⟩) (show w.heap.size < W2.heap.size ∨ W3.heap.size ≤ w.heap.size by omega) (.int .i64 (tn + k + 1))
    replace G : Within lo hi w (W34.setCell ⟨w.heap.size, 3, none⟩ (.int .i64 (tn + k + 1))) := Within.setNew G (show w.heap.size ≤ w.heap.size by omega) _
    have z35 : (W34.setCell ⟨w.heap.size, 3, none⟩ (.int .i64 (tn + k + 1))).heap.size = W34.heap.size := by simp [World.setCell]
    generalize W34.setCell ⟨w.heap.size, 3, none⟩ (.int .i64 (tn + k + 1)) = W35 at kX kR rT rL G z35 ⊢
    replace kR := kR.far (p := ⟨w.heap.size, 4, none⟩) (show w.heap.size + 1 ≠ w.heap.size by omega) (.bool st)
    replace kX : Blk (W35.setCell ⟨w.heap.size, 4, none⟩ (.bool st)) (w.heap.size) 35 #[.slice A0 ts.length c0, .slice A1 n1 c1, .slice A2 n2 c2, .int .i64 (tn + k + 1), .bool st] := kX.set_ 4 (.bool st)
    replace rT := rT.store (p := ⟨w.heap.size, 4, none⟩) (show w.heap.size < lo ∨ hi ≤ w.heap.size by omega) (.bool st)
    replace rL := rL.store (p := ⟨w.heap.size, 4, none⟩) (show w.heap.size < W2.heap.size ∨ W3.heap.size ≤ w.heap.size by omega) (.bool st)
    replace G : Within lo hi w (W35.setCell ⟨w.heap.size, 4, none⟩ (.bool st)) := Within.setNew G (show w.heap.size ≤ w.heap.size by omega) _
    have z36 : (W35.setCell ⟨w.heap.size, 4, none⟩ (.bool st)).heap.size = W35.heap.size := by simp [World.setCell]
    generalize W35.setCell ⟨w.heap.size, 4, none⟩ (.bool st) = W36 at kX kR rT rL G z36 ⊢
    go_wp2
    go_roundw
    case rel =>
     have hup : taskAt us (j : Int) = ⟨s, lv, o, wt, on, v0, tt⟩ := taskAt_of Hus.out
     exact ⟨k + 1, us.set j (wakeT ⟨s, lv, o, wt, on, v0, tt⟩ (tn + k) v), by omega, by go_num, by rw [List.length_set]; exact Hwk.out.2, by rw [Hwk.out.1, Hd.out.1, show tn + ((k + 1 : Nat) : Int) = tn + k + 1 from by omega]; simp only [wakeAllT, Int.toNat_natCast, hup], rT, kX.to (by rw [show tn + ((k + 1 : Nat) : Int) = tn + k + 1 from by omega]), kR, rL, G⟩
    case measure => simp [intOf]; omega
  ·obtain rfl : k = l.length := by omega
   clear rL
   have tX : w.heap.size < V.heap.size := kX.lt
   have qX0 : V.cell? ⟨w.heap.size, 0, none⟩ = some (.slice A0 ts.length c0) := kX.cell 0
   have fX0 : V.frozen? ⟨w.heap.size, 0, none⟩ = false := kX.frozen 0
   have qX1 : V.cell? ⟨w.heap.size, 1, none⟩ = some (.slice A1 n1 c1) := kX.cell 1
   have fX1 : V.frozen? ⟨w.heap.size, 1, none⟩ = false := kX.frozen 1
   have qX2 : V.cell? ⟨w.heap.size, 2, none⟩ = some (.slice A2 n2 c2) := kX.cell 2
   have fX2 : V.frozen? ⟨w.heap.size, 2, none⟩ = false := kX.frozen 2
   have qX3 : V.cell? ⟨w.heap.size, 3, none⟩ = some (.int .i64 (tn + l.length)) := kX.cell 3
   have fX3 : V.frozen? ⟨w.heap.size, 3, none⟩ = false := kX.frozen 3
   have qX4 : V.cell? ⟨w.heap.size, 4, none⟩ = some (.bool st) := kX.cell 4
   have fX4 : V.frozen? ⟨w.heap.size, 4, none⟩ = false := kX.frozen 4
   have tR : w.heap.size + 1 < V.heap.size := kR.lt
   have qR0 : V.cell? ⟨w.heap.size + 1, 0, none⟩ = some (.slice none 0 0) := kR.cell 0
   have fR0 : V.frozen? ⟨w.heap.size + 1, 0, none⟩ = false := kR.frozen 0
   have qR1 : V.cell? ⟨w.heap.size + 1, 1, none⟩ = some (.slice none 0 0) := kR.cell 1
   have fR1 : V.frozen? ⟨w.heap.size + 1, 1, none⟩ = false := kR.frozen 1
   have qR2 : V.cell? ⟨w.heap.size + 1, 2, none⟩ = some (.slice none 0 0) := kR.cell 2
   have fR2 : V.frozen? ⟨w.heap.size + 1, 2, none⟩ = false := kR.frozen 2
   have qR3 : V.cell? ⟨w.heap.size + 1, 3, none⟩ = some (.int .i64 0) := kR.cell 3
   have fR3 : V.frozen? ⟨w.heap.size + 1, 3, none⟩ = false := kR.frozen 3
   have qR4 : V.cell? ⟨w.heap.size + 1, 4, none⟩ = some (.bool false) := kR.cell 4
   have fR4 : V.frozen? ⟨w.heap.size + 1, 4, none⟩ = false := kR.frozen 4
   go_wp2_with fail
   clear tX qX0 fX0 qX1 fX1 qX2 fX2 qX3 fX3 qX4 fX4 tR qR0 fR0 qR1 fR1 qR2 fR2 qR3 fR3 qR4 fR4
   replace kX := kX.far (p := ⟨w.heap.size + 1, 0, none⟩) (show w.heap.size ≠ w.heap.size + 1 by omega) (.slice A0 ts.length c0)
   replace kR : Blk (V.setCell ⟨w.heap.size + 1, 0, none⟩ (.slice A0 ts.length c0)) (w.heap.size + 1) 35 #[.slice A0 ts.length c0, .slice none 0 0, .slice none 0 0, .int .i64 0, .bool false] := kR.set_ 0 (.slice A0 ts.length c0)
   replace rT := rT.store (p := ⟨w.heap.size + 1, 0, none⟩) (show w.heap.size + 1 < lo ∨ hi ≤ w.heap.size + 1 by omega) (.slice A0 ts.length c0)
   replace G : Within lo hi w (V.setCell ⟨w.heap.size + 1, 0, none⟩ (.slice A0 ts.length c0)) := Within.setNew G (show w.heap.size ≤ w.heap.size + 1 by omega) _
   have z61 : (V.setCell ⟨w.heap.size + 1, 0, none⟩ (.slice A0 ts.length c0)).heap.size = V.heap.size := by simp [World.setCell]
   generalize V.setCell ⟨w.heap.size + 1, 0, none⟩ (.slice A0 ts.length c0) = W61 at kX kR rT G z61 ⊢
   replace kX := kX.far (p := ⟨w.heap.size + 1, 1, none⟩) (show w.heap.size ≠ w.heap.size + 1 by omega) (.slice A1 n1 c1)
   replace kR : Blk (W61.setCell ⟨w.heap.size + 1, 1, none⟩ (.slice A1 n1 c1)) (w.heap.size + 1) 35 #[.slice A0 ts.length c0, .slice A1 n1 c1, .slice none 0 0, .int .i64 0, .bool false] := kR.set_ 1 (.slice A1 n1 c1)
   replace rT := rT.store (p := ⟨w.heap.size + 1, 1, none⟩) (show w.heap.size + 1 < lo ∨ hi ≤ w.heap.size + 1 by omega) (.slice A1 n1 c1)
   replace G : Within lo hi w (W61.setCell ⟨w.heap.size + 1, 1, none⟩ (.slice A1 n1 c1)) := Within.setNew G (show w.heap.size ≤ w.heap.size + 1 by omega) _
   have z62 : (W61.setCell ⟨w.heap.size + 1, 1, none⟩ (.slice A1 n1 c1)).heap.size = W61.heap.size := by simp [World.setCell]
   generalize W61.setCell ⟨w.heap.size + 1, 1, none⟩ (.slice A1 n1 c1) = W62 at kX kR rT G z62 ⊢
   replace kX := kX.far (p := ⟨w.heap.size + 1, 2, none⟩) (show w.heap.size ≠ w.heap.size + 1 by omega) (.slice A2 n2 c2)
   replace kR : Blk (W62.setCell ⟨w.heap.size + 1, 2, none⟩ (.slice A2 n2 c2)) (w.heap.size + 1) 35 #[.slice A0 ts.length c0, .slice A1 n1 c1, .slice A2 n2 c2, .int .i64 0, .bool false] := kR.set_ 2 (.slice A2 n2 c2)
   replace rT := rT.store (p := ⟨w.heap.size + 1, 2, none⟩) (show w.heap.size + 1 < lo ∨ hi ≤ w.heap.size + 1 by omega) (.slice A2 n2 c2)
   replace G : Within lo hi w (W62.setCell ⟨w.heap.size + 1, 2, none⟩ (.slice A2 n2 c2)) := Within.setNew G (show w.heap.size ≤ w.heap.size + 1 by omega) _
   have z63 : (W62.setCell ⟨w.heap.size + 1, 2, none⟩ (.slice A2 n2 c2)).heap.size = W62.heap.size := by simp [World.setCell]
   generalize W62.setCell ⟨w.heap.size + 1, 2, none⟩ (.slice A2 n2 c2) = W63 at kX kR rT G z63 ⊢
   replace kX := kX.far (p := ⟨w.heap.size + 1, 3, none⟩) (show w.heap.size ≠ w.heap.size + 1 by omega) (.int .i64 (tn + l.length))
   replace kR : Blk (W63.setCell ⟨w.heap.size + 1, 3, none⟩ (.int .i64 (tn + l.length))) (w.heap.size + 1) 35 #[.slice A0 ts.length c0, .slice A1 n1 c1, .slice A2 n2 c2, .int .i64 (tn + l.length), .bool false] := kR.set_ 3 (.int .i64 (tn + l.length))
   replace rT := rT.store (p := ⟨w.heap.size + 1, 3, none⟩) (show w.heap.size + 1 < lo ∨ hi ≤ w.heap.size + 1 by omega) (.int .i64 (tn + l.length))
   replace G : Within lo hi w (W63.setCell ⟨w.heap.size + 1, 3, none⟩ (.int .i64 (tn + l.length))) := Within.setNew G (show w.heap.size ≤ w.heap.size + 1 by omega) _
   have z64 : (W63.setCell ⟨w.heap.size + 1, 3, none⟩ (.int .i64 (tn + l.length))).heap.size = W63.heap.size := by simp [World.setCell]
   generalize W63.setCell ⟨w.heap.size + 1, 3, none⟩ (.int .i64 (tn + l.length)) = W64 at kX kR rT G z64 ⊢
   replace kX := kX.far (p := ⟨w.heap.size + 1, 4, none⟩) (show w.heap.size ≠ w.heap.size + 1 by omega) (.bool st)
   replace kR : Blk (W64.setCell ⟨w.heap.size + 1, 4, none⟩ (.bool st)) (w.heap.size + 1) 35 #[.slice A0 ts.length c0, .slice A1 n1 c1, .slice A2 n2 c2, .int .i64 (tn + l.length), .bool st] := kR.set_ 4 (.bool st)
   replace rT := rT.store (p := ⟨w.heap.size + 1, 4, none⟩) (show w.heap.size + 1 < lo ∨ hi ≤ w.heap.size + 1 by omega) (.bool st)
   replace G : Within lo hi w (W64.setCell ⟨w.heap.size + 1, 4, none⟩ (.bool st)) := Within.setNew G (show w.heap.size ≤ w.heap.size + 1 by omega) _
   have z65 : (W64.setCell ⟨w.heap.size + 1, 4, none⟩ (.bool st)).heap.size = W64.heap.size := by simp [World.setCell]
   generalize W64.setCell ⟨w.heap.size + 1, 4, none⟩ (.bool st) = W65 at kX kR rT G z65 ⊢
   have tR : w.heap.size + 1 < W65.heap.size := kR.lt
   have qR0 : W65.cell? ⟨w.heap.size + 1, 0, none⟩ = some (.slice A0 ts.length c0) := kR.cell 0
   have qR1 : W65.cell? ⟨w.heap.size + 1, 1, none⟩ = some (.slice A1 n1 c1) := kR.cell 1
   have qR2 : W65.cell? ⟨w.heap.size + 1, 2, none⟩ = some (.slice A2 n2 c2) := kR.cell 2
   have qR3 : W65.cell? ⟨w.heap.size + 1, 3, none⟩ = some (.int .i64 (tn + l.length)) := kR.cell 3
   have qR4 : W65.cell? ⟨w.heap.size + 1, 4, none⟩ = some (.bool st) := kR.cell 4
   have hus : us = wakeAllT l ts tn v := by rw [Hwk.out.1]; simp [wakeAllT]
   rw [hus] at rT
   exact bodyPost_ret (v := .tuple #[.agg #[.slice A0 ts.length c0, .slice A1 n1 c1, .slice A2 n2 c2, .int .i64 (tn + l.length), .bool st], .int .i64 (l.length : Nat)]) (by simp [results, Tryz.results75, go_sem, qR0, qR1, qR2, qR3, qR4]) rfl ⟨rfl, rT, G⟩
theorem set_same {l : List Value} {i : Nat} {x : Value} (h : l[i]? = some x) : l.set i x = l := by
 apply List.ext_getElem?
 intro j
 rw [List.getElem?_set]
 by_cases hij : i = j
 ·subst hij
  have hl : i < l.length := by
   rcases Nat.lt_or_ge i l.length with h1 | h1
   ·exact h1
   ·rw [List.getElem?_eq_none h1] at h; cases h
  rw [h]; simp [hl]
 ·simp [hij]
theorem tcells_of {us : List T7} {k : Nat} {x : T7} (h : us[k]? = some x) (j : Nat) (hj : j < 7) : (tcells us)[k * 7 + j]? = x.cs[j]? := by
 rw [tcells_at, show (k * 7 + j) / 7 = k from by omega, show (k * 7 + j) % 7 = j from by omega, h]; rfl
theorem tput_s (us : List T7) (k : Nat) (s l o wt on v t x : Int) (h : us[k]? = some ⟨s, l, o, wt, on, v, t⟩) : (tcells us).set (k * 7) (.int .i64 x) = tcells (us.set k ⟨x, l, o, wt, on, v, t⟩) := by
 rw [← tcells_put]
 rw [set_same (i := k * 7 + 1) (l := (tcells us).set (k * 7) (.int .i64 x)) (by rw [List.getElem?_set_ne (by omega)]; exact tcells_of h 1 (by omega))]
 rw [set_same (i := k * 7 + 2) (l := (tcells us).set (k * 7) (.int .i64 x)) (by rw [List.getElem?_set_ne (by omega)]; exact tcells_of h 2 (by omega))]
 rw [set_same (i := k * 7 + 3) (l := (tcells us).set (k * 7) (.int .i64 x)) (by rw [List.getElem?_set_ne (by omega)]; exact tcells_of h 3 (by omega))]
 rw [set_same (i := k * 7 + 4) (l := (tcells us).set (k * 7) (.int .i64 x)) (by rw [List.getElem?_set_ne (by omega)]; exact tcells_of h 4 (by omega))]
 rw [set_same (i := k * 7 + 5) (l := (tcells us).set (k * 7) (.int .i64 x)) (by rw [List.getElem?_set_ne (by omega)]; exact tcells_of h 5 (by omega))]
 rw [set_same (i := k * 7 + 6) (l := (tcells us).set (k * 7) (.int .i64 x)) (by rw [List.getElem?_set_ne (by omega)]; exact tcells_of h 6 (by omega))]
theorem tput_l (us : List T7) (k : Nat) (s l o wt on v t x : Int) (h : us[k]? = some ⟨s, l, o, wt, on, v, t⟩) : (tcells us).set (k * 7 + 1) (.int .i64 x) = tcells (us.set k ⟨s, x, o, wt, on, v, t⟩) := by
 rw [← tcells_put]
 rw [set_same (i := k * 7) (l := tcells us) (tcells_of h 0 (by omega))]
 rw [set_same (i := k * 7 + 2) (l := (tcells us).set (k * 7 + 1) (.int .i64 x)) (by rw [List.getElem?_set_ne (by omega)]; exact tcells_of h 2 (by omega))]
 rw [set_same (i := k * 7 + 3) (l := (tcells us).set (k * 7 + 1) (.int .i64 x)) (by rw [List.getElem?_set_ne (by omega)]; exact tcells_of h 3 (by omega))]
 rw [set_same (i := k * 7 + 4) (l := (tcells us).set (k * 7 + 1) (.int .i64 x)) (by rw [List.getElem?_set_ne (by omega)]; exact tcells_of h 4 (by omega))]
 rw [set_same (i := k * 7 + 5) (l := (tcells us).set (k * 7 + 1) (.int .i64 x)) (by rw [List.getElem?_set_ne (by omega)]; exact tcells_of h 5 (by omega))]
 rw [set_same (i := k * 7 + 6) (l := (tcells us).set (k * 7 + 1) (.int .i64 x)) (by rw [List.getElem?_set_ne (by omega)]; exact tcells_of h 6 (by omega))]
theorem tput_o (us : List T7) (k : Nat) (s l o wt on v t x : Int) (h : us[k]? = some ⟨s, l, o, wt, on, v, t⟩) : (tcells us).set (k * 7 + 2) (.int .i64 x) = tcells (us.set k ⟨s, l, x, wt, on, v, t⟩) := by
 rw [← tcells_put]
 rw [set_same (i := k * 7) (l := tcells us) (tcells_of h 0 (by omega))]
 rw [set_same (i := k * 7 + 1) (l := tcells us) (tcells_of h 1 (by omega))]
 rw [set_same (i := k * 7 + 3) (l := (tcells us).set (k * 7 + 2) (.int .i64 x)) (by rw [List.getElem?_set_ne (by omega)]; exact tcells_of h 3 (by omega))]
 rw [set_same (i := k * 7 + 4) (l := (tcells us).set (k * 7 + 2) (.int .i64 x)) (by rw [List.getElem?_set_ne (by omega)]; exact tcells_of h 4 (by omega))]
 rw [set_same (i := k * 7 + 5) (l := (tcells us).set (k * 7 + 2) (.int .i64 x)) (by rw [List.getElem?_set_ne (by omega)]; exact tcells_of h 5 (by omega))]
 rw [set_same (i := k * 7 + 6) (l := (tcells us).set (k * 7 + 2) (.int .i64 x)) (by rw [List.getElem?_set_ne (by omega)]; exact tcells_of h 6 (by omega))]
theorem tput_wt (us : List T7) (k : Nat) (s l o wt on v t x : Int) (h : us[k]? = some ⟨s, l, o, wt, on, v, t⟩) : (tcells us).set (k * 7 + 3) (.int .i64 x) = tcells (us.set k ⟨s, l, o, x, on, v, t⟩) := by
 rw [← tcells_put]
 rw [set_same (i := k * 7) (l := tcells us) (tcells_of h 0 (by omega))]
 rw [set_same (i := k * 7 + 1) (l := tcells us) (tcells_of h 1 (by omega))]
 rw [set_same (i := k * 7 + 2) (l := tcells us) (tcells_of h 2 (by omega))]
 rw [set_same (i := k * 7 + 4) (l := (tcells us).set (k * 7 + 3) (.int .i64 x)) (by rw [List.getElem?_set_ne (by omega)]; exact tcells_of h 4 (by omega))]
 rw [set_same (i := k * 7 + 5) (l := (tcells us).set (k * 7 + 3) (.int .i64 x)) (by rw [List.getElem?_set_ne (by omega)]; exact tcells_of h 5 (by omega))]
 rw [set_same (i := k * 7 + 6) (l := (tcells us).set (k * 7 + 3) (.int .i64 x)) (by rw [List.getElem?_set_ne (by omega)]; exact tcells_of h 6 (by omega))]
theorem tput_on (us : List T7) (k : Nat) (s l o wt on v t x : Int) (h : us[k]? = some ⟨s, l, o, wt, on, v, t⟩) : (tcells us).set (k * 7 + 4) (.int .i64 x) = tcells (us.set k ⟨s, l, o, wt, x, v, t⟩) := by
 rw [← tcells_put]
 rw [set_same (i := k * 7) (l := tcells us) (tcells_of h 0 (by omega))]
 rw [set_same (i := k * 7 + 1) (l := tcells us) (tcells_of h 1 (by omega))]
 rw [set_same (i := k * 7 + 2) (l := tcells us) (tcells_of h 2 (by omega))]
 rw [set_same (i := k * 7 + 3) (l := tcells us) (tcells_of h 3 (by omega))]
 rw [set_same (i := k * 7 + 5) (l := (tcells us).set (k * 7 + 4) (.int .i64 x)) (by rw [List.getElem?_set_ne (by omega)]; exact tcells_of h 5 (by omega))]
 rw [set_same (i := k * 7 + 6) (l := (tcells us).set (k * 7 + 4) (.int .i64 x)) (by rw [List.getElem?_set_ne (by omega)]; exact tcells_of h 6 (by omega))]
theorem tput_v (us : List T7) (k : Nat) (s l o wt on v t x : Int) (h : us[k]? = some ⟨s, l, o, wt, on, v, t⟩) : (tcells us).set (k * 7 + 5) (.int .i64 x) = tcells (us.set k ⟨s, l, o, wt, on, x, t⟩) := by
 rw [← tcells_put]
 rw [set_same (i := k * 7) (l := tcells us) (tcells_of h 0 (by omega))]
 rw [set_same (i := k * 7 + 1) (l := tcells us) (tcells_of h 1 (by omega))]
 rw [set_same (i := k * 7 + 2) (l := tcells us) (tcells_of h 2 (by omega))]
 rw [set_same (i := k * 7 + 3) (l := tcells us) (tcells_of h 3 (by omega))]
 rw [set_same (i := k * 7 + 4) (l := tcells us) (tcells_of h 4 (by omega))]
 rw [set_same (i := k * 7 + 6) (l := (tcells us).set (k * 7 + 5) (.int .i64 x)) (by rw [List.getElem?_set_ne (by omega)]; exact tcells_of h 6 (by omega))]
theorem tput_t (us : List T7) (k : Nat) (s l o wt on v t x : Int) (h : us[k]? = some ⟨s, l, o, wt, on, v, t⟩) : (tcells us).set (k * 7 + 6) (.int .i64 x) = tcells (us.set k ⟨s, l, o, wt, on, v, x⟩) := by
 rw [← tcells_put]
 rw [set_same (i := k * 7) (l := tcells us) (tcells_of h 0 (by omega))]
 rw [set_same (i := k * 7 + 1) (l := tcells us) (tcells_of h 1 (by omega))]
 rw [set_same (i := k * 7 + 2) (l := tcells us) (tcells_of h 2 (by omega))]
 rw [set_same (i := k * 7 + 3) (l := tcells us) (tcells_of h 3 (by omega))]
 rw [set_same (i := k * 7 + 4) (l := tcells us) (tcells_of h 4 (by omega))]
 rw [set_same (i := k * 7 + 5) (l := tcells us) (tcells_of h 5 (by omega))]
end Go.Proofs.YtfkdfkoigojciaaGreatDoor
