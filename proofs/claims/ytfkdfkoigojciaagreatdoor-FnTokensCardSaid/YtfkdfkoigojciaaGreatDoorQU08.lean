import Derived.Test.YtfkdfkoigojciaaGreatDoorQU07
import Derived.Test.YtfkdfkoigojciaaGreatDoorQU02

namespace Go.Proofs.YtfkdfkoigojciaaGreatDoor
open Go.RowKit
set_option linter.unusedVariables false
set_option maxHeartbeats 16000000
set_option maxRecDepth 100000
theorem solo_step (ts : List T7) (k : Nat) (u : T7) (s o : Int) (h : ts[k]? = some u) : soloTo ts (k + 1) s o = (soloTo ts k s o && (!(s == 2) || !(u.s == 2 && u.o == o))) := by
 simp only [soloTo, List.take_add_one, h, Option.toList_some, List.all_append, List.all_cons, List.all_nil, Bool.and_true]
 cases (s == 2) <;> simp
theorem solo_false (ts : List T7) (j k : Nat) (hj : j < k) (u : T7) (s o : Int) (h : ts[j]? = some u) (h1 : s = 2) (h2 : u.s = 2) (h3 : u.o = o) : soloTo ts k s o = false := by
 have hm : u ∈ ts.take k := by
  rw [List.mem_iff_getElem?]
  exact ⟨j, by rw [List.getElem?_take, if_pos hj, h]⟩
 have : (ts.take k).all (fun u => !(u.s == 2 && u.o == o)) = false := by
  rw [List.all_eq_false]
  exact ⟨u, hm, by simp [h2, h3]⟩
 rw [soloTo, this]; simp [h1]
theorem l3Tasks_any (a b c d e : Int) (ts : List T7) (A0 A1 A2 : Option Addr) (c0 n1 c1 n2 c2 : Nat) (tn : Int) (st : Bool) (w : World) (hlen : ts.length ≤ 1048576) (h0 : Row w A0 (tcells ts)) :
 Calls Tryz.prog 80 #[.agg #[.int .i64 a, .int .i64 b, .int .i64 c, .int .i64 d, .int .i64 e], .agg #[.slice A0 ts.length c0, .slice A1 n1 c1, .slice A2 n2 c2, .int .i64 tn, .bool st]] w fun r w' => r = .returned (.bool (tasksB a b c d e ts tn)) ∧ Below w.heap.size w w' := by
 have h0' := hide h0
 clear h0
 unfold tasksB
 go_enter Tryz.func80, Tryz.ntmps80
 go_wp2_with fail
 have G := Below.refl w.heap.size w
 have kP := Blk.new w 28 #[.int .i64 a, .int .i64 b, .int .i64 c, .int .i64 d, .int .i64 e]
 have hbs := G.size
 replace G := G.alloc (by omega) (.cells #[.int .i64 a, .int .i64 b, .int .i64 c, .int .i64 d, .int .i64 e] 28)
 have z1 : (w.alloc (.cells #[.int .i64 a, .int .i64 b, .int .i64 c, .int .i64 d, .int .i64 e] 28)).heap.size = w.heap.size + 1 := by simp
 clear hbs
 generalize w.alloc (.cells #[.int .i64 a, .int .i64 b, .int .i64 c, .int .i64 d, .int .i64 e] 28) = W1 at kP G z1 ⊢
 have kX : Blk (W1.alloc (.cells #[.slice A0 ts.length c0, .slice A1 n1 c1, .slice A2 n2 c2, .int .i64 tn, .bool st] 35)) (w.heap.size + 1) 35 #[.slice A0 ts.length c0, .slice A1 n1 c1, .slice A2 n2 c2, .int .i64 tn, .bool st] := by
  have h := Blk.new W1 35 #[.slice A0 ts.length c0, .slice A1 n1 c1, .slice A2 n2 c2, .int .i64 tn, .bool st]
  rw [show W1.heap.size = w.heap.size + 1 by omega] at h
  exact h
 replace kP := kP.alloc (.cells #[.slice A0 ts.length c0, .slice A1 n1 c1, .slice A2 n2 c2, .int .i64 tn, .bool st] 35)
 have hbs := G.size
 replace G := G.alloc (by omega) (.cells #[.slice A0 ts.length c0, .slice A1 n1 c1, .slice A2 n2 c2, .int .i64 tn, .bool st] 35)
 have z2 : (W1.alloc (.cells #[.slice A0 ts.length c0, .slice A1 n1 c1, .slice A2 n2 c2, .int .i64 tn, .bool st] 35)).heap.size = W1.heap.size + 1 := by simp
 clear hbs
 generalize W1.alloc (.cells #[.slice A0 ts.length c0, .slice A1 n1 c1, .slice A2 n2 c2, .int .i64 tn, .bool st] 35) = W2 at kP kX G z2 ⊢
 have HB := hide (⟨kP, kX, G, G.size⟩ : _ ∧ _ ∧ Below w.heap.size w W2 ∧ w.heap.size ≤ W2.heap.size)
 clear kP kX G
 go_loopw [5] (fun i wr => ∃ (k : Nat), k ≤ ts.length ∧ i = .int .i64 k ∧ allFrom (fitB a b c d e ts tn) 0 ts = allFrom (fitB a b c d e ts tn) k (ts.drop k) ∧ Below W2.heap.size W2 wr) (fun i _ => ts.length - (intOf i).toNat)
 case atStart => exact ⟨0, Nat.zero_le _, rfl, rfl, Below.refl _ _⟩
 case round =>
  rename World => V
  obtain ⟨k, hk, rfl, hm, G⟩ := hrel
  have Hm := hide hm
  clear hm
  have kP := HB.out.1.below G HB.out.1.lt
  have kX := HB.out.2.1.below G HB.out.2.1.lt
  have z0 := G.size
  by_cases hlt : k < ts.length
  ·obtain ⟨b', off, s, l, o, wt, on, v, t, rfl, hd, ht, hb', y0, y1, y2, y3, y4, y5, y6⟩ := ((h0'.out.below HB.out.2.2.1).below G).ts_at hlt
   have Hd := hide (⟨hd, ht⟩ : _ ∧ _)
   clear hd ht
   obtain ⟨tP, qP0, qP1, qP2, qP3, qP4⟩ := kP.q5
   obtain ⟨tX, qX0, qX1, qX2, qX3, qX4⟩ := kX.q5
   go_wp2_with fail
   clear tP qP0 qP1 qP2 qP3 qP4 tX qX0 qX1 qX2 qX3 qX4
   have kT := Blk.new V 45 #[.int .i64 s, .int .i64 l, .int .i64 o, .int .i64 wt, .int .i64 on, .int .i64 v, .int .i64 t]
   replace kP := kP.alloc (.cells #[.int .i64 s, .int .i64 l, .int .i64 o, .int .i64 wt, .int .i64 on, .int .i64 v, .int .i64 t] 45)
   replace kX := kX.alloc (.cells #[.int .i64 s, .int .i64 l, .int .i64 o, .int .i64 wt, .int .i64 on, .int .i64 v, .int .i64 t] 45)
   have hbs := G.size
   replace G := G.alloc (by omega) (.cells #[.int .i64 s, .int .i64 l, .int .i64 o, .int .i64 wt, .int .i64 on, .int .i64 v, .int .i64 t] 45)
   have z4 : (V.alloc (.cells #[.int .i64 s, .int .i64 l, .int .i64 o, .int .i64 wt, .int .i64 on, .int .i64 v, .int .i64 t] 45)).heap.size = V.heap.size + 1 := by simp
   clear hbs
   generalize V.alloc (.cells #[.int .i64 s, .int .i64 l, .int .i64 o, .int .i64 wt, .int .i64 on, .int .i64 v, .int .i64 t] 45) = W4 at kP kX kT G z4 ⊢
   have y : Hid (taskB a b c d e s l o wt on v t = taskB a b c d e s l o wt on v t) := hide rfl
   clear y y0 y1 y2 y3 y4 y5 y6
   go_call (sTaskOk_any a b c d e s l o wt on v t _) as r W5 ⟨rfl, g1⟩
   have hbs := G.size
   replace kP := kP.below g1 kP.lt
   replace kX := kX.below g1 kX.lt
   replace kT := kT.below g1 kT.lt
   replace G := G.trans (g1.mono (by omega))
   have z5 := g1.size
   clear g1 hbs
   generalize hx0 : taskB a b c d e s l o wt on v t = x0
   have e0 := hide hx0
   clear hx0
   cases x0
   ·obtain ⟨tP, qP0, qP1, qP2, qP3, qP4⟩ := kP.q5
    obtain ⟨tX, qX0, qX1, qX2, qX3, qX4⟩ := kX.q5
    obtain ⟨tT, qT0, qT1, qT2, qT3, qT4, qT5, qT6⟩ := kT.q7
    go_wp2_with fail
    go_ret
    refine ⟨ret_bool ?_, HB.out.2.2.1.trans (G.mono HB.out.2.2.2)⟩
    rw [Hm.out, Hd.out.1]; simp [allFrom, fitB, e0.out]
   by_cases h1 : tn ≤ t
   ·have h2 : decide (tn ≤ t) = true := by simpa using h1
    have hh : Hid (¬ (t < tn)) := hide (by omega)
    obtain ⟨tP, qP0, qP1, qP2, qP3, qP4⟩ := kP.q5
    obtain ⟨tX, qX0, qX1, qX2, qX3, qX4⟩ := kX.q5
    obtain ⟨tT, qT0, qT1, qT2, qT3, qT4, qT5, qT6⟩ := kT.q7
    go_wp2_with fail
    go_ret
    refine ⟨ret_bool ?_, HB.out.2.2.1.trans (G.mono HB.out.2.2.2)⟩
    have hh1 := hh.out
    have hh2 : ¬ (t < tn) := by omega
    rw [Hm.out, Hd.out.1]; simp [allFrom, fitB, hh2]
   have h1' : decide (tn ≤ t) = false := by simpa using h1
   have hh1 : Hid (t < tn) := hide (by omega)
   by_cases hw : waitsOk ts.length k wt on = true
   ·have hw' := hide hw
    by_cases h2 : wt = 1
    ·have h3 : on < (ts.length : Int) ∧ on ≠ (k : Int) := by simpa [waitsOk, h2] using hw
     have h2b : (wt == 1) = true := by simp [h2]
     have h4 : decide ((ts.length : Int) ≤ on) = false := by simp; omega
     have h5 : (on == (k : Int)) = false := by simp; omega
     have h6 := h3.1
     have h7 := h3.2
     clear h3 hw
     obtain ⟨tP, qP0, qP1, qP2, qP3, qP4⟩ := kP.q5
     obtain ⟨tX, qX0, qX1, qX2, qX3, qX4⟩ := kX.q5
     obtain ⟨tT, qT0, qT1, qT2, qT3, qT4, qT5, qT6⟩ := kT.q7
     go_wp2_with fail
     clear tP qP0 qP1 qP2 qP3 qP4 tX qX0 qX1 qX2 qX3 qX4 tT qT0 qT1 qT2 qT3 qT4 qT5 qT6
     have HC := hide (⟨kP, kX, kT, G, G.size⟩ : _ ∧ _ ∧ _ ∧ Below W2.heap.size W2 W5 ∧ W2.heap.size ≤ W5.heap.size)
     clear kP kX kT G
     go_loopw [7] (fun j wr => ∃ (q : Nat), q ≤ k ∧ j = .int .i64 q ∧ soloTo ts q s o = true ∧ Below W5.heap.size W5 wr) (fun j _ => k - (intOf j).toNat)
     case atStart => exact ⟨0, Nat.zero_le _, rfl, by simp [soloTo], Below.refl _ _⟩
     case round =>
      obtain ⟨q, hq, rfl, hso, G⟩ := hrel
      have Hs := hide hso
      clear hso
      have kX := HC.out.2.1.below G HC.out.2.1.lt
      have kT := HC.out.2.2.1.below G HC.out.2.2.1.lt
      have zz := G.size
      by_cases hql : q < k
      ·obtain ⟨b2, off2, s2, l2, o2, wt2, on2, v2, t2, hA, _, ht2, hb2, y0, y1, y2, y3, y4, y5, y6⟩ := ((((h0'.out.below HB.out.2.2.1).below (HC.out.2.2.2.1.trans (Below.refl _ _)))).below G).ts_at (show q < ts.length by omega)
       injection hA with hA
       injection hA with hA1 hA2
       subst hA1 hA2
       have Ht2 := hide ht2
       clear ht2
       have cy0 := KeptW.cell (W0 := wr) (b := b') (o := off + q * 7) (u := .int .i64 s2) y0
       have cy2 := KeptW.cell (W0 := wr) (b := b') (o := off + q * 7 + 2) (u := .int .i64 o2) y2
       clear y0 y1 y2 y3 y4 y5 y6
       go_wp2_with fail
       have cX0 := KeptW.cell (W0 := wr) (b := w.heap.size + 1) (o := 0) (u := .slice (some ⟨b', off, none⟩) ts.length c0) (kX.cell 0)
       have cX1 := KeptW.cell (W0 := wr) (b := w.heap.size + 1) (o := 1) (u := .slice A1 n1 c1) (kX.cell 1)
       have cX2 := KeptW.cell (W0 := wr) (b := w.heap.size + 1) (o := 2) (u := .slice A2 n2 c2) (kX.cell 2)
       have cX3 := KeptW.cell (W0 := wr) (b := w.heap.size + 1) (o := 3) (u := .int .i64 tn) (kX.cell 3)
       have cX4 := KeptW.cell (W0 := wr) (b := w.heap.size + 1) (o := 4) (u := .bool st) (kX.cell 4)
       have cT0 := KeptW.cell (W0 := wr) (b := V.heap.size) (o := 0) (u := .int .i64 s) (kT.cell 0)
       have cT1 := KeptW.cell (W0 := wr) (b := V.heap.size) (o := 1) (u := .int .i64 l) (kT.cell 1)
       have cT2 := KeptW.cell (W0 := wr) (b := V.heap.size) (o := 2) (u := .int .i64 o) (kT.cell 2)
       have cT3 := KeptW.cell (W0 := wr) (b := V.heap.size) (o := 3) (u := .int .i64 wt) (kT.cell 3)
       have cT4 := KeptW.cell (W0 := wr) (b := V.heap.size) (o := 4) (u := .int .i64 on) (kT.cell 4)
       have cT5 := KeptW.cell (W0 := wr) (b := V.heap.size) (o := 5) (u := .int .i64 v) (kT.cell 5)
       have cT6 := KeptW.cell (W0 := wr) (b := V.heap.size) (o := 6) (u := .int .i64 t) (kT.cell 6)
       have HG := hide (⟨G, G.size⟩ : Below W5.heap.size W5 wr ∧ W5.heap.size ≤ wr.heap.size)
       clear kX kT
       clear G 
       have hx0 := KeptW.mk'_w (Below.refl wr.heap.size wr)
       generalize KeptW.mk' (Below.refl wr.heap.size wr) = x at hx0
       rw [← hx0]
       clear hx0
       by_cases g1 : s = 2
       ·by_cases g2 : s2 = 2
        ·by_cases g3 : o2 = o
         ·have gg := hide (⟨g1, g2, g3⟩ : _ ∧ _ ∧ _)
          have g1b : (s == 2) = true := by simp [g1]
          have g2b : (s2 == 2) = true := by simp [g2]
          have g3b : (o2 == o) = true := by simp [g3]
          refine region_kept (by kernel_rfl) (by kernel_rfl) ?_
          repeat (go_big_quiet_step (fail))
          refine wpQuiet_nil ?_
          rintro _ ⟨x, rfl⟩
          go_wp2
          go_ret
          refine ⟨ret_bool ?_, HB.out.2.2.1.trans ((HC.out.2.2.2.1.trans ((HG.out.1.trans (x.below.mono HG.out.2)).mono HC.out.2.2.2.2)).mono HB.out.2.2.2)⟩
          have hsf := solo_false ts q k hql _ s o Ht2.out gg.out.1 gg.out.2.1 gg.out.2.2
          rw [Hm.out, Hd.out.1]; simp [allFrom, fitB, hsf]
         ·have gg := hide g3
          have g1b : (s == 2) = true := by simp [g1]
          have g2b : (s2 == 2) = true := by simp [g2]
          have g3b : (o2 == o) = false := by simpa using g3
          refine region_kept (by kernel_rfl) (by kernel_rfl) ?_
          repeat (go_big_quiet_step (fail))
          refine wpQuiet_nil ?_
          rintro _ ⟨x, rfl⟩
          go_wp2
          go_roundw
          case rel => exact ⟨q + 1, by omega, by go_num, by rw [solo_step ts q _ s o Ht2.out, Hs.out]; simp [gg.out], HG.out.1.trans (x.below.mono HG.out.2)⟩
          case measure => simp [intOf]; omega
        ·have gg := hide g2
         have g1b : (s == 2) = true := by simp [g1]
         have g2b : (s2 == 2) = false := by simpa using g2
         refine region_kept (by kernel_rfl) (by kernel_rfl) ?_
         repeat (go_big_quiet_step (fail))
         refine wpQuiet_nil ?_
         rintro _ ⟨x, rfl⟩
         go_wp2
         go_roundw
         case rel => exact ⟨q + 1, by omega, by go_num, by rw [solo_step ts q _ s o Ht2.out, Hs.out]; simp [gg.out], HG.out.1.trans (x.below.mono HG.out.2)⟩
         case measure => simp [intOf]; omega
       ·have gg := hide g1
        have g1b : (s == 2) = false := by simpa using g1
        refine region_kept (by kernel_rfl) (by kernel_rfl) ?_
        repeat (go_big_quiet_step (fail))
        refine wpQuiet_nil ?_
        rintro _ ⟨x, rfl⟩
        go_wp2
        go_roundw
        case rel => exact ⟨q + 1, by omega, by go_num, by rw [solo_step ts q _ s o Ht2.out, Hs.out]; simp [gg.out], HG.out.1.trans (x.below.mono HG.out.2)⟩
        case measure => simp [intOf]; omega
      ·obtain rfl : q = k := by omega
       go_wp2
       go_roundw
       case rel => exact ⟨q + 1, by omega, by go_num, by rw [Hm.out, Hd.out.1]; simp [allFrom, fitB, e0.out, hh1.out, Hs.out, hw'.out], HC.out.2.2.2.1.trans (G.mono HC.out.2.2.2.2)⟩
       case measure => simp [intOf]; omega
    ·have h2b : (wt == 1) = false := by simpa using h2
     clear hw
     obtain ⟨tP, qP0, qP1, qP2, qP3, qP4⟩ := kP.q5
     obtain ⟨tX, qX0, qX1, qX2, qX3, qX4⟩ := kX.q5
     obtain ⟨tT, qT0, qT1, qT2, qT3, qT4, qT5, qT6⟩ := kT.q7
     go_wp2_with fail
     clear tP qP0 qP1 qP2 qP3 qP4 tX qX0 qX1 qX2 qX3 qX4 tT qT0 qT1 qT2 qT3 qT4 qT5 qT6
     have HC := hide (⟨kP, kX, kT, G, G.size⟩ : _ ∧ _ ∧ _ ∧ Below W2.heap.size W2 W5 ∧ W2.heap.size ≤ W5.heap.size)
     clear kP kX kT G
     go_loopw [7] (fun j wr => ∃ (q : Nat), q ≤ k ∧ j = .int .i64 q ∧ soloTo ts q s o = true ∧ Below W5.heap.size W5 wr) (fun j _ => k - (intOf j).toNat)
     case atStart => exact ⟨0, Nat.zero_le _, rfl, by simp [soloTo], Below.refl _ _⟩
     case round =>
      obtain ⟨q, hq, rfl, hso, G⟩ := hrel
      have Hs := hide hso
      clear hso
      have kX := HC.out.2.1.below G HC.out.2.1.lt
      have kT := HC.out.2.2.1.below G HC.out.2.2.1.lt
      have zz := G.size
      by_cases hql : q < k
      ·obtain ⟨b2, off2, s2, l2, o2, wt2, on2, v2, t2, hA, _, ht2, hb2, y0, y1, y2, y3, y4, y5, y6⟩ := ((((h0'.out.below HB.out.2.2.1).below (HC.out.2.2.2.1.trans (Below.refl _ _)))).below G).ts_at (show q < ts.length by omega)
       injection hA with hA
       injection hA with hA1 hA2
       subst hA1 hA2
       have Ht2 := hide ht2
       clear ht2
       have cy0 := KeptW.cell (W0 := wr) (b := b') (o := off + q * 7) (u := .int .i64 s2) y0
       have cy2 := KeptW.cell (W0 := wr) (b := b') (o := off + q * 7 + 2) (u := .int .i64 o2) y2
       clear y0 y1 y2 y3 y4 y5 y6
       go_wp2_with fail
       have cX0 := KeptW.cell (W0 := wr) (b := w.heap.size + 1) (o := 0) (u := .slice (some ⟨b', off, none⟩) ts.length c0) (kX.cell 0)
       have cX1 := KeptW.cell (W0 := wr) (b := w.heap.size + 1) (o := 1) (u := .slice A1 n1 c1) (kX.cell 1)
       have cX2 := KeptW.cell (W0 := wr) (b := w.heap.size + 1) (o := 2) (u := .slice A2 n2 c2) (kX.cell 2)
       have cX3 := KeptW.cell (W0 := wr) (b := w.heap.size + 1) (o := 3) (u := .int .i64 tn) (kX.cell 3)
       have cX4 := KeptW.cell (W0 := wr) (b := w.heap.size + 1) (o := 4) (u := .bool st) (kX.cell 4)
       have cT0 := KeptW.cell (W0 := wr) (b := V.heap.size) (o := 0) (u := .int .i64 s) (kT.cell 0)
       have cT1 := KeptW.cell (W0 := wr) (b := V.heap.size) (o := 1) (u := .int .i64 l) (kT.cell 1)
       have cT2 := KeptW.cell (W0 := wr) (b := V.heap.size) (o := 2) (u := .int .i64 o) (kT.cell 2)
       have cT3 := KeptW.cell (W0 := wr) (b := V.heap.size) (o := 3) (u := .int .i64 wt) (kT.cell 3)
       have cT4 := KeptW.cell (W0 := wr) (b := V.heap.size) (o := 4) (u := .int .i64 on) (kT.cell 4)
       have cT5 := KeptW.cell (W0 := wr) (b := V.heap.size) (o := 5) (u := .int .i64 v) (kT.cell 5)
       have cT6 := KeptW.cell (W0 := wr) (b := V.heap.size) (o := 6) (u := .int .i64 t) (kT.cell 6)
       have HG := hide (⟨G, G.size⟩ : Below W5.heap.size W5 wr ∧ W5.heap.size ≤ wr.heap.size)
       clear kX kT
       clear G 
       have hx0 := KeptW.mk'_w (Below.refl wr.heap.size wr)
       generalize KeptW.mk' (Below.refl wr.heap.size wr) = x at hx0
       rw [← hx0]
       clear hx0
       by_cases g1 : s = 2
       ·by_cases g2 : s2 = 2
        ·by_cases g3 : o2 = o
         ·have gg := hide (⟨g1, g2, g3⟩ : _ ∧ _ ∧ _)
          have g1b : (s == 2) = true := by simp [g1]
          have g2b : (s2 == 2) = true := by simp [g2]
          have g3b : (o2 == o) = true := by simp [g3]
          refine region_kept (by kernel_rfl) (by kernel_rfl) ?_
          repeat (go_big_quiet_step (fail))
          refine wpQuiet_nil ?_
          rintro _ ⟨x, rfl⟩
          go_wp2
          go_ret
          refine ⟨ret_bool ?_, HB.out.2.2.1.trans ((HC.out.2.2.2.1.trans ((HG.out.1.trans (x.below.mono HG.out.2)).mono HC.out.2.2.2.2)).mono HB.out.2.2.2)⟩
          have hsf := solo_false ts q k hql _ s o Ht2.out gg.out.1 gg.out.2.1 gg.out.2.2
          rw [Hm.out, Hd.out.1]; simp [allFrom, fitB, hsf]
         ·have gg := hide g3
          have g1b : (s == 2) = true := by simp [g1]
          have g2b : (s2 == 2) = true := by simp [g2]
          have g3b : (o2 == o) = false := by simpa using g3
          refine region_kept (by kernel_rfl) (by kernel_rfl) ?_
          repeat (go_big_quiet_step (fail))
          refine wpQuiet_nil ?_
          rintro _ ⟨x, rfl⟩
          go_wp2
          go_roundw
          case rel => exact ⟨q + 1, by omega, by go_num, by rw [solo_step ts q _ s o Ht2.out, Hs.out]; simp [gg.out], HG.out.1.trans (x.below.mono HG.out.2)⟩
          case measure => simp [intOf]; omega
        ·have gg := hide g2
         have g1b : (s == 2) = true := by simp [g1]
         have g2b : (s2 == 2) = false := by simpa using g2
         refine region_kept (by kernel_rfl) (by kernel_rfl) ?_
         repeat (go_big_quiet_step (fail))
         refine wpQuiet_nil ?_
         rintro _ ⟨x, rfl⟩
         go_wp2
         go_roundw
         case rel => exact ⟨q + 1, by omega, by go_num, by rw [solo_step ts q _ s o Ht2.out, Hs.out]; simp [gg.out], HG.out.1.trans (x.below.mono HG.out.2)⟩
         case measure => simp [intOf]; omega
       ·have gg := hide g1
        have g1b : (s == 2) = false := by simpa using g1
        refine region_kept (by kernel_rfl) (by kernel_rfl) ?_
        repeat (go_big_quiet_step (fail))
        refine wpQuiet_nil ?_
        rintro _ ⟨x, rfl⟩
        go_wp2
        go_roundw
        case rel => exact ⟨q + 1, by omega, by go_num, by rw [solo_step ts q _ s o Ht2.out, Hs.out]; simp [gg.out], HG.out.1.trans (x.below.mono HG.out.2)⟩
        case measure => simp [intOf]; omega
      ·obtain rfl : q = k := by omega
       go_wp2
       go_roundw
       case rel => exact ⟨q + 1, by omega, by go_num, by rw [Hm.out, Hd.out.1]; simp [allFrom, fitB, e0.out, hh1.out, Hs.out, hw'.out], HC.out.2.2.2.1.trans (G.mono HC.out.2.2.2.2)⟩
       case measure => simp [intOf]; omega
   ·have hw2 : waitsOk ts.length k wt on = false := by simpa using hw
    have hw' := hide hw2
    have h2 : wt = 1 := Decidable.byContradiction fun h => hw (by simp [waitsOk, h])
    have h2b : (wt == 1) = true := by simp [h2]
    by_cases h3 : (ts.length : Int) ≤ on
    ·have h4 : decide ((ts.length : Int) ≤ on) = true := by simpa using h3
     clear hw hw2
     obtain ⟨tP, qP0, qP1, qP2, qP3, qP4⟩ := kP.q5
     obtain ⟨tX, qX0, qX1, qX2, qX3, qX4⟩ := kX.q5
     obtain ⟨tT, qT0, qT1, qT2, qT3, qT4, qT5, qT6⟩ := kT.q7
     go_wp2_with fail
     go_ret
     refine ⟨ret_bool ?_, HB.out.2.2.1.trans (G.mono HB.out.2.2.2)⟩
     rw [Hm.out, Hd.out.1]; simp [allFrom, fitB, hw'.out]
    ·have h5 : on = (k : Int) := Decidable.byContradiction fun h => hw (by simp [waitsOk, h]; omega)
     have h4 : decide ((ts.length : Int) ≤ on) = false := by simpa using h3
     have h5b : (on == (k : Int)) = true := by simp [h5]
     clear hw hw2
     obtain ⟨tP, qP0, qP1, qP2, qP3, qP4⟩ := kP.q5
     obtain ⟨tX, qX0, qX1, qX2, qX3, qX4⟩ := kX.q5
     obtain ⟨tT, qT0, qT1, qT2, qT3, qT4, qT5, qT6⟩ := kT.q7
     go_wp2_with fail
     go_ret
     refine ⟨ret_bool ?_, HB.out.2.2.1.trans (G.mono HB.out.2.2.2)⟩
     rw [Hm.out, Hd.out.1]; simp [allFrom, fitB, hw'.out]
  ·obtain rfl : k = ts.length := by omega
   obtain ⟨tX, qX0, qX1, qX2, qX3, qX4⟩ := kX.q5
   go_wp2
   go_ret
   refine ⟨ret_bool ?_, HB.out.2.2.1.trans (G.mono HB.out.2.2.2)⟩
   rw [Hm.out]; simp [allFrom]
theorem sPoolOk_any (a b c d e : Int) (ts : List T7) (ks : List Int) (fs : List F2) (A0 A1 A2 : Option Addr) (c0 c1 c2 : Nat) (tn : Int) (st : Bool) (w : World) (ht : ts.length ≤ 1048576) (hk : ks.length ≤ 1048576) (hf : fs.length ≤ 1048576) (h : InPool w ts ks fs A0 A1 A2) :
 Calls Tryz.prog 30 #[qF a b c d e, qP ts ks fs A0 A1 A2 c0 c1 c2 tn st] w fun r w' => r = .returned (.bool (poolB a b c d e ts ks fs tn)) ∧ Below w.heap.size w w' := by
 unfold qF qP
 have H := hide h
 clear h
 by_cases h0 : planB a b c d e = true
 rotate_left
 ·have h0' : planB a b c d e = false := by simpa using h0
  have e0 : poolB a b c d e ts ks fs tn = false := by simp [poolB, h0']
  rw [e0]
  go_enter Tryz.func30, Tryz.ntmps30
  go_wp2_with fail
  have G := Below.refl w.heap.size w
  have kP := Blk.new w 28 #[.int .i64 a, .int .i64 b, .int .i64 c, .int .i64 d, .int .i64 e]
  have hbs := G.size
  replace G := G.alloc (by omega) (.cells #[.int .i64 a, .int .i64 b, .int .i64 c, .int .i64 d, .int .i64 e] 28)
  have z1 : (w.alloc (.cells #[.int .i64 a, .int .i64 b, .int .i64 c, .int .i64 d, .int .i64 e] 28)).heap.size = w.heap.size + 1 := by simp
  clear hbs
  generalize w.alloc (.cells #[.int .i64 a, .int .i64 b, .int .i64 c, .int .i64 d, .int .i64 e] 28) = W1 at kP G z1 ⊢
  have kX : Blk (W1.alloc (.cells #[.slice A0 ts.length c0, .slice A1 ks.length c1, .slice A2 fs.length c2, .int .i64 tn, .bool st] 35)) (w.heap.size + 1) 35 #[.slice A0 ts.length c0, .slice A1 ks.length c1, .slice A2 fs.length c2, .int .i64 tn, .bool st] := by
   have h := Blk.new W1 35 #[.slice A0 ts.length c0, .slice A1 ks.length c1, .slice A2 fs.length c2, .int .i64 tn, .bool st]
   rw [show W1.heap.size = w.heap.size + 1 by omega] at h
   exact h
  replace kP := kP.alloc (.cells #[.slice A0 ts.length c0, .slice A1 ks.length c1, .slice A2 fs.length c2, .int .i64 tn, .bool st] 35)
  have hbs := G.size
  replace G := G.alloc (by omega) (.cells #[.slice A0 ts.length c0, .slice A1 ks.length c1, .slice A2 fs.length c2, .int .i64 tn, .bool st] 35)
  have z2 : (W1.alloc (.cells #[.slice A0 ts.length c0, .slice A1 ks.length c1, .slice A2 fs.length c2, .int .i64 tn, .bool st] 35)).heap.size = W1.heap.size + 1 := by simp
  clear hbs
  generalize W1.alloc (.cells #[.slice A0 ts.length c0, .slice A1 ks.length c1, .slice A2 fs.length c2, .int .i64 tn, .bool st] 35) = W2 at kP kX G z2 ⊢
  go_call (sPlanOk_any a b c d e _) as r W3 ⟨rfl, g1⟩
  have hbs := G.size
  replace kP := kP.below g1 kP.lt
  replace kX := kX.below g1 kX.lt
  replace G := G.trans (g1.mono (by omega))
  have z3 := g1.size
  clear g1 hbs
  rw [h0']
  obtain ⟨tP, qP0, qP1, qP2, qP3, qP4⟩ := kP.q5
  obtain ⟨tX, qX0, qX1, qX2, qX3, qX4⟩ := kX.q5
  go_wp2_with fail
  go_ret
  exact ⟨rfl, G⟩
 by_cases h1 : (ts.length : Int) ≤ b
 rotate_left
 ·have e0 : poolB a b c d e ts ks fs tn = false := by simp [poolB, h1]
  rw [e0]
  have h1b : decide (b < (ts.length : Int)) = true := by simpa using h1
  go_enter Tryz.func30, Tryz.ntmps30
  go_wp2_with fail
  have G := Below.refl w.heap.size w
  have kP := Blk.new w 28 #[.int .i64 a, .int .i64 b, .int .i64 c, .int .i64 d, .int .i64 e]
  have hbs := G.size
  replace G := G.alloc (by omega) (.cells #[.int .i64 a, .int .i64 b, .int .i64 c, .int .i64 d, .int .i64 e] 28)
  have z1 : (w.alloc (.cells #[.int .i64 a, .int .i64 b, .int .i64 c, .int .i64 d, .int .i64 e] 28)).heap.size = w.heap.size + 1 := by simp
  clear hbs
  generalize w.alloc (.cells #[.int .i64 a, .int .i64 b, .int .i64 c, .int .i64 d, .int .i64 e] 28) = W1 at kP G z1 ⊢
  have kX : Blk (W1.alloc (.cells #[.slice A0 ts.length c0, .slice A1 ks.length c1, .slice A2 fs.length c2, .int .i64 tn, .bool st] 35)) (w.heap.size + 1) 35 #[.slice A0 ts.length c0, .slice A1 ks.length c1, .slice A2 fs.length c2, .int .i64 tn, .bool st] := by
   have h := Blk.new W1 35 #[.slice A0 ts.length c0, .slice A1 ks.length c1, .slice A2 fs.length c2, .int .i64 tn, .bool st]
   rw [show W1.heap.size = w.heap.size + 1 by omega] at h
   exact h
  replace kP := kP.alloc (.cells #[.slice A0 ts.length c0, .slice A1 ks.length c1, .slice A2 fs.length c2, .int .i64 tn, .bool st] 35)
  have hbs := G.size
  replace G := G.alloc (by omega) (.cells #[.slice A0 ts.length c0, .slice A1 ks.length c1, .slice A2 fs.length c2, .int .i64 tn, .bool st] 35)
  have z2 : (W1.alloc (.cells #[.slice A0 ts.length c0, .slice A1 ks.length c1, .slice A2 fs.length c2, .int .i64 tn, .bool st] 35)).heap.size = W1.heap.size + 1 := by simp
  clear hbs
  generalize W1.alloc (.cells #[.slice A0 ts.length c0, .slice A1 ks.length c1, .slice A2 fs.length c2, .int .i64 tn, .bool st] 35) = W2 at kP kX G z2 ⊢
  go_call (sPlanOk_any a b c d e _) as r W3 ⟨rfl, g1⟩
  have hbs := G.size
  replace kP := kP.below g1 kP.lt
  replace kX := kX.below g1 kX.lt
  replace G := G.trans (g1.mono (by omega))
  have z3 := g1.size
  clear g1 hbs
  rw [h0]
  obtain ⟨tP, qP0, qP1, qP2, qP3, qP4⟩ := kP.q5
  obtain ⟨tX, qX0, qX1, qX2, qX3, qX4⟩ := kX.q5
  go_wp2_with fail
  go_ret
  exact ⟨rfl, G⟩
 have h1b : decide (b < (ts.length : Int)) = false := by simpa using h1
 by_cases h2 : (ks.length : Int) = d
 rotate_left
 ·have e0 : poolB a b c d e ts ks fs tn = false := by simp [poolB, h2]
  rw [e0]
  have h2b : ((ks.length : Int) != d) = true := by simpa using h2
  go_enter Tryz.func30, Tryz.ntmps30
  go_wp2_with fail
  have G := Below.refl w.heap.size w
  have kP := Blk.new w 28 #[.int .i64 a, .int .i64 b, .int .i64 c, .int .i64 d, .int .i64 e]
  have hbs := G.size
  replace G := G.alloc (by omega) (.cells #[.int .i64 a, .int .i64 b, .int .i64 c, .int .i64 d, .int .i64 e] 28)
  have z1 : (w.alloc (.cells #[.int .i64 a, .int .i64 b, .int .i64 c, .int .i64 d, .int .i64 e] 28)).heap.size = w.heap.size + 1 := by simp
  clear hbs
  generalize w.alloc (.cells #[.int .i64 a, .int .i64 b, .int .i64 c, .int .i64 d, .int .i64 e] 28) = W1 at kP G z1 ⊢
  have kX : Blk (W1.alloc (.cells #[.slice A0 ts.length c0, .slice A1 ks.length c1, .slice A2 fs.length c2, .int .i64 tn, .bool st] 35)) (w.heap.size + 1) 35 #[.slice A0 ts.length c0, .slice A1 ks.length c1, .slice A2 fs.length c2, .int .i64 tn, .bool st] := by
   have h := Blk.new W1 35 #[.slice A0 ts.length c0, .slice A1 ks.length c1, .slice A2 fs.length c2, .int .i64 tn, .bool st]
   rw [show W1.heap.size = w.heap.size + 1 by omega] at h
   exact h
  replace kP := kP.alloc (.cells #[.slice A0 ts.length c0, .slice A1 ks.length c1, .slice A2 fs.length c2, .int .i64 tn, .bool st] 35)
  have hbs := G.size
  replace G := G.alloc (by omega) (.cells #[.slice A0 ts.length c0, .slice A1 ks.length c1, .slice A2 fs.length c2, .int .i64 tn, .bool st] 35)
  have z2 : (W1.alloc (.cells #[.slice A0 ts.length c0, .slice A1 ks.length c1, .slice A2 fs.length c2, .int .i64 tn, .bool st] 35)).heap.size = W1.heap.size + 1 := by simp
  clear hbs
  generalize W1.alloc (.cells #[.slice A0 ts.length c0, .slice A1 ks.length c1, .slice A2 fs.length c2, .int .i64 tn, .bool st] 35) = W2 at kP kX G z2 ⊢
  go_call (sPlanOk_any a b c d e _) as r W3 ⟨rfl, g1⟩
  have hbs := G.size
  replace kP := kP.below g1 kP.lt
  replace kX := kX.below g1 kX.lt
  replace G := G.trans (g1.mono (by omega))
  have z3 := g1.size
  clear g1 hbs
  rw [h0]
  obtain ⟨tP, qP0, qP1, qP2, qP3, qP4⟩ := kP.q5
  obtain ⟨tX, qX0, qX1, qX2, qX3, qX4⟩ := kX.q5
  go_wp2_with fail
  go_ret
  exact ⟨rfl, G⟩
 subst h2
 by_cases h3 : (fs.length : Int) = e
 rotate_left
 ·have e0 : poolB a b c ks.length e ts ks fs tn = false := by simp [poolB, h3]
  rw [e0]
  have h3b : ((fs.length : Int) != e) = true := by simpa using h3
  go_enter Tryz.func30, Tryz.ntmps30
  go_wp2_with fail
  have G := Below.refl w.heap.size w
  have kP := Blk.new w 28 #[.int .i64 a, .int .i64 b, .int .i64 c, .int .i64 ks.length, .int .i64 e]
  have hbs := G.size
  replace G := G.alloc (by omega) (.cells #[.int .i64 a, .int .i64 b, .int .i64 c, .int .i64 ks.length, .int .i64 e] 28)
  have z1 : (w.alloc (.cells #[.int .i64 a, .int .i64 b, .int .i64 c, .int .i64 ks.length, .int .i64 e] 28)).heap.size = w.heap.size + 1 := by simp
  clear hbs
  generalize w.alloc (.cells #[.int .i64 a, .int .i64 b, .int .i64 c, .int .i64 ks.length, .int .i64 e] 28) = W1 at kP G z1 ⊢
  have kX : Blk (W1.alloc (.cells #[.slice A0 ts.length c0, .slice A1 ks.length c1, .slice A2 fs.length c2, .int .i64 tn, .bool st] 35)) (w.heap.size + 1) 35 #[.slice A0 ts.length c0, .slice A1 ks.length c1, .slice A2 fs.length c2, .int .i64 tn, .bool st] := by
   have h := Blk.new W1 35 #[.slice A0 ts.length c0, .slice A1 ks.length c1, .slice A2 fs.length c2, .int .i64 tn, .bool st]
   rw [show W1.heap.size = w.heap.size + 1 by omega] at h
   exact h
  replace kP := kP.alloc (.cells #[.slice A0 ts.length c0, .slice A1 ks.length c1, .slice A2 fs.length c2, .int .i64 tn, .bool st] 35)
  have hbs := G.size
  replace G := G.alloc (by omega) (.cells #[.slice A0 ts.length c0, .slice A1 ks.length c1, .slice A2 fs.length c2, .int .i64 tn, .bool st] 35)
  have z2 : (W1.alloc (.cells #[.slice A0 ts.length c0, .slice A1 ks.length c1, .slice A2 fs.length c2, .int .i64 tn, .bool st] 35)).heap.size = W1.heap.size + 1 := by simp
  clear hbs
  generalize W1.alloc (.cells #[.slice A0 ts.length c0, .slice A1 ks.length c1, .slice A2 fs.length c2, .int .i64 tn, .bool st] 35) = W2 at kP kX G z2 ⊢
  go_call (sPlanOk_any a b c ks.length e _) as r W3 ⟨rfl, g1⟩
  have hbs := G.size
  replace kP := kP.below g1 kP.lt
  replace kX := kX.below g1 kX.lt
  replace G := G.trans (g1.mono (by omega))
  have z3 := g1.size
  clear g1 hbs
  rw [h0]
  obtain ⟨tP, qP0, qP1, qP2, qP3, qP4⟩ := kP.q5
  obtain ⟨tX, qX0, qX1, qX2, qX3, qX4⟩ := kX.q5
  go_wp2_with fail
  go_ret
  exact ⟨rfl, G⟩
 subst h3
 have E0 : Hid (poolB a b c ks.length fs.length ts ks fs tn = (btw tn 0 1000000 && (tasksB a b c ks.length fs.length ts tn && (ks.all tokB && fs.all futB)))) := hide (by simp [poolB, h0, h1])
 go_enter Tryz.func30, Tryz.ntmps30
 go_wp2_with fail
 have G := Below.refl w.heap.size w
 have kP := Blk.new w 28 #[.int .i64 a, .int .i64 b, .int .i64 c, .int .i64 ks.length, .int .i64 fs.length]
 have hbs := G.size
 replace G := G.alloc (by omega) (.cells #[.int .i64 a, .int .i64 b, .int .i64 c, .int .i64 ks.length, .int .i64 fs.length] 28)
 have z1 : (w.alloc (.cells #[.int .i64 a, .int .i64 b, .int .i64 c, .int .i64 ks.length, .int .i64 fs.length] 28)).heap.size = w.heap.size + 1 := by simp
 clear hbs
 generalize w.alloc (.cells #[.int .i64 a, .int .i64 b, .int .i64 c, .int .i64 ks.length, .int .i64 fs.length] 28) = W1 at kP G z1 ⊢
 have kX : Blk (W1.alloc (.cells #[.slice A0 ts.length c0, .slice A1 ks.length c1, .slice A2 fs.length c2, .int .i64 tn, .bool st] 35)) (w.heap.size + 1) 35 #[.slice A0 ts.length c0, .slice A1 ks.length c1, .slice A2 fs.length c2, .int .i64 tn, .bool st] := by
  have h := Blk.new W1 35 #[.slice A0 ts.length c0, .slice A1 ks.length c1, .slice A2 fs.length c2, .int .i64 tn, .bool st]
  rw [show W1.heap.size = w.heap.size + 1 by omega] at h
  exact h
 replace kP := kP.alloc (.cells #[.slice A0 ts.length c0, .slice A1 ks.length c1, .slice A2 fs.length c2, .int .i64 tn, .bool st] 35)
 have hbs := G.size
 replace G := G.alloc (by omega) (.cells #[.slice A0 ts.length c0, .slice A1 ks.length c1, .slice A2 fs.length c2, .int .i64 tn, .bool st] 35)
 have z2 : (W1.alloc (.cells #[.slice A0 ts.length c0, .slice A1 ks.length c1, .slice A2 fs.length c2, .int .i64 tn, .bool st] 35)).heap.size = W1.heap.size + 1 := by simp
 clear hbs
 generalize W1.alloc (.cells #[.slice A0 ts.length c0, .slice A1 ks.length c1, .slice A2 fs.length c2, .int .i64 tn, .bool st] 35) = W2 at kP kX G z2 ⊢
 go_call (sPlanOk_any a b c ks.length fs.length _) as r W3 ⟨rfl, g1⟩
 have hbs := G.size
 replace kP := kP.below g1 kP.lt
 replace kX := kX.below g1 kX.lt
 replace G := G.trans (g1.mono (by omega))
 have z3 := g1.size
 clear g1 hbs
 rw [h0]
 obtain ⟨tP, qP0, qP1, qP2, qP3, qP4⟩ := kP.q5
 obtain ⟨tX, qX0, qX1, qX2, qX3, qX4⟩ := kX.q5
 go_wp2_with fail
 go_call (l1In_any tn 0 1000000 _) as r W4 ⟨rfl, rfl⟩
 generalize hx1 : btw tn 0 1000000 = x1 at E0
 have e1 := hide hx1
 clear hx1
 cases x1
 ·go_wp2_with fail
  go_ret
  exact ⟨ret_bool (by rw [E0.out]; simp), G⟩
 go_wp2_with fail
 clear tP qP0 qP1 qP2 qP3 qP4 tX qX0 qX1 qX2 qX3 qX4
 have HB := hide (⟨kP, kX, G, G.size⟩ : _ ∧ _ ∧ Below w.heap.size w W3 ∧ w.heap.size ≤ W3.heap.size)
 clear kP kX G
 go_loopw [5] (fun i wr => ∃ (k : Nat), k ≤ ks.length ∧ i = .int .i64 k ∧ ks.all tokB = (ks.drop k).all tokB ∧ Below W3.heap.size W3 wr) (fun i _ => ks.length - (intOf i).toNat)
 case atStart => exact ⟨0, Nat.zero_le _, rfl, rfl, Below.refl _ _⟩
 case round =>
  rename World => V
  obtain ⟨k, hk2, rfl, hm, G⟩ := hrel
  have Hm := hide hm
  clear hm
  have kX := HB.out.2.1.below G HB.out.2.1.lt
  have z0 := G.size
  by_cases hlt : k < ks.length
  ·obtain ⟨b', off, v, rfl, hd, _, hb', y0⟩ := ((H.out.2.1.below HB.out.2.2.1).below G).ks_at hlt
   have Hd := hide hd
   clear hd
   obtain ⟨tX, qX0, qX1, qX2, qX3, qX4⟩ := kX.q5
   go_wp2_with fail
   go_call (l1In_any v 0 100 _) as r w2 ⟨rfl, rfl⟩
   generalize hx : btw v 0 100 = x2
   have Hx := hide hx
   clear hx
   cases x2
   ·go_wp2
    go_ret
    refine ⟨ret_bool ?_, HB.out.2.2.1.trans (G.mono HB.out.2.2.2)⟩
    have hf0 : ks.all tokB = false := by rw [Hm.out, Hd.out]; simp [tokB, Hx.out]
    rw [E0.out, hf0]; simp
   ·go_wp2
    go_roundw
    case rel => exact ⟨k + 1, by omega, by go_num, by rw [Hm.out, Hd.out]; simp [tokB, Hx.out], G⟩
    case measure => simp [intOf]; omega
  ·obtain rfl : k = ks.length := by omega
   have Hk : Hid (ks.all tokB = true) := hide (by rw [Hm.out]; simp)
   clear Hm
   obtain ⟨tX, qX0, qX1, qX2, qX3, qX4⟩ := kX.q5
   go_wp2_with fail
   clear tX qX0 qX1 qX2 qX3 qX4
   clear kX
   have HD := hide (⟨G, G.size⟩ : Below W3.heap.size W3 V ∧ W3.heap.size ≤ V.heap.size)
   clear G
   go_loopw [6] (fun i wr => ∃ (k : Nat), k ≤ fs.length ∧ i = .int .i64 k ∧ fs.all futB = (fs.drop k).all futB ∧ Below V.heap.size V wr) (fun i _ => fs.length - (intOf i).toNat)
   case atStart => exact ⟨0, Nat.zero_le _, rfl, rfl, Below.refl _ _⟩
   case round =>
    rename World => U
    obtain ⟨k, hk3, rfl, hm, G0⟩ := hrel
    have G := HD.out.1.trans (G0.mono HD.out.2)
    have Hm := hide hm
    clear hm
    have kP := HB.out.1.below G HB.out.1.lt
    have kX := HB.out.2.1.below G HB.out.2.1.lt
    have z0 := G.size
    by_cases hlt : k < fs.length
    ·obtain ⟨b', off, s, v, rfl, hd, _, hb', y0, y1⟩ := ((H.out.2.2.below HB.out.2.2.1).below G).fs_at hlt
     have Hd := hide hd
     clear hd
     obtain ⟨tX, qX0, qX1, qX2, qX3, qX4⟩ := kX.q5
     go_wp2_with fail
     go_call (l1Value_any v _) as r w2 ⟨rfl, rfl⟩
     generalize hx : btw v 0 9999 = x2
     have Hx := hide hx
     clear hx
     cases x2
     ·go_wp2
      go_ret
      refine ⟨ret_bool ?_, HB.out.2.2.1.trans (G.mono HB.out.2.2.2)⟩
      have hf0 : fs.all futB = false := by rw [Hm.out, Hd.out]; simp [futB, Hx.out]
      rw [E0.out, hf0]; simp
     cases s
     ·by_cases hv : v = 0
      ·have hvb : (v != 0) = false := by simp [hv]
       have hh := hide hv
       go_wp2
       go_roundw
       case rel => exact ⟨k + 1, by omega, by go_num, by rw [Hm.out, Hd.out]; simp [futB, hh.out, btw], G0⟩
       case measure => simp [intOf]; omega
      ·have hvb : (v != 0) = true := by simpa using hv
       have hh := hide hv
       go_wp2
       go_ret
       refine ⟨ret_bool ?_, HB.out.2.2.1.trans (G.mono HB.out.2.2.2)⟩
       have hf0 : fs.all futB = false := by rw [Hm.out, Hd.out]; simp [futB, hh.out]
       rw [E0.out, hf0]; simp
     ·go_wp2
      go_roundw
      case rel => exact ⟨k + 1, by omega, by go_num, by rw [Hm.out, Hd.out]; simp [futB, Hx.out], G0⟩
      case measure => simp [intOf]; omega
    ·obtain rfl : k = fs.length := by omega
     obtain ⟨tP, qP0, qP1, qP2, qP3, qP4⟩ := kP.q5
     obtain ⟨tX, qX0, qX1, qX2, qX3, qX4⟩ := kX.q5
     go_wp2_with fail
     have hG : Below w.heap.size w U := HB.out.2.2.1.trans (G.mono HB.out.2.2.2)
     go_call (l3Tasks_any a b c ks.length fs.length ts A0 A1 A2 c0 ks.length c1 fs.length c2 tn st _ ht (H.out.1.below hG)) as r w3 ⟨rfl, hb3⟩
     go_wp2_with fail
     go_ret
     refine ⟨ret_bool ?_, hG.trans (hb3.mono hG.size)⟩
     have hf1 : fs.all futB = true := by rw [Hm.out]; simp
     rw [E0.out, Hk.out, hf1]; simp
end Go.Proofs.YtfkdfkoigojciaaGreatDoor
