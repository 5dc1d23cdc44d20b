/- The model's Leveled: what it answers, as one thing. Lists no longer than a million. -/
import Derived.Test.YtgncjcnobojgbaaQFnLines13
import Derived.Test.YtgncjcnobojgbaaQFnLines15
import Derived.Test.YtgncjcnobojgbaaQFnLines03

namespace Go.Proofs.Ytgncjcnobojgbaa
open Go.RowKit
set_option linter.unusedVariables false

theorem l6May_v (a b c d e : Int) (ts : List T7) (ks : List Int) (fs : List F2) (A0 A1 A2 : Option Addr) (c0 c1 c2 : Nat) (tn : Int) (st : Bool) (wk : Int) (z : Bool) (hz : mayB a b c d e ts ks fs tn wk = z) (w : World) (ht : ts.length ≤ 1048576) (hk : ks.length ≤ 1048576) (hf : fs.length ≤ 1048576) (h : InPool w ts ks fs A0 A1 A2) :
    Calls Try.prog 89 #[.agg #[.int .i64 a, .int .i64 b, .int .i64 c, .int .i64 d, .int .i64 e], .agg #[.slice A0 ts.length c0, .slice A1 ks.length c1, .slice A2 fs.length c2, .int .i64 tn, .bool st], .int .i64 wk] w fun r w' => r = .returned (.bool z) ∧ Below w.heap.size w w' := hz ▸ l6May_any a b c d e ts ks fs A0 A1 A2 c0 c1 c2 tn st wk w ht hk hf h
theorem l5Has_v (ts : List T7) (A0 A1 A2 : Option Addr) (c0 n1 c1 n2 c2 : Nat) (tn : Int) (st : Bool) (id : Int) (z : Bool) (hz : btw id 0 (ts.length - 1) = z) (w : World) (hlen : ts.length ≤ 1048576) :
    Calls Try.prog 159 #[.agg #[.slice A0 ts.length c0, .slice A1 n1 c1, .slice A2 n2 c2, .int .i64 tn, .bool st], .int .i64 id] w fun r w' => r = .returned (.bool z) ∧ Below w.heap.size w w' := hz ▸ l5Has_any ts A0 A1 A2 c0 n1 c1 n2 c2 tn st id w hlen
theorem sLevelIn_v (a b c d e n : Int) (z : Bool) (hz : levelB a b c d e n = z) (w : World) : Calls Try.prog 90 #[.agg #[.int .i64 a, .int .i64 b, .int .i64 c, .int .i64 d, .int .i64 e], .int .i64 n] w fun r w' => r = .returned (.bool z) ∧ Below w.heap.size w w' := hz ▸ sLevelIn_any a b c d e n w

set_option maxRecDepth 100000 in
set_option maxHeartbeats 4000000 in
theorem leveled_may (a b c d e : Int) (ts : List T7) (ks : List Int) (fs : List F2) (A0 A1 A2 : Option Addr) (c0 c1 c2 : Nat) (tn : Int) (st : Bool) (wk id lv : Int) (w : World) (ht : ts.length ≤ 1048576) (hk : ks.length ≤ 1048576) (hf : fs.length ≤ 1048576) (h : InPool w ts ks fs A0 A1 A2) (hm : mayB a b c d e ts ks fs tn wk = false) : Calls Try.prog 141 #[.agg #[.int .i64 a, .int .i64 b, .int .i64 c, .int .i64 d, .int .i64 e], .agg #[.slice A0 ts.length c0, .slice A1 ks.length c1, .slice A2 fs.length c2, .int .i64 tn, .bool st], .int .i64 wk, .int .i64 id, .int .i64 lv] w (GaveO w.heap.size w (noO (poolB a b c d e ts ks fs tn) ts ks fs tn st 8)) := by
  have H := hide h
  clear h
  have hNo : Hid (∀ V, InPool V ts ks fs A0 A1 A2 → Calls Try.prog 91 #[.agg #[.int .i64 a, .int .i64 b, .int .i64 c, .int .i64 d, .int .i64 e], .agg #[.slice A0 ts.length c0, .slice A1 ks.length c1, .slice A2 fs.length c2, .int .i64 tn, .bool st], .int .i64 8] V (GaveO V.heap.size V (noO (poolB a b c d e ts ks fs tn) ts ks fs tn st 8))) := hide (fun V hV => l6No_any a b c d e ts ks fs A0 A1 A2 c0 c1 c2 tn st 8 V ht hk hf hV)
  generalize noO (poolB a b c d e ts ks fs tn) ts ks fs tn st 8 = o at hNo ⊢
  have HY := hide (⟨hm, trivial⟩ : _ ∧ True)
  clear hm
  go_enter Try.func141, Try.ntmps141
  go_wp2_with fail
  have G := Below.refl w.heap.size w
  have kP := Blk.new w 28 #[.int .i64 a, .int .i64 b, .int .i64 c, .int .i64 d, .int .i64 e]
  have hbs := G.size
  replace G := G.alloc (by omega) (.cells #[.int .i64 a, .int .i64 b, .int .i64 c, .int .i64 d, .int .i64 e] 28)
  have z1 : (w.alloc (.cells #[.int .i64 a, .int .i64 b, .int .i64 c, .int .i64 d, .int .i64 e] 28)).heap.size = w.heap.size + 1 := by simp
  clear hbs
  generalize w.alloc (.cells #[.int .i64 a, .int .i64 b, .int .i64 c, .int .i64 d, .int .i64 e] 28) = W1 at kP G z1 ⊢
  have kX : Blk (W1.alloc (.cells #[.slice A0 ts.length c0, .slice A1 ks.length c1, .slice A2 fs.length c2, .int .i64 tn, .bool st] 34)) (w.heap.size + 1) 34 #[.slice A0 ts.length c0, .slice A1 ks.length c1, .slice A2 fs.length c2, .int .i64 tn, .bool st] := by
    have h := Blk.new W1 34 #[.slice A0 ts.length c0, .slice A1 ks.length c1, .slice A2 fs.length c2, .int .i64 tn, .bool st]
    rw [show W1.heap.size = w.heap.size + 1 by omega] at h
    exact h
  replace kP := kP.alloc (.cells #[.slice A0 ts.length c0, .slice A1 ks.length c1, .slice A2 fs.length c2, .int .i64 tn, .bool st] 34)
  have hbs := G.size
  replace G := G.alloc (by omega) (.cells #[.slice A0 ts.length c0, .slice A1 ks.length c1, .slice A2 fs.length c2, .int .i64 tn, .bool st] 34)
  have z2 : (W1.alloc (.cells #[.slice A0 ts.length c0, .slice A1 ks.length c1, .slice A2 fs.length c2, .int .i64 tn, .bool st] 34)).heap.size = W1.heap.size + 1 := by simp
  clear hbs
  generalize W1.alloc (.cells #[.slice A0 ts.length c0, .slice A1 ks.length c1, .slice A2 fs.length c2, .int .i64 tn, .bool st] 34) = W2 at kP kX G z2 ⊢
  have kR : Blk (W2.alloc (.cells #[.slice none 0 0, .slice none 0 0, .slice none 0 0, .int .i64 0, .bool false] 34)) (w.heap.size + 2) 34 #[.slice none 0 0, .slice none 0 0, .slice none 0 0, .int .i64 0, .bool false] := by
    have h := Blk.new W2 34 #[.slice none 0 0, .slice none 0 0, .slice none 0 0, .int .i64 0, .bool false]
    rw [show W2.heap.size = w.heap.size + 2 by omega] at h
    exact h
  replace kP := kP.alloc (.cells #[.slice none 0 0, .slice none 0 0, .slice none 0 0, .int .i64 0, .bool false] 34)
  replace kX := kX.alloc (.cells #[.slice none 0 0, .slice none 0 0, .slice none 0 0, .int .i64 0, .bool false] 34)
  have hbs := G.size
  replace G := G.alloc (by omega) (.cells #[.slice none 0 0, .slice none 0 0, .slice none 0 0, .int .i64 0, .bool false] 34)
  have z3 : (W2.alloc (.cells #[.slice none 0 0, .slice none 0 0, .slice none 0 0, .int .i64 0, .bool false] 34)).heap.size = W2.heap.size + 1 := by simp
  clear hbs
  generalize W2.alloc (.cells #[.slice none 0 0, .slice none 0 0, .slice none 0 0, .int .i64 0, .bool false] 34) = W3 at kP kX kR G z3 ⊢
  have kS : Blk (W3.alloc (.cells #[.int .i64 0, .int .i64 0] 65)) (w.heap.size + 3) 65 #[.int .i64 0, .int .i64 0] := by
    have h := Blk.new W3 65 #[.int .i64 0, .int .i64 0]
    rw [show W3.heap.size = w.heap.size + 3 by omega] at h
    exact h
  replace kP := kP.alloc (.cells #[.int .i64 0, .int .i64 0] 65)
  replace kX := kX.alloc (.cells #[.int .i64 0, .int .i64 0] 65)
  replace kR := kR.alloc (.cells #[.int .i64 0, .int .i64 0] 65)
  have hbs := G.size
  replace G := G.alloc (by omega) (.cells #[.int .i64 0, .int .i64 0] 65)
  have z4 : (W3.alloc (.cells #[.int .i64 0, .int .i64 0] 65)).heap.size = W3.heap.size + 1 := by simp
  clear hbs
  generalize W3.alloc (.cells #[.int .i64 0, .int .i64 0] 65) = W4 at kP kX kR kS G z4 ⊢
  go_call (l6May_v a b c d e ts ks fs A0 A1 A2 c0 c1 c2 tn st wk false HY.out.1 _ ht hk hf (H.out.below G)) as r W5 ⟨rfl, g1⟩
  have hbs := G.size
  replace kP := kP.below g1 kP.lt
  replace kX := kX.below g1 kX.lt
  replace kR := kR.below g1 kR.lt
  replace kS := kS.below g1 kS.lt
  replace G := G.trans (g1.mono (by omega))
  have z5 := g1.size
  clear g1 hbs
  obtain ⟨tP, qP0, fP0, qP1, fP1, qP2, fP2, qP3, fP3, qP4, fP4⟩ := kP.f5
  obtain ⟨tX, qX0, fX0, qX1, fX1, qX2, fX2, qX3, fX3, qX4, fX4⟩ := kX.f5
  obtain ⟨tR, qR0, fR0, qR1, fR1, qR2, fR2, qR3, fR3, qR4, fR4⟩ := kR.f5
  obtain ⟨tS, qS0, fS0, qS1, fS1⟩ := kS.f2
  go_wp2_with fail
  go_call (hNo.out _ (H.out.below G)) as r W6 ⟨B0, B1, B2, d0, d1, d2, rfl, own, g1⟩
  clear tP qP0 fP0 qP1 fP1 qP2 fP2 qP3 fP3 qP4 fP4 tX qX0 fX0 qX1 fX1 qX2 fX2 qX3 fX3 qX4 fX4 tR qR0 fR0 qR1 fR1 qR2 fR2 qR3 fR3 qR4 fR4 tS qS0 fS0 qS1 fS1
  have hbs := G.size
  replace kP := kP.below g1 kP.lt
  replace kX := kX.below g1 kX.lt
  replace kR := kR.below g1 kR.lt
  replace kS := kS.below g1 kS.lt
  replace G := G.trans (g1.mono (by omega))
  have z6 := g1.size
  clear g1 hbs
  have rC := own
  clear own
  obtain ⟨tP, qP0, fP0, qP1, fP1, qP2, fP2, qP3, fP3, qP4, fP4⟩ := kP.f5
  obtain ⟨tX, qX0, fX0, qX1, fX1, qX2, fX2, qX3, fX3, qX4, fX4⟩ := kX.f5
  obtain ⟨tR, qR0, fR0, qR1, fR1, qR2, fR2, qR3, fR3, qR4, fR4⟩ := kR.f5
  obtain ⟨tS, qS0, fS0, qS1, fS1⟩ := kS.f2
  go_wp2_with fail
  clear tP qP0 fP0 qP1 fP1 qP2 fP2 qP3 fP3 qP4 fP4 tX qX0 fX0 qX1 fX1 qX2 fX2 qX3 fX3 qX4 fX4 tR qR0 fR0 qR1 fR1 qR2 fR2 qR3 fR3 qR4 fR4 tS qS0 fS0 qS1 fS1
  replace kP := kP.far (p := ⟨w.heap.size + 2, 0, none⟩) (show w.heap.size ≠ w.heap.size + 2 by omega) (.slice B0 o.ts.length d0)
  replace kX := kX.far (p := ⟨w.heap.size + 2, 0, none⟩) (show w.heap.size + 1 ≠ w.heap.size + 2 by omega) (.slice B0 o.ts.length d0)
  replace kS := kS.far (p := ⟨w.heap.size + 2, 0, none⟩) (show w.heap.size + 3 ≠ w.heap.size + 2 by omega) (.slice B0 o.ts.length d0)
  replace kR : Blk (W6.setCell ⟨w.heap.size + 2, 0, none⟩ (.slice B0 o.ts.length d0)) (w.heap.size + 2) 34 #[.slice B0 o.ts.length d0, .slice none 0 0, .slice none 0 0, .int .i64 0, .bool false] := kR.set_ 0 (.slice B0 o.ts.length d0)
  replace rC := rC.store (p := ⟨w.heap.size + 2, 0, none⟩) (show w.heap.size + 2 < W5.heap.size ∨ W6.heap.size ≤ w.heap.size + 2 by omega) (.slice B0 o.ts.length d0)
  replace G : Below w.heap.size w (W6.setCell ⟨w.heap.size + 2, 0, none⟩ (.slice B0 o.ts.length d0)) := Below.setCell G (show w.heap.size ≤ w.heap.size + 2 by omega) _
  have z7 : (W6.setCell ⟨w.heap.size + 2, 0, none⟩ (.slice B0 o.ts.length d0)).heap.size = W6.heap.size := by simp [World.setCell]
  generalize W6.setCell ⟨w.heap.size + 2, 0, none⟩ (.slice B0 o.ts.length d0) = W7 at kP kX kR kS rC G z7 ⊢
  replace kP := kP.far (p := ⟨w.heap.size + 2, 1, none⟩) (show w.heap.size ≠ w.heap.size + 2 by omega) (.slice B1 o.ks.length d1)
  replace kX := kX.far (p := ⟨w.heap.size + 2, 1, none⟩) (show w.heap.size + 1 ≠ w.heap.size + 2 by omega) (.slice B1 o.ks.length d1)
  replace kS := kS.far (p := ⟨w.heap.size + 2, 1, none⟩) (show w.heap.size + 3 ≠ w.heap.size + 2 by omega) (.slice B1 o.ks.length d1)
  replace kR : Blk (W7.setCell ⟨w.heap.size + 2, 1, none⟩ (.slice B1 o.ks.length d1)) (w.heap.size + 2) 34 #[.slice B0 o.ts.length d0, .slice B1 o.ks.length d1, .slice none 0 0, .int .i64 0, .bool false] := kR.set_ 1 (.slice B1 o.ks.length d1)
  replace rC := rC.store (p := ⟨w.heap.size + 2, 1, none⟩) (show w.heap.size + 2 < W5.heap.size ∨ W6.heap.size ≤ w.heap.size + 2 by omega) (.slice B1 o.ks.length d1)
  replace G : Below w.heap.size w (W7.setCell ⟨w.heap.size + 2, 1, none⟩ (.slice B1 o.ks.length d1)) := Below.setCell G (show w.heap.size ≤ w.heap.size + 2 by omega) _
  have z8 : (W7.setCell ⟨w.heap.size + 2, 1, none⟩ (.slice B1 o.ks.length d1)).heap.size = W7.heap.size := by simp [World.setCell]
  generalize W7.setCell ⟨w.heap.size + 2, 1, none⟩ (.slice B1 o.ks.length d1) = W8 at kP kX kR kS rC G z8 ⊢
  replace kP := kP.far (p := ⟨w.heap.size + 2, 2, none⟩) (show w.heap.size ≠ w.heap.size + 2 by omega) (.slice B2 o.fs.length d2)
  replace kX := kX.far (p := ⟨w.heap.size + 2, 2, none⟩) (show w.heap.size + 1 ≠ w.heap.size + 2 by omega) (.slice B2 o.fs.length d2)
  replace kS := kS.far (p := ⟨w.heap.size + 2, 2, none⟩) (show w.heap.size + 3 ≠ w.heap.size + 2 by omega) (.slice B2 o.fs.length d2)
  replace kR : Blk (W8.setCell ⟨w.heap.size + 2, 2, none⟩ (.slice B2 o.fs.length d2)) (w.heap.size + 2) 34 #[.slice B0 o.ts.length d0, .slice B1 o.ks.length d1, .slice B2 o.fs.length d2, .int .i64 0, .bool false] := kR.set_ 2 (.slice B2 o.fs.length d2)
  replace rC := rC.store (p := ⟨w.heap.size + 2, 2, none⟩) (show w.heap.size + 2 < W5.heap.size ∨ W6.heap.size ≤ w.heap.size + 2 by omega) (.slice B2 o.fs.length d2)
  replace G : Below w.heap.size w (W8.setCell ⟨w.heap.size + 2, 2, none⟩ (.slice B2 o.fs.length d2)) := Below.setCell G (show w.heap.size ≤ w.heap.size + 2 by omega) _
  have z9 : (W8.setCell ⟨w.heap.size + 2, 2, none⟩ (.slice B2 o.fs.length d2)).heap.size = W8.heap.size := by simp [World.setCell]
  generalize W8.setCell ⟨w.heap.size + 2, 2, none⟩ (.slice B2 o.fs.length d2) = W9 at kP kX kR kS rC G z9 ⊢
  replace kP := kP.far (p := ⟨w.heap.size + 2, 3, none⟩) (show w.heap.size ≠ w.heap.size + 2 by omega) (.int .i64 o.tn)
  replace kX := kX.far (p := ⟨w.heap.size + 2, 3, none⟩) (show w.heap.size + 1 ≠ w.heap.size + 2 by omega) (.int .i64 o.tn)
  replace kS := kS.far (p := ⟨w.heap.size + 2, 3, none⟩) (show w.heap.size + 3 ≠ w.heap.size + 2 by omega) (.int .i64 o.tn)
  replace kR : Blk (W9.setCell ⟨w.heap.size + 2, 3, none⟩ (.int .i64 o.tn)) (w.heap.size + 2) 34 #[.slice B0 o.ts.length d0, .slice B1 o.ks.length d1, .slice B2 o.fs.length d2, .int .i64 o.tn, .bool false] := kR.set_ 3 (.int .i64 o.tn)
  replace rC := rC.store (p := ⟨w.heap.size + 2, 3, none⟩) (show w.heap.size + 2 < W5.heap.size ∨ W6.heap.size ≤ w.heap.size + 2 by omega) (.int .i64 o.tn)
  replace G : Below w.heap.size w (W9.setCell ⟨w.heap.size + 2, 3, none⟩ (.int .i64 o.tn)) := Below.setCell G (show w.heap.size ≤ w.heap.size + 2 by omega) _
  have z10 : (W9.setCell ⟨w.heap.size + 2, 3, none⟩ (.int .i64 o.tn)).heap.size = W9.heap.size := by simp [World.setCell]
  generalize W9.setCell ⟨w.heap.size + 2, 3, none⟩ (.int .i64 o.tn) = W10 at kP kX kR kS rC G z10 ⊢
  replace kP := kP.far (p := ⟨w.heap.size + 2, 4, none⟩) (show w.heap.size ≠ w.heap.size + 2 by omega) (.bool o.st)
  replace kX := kX.far (p := ⟨w.heap.size + 2, 4, none⟩) (show w.heap.size + 1 ≠ w.heap.size + 2 by omega) (.bool o.st)
  replace kS := kS.far (p := ⟨w.heap.size + 2, 4, none⟩) (show w.heap.size + 3 ≠ w.heap.size + 2 by omega) (.bool o.st)
  replace kR : Blk (W10.setCell ⟨w.heap.size + 2, 4, none⟩ (.bool o.st)) (w.heap.size + 2) 34 #[.slice B0 o.ts.length d0, .slice B1 o.ks.length d1, .slice B2 o.fs.length d2, .int .i64 o.tn, .bool o.st] := kR.set_ 4 (.bool o.st)
  replace rC := rC.store (p := ⟨w.heap.size + 2, 4, none⟩) (show w.heap.size + 2 < W5.heap.size ∨ W6.heap.size ≤ w.heap.size + 2 by omega) (.bool o.st)
  replace G : Below w.heap.size w (W10.setCell ⟨w.heap.size + 2, 4, none⟩ (.bool o.st)) := Below.setCell G (show w.heap.size ≤ w.heap.size + 2 by omega) _
  have z11 : (W10.setCell ⟨w.heap.size + 2, 4, none⟩ (.bool o.st)).heap.size = W10.heap.size := by simp [World.setCell]
  generalize W10.setCell ⟨w.heap.size + 2, 4, none⟩ (.bool o.st) = W11 at kP kX kR kS rC G z11 ⊢
  replace kP := kP.far (p := ⟨w.heap.size + 3, 0, none⟩) (show w.heap.size ≠ w.heap.size + 3 by omega) (.int .i64 o.rp)
  replace kX := kX.far (p := ⟨w.heap.size + 3, 0, none⟩) (show w.heap.size + 1 ≠ w.heap.size + 3 by omega) (.int .i64 o.rp)
  replace kR := kR.far (p := ⟨w.heap.size + 3, 0, none⟩) (show w.heap.size + 2 ≠ w.heap.size + 3 by omega) (.int .i64 o.rp)
  replace kS : Blk (W11.setCell ⟨w.heap.size + 3, 0, none⟩ (.int .i64 o.rp)) (w.heap.size + 3) 65 #[.int .i64 o.rp, .int .i64 0] := kS.set_ 0 (.int .i64 o.rp)
  replace rC := rC.store (p := ⟨w.heap.size + 3, 0, none⟩) (show w.heap.size + 3 < W5.heap.size ∨ W6.heap.size ≤ w.heap.size + 3 by omega) (.int .i64 o.rp)
  replace G : Below w.heap.size w (W11.setCell ⟨w.heap.size + 3, 0, none⟩ (.int .i64 o.rp)) := Below.setCell G (show w.heap.size ≤ w.heap.size + 3 by omega) _
  have z12 : (W11.setCell ⟨w.heap.size + 3, 0, none⟩ (.int .i64 o.rp)).heap.size = W11.heap.size := by simp [World.setCell]
  generalize W11.setCell ⟨w.heap.size + 3, 0, none⟩ (.int .i64 o.rp) = W12 at kP kX kR kS rC G z12 ⊢
  replace kP := kP.far (p := ⟨w.heap.size + 3, 1, none⟩) (show w.heap.size ≠ w.heap.size + 3 by omega) (.int .i64 o.ou)
  replace kX := kX.far (p := ⟨w.heap.size + 3, 1, none⟩) (show w.heap.size + 1 ≠ w.heap.size + 3 by omega) (.int .i64 o.ou)
  replace kR := kR.far (p := ⟨w.heap.size + 3, 1, none⟩) (show w.heap.size + 2 ≠ w.heap.size + 3 by omega) (.int .i64 o.ou)
  replace kS : Blk (W12.setCell ⟨w.heap.size + 3, 1, none⟩ (.int .i64 o.ou)) (w.heap.size + 3) 65 #[.int .i64 o.rp, .int .i64 o.ou] := kS.set_ 1 (.int .i64 o.ou)
  replace rC := rC.store (p := ⟨w.heap.size + 3, 1, none⟩) (show w.heap.size + 3 < W5.heap.size ∨ W6.heap.size ≤ w.heap.size + 3 by omega) (.int .i64 o.ou)
  replace G : Below w.heap.size w (W12.setCell ⟨w.heap.size + 3, 1, none⟩ (.int .i64 o.ou)) := Below.setCell G (show w.heap.size ≤ w.heap.size + 3 by omega) _
  have z13 : (W12.setCell ⟨w.heap.size + 3, 1, none⟩ (.int .i64 o.ou)).heap.size = W12.heap.size := by simp [World.setCell]
  generalize W12.setCell ⟨w.heap.size + 3, 1, none⟩ (.int .i64 o.ou) = W13 at kP kX kR kS rC G z13 ⊢
  obtain ⟨tR, qR0, qR1, qR2, qR3, qR4⟩ := kR.q5
  obtain ⟨tS, qS0, qS1⟩ := kS.q2
  exact bodyPost_ret (v := .tuple #[.agg #[.slice B0 o.ts.length d0, .slice B1 o.ks.length d1, .slice B2 o.fs.length d2, .int .i64 o.tn, .bool o.st], .agg #[.int .i64 o.rp, .int .i64 o.ou]]) (by simp [results, Try.results141, go_sem, qR0, qR1, qR2, qR3, qR4, qS0, qS1]) rfl ⟨B0, B1, B2, d0, d1, d2, rfl, rC.wide (by omega) (by omega), G⟩

set_option maxRecDepth 100000 in
set_option maxHeartbeats 4000000 in
theorem leveled_has (a b c d e : Int) (ts : List T7) (ks : List Int) (fs : List F2) (A0 A1 A2 : Option Addr) (c0 c1 c2 : Nat) (tn : Int) (st : Bool) (wk id lv : Int) (w : World) (ht : ts.length ≤ 1048576) (hk : ks.length ≤ 1048576) (hf : fs.length ≤ 1048576) (h : InPool w ts ks fs A0 A1 A2) (hm : mayB a b c d e ts ks fs tn wk = true) (hh : btw id 0 (ts.length - 1) = false) : Calls Try.prog 141 #[.agg #[.int .i64 a, .int .i64 b, .int .i64 c, .int .i64 d, .int .i64 e], .agg #[.slice A0 ts.length c0, .slice A1 ks.length c1, .slice A2 fs.length c2, .int .i64 tn, .bool st], .int .i64 wk, .int .i64 id, .int .i64 lv] w (GaveO w.heap.size w (noO (poolB a b c d e ts ks fs tn) ts ks fs tn st 8)) := by
  have H := hide h
  clear h
  have hNo : Hid (∀ V, InPool V ts ks fs A0 A1 A2 → Calls Try.prog 91 #[.agg #[.int .i64 a, .int .i64 b, .int .i64 c, .int .i64 d, .int .i64 e], .agg #[.slice A0 ts.length c0, .slice A1 ks.length c1, .slice A2 fs.length c2, .int .i64 tn, .bool st], .int .i64 8] V (GaveO V.heap.size V (noO (poolB a b c d e ts ks fs tn) ts ks fs tn st 8))) := hide (fun V hV => l6No_any a b c d e ts ks fs A0 A1 A2 c0 c1 c2 tn st 8 V ht hk hf hV)
  generalize noO (poolB a b c d e ts ks fs tn) ts ks fs tn st 8 = o at hNo ⊢
  have HY := hide (⟨hm, hh, trivial⟩ : _ ∧ _ ∧ True)
  clear hm hh
  go_enter Try.func141, Try.ntmps141
  go_wp2_with fail
  have G := Below.refl w.heap.size w
  have kP := Blk.new w 28 #[.int .i64 a, .int .i64 b, .int .i64 c, .int .i64 d, .int .i64 e]
  have hbs := G.size
  replace G := G.alloc (by omega) (.cells #[.int .i64 a, .int .i64 b, .int .i64 c, .int .i64 d, .int .i64 e] 28)
  have z1 : (w.alloc (.cells #[.int .i64 a, .int .i64 b, .int .i64 c, .int .i64 d, .int .i64 e] 28)).heap.size = w.heap.size + 1 := by simp
  clear hbs
  generalize w.alloc (.cells #[.int .i64 a, .int .i64 b, .int .i64 c, .int .i64 d, .int .i64 e] 28) = W1 at kP G z1 ⊢
  have kX : Blk (W1.alloc (.cells #[.slice A0 ts.length c0, .slice A1 ks.length c1, .slice A2 fs.length c2, .int .i64 tn, .bool st] 34)) (w.heap.size + 1) 34 #[.slice A0 ts.length c0, .slice A1 ks.length c1, .slice A2 fs.length c2, .int .i64 tn, .bool st] := by
    have h := Blk.new W1 34 #[.slice A0 ts.length c0, .slice A1 ks.length c1, .slice A2 fs.length c2, .int .i64 tn, .bool st]
    rw [show W1.heap.size = w.heap.size + 1 by omega] at h
    exact h
  replace kP := kP.alloc (.cells #[.slice A0 ts.length c0, .slice A1 ks.length c1, .slice A2 fs.length c2, .int .i64 tn, .bool st] 34)
  have hbs := G.size
  replace G := G.alloc (by omega) (.cells #[.slice A0 ts.length c0, .slice A1 ks.length c1, .slice A2 fs.length c2, .int .i64 tn, .bool st] 34)
  have z2 : (W1.alloc (.cells #[.slice A0 ts.length c0, .slice A1 ks.length c1, .slice A2 fs.length c2, .int .i64 tn, .bool st] 34)).heap.size = W1.heap.size + 1 := by simp
  clear hbs
  generalize W1.alloc (.cells #[.slice A0 ts.length c0, .slice A1 ks.length c1, .slice A2 fs.length c2, .int .i64 tn, .bool st] 34) = W2 at kP kX G z2 ⊢
  have kR : Blk (W2.alloc (.cells #[.slice none 0 0, .slice none 0 0, .slice none 0 0, .int .i64 0, .bool false] 34)) (w.heap.size + 2) 34 #[.slice none 0 0, .slice none 0 0, .slice none 0 0, .int .i64 0, .bool false] := by
    have h := Blk.new W2 34 #[.slice none 0 0, .slice none 0 0, .slice none 0 0, .int .i64 0, .bool false]
    rw [show W2.heap.size = w.heap.size + 2 by omega] at h
    exact h
  replace kP := kP.alloc (.cells #[.slice none 0 0, .slice none 0 0, .slice none 0 0, .int .i64 0, .bool false] 34)
  replace kX := kX.alloc (.cells #[.slice none 0 0, .slice none 0 0, .slice none 0 0, .int .i64 0, .bool false] 34)
  have hbs := G.size
  replace G := G.alloc (by omega) (.cells #[.slice none 0 0, .slice none 0 0, .slice none 0 0, .int .i64 0, .bool false] 34)
  have z3 : (W2.alloc (.cells #[.slice none 0 0, .slice none 0 0, .slice none 0 0, .int .i64 0, .bool false] 34)).heap.size = W2.heap.size + 1 := by simp
  clear hbs
  generalize W2.alloc (.cells #[.slice none 0 0, .slice none 0 0, .slice none 0 0, .int .i64 0, .bool false] 34) = W3 at kP kX kR G z3 ⊢
  have kS : Blk (W3.alloc (.cells #[.int .i64 0, .int .i64 0] 65)) (w.heap.size + 3) 65 #[.int .i64 0, .int .i64 0] := by
    have h := Blk.new W3 65 #[.int .i64 0, .int .i64 0]
    rw [show W3.heap.size = w.heap.size + 3 by omega] at h
    exact h
  replace kP := kP.alloc (.cells #[.int .i64 0, .int .i64 0] 65)
  replace kX := kX.alloc (.cells #[.int .i64 0, .int .i64 0] 65)
  replace kR := kR.alloc (.cells #[.int .i64 0, .int .i64 0] 65)
  have hbs := G.size
  replace G := G.alloc (by omega) (.cells #[.int .i64 0, .int .i64 0] 65)
  have z4 : (W3.alloc (.cells #[.int .i64 0, .int .i64 0] 65)).heap.size = W3.heap.size + 1 := by simp
  clear hbs
  generalize W3.alloc (.cells #[.int .i64 0, .int .i64 0] 65) = W4 at kP kX kR kS G z4 ⊢
  go_call (l6May_v a b c d e ts ks fs A0 A1 A2 c0 c1 c2 tn st wk true HY.out.1 _ ht hk hf (H.out.below G)) as r W5 ⟨rfl, g1⟩
  have hbs := G.size
  replace kP := kP.below g1 kP.lt
  replace kX := kX.below g1 kX.lt
  replace kR := kR.below g1 kR.lt
  replace kS := kS.below g1 kS.lt
  replace G := G.trans (g1.mono (by omega))
  have z5 := g1.size
  clear g1 hbs
  obtain ⟨tP, qP0, fP0, qP1, fP1, qP2, fP2, qP3, fP3, qP4, fP4⟩ := kP.f5
  obtain ⟨tX, qX0, fX0, qX1, fX1, qX2, fX2, qX3, fX3, qX4, fX4⟩ := kX.f5
  obtain ⟨tR, qR0, fR0, qR1, fR1, qR2, fR2, qR3, fR3, qR4, fR4⟩ := kR.f5
  obtain ⟨tS, qS0, fS0, qS1, fS1⟩ := kS.f2
  go_wp2_with fail
  go_call (l5Has_v ts A0 A1 A2 c0 ks.length c1 fs.length c2 tn st id false HY.out.2.1 _ ht) as r W6 ⟨rfl, g1⟩
  clear tP qP0 fP0 qP1 fP1 qP2 fP2 qP3 fP3 qP4 fP4 tX qX0 fX0 qX1 fX1 qX2 fX2 qX3 fX3 qX4 fX4 tR qR0 fR0 qR1 fR1 qR2 fR2 qR3 fR3 qR4 fR4 tS qS0 fS0 qS1 fS1
  have hbs := G.size
  replace kP := kP.below g1 kP.lt
  replace kX := kX.below g1 kX.lt
  replace kR := kR.below g1 kR.lt
  replace kS := kS.below g1 kS.lt
  replace G := G.trans (g1.mono (by omega))
  have z6 := g1.size
  clear g1 hbs
  obtain ⟨tP, qP0, fP0, qP1, fP1, qP2, fP2, qP3, fP3, qP4, fP4⟩ := kP.f5
  obtain ⟨tX, qX0, fX0, qX1, fX1, qX2, fX2, qX3, fX3, qX4, fX4⟩ := kX.f5
  obtain ⟨tR, qR0, fR0, qR1, fR1, qR2, fR2, qR3, fR3, qR4, fR4⟩ := kR.f5
  obtain ⟨tS, qS0, fS0, qS1, fS1⟩ := kS.f2
  go_wp2_with fail
  go_call (hNo.out _ (H.out.below G)) as r W7 ⟨B0, B1, B2, d0, d1, d2, rfl, own, g1⟩
  clear tP qP0 fP0 qP1 fP1 qP2 fP2 qP3 fP3 qP4 fP4 tX qX0 fX0 qX1 fX1 qX2 fX2 qX3 fX3 qX4 fX4 tR qR0 fR0 qR1 fR1 qR2 fR2 qR3 fR3 qR4 fR4 tS qS0 fS0 qS1 fS1
  have hbs := G.size
  replace kP := kP.below g1 kP.lt
  replace kX := kX.below g1 kX.lt
  replace kR := kR.below g1 kR.lt
  replace kS := kS.below g1 kS.lt
  replace G := G.trans (g1.mono (by omega))
  have z7 := g1.size
  clear g1 hbs
  have rC := own
  clear own
  obtain ⟨tP, qP0, fP0, qP1, fP1, qP2, fP2, qP3, fP3, qP4, fP4⟩ := kP.f5
  obtain ⟨tX, qX0, fX0, qX1, fX1, qX2, fX2, qX3, fX3, qX4, fX4⟩ := kX.f5
  obtain ⟨tR, qR0, fR0, qR1, fR1, qR2, fR2, qR3, fR3, qR4, fR4⟩ := kR.f5
  obtain ⟨tS, qS0, fS0, qS1, fS1⟩ := kS.f2
  go_wp2_with fail
  clear tP qP0 fP0 qP1 fP1 qP2 fP2 qP3 fP3 qP4 fP4 tX qX0 fX0 qX1 fX1 qX2 fX2 qX3 fX3 qX4 fX4 tR qR0 fR0 qR1 fR1 qR2 fR2 qR3 fR3 qR4 fR4 tS qS0 fS0 qS1 fS1
  replace kP := kP.far (p := ⟨w.heap.size + 2, 0, none⟩) (show w.heap.size ≠ w.heap.size + 2 by omega) (.slice B0 o.ts.length d0)
  replace kX := kX.far (p := ⟨w.heap.size + 2, 0, none⟩) (show w.heap.size + 1 ≠ w.heap.size + 2 by omega) (.slice B0 o.ts.length d0)
  replace kS := kS.far (p := ⟨w.heap.size + 2, 0, none⟩) (show w.heap.size + 3 ≠ w.heap.size + 2 by omega) (.slice B0 o.ts.length d0)
  replace kR : Blk (W7.setCell ⟨w.heap.size + 2, 0, none⟩ (.slice B0 o.ts.length d0)) (w.heap.size + 2) 34 #[.slice B0 o.ts.length d0, .slice none 0 0, .slice none 0 0, .int .i64 0, .bool false] := kR.set_ 0 (.slice B0 o.ts.length d0)
  replace rC := rC.store (p := ⟨w.heap.size + 2, 0, none⟩) (show w.heap.size + 2 < W6.heap.size ∨ W7.heap.size ≤ w.heap.size + 2 by omega) (.slice B0 o.ts.length d0)
  replace G : Below w.heap.size w (W7.setCell ⟨w.heap.size + 2, 0, none⟩ (.slice B0 o.ts.length d0)) := Below.setCell G (show w.heap.size ≤ w.heap.size + 2 by omega) _
  have z8 : (W7.setCell ⟨w.heap.size + 2, 0, none⟩ (.slice B0 o.ts.length d0)).heap.size = W7.heap.size := by simp [World.setCell]
  generalize W7.setCell ⟨w.heap.size + 2, 0, none⟩ (.slice B0 o.ts.length d0) = W8 at kP kX kR kS rC G z8 ⊢
  replace kP := kP.far (p := ⟨w.heap.size + 2, 1, none⟩) (show w.heap.size ≠ w.heap.size + 2 by omega) (.slice B1 o.ks.length d1)
  replace kX := kX.far (p := ⟨w.heap.size + 2, 1, none⟩) (show w.heap.size + 1 ≠ w.heap.size + 2 by omega) (.slice B1 o.ks.length d1)
  replace kS := kS.far (p := ⟨w.heap.size + 2, 1, none⟩) (show w.heap.size + 3 ≠ w.heap.size + 2 by omega) (.slice B1 o.ks.length d1)
  replace kR : Blk (W8.setCell ⟨w.heap.size + 2, 1, none⟩ (.slice B1 o.ks.length d1)) (w.heap.size + 2) 34 #[.slice B0 o.ts.length d0, .slice B1 o.ks.length d1, .slice none 0 0, .int .i64 0, .bool false] := kR.set_ 1 (.slice B1 o.ks.length d1)
  replace rC := rC.store (p := ⟨w.heap.size + 2, 1, none⟩) (show w.heap.size + 2 < W6.heap.size ∨ W7.heap.size ≤ w.heap.size + 2 by omega) (.slice B1 o.ks.length d1)
  replace G : Below w.heap.size w (W8.setCell ⟨w.heap.size + 2, 1, none⟩ (.slice B1 o.ks.length d1)) := Below.setCell G (show w.heap.size ≤ w.heap.size + 2 by omega) _
  have z9 : (W8.setCell ⟨w.heap.size + 2, 1, none⟩ (.slice B1 o.ks.length d1)).heap.size = W8.heap.size := by simp [World.setCell]
  generalize W8.setCell ⟨w.heap.size + 2, 1, none⟩ (.slice B1 o.ks.length d1) = W9 at kP kX kR kS rC G z9 ⊢
  replace kP := kP.far (p := ⟨w.heap.size + 2, 2, none⟩) (show w.heap.size ≠ w.heap.size + 2 by omega) (.slice B2 o.fs.length d2)
  replace kX := kX.far (p := ⟨w.heap.size + 2, 2, none⟩) (show w.heap.size + 1 ≠ w.heap.size + 2 by omega) (.slice B2 o.fs.length d2)
  replace kS := kS.far (p := ⟨w.heap.size + 2, 2, none⟩) (show w.heap.size + 3 ≠ w.heap.size + 2 by omega) (.slice B2 o.fs.length d2)
  replace kR : Blk (W9.setCell ⟨w.heap.size + 2, 2, none⟩ (.slice B2 o.fs.length d2)) (w.heap.size + 2) 34 #[.slice B0 o.ts.length d0, .slice B1 o.ks.length d1, .slice B2 o.fs.length d2, .int .i64 0, .bool false] := kR.set_ 2 (.slice B2 o.fs.length d2)
  replace rC := rC.store (p := ⟨w.heap.size + 2, 2, none⟩) (show w.heap.size + 2 < W6.heap.size ∨ W7.heap.size ≤ w.heap.size + 2 by omega) (.slice B2 o.fs.length d2)
  replace G : Below w.heap.size w (W9.setCell ⟨w.heap.size + 2, 2, none⟩ (.slice B2 o.fs.length d2)) := Below.setCell G (show w.heap.size ≤ w.heap.size + 2 by omega) _
  have z10 : (W9.setCell ⟨w.heap.size + 2, 2, none⟩ (.slice B2 o.fs.length d2)).heap.size = W9.heap.size := by simp [World.setCell]
  generalize W9.setCell ⟨w.heap.size + 2, 2, none⟩ (.slice B2 o.fs.length d2) = W10 at kP kX kR kS rC G z10 ⊢
  replace kP := kP.far (p := ⟨w.heap.size + 2, 3, none⟩) (show w.heap.size ≠ w.heap.size + 2 by omega) (.int .i64 o.tn)
  replace kX := kX.far (p := ⟨w.heap.size + 2, 3, none⟩) (show w.heap.size + 1 ≠ w.heap.size + 2 by omega) (.int .i64 o.tn)
  replace kS := kS.far (p := ⟨w.heap.size + 2, 3, none⟩) (show w.heap.size + 3 ≠ w.heap.size + 2 by omega) (.int .i64 o.tn)
  replace kR : Blk (W10.setCell ⟨w.heap.size + 2, 3, none⟩ (.int .i64 o.tn)) (w.heap.size + 2) 34 #[.slice B0 o.ts.length d0, .slice B1 o.ks.length d1, .slice B2 o.fs.length d2, .int .i64 o.tn, .bool false] := kR.set_ 3 (.int .i64 o.tn)
  replace rC := rC.store (p := ⟨w.heap.size + 2, 3, none⟩) (show w.heap.size + 2 < W6.heap.size ∨ W7.heap.size ≤ w.heap.size + 2 by omega) (.int .i64 o.tn)
  replace G : Below w.heap.size w (W10.setCell ⟨w.heap.size + 2, 3, none⟩ (.int .i64 o.tn)) := Below.setCell G (show w.heap.size ≤ w.heap.size + 2 by omega) _
  have z11 : (W10.setCell ⟨w.heap.size + 2, 3, none⟩ (.int .i64 o.tn)).heap.size = W10.heap.size := by simp [World.setCell]
  generalize W10.setCell ⟨w.heap.size + 2, 3, none⟩ (.int .i64 o.tn) = W11 at kP kX kR kS rC G z11 ⊢
  replace kP := kP.far (p := ⟨w.heap.size + 2, 4, none⟩) (show w.heap.size ≠ w.heap.size + 2 by omega) (.bool o.st)
  replace kX := kX.far (p := ⟨w.heap.size + 2, 4, none⟩) (show w.heap.size + 1 ≠ w.heap.size + 2 by omega) (.bool o.st)
  replace kS := kS.far (p := ⟨w.heap.size + 2, 4, none⟩) (show w.heap.size + 3 ≠ w.heap.size + 2 by omega) (.bool o.st)
  replace kR : Blk (W11.setCell ⟨w.heap.size + 2, 4, none⟩ (.bool o.st)) (w.heap.size + 2) 34 #[.slice B0 o.ts.length d0, .slice B1 o.ks.length d1, .slice B2 o.fs.length d2, .int .i64 o.tn, .bool o.st] := kR.set_ 4 (.bool o.st)
  replace rC := rC.store (p := ⟨w.heap.size + 2, 4, none⟩) (show w.heap.size + 2 < W6.heap.size ∨ W7.heap.size ≤ w.heap.size + 2 by omega) (.bool o.st)
  replace G : Below w.heap.size w (W11.setCell ⟨w.heap.size + 2, 4, none⟩ (.bool o.st)) := Below.setCell G (show w.heap.size ≤ w.heap.size + 2 by omega) _
  have z12 : (W11.setCell ⟨w.heap.size + 2, 4, none⟩ (.bool o.st)).heap.size = W11.heap.size := by simp [World.setCell]
  generalize W11.setCell ⟨w.heap.size + 2, 4, none⟩ (.bool o.st) = W12 at kP kX kR kS rC G z12 ⊢
  replace kP := kP.far (p := ⟨w.heap.size + 3, 0, none⟩) (show w.heap.size ≠ w.heap.size + 3 by omega) (.int .i64 o.rp)
  replace kX := kX.far (p := ⟨w.heap.size + 3, 0, none⟩) (show w.heap.size + 1 ≠ w.heap.size + 3 by omega) (.int .i64 o.rp)
  replace kR := kR.far (p := ⟨w.heap.size + 3, 0, none⟩) (show w.heap.size + 2 ≠ w.heap.size + 3 by omega) (.int .i64 o.rp)
  replace kS : Blk (W12.setCell ⟨w.heap.size + 3, 0, none⟩ (.int .i64 o.rp)) (w.heap.size + 3) 65 #[.int .i64 o.rp, .int .i64 0] := kS.set_ 0 (.int .i64 o.rp)
  replace rC := rC.store (p := ⟨w.heap.size + 3, 0, none⟩) (show w.heap.size + 3 < W6.heap.size ∨ W7.heap.size ≤ w.heap.size + 3 by omega) (.int .i64 o.rp)
  replace G : Below w.heap.size w (W12.setCell ⟨w.heap.size + 3, 0, none⟩ (.int .i64 o.rp)) := Below.setCell G (show w.heap.size ≤ w.heap.size + 3 by omega) _
  have z13 : (W12.setCell ⟨w.heap.size + 3, 0, none⟩ (.int .i64 o.rp)).heap.size = W12.heap.size := by simp [World.setCell]
  generalize W12.setCell ⟨w.heap.size + 3, 0, none⟩ (.int .i64 o.rp) = W13 at kP kX kR kS rC G z13 ⊢
  replace kP := kP.far (p := ⟨w.heap.size + 3, 1, none⟩) (show w.heap.size ≠ w.heap.size + 3 by omega) (.int .i64 o.ou)
  replace kX := kX.far (p := ⟨w.heap.size + 3, 1, none⟩) (show w.heap.size + 1 ≠ w.heap.size + 3 by omega) (.int .i64 o.ou)
  replace kR := kR.far (p := ⟨w.heap.size + 3, 1, none⟩) (show w.heap.size + 2 ≠ w.heap.size + 3 by omega) (.int .i64 o.ou)
  replace kS : Blk (W13.setCell ⟨w.heap.size + 3, 1, none⟩ (.int .i64 o.ou)) (w.heap.size + 3) 65 #[.int .i64 o.rp, .int .i64 o.ou] := kS.set_ 1 (.int .i64 o.ou)
  replace rC := rC.store (p := ⟨w.heap.size + 3, 1, none⟩) (show w.heap.size + 3 < W6.heap.size ∨ W7.heap.size ≤ w.heap.size + 3 by omega) (.int .i64 o.ou)
  replace G : Below w.heap.size w (W13.setCell ⟨w.heap.size + 3, 1, none⟩ (.int .i64 o.ou)) := Below.setCell G (show w.heap.size ≤ w.heap.size + 3 by omega) _
  have z14 : (W13.setCell ⟨w.heap.size + 3, 1, none⟩ (.int .i64 o.ou)).heap.size = W13.heap.size := by simp [World.setCell]
  generalize W13.setCell ⟨w.heap.size + 3, 1, none⟩ (.int .i64 o.ou) = W14 at kP kX kR kS rC G z14 ⊢
  obtain ⟨tR, qR0, qR1, qR2, qR3, qR4⟩ := kR.q5
  obtain ⟨tS, qS0, qS1⟩ := kS.q2
  exact bodyPost_ret (v := .tuple #[.agg #[.slice B0 o.ts.length d0, .slice B1 o.ks.length d1, .slice B2 o.fs.length d2, .int .i64 o.tn, .bool o.st], .agg #[.int .i64 o.rp, .int .i64 o.ou]]) (by simp [results, Try.results141, go_sem, qR0, qR1, qR2, qR3, qR4, qS0, qS1]) rfl ⟨B0, B1, B2, d0, d1, d2, rfl, rC.wide (by omega) (by omega), G⟩

set_option maxRecDepth 100000 in
set_option maxHeartbeats 4000000 in
theorem leveled_lev (a b c d e : Int) (ts : List T7) (ks : List Int) (fs : List F2) (A0 A1 A2 : Option Addr) (c0 c1 c2 : Nat) (tn : Int) (st : Bool) (wk id lv : Int) (w : World) (ht : ts.length ≤ 1048576) (hk : ks.length ≤ 1048576) (hf : fs.length ≤ 1048576) (h : InPool w ts ks fs A0 A1 A2) (hm : mayB a b c d e ts ks fs tn wk = true) (hh : btw id 0 (ts.length - 1) = true) (hl : levelB a b c d e lv = false) : Calls Try.prog 141 #[.agg #[.int .i64 a, .int .i64 b, .int .i64 c, .int .i64 d, .int .i64 e], .agg #[.slice A0 ts.length c0, .slice A1 ks.length c1, .slice A2 fs.length c2, .int .i64 tn, .bool st], .int .i64 wk, .int .i64 id, .int .i64 lv] w (GaveO w.heap.size w (noO (poolB a b c d e ts ks fs tn) ts ks fs tn st 8)) := by
  have H := hide h
  clear h
  have hNo : Hid (∀ V, InPool V ts ks fs A0 A1 A2 → Calls Try.prog 91 #[.agg #[.int .i64 a, .int .i64 b, .int .i64 c, .int .i64 d, .int .i64 e], .agg #[.slice A0 ts.length c0, .slice A1 ks.length c1, .slice A2 fs.length c2, .int .i64 tn, .bool st], .int .i64 8] V (GaveO V.heap.size V (noO (poolB a b c d e ts ks fs tn) ts ks fs tn st 8))) := hide (fun V hV => l6No_any a b c d e ts ks fs A0 A1 A2 c0 c1 c2 tn st 8 V ht hk hf hV)
  generalize noO (poolB a b c d e ts ks fs tn) ts ks fs tn st 8 = o at hNo ⊢
  have HY := hide (⟨hm, hh, hl, trivial⟩ : _ ∧ _ ∧ _ ∧ True)
  clear hm hh hl
  go_enter Try.func141, Try.ntmps141
  go_wp2_with fail
  have G := Below.refl w.heap.size w
  have kP := Blk.new w 28 #[.int .i64 a, .int .i64 b, .int .i64 c, .int .i64 d, .int .i64 e]
  have hbs := G.size
  replace G := G.alloc (by omega) (.cells #[.int .i64 a, .int .i64 b, .int .i64 c, .int .i64 d, .int .i64 e] 28)
  have z1 : (w.alloc (.cells #[.int .i64 a, .int .i64 b, .int .i64 c, .int .i64 d, .int .i64 e] 28)).heap.size = w.heap.size + 1 := by simp
  clear hbs
  generalize w.alloc (.cells #[.int .i64 a, .int .i64 b, .int .i64 c, .int .i64 d, .int .i64 e] 28) = W1 at kP G z1 ⊢
  have kX : Blk (W1.alloc (.cells #[.slice A0 ts.length c0, .slice A1 ks.length c1, .slice A2 fs.length c2, .int .i64 tn, .bool st] 34)) (w.heap.size + 1) 34 #[.slice A0 ts.length c0, .slice A1 ks.length c1, .slice A2 fs.length c2, .int .i64 tn, .bool st] := by
    have h := Blk.new W1 34 #[.slice A0 ts.length c0, .slice A1 ks.length c1, .slice A2 fs.length c2, .int .i64 tn, .bool st]
    rw [show W1.heap.size = w.heap.size + 1 by omega] at h
    exact h
  replace kP := kP.alloc (.cells #[.slice A0 ts.length c0, .slice A1 ks.length c1, .slice A2 fs.length c2, .int .i64 tn, .bool st] 34)
  have hbs := G.size
  replace G := G.alloc (by omega) (.cells #[.slice A0 ts.length c0, .slice A1 ks.length c1, .slice A2 fs.length c2, .int .i64 tn, .bool st] 34)
  have z2 : (W1.alloc (.cells #[.slice A0 ts.length c0, .slice A1 ks.length c1, .slice A2 fs.length c2, .int .i64 tn, .bool st] 34)).heap.size = W1.heap.size + 1 := by simp
  clear hbs
  generalize W1.alloc (.cells #[.slice A0 ts.length c0, .slice A1 ks.length c1, .slice A2 fs.length c2, .int .i64 tn, .bool st] 34) = W2 at kP kX G z2 ⊢
  have kR : Blk (W2.alloc (.cells #[.slice none 0 0, .slice none 0 0, .slice none 0 0, .int .i64 0, .bool false] 34)) (w.heap.size + 2) 34 #[.slice none 0 0, .slice none 0 0, .slice none 0 0, .int .i64 0, .bool false] := by
    have h := Blk.new W2 34 #[.slice none 0 0, .slice none 0 0, .slice none 0 0, .int .i64 0, .bool false]
    rw [show W2.heap.size = w.heap.size + 2 by omega] at h
    exact h
  replace kP := kP.alloc (.cells #[.slice none 0 0, .slice none 0 0, .slice none 0 0, .int .i64 0, .bool false] 34)
  replace kX := kX.alloc (.cells #[.slice none 0 0, .slice none 0 0, .slice none 0 0, .int .i64 0, .bool false] 34)
  have hbs := G.size
  replace G := G.alloc (by omega) (.cells #[.slice none 0 0, .slice none 0 0, .slice none 0 0, .int .i64 0, .bool false] 34)
  have z3 : (W2.alloc (.cells #[.slice none 0 0, .slice none 0 0, .slice none 0 0, .int .i64 0, .bool false] 34)).heap.size = W2.heap.size + 1 := by simp
  clear hbs
  generalize W2.alloc (.cells #[.slice none 0 0, .slice none 0 0, .slice none 0 0, .int .i64 0, .bool false] 34) = W3 at kP kX kR G z3 ⊢
  have kS : Blk (W3.alloc (.cells #[.int .i64 0, .int .i64 0] 65)) (w.heap.size + 3) 65 #[.int .i64 0, .int .i64 0] := by
    have h := Blk.new W3 65 #[.int .i64 0, .int .i64 0]
    rw [show W3.heap.size = w.heap.size + 3 by omega] at h
    exact h
  replace kP := kP.alloc (.cells #[.int .i64 0, .int .i64 0] 65)
  replace kX := kX.alloc (.cells #[.int .i64 0, .int .i64 0] 65)
  replace kR := kR.alloc (.cells #[.int .i64 0, .int .i64 0] 65)
  have hbs := G.size
  replace G := G.alloc (by omega) (.cells #[.int .i64 0, .int .i64 0] 65)
  have z4 : (W3.alloc (.cells #[.int .i64 0, .int .i64 0] 65)).heap.size = W3.heap.size + 1 := by simp
  clear hbs
  generalize W3.alloc (.cells #[.int .i64 0, .int .i64 0] 65) = W4 at kP kX kR kS G z4 ⊢
  go_call (l6May_v a b c d e ts ks fs A0 A1 A2 c0 c1 c2 tn st wk true HY.out.1 _ ht hk hf (H.out.below G)) as r W5 ⟨rfl, g1⟩
  have hbs := G.size
  replace kP := kP.below g1 kP.lt
  replace kX := kX.below g1 kX.lt
  replace kR := kR.below g1 kR.lt
  replace kS := kS.below g1 kS.lt
  replace G := G.trans (g1.mono (by omega))
  have z5 := g1.size
  clear g1 hbs
  obtain ⟨tP, qP0, fP0, qP1, fP1, qP2, fP2, qP3, fP3, qP4, fP4⟩ := kP.f5
  obtain ⟨tX, qX0, fX0, qX1, fX1, qX2, fX2, qX3, fX3, qX4, fX4⟩ := kX.f5
  obtain ⟨tR, qR0, fR0, qR1, fR1, qR2, fR2, qR3, fR3, qR4, fR4⟩ := kR.f5
  obtain ⟨tS, qS0, fS0, qS1, fS1⟩ := kS.f2
  go_wp2_with fail
  go_call (l5Has_v ts A0 A1 A2 c0 ks.length c1 fs.length c2 tn st id true HY.out.2.1 _ ht) as r W6 ⟨rfl, g1⟩
  clear tP qP0 fP0 qP1 fP1 qP2 fP2 qP3 fP3 qP4 fP4 tX qX0 fX0 qX1 fX1 qX2 fX2 qX3 fX3 qX4 fX4 tR qR0 fR0 qR1 fR1 qR2 fR2 qR3 fR3 qR4 fR4 tS qS0 fS0 qS1 fS1
  have hbs := G.size
  replace kP := kP.below g1 kP.lt
  replace kX := kX.below g1 kX.lt
  replace kR := kR.below g1 kR.lt
  replace kS := kS.below g1 kS.lt
  replace G := G.trans (g1.mono (by omega))
  have z6 := g1.size
  clear g1 hbs
  obtain ⟨tP, qP0, fP0, qP1, fP1, qP2, fP2, qP3, fP3, qP4, fP4⟩ := kP.f5
  obtain ⟨tX, qX0, fX0, qX1, fX1, qX2, fX2, qX3, fX3, qX4, fX4⟩ := kX.f5
  obtain ⟨tR, qR0, fR0, qR1, fR1, qR2, fR2, qR3, fR3, qR4, fR4⟩ := kR.f5
  obtain ⟨tS, qS0, fS0, qS1, fS1⟩ := kS.f2
  go_wp2_with fail
  go_call (sLevelIn_v a b c d e lv false HY.out.2.2.1 _) as r W7 ⟨rfl, g1⟩
  clear tP qP0 fP0 qP1 fP1 qP2 fP2 qP3 fP3 qP4 fP4 tX qX0 fX0 qX1 fX1 qX2 fX2 qX3 fX3 qX4 fX4 tR qR0 fR0 qR1 fR1 qR2 fR2 qR3 fR3 qR4 fR4 tS qS0 fS0 qS1 fS1
  have hbs := G.size
  replace kP := kP.below g1 kP.lt
  replace kX := kX.below g1 kX.lt
  replace kR := kR.below g1 kR.lt
  replace kS := kS.below g1 kS.lt
  replace G := G.trans (g1.mono (by omega))
  have z7 := g1.size
  clear g1 hbs
  obtain ⟨tP, qP0, fP0, qP1, fP1, qP2, fP2, qP3, fP3, qP4, fP4⟩ := kP.f5
  obtain ⟨tX, qX0, fX0, qX1, fX1, qX2, fX2, qX3, fX3, qX4, fX4⟩ := kX.f5
  obtain ⟨tR, qR0, fR0, qR1, fR1, qR2, fR2, qR3, fR3, qR4, fR4⟩ := kR.f5
  obtain ⟨tS, qS0, fS0, qS1, fS1⟩ := kS.f2
  go_wp2_with fail
  go_call (hNo.out _ (H.out.below G)) as r W8 ⟨B0, B1, B2, d0, d1, d2, rfl, own, g1⟩
  clear tP qP0 fP0 qP1 fP1 qP2 fP2 qP3 fP3 qP4 fP4 tX qX0 fX0 qX1 fX1 qX2 fX2 qX3 fX3 qX4 fX4 tR qR0 fR0 qR1 fR1 qR2 fR2 qR3 fR3 qR4 fR4 tS qS0 fS0 qS1 fS1
  have hbs := G.size
  replace kP := kP.below g1 kP.lt
  replace kX := kX.below g1 kX.lt
  replace kR := kR.below g1 kR.lt
  replace kS := kS.below g1 kS.lt
  replace G := G.trans (g1.mono (by omega))
  have z8 := g1.size
  clear g1 hbs
  have rC := own
  clear own
  obtain ⟨tP, qP0, fP0, qP1, fP1, qP2, fP2, qP3, fP3, qP4, fP4⟩ := kP.f5
  obtain ⟨tX, qX0, fX0, qX1, fX1, qX2, fX2, qX3, fX3, qX4, fX4⟩ := kX.f5
  obtain ⟨tR, qR0, fR0, qR1, fR1, qR2, fR2, qR3, fR3, qR4, fR4⟩ := kR.f5
  obtain ⟨tS, qS0, fS0, qS1, fS1⟩ := kS.f2
  go_wp2_with fail
  clear tP qP0 fP0 qP1 fP1 qP2 fP2 qP3 fP3 qP4 fP4 tX qX0 fX0 qX1 fX1 qX2 fX2 qX3 fX3 qX4 fX4 tR qR0 fR0 qR1 fR1 qR2 fR2 qR3 fR3 qR4 fR4 tS qS0 fS0 qS1 fS1
  replace kP := kP.far (p := ⟨w.heap.size + 2, 0, none⟩) (show w.heap.size ≠ w.heap.size + 2 by omega) (.slice B0 o.ts.length d0)
  replace kX := kX.far (p := ⟨w.heap.size + 2, 0, none⟩) (show w.heap.size + 1 ≠ w.heap.size + 2 by omega) (.slice B0 o.ts.length d0)
  replace kS := kS.far (p := ⟨w.heap.size + 2, 0, none⟩) (show w.heap.size + 3 ≠ w.heap.size + 2 by omega) (.slice B0 o.ts.length d0)
  replace kR : Blk (W8.setCell ⟨w.heap.size + 2, 0, none⟩ (.slice B0 o.ts.length d0)) (w.heap.size + 2) 34 #[.slice B0 o.ts.length d0, .slice none 0 0, .slice none 0 0, .int .i64 0, .bool false] := kR.set_ 0 (.slice B0 o.ts.length d0)
  replace rC := rC.store (p := ⟨w.heap.size + 2, 0, none⟩) (show w.heap.size + 2 < W7.heap.size ∨ W8.heap.size ≤ w.heap.size + 2 by omega) (.slice B0 o.ts.length d0)
  replace G : Below w.heap.size w (W8.setCell ⟨w.heap.size + 2, 0, none⟩ (.slice B0 o.ts.length d0)) := Below.setCell G (show w.heap.size ≤ w.heap.size + 2 by omega) _
  have z9 : (W8.setCell ⟨w.heap.size + 2, 0, none⟩ (.slice B0 o.ts.length d0)).heap.size = W8.heap.size := by simp [World.setCell]
  generalize W8.setCell ⟨w.heap.size + 2, 0, none⟩ (.slice B0 o.ts.length d0) = W9 at kP kX kR kS rC G z9 ⊢
  replace kP := kP.far (p := ⟨w.heap.size + 2, 1, none⟩) (show w.heap.size ≠ w.heap.size + 2 by omega) (.slice B1 o.ks.length d1)
  replace kX := kX.far (p := ⟨w.heap.size + 2, 1, none⟩) (show w.heap.size + 1 ≠ w.heap.size + 2 by omega) (.slice B1 o.ks.length d1)
  replace kS := kS.far (p := ⟨w.heap.size + 2, 1, none⟩) (show w.heap.size + 3 ≠ w.heap.size + 2 by omega) (.slice B1 o.ks.length d1)
  replace kR : Blk (W9.setCell ⟨w.heap.size + 2, 1, none⟩ (.slice B1 o.ks.length d1)) (w.heap.size + 2) 34 #[.slice B0 o.ts.length d0, .slice B1 o.ks.length d1, .slice none 0 0, .int .i64 0, .bool false] := kR.set_ 1 (.slice B1 o.ks.length d1)
  replace rC := rC.store (p := ⟨w.heap.size + 2, 1, none⟩) (show w.heap.size + 2 < W7.heap.size ∨ W8.heap.size ≤ w.heap.size + 2 by omega) (.slice B1 o.ks.length d1)
  replace G : Below w.heap.size w (W9.setCell ⟨w.heap.size + 2, 1, none⟩ (.slice B1 o.ks.length d1)) := Below.setCell G (show w.heap.size ≤ w.heap.size + 2 by omega) _
  have z10 : (W9.setCell ⟨w.heap.size + 2, 1, none⟩ (.slice B1 o.ks.length d1)).heap.size = W9.heap.size := by simp [World.setCell]
  generalize W9.setCell ⟨w.heap.size + 2, 1, none⟩ (.slice B1 o.ks.length d1) = W10 at kP kX kR kS rC G z10 ⊢
  replace kP := kP.far (p := ⟨w.heap.size + 2, 2, none⟩) (show w.heap.size ≠ w.heap.size + 2 by omega) (.slice B2 o.fs.length d2)
  replace kX := kX.far (p := ⟨w.heap.size + 2, 2, none⟩) (show w.heap.size + 1 ≠ w.heap.size + 2 by omega) (.slice B2 o.fs.length d2)
  replace kS := kS.far (p := ⟨w.heap.size + 2, 2, none⟩) (show w.heap.size + 3 ≠ w.heap.size + 2 by omega) (.slice B2 o.fs.length d2)
  replace kR : Blk (W10.setCell ⟨w.heap.size + 2, 2, none⟩ (.slice B2 o.fs.length d2)) (w.heap.size + 2) 34 #[.slice B0 o.ts.length d0, .slice B1 o.ks.length d1, .slice B2 o.fs.length d2, .int .i64 0, .bool false] := kR.set_ 2 (.slice B2 o.fs.length d2)
  replace rC := rC.store (p := ⟨w.heap.size + 2, 2, none⟩) (show w.heap.size + 2 < W7.heap.size ∨ W8.heap.size ≤ w.heap.size + 2 by omega) (.slice B2 o.fs.length d2)
  replace G : Below w.heap.size w (W10.setCell ⟨w.heap.size + 2, 2, none⟩ (.slice B2 o.fs.length d2)) := Below.setCell G (show w.heap.size ≤ w.heap.size + 2 by omega) _
  have z11 : (W10.setCell ⟨w.heap.size + 2, 2, none⟩ (.slice B2 o.fs.length d2)).heap.size = W10.heap.size := by simp [World.setCell]
  generalize W10.setCell ⟨w.heap.size + 2, 2, none⟩ (.slice B2 o.fs.length d2) = W11 at kP kX kR kS rC G z11 ⊢
  replace kP := kP.far (p := ⟨w.heap.size + 2, 3, none⟩) (show w.heap.size ≠ w.heap.size + 2 by omega) (.int .i64 o.tn)
  replace kX := kX.far (p := ⟨w.heap.size + 2, 3, none⟩) (show w.heap.size + 1 ≠ w.heap.size + 2 by omega) (.int .i64 o.tn)
  replace kS := kS.far (p := ⟨w.heap.size + 2, 3, none⟩) (show w.heap.size + 3 ≠ w.heap.size + 2 by omega) (.int .i64 o.tn)
  replace kR : Blk (W11.setCell ⟨w.heap.size + 2, 3, none⟩ (.int .i64 o.tn)) (w.heap.size + 2) 34 #[.slice B0 o.ts.length d0, .slice B1 o.ks.length d1, .slice B2 o.fs.length d2, .int .i64 o.tn, .bool false] := kR.set_ 3 (.int .i64 o.tn)
  replace rC := rC.store (p := ⟨w.heap.size + 2, 3, none⟩) (show w.heap.size + 2 < W7.heap.size ∨ W8.heap.size ≤ w.heap.size + 2 by omega) (.int .i64 o.tn)
  replace G : Below w.heap.size w (W11.setCell ⟨w.heap.size + 2, 3, none⟩ (.int .i64 o.tn)) := Below.setCell G (show w.heap.size ≤ w.heap.size + 2 by omega) _
  have z12 : (W11.setCell ⟨w.heap.size + 2, 3, none⟩ (.int .i64 o.tn)).heap.size = W11.heap.size := by simp [World.setCell]
  generalize W11.setCell ⟨w.heap.size + 2, 3, none⟩ (.int .i64 o.tn) = W12 at kP kX kR kS rC G z12 ⊢
  replace kP := kP.far (p := ⟨w.heap.size + 2, 4, none⟩) (show w.heap.size ≠ w.heap.size + 2 by omega) (.bool o.st)
  replace kX := kX.far (p := ⟨w.heap.size + 2, 4, none⟩) (show w.heap.size + 1 ≠ w.heap.size + 2 by omega) (.bool o.st)
  replace kS := kS.far (p := ⟨w.heap.size + 2, 4, none⟩) (show w.heap.size + 3 ≠ w.heap.size + 2 by omega) (.bool o.st)
  replace kR : Blk (W12.setCell ⟨w.heap.size + 2, 4, none⟩ (.bool o.st)) (w.heap.size + 2) 34 #[.slice B0 o.ts.length d0, .slice B1 o.ks.length d1, .slice B2 o.fs.length d2, .int .i64 o.tn, .bool o.st] := kR.set_ 4 (.bool o.st)
  replace rC := rC.store (p := ⟨w.heap.size + 2, 4, none⟩) (show w.heap.size + 2 < W7.heap.size ∨ W8.heap.size ≤ w.heap.size + 2 by omega) (.bool o.st)
  replace G : Below w.heap.size w (W12.setCell ⟨w.heap.size + 2, 4, none⟩ (.bool o.st)) := Below.setCell G (show w.heap.size ≤ w.heap.size + 2 by omega) _
  have z13 : (W12.setCell ⟨w.heap.size + 2, 4, none⟩ (.bool o.st)).heap.size = W12.heap.size := by simp [World.setCell]
  generalize W12.setCell ⟨w.heap.size + 2, 4, none⟩ (.bool o.st) = W13 at kP kX kR kS rC G z13 ⊢
  replace kP := kP.far (p := ⟨w.heap.size + 3, 0, none⟩) (show w.heap.size ≠ w.heap.size + 3 by omega) (.int .i64 o.rp)
  replace kX := kX.far (p := ⟨w.heap.size + 3, 0, none⟩) (show w.heap.size + 1 ≠ w.heap.size + 3 by omega) (.int .i64 o.rp)
  replace kR := kR.far (p := ⟨w.heap.size + 3, 0, none⟩) (show w.heap.size + 2 ≠ w.heap.size + 3 by omega) (.int .i64 o.rp)
  replace kS : Blk (W13.setCell ⟨w.heap.size + 3, 0, none⟩ (.int .i64 o.rp)) (w.heap.size + 3) 65 #[.int .i64 o.rp, .int .i64 0] := kS.set_ 0 (.int .i64 o.rp)
  replace rC := rC.store (p := ⟨w.heap.size + 3, 0, none⟩) (show w.heap.size + 3 < W7.heap.size ∨ W8.heap.size ≤ w.heap.size + 3 by omega) (.int .i64 o.rp)
  replace G : Below w.heap.size w (W13.setCell ⟨w.heap.size + 3, 0, none⟩ (.int .i64 o.rp)) := Below.setCell G (show w.heap.size ≤ w.heap.size + 3 by omega) _
  have z14 : (W13.setCell ⟨w.heap.size + 3, 0, none⟩ (.int .i64 o.rp)).heap.size = W13.heap.size := by simp [World.setCell]
  generalize W13.setCell ⟨w.heap.size + 3, 0, none⟩ (.int .i64 o.rp) = W14 at kP kX kR kS rC G z14 ⊢
  replace kP := kP.far (p := ⟨w.heap.size + 3, 1, none⟩) (show w.heap.size ≠ w.heap.size + 3 by omega) (.int .i64 o.ou)
  replace kX := kX.far (p := ⟨w.heap.size + 3, 1, none⟩) (show w.heap.size + 1 ≠ w.heap.size + 3 by omega) (.int .i64 o.ou)
  replace kR := kR.far (p := ⟨w.heap.size + 3, 1, none⟩) (show w.heap.size + 2 ≠ w.heap.size + 3 by omega) (.int .i64 o.ou)
  replace kS : Blk (W14.setCell ⟨w.heap.size + 3, 1, none⟩ (.int .i64 o.ou)) (w.heap.size + 3) 65 #[.int .i64 o.rp, .int .i64 o.ou] := kS.set_ 1 (.int .i64 o.ou)
  replace rC := rC.store (p := ⟨w.heap.size + 3, 1, none⟩) (show w.heap.size + 3 < W7.heap.size ∨ W8.heap.size ≤ w.heap.size + 3 by omega) (.int .i64 o.ou)
  replace G : Below w.heap.size w (W14.setCell ⟨w.heap.size + 3, 1, none⟩ (.int .i64 o.ou)) := Below.setCell G (show w.heap.size ≤ w.heap.size + 3 by omega) _
  have z15 : (W14.setCell ⟨w.heap.size + 3, 1, none⟩ (.int .i64 o.ou)).heap.size = W14.heap.size := by simp [World.setCell]
  generalize W14.setCell ⟨w.heap.size + 3, 1, none⟩ (.int .i64 o.ou) = W15 at kP kX kR kS rC G z15 ⊢
  obtain ⟨tR, qR0, qR1, qR2, qR3, qR4⟩ := kR.q5
  obtain ⟨tS, qS0, qS1⟩ := kS.q2
  exact bodyPost_ret (v := .tuple #[.agg #[.slice B0 o.ts.length d0, .slice B1 o.ks.length d1, .slice B2 o.fs.length d2, .int .i64 o.tn, .bool o.st], .agg #[.int .i64 o.rp, .int .i64 o.ou]]) (by simp [results, Try.results141, go_sem, qR0, qR1, qR2, qR3, qR4, qS0, qS1]) rfl ⟨B0, B1, B2, d0, d1, d2, rfl, rC.wide (by omega) (by omega), G⟩

set_option maxRecDepth 100000 in
set_option maxHeartbeats 4000000 in
theorem leveled_gone (a b c d e : Int) (ts : List T7) (ks : List Int) (fs : List F2) (A0 A1 A2 : Option Addr) (c0 c1 c2 : Nat) (tn : Int) (st : Bool) (wk id lv : Int) (w : World) (ht : ts.length ≤ 1048576) (hk : ks.length ≤ 1048576) (hf : fs.length ≤ 1048576) (h : InPool w ts ks fs A0 A1 A2) (k : Nat) (s l o1 wt on v t : Int) (hid : id = k) (hts : ts[k]? = some ⟨s, l, o1, wt, on, v, t⟩) (hm : mayB a b c d e ts ks fs tn wk = true) (hh : btw id 0 (ts.length - 1) = true) (hl : levelB a b c d e lv = true) (ho : openB s = false) : Calls Try.prog 141 #[.agg #[.int .i64 a, .int .i64 b, .int .i64 c, .int .i64 d, .int .i64 e], .agg #[.slice A0 ts.length c0, .slice A1 ks.length c1, .slice A2 fs.length c2, .int .i64 tn, .bool st], .int .i64 wk, .int .i64 id, .int .i64 lv] w (GaveO w.heap.size w (noO (poolB a b c d e ts ks fs tn) ts ks fs tn st 5)) := by
  have H := hide h
  clear h
  have hNo : Hid (∀ V, InPool V ts ks fs A0 A1 A2 → Calls Try.prog 91 #[.agg #[.int .i64 a, .int .i64 b, .int .i64 c, .int .i64 d, .int .i64 e], .agg #[.slice A0 ts.length c0, .slice A1 ks.length c1, .slice A2 fs.length c2, .int .i64 tn, .bool st], .int .i64 5] V (GaveO V.heap.size V (noO (poolB a b c d e ts ks fs tn) ts ks fs tn st 5))) := hide (fun V hV => l6No_any a b c d e ts ks fs A0 A1 A2 c0 c1 c2 tn st 5 V ht hk hf hV)
  generalize noO (poolB a b c d e ts ks fs tn) ts ks fs tn st 5 = o at hNo ⊢
  subst hid
  have hkl : k < ts.length := by
    rcases Nat.lt_or_ge k ts.length with h1 | h1
    · exact h1
    · rw [List.getElem?_eq_none h1] at hts; cases hts
  obtain ⟨b', off, x0, x1, x2, x3, x4, x5, x6, rfl, _, he, hb', y0, y1, y2, y3, y4, y5, y6⟩ := H.out.1.ts_at hkl
  rw [hts] at he
  injection he with he
  injection he with u0 u1 u2 u3 u4 u5 u6
  subst u0 u1 u2 u3 u4 u5 u6
  have HY := hide (⟨hm, hh, hl, hts⟩ : _ ∧ _ ∧ _ ∧ _)
  clear hm hh hl hts
  have HO := hide ho
  clear ho
  go_enter Try.func141, Try.ntmps141
  go_wp2_with fail
  have G := Below.refl w.heap.size w
  have kP := Blk.new w 28 #[.int .i64 a, .int .i64 b, .int .i64 c, .int .i64 d, .int .i64 e]
  have hbs := G.size
  replace G := G.alloc (by omega) (.cells #[.int .i64 a, .int .i64 b, .int .i64 c, .int .i64 d, .int .i64 e] 28)
  have z1 : (w.alloc (.cells #[.int .i64 a, .int .i64 b, .int .i64 c, .int .i64 d, .int .i64 e] 28)).heap.size = w.heap.size + 1 := by simp
  clear hbs
  generalize w.alloc (.cells #[.int .i64 a, .int .i64 b, .int .i64 c, .int .i64 d, .int .i64 e] 28) = W1 at kP G z1 ⊢
  have kX : Blk (W1.alloc (.cells #[.slice (some ⟨b', off, none⟩) ts.length c0, .slice A1 ks.length c1, .slice A2 fs.length c2, .int .i64 tn, .bool st] 34)) (w.heap.size + 1) 34 #[.slice (some ⟨b', off, none⟩) ts.length c0, .slice A1 ks.length c1, .slice A2 fs.length c2, .int .i64 tn, .bool st] := by
    have h := Blk.new W1 34 #[.slice (some ⟨b', off, none⟩) ts.length c0, .slice A1 ks.length c1, .slice A2 fs.length c2, .int .i64 tn, .bool st]
    rw [show W1.heap.size = w.heap.size + 1 by omega] at h
    exact h
  replace kP := kP.alloc (.cells #[.slice (some ⟨b', off, none⟩) ts.length c0, .slice A1 ks.length c1, .slice A2 fs.length c2, .int .i64 tn, .bool st] 34)
  have hbs := G.size
  replace G := G.alloc (by omega) (.cells #[.slice (some ⟨b', off, none⟩) ts.length c0, .slice A1 ks.length c1, .slice A2 fs.length c2, .int .i64 tn, .bool st] 34)
  have z2 : (W1.alloc (.cells #[.slice (some ⟨b', off, none⟩) ts.length c0, .slice A1 ks.length c1, .slice A2 fs.length c2, .int .i64 tn, .bool st] 34)).heap.size = W1.heap.size + 1 := by simp
  clear hbs
  generalize W1.alloc (.cells #[.slice (some ⟨b', off, none⟩) ts.length c0, .slice A1 ks.length c1, .slice A2 fs.length c2, .int .i64 tn, .bool st] 34) = W2 at kP kX G z2 ⊢
  have kR : Blk (W2.alloc (.cells #[.slice none 0 0, .slice none 0 0, .slice none 0 0, .int .i64 0, .bool false] 34)) (w.heap.size + 2) 34 #[.slice none 0 0, .slice none 0 0, .slice none 0 0, .int .i64 0, .bool false] := by
    have h := Blk.new W2 34 #[.slice none 0 0, .slice none 0 0, .slice none 0 0, .int .i64 0, .bool false]
    rw [show W2.heap.size = w.heap.size + 2 by omega] at h
    exact h
  replace kP := kP.alloc (.cells #[.slice none 0 0, .slice none 0 0, .slice none 0 0, .int .i64 0, .bool false] 34)
  replace kX := kX.alloc (.cells #[.slice none 0 0, .slice none 0 0, .slice none 0 0, .int .i64 0, .bool false] 34)
  have hbs := G.size
  replace G := G.alloc (by omega) (.cells #[.slice none 0 0, .slice none 0 0, .slice none 0 0, .int .i64 0, .bool false] 34)
  have z3 : (W2.alloc (.cells #[.slice none 0 0, .slice none 0 0, .slice none 0 0, .int .i64 0, .bool false] 34)).heap.size = W2.heap.size + 1 := by simp
  clear hbs
  generalize W2.alloc (.cells #[.slice none 0 0, .slice none 0 0, .slice none 0 0, .int .i64 0, .bool false] 34) = W3 at kP kX kR G z3 ⊢
  have kS : Blk (W3.alloc (.cells #[.int .i64 0, .int .i64 0] 65)) (w.heap.size + 3) 65 #[.int .i64 0, .int .i64 0] := by
    have h := Blk.new W3 65 #[.int .i64 0, .int .i64 0]
    rw [show W3.heap.size = w.heap.size + 3 by omega] at h
    exact h
  replace kP := kP.alloc (.cells #[.int .i64 0, .int .i64 0] 65)
  replace kX := kX.alloc (.cells #[.int .i64 0, .int .i64 0] 65)
  replace kR := kR.alloc (.cells #[.int .i64 0, .int .i64 0] 65)
  have hbs := G.size
  replace G := G.alloc (by omega) (.cells #[.int .i64 0, .int .i64 0] 65)
  have z4 : (W3.alloc (.cells #[.int .i64 0, .int .i64 0] 65)).heap.size = W3.heap.size + 1 := by simp
  clear hbs
  generalize W3.alloc (.cells #[.int .i64 0, .int .i64 0] 65) = W4 at kP kX kR kS G z4 ⊢
  go_call (l6May_v a b c d e ts ks fs (some ⟨b', off, none⟩) A1 A2 c0 c1 c2 tn st wk true HY.out.1 _ ht hk hf (H.out.below G)) as r W5 ⟨rfl, g1⟩
  have hbs := G.size
  replace kP := kP.below g1 kP.lt
  replace kX := kX.below g1 kX.lt
  replace kR := kR.below g1 kR.lt
  replace kS := kS.below g1 kS.lt
  replace G := G.trans (g1.mono (by omega))
  have z5 := g1.size
  clear g1 hbs
  obtain ⟨tP, qP0, fP0, qP1, fP1, qP2, fP2, qP3, fP3, qP4, fP4⟩ := kP.f5
  obtain ⟨tX, qX0, fX0, qX1, fX1, qX2, fX2, qX3, fX3, qX4, fX4⟩ := kX.f5
  obtain ⟨tR, qR0, fR0, qR1, fR1, qR2, fR2, qR3, fR3, qR4, fR4⟩ := kR.f5
  obtain ⟨tS, qS0, fS0, qS1, fS1⟩ := kS.f2
  go_wp2_with fail
  go_call (l5Has_v ts (some ⟨b', off, none⟩) A1 A2 c0 ks.length c1 fs.length c2 tn st k true HY.out.2.1 _ ht) as r W6 ⟨rfl, g1⟩
  clear tP qP0 fP0 qP1 fP1 qP2 fP2 qP3 fP3 qP4 fP4 tX qX0 fX0 qX1 fX1 qX2 fX2 qX3 fX3 qX4 fX4 tR qR0 fR0 qR1 fR1 qR2 fR2 qR3 fR3 qR4 fR4 tS qS0 fS0 qS1 fS1
  have hbs := G.size
  replace kP := kP.below g1 kP.lt
  replace kX := kX.below g1 kX.lt
  replace kR := kR.below g1 kR.lt
  replace kS := kS.below g1 kS.lt
  replace G := G.trans (g1.mono (by omega))
  have z6 := g1.size
  clear g1 hbs
  obtain ⟨tP, qP0, fP0, qP1, fP1, qP2, fP2, qP3, fP3, qP4, fP4⟩ := kP.f5
  obtain ⟨tX, qX0, fX0, qX1, fX1, qX2, fX2, qX3, fX3, qX4, fX4⟩ := kX.f5
  obtain ⟨tR, qR0, fR0, qR1, fR1, qR2, fR2, qR3, fR3, qR4, fR4⟩ := kR.f5
  obtain ⟨tS, qS0, fS0, qS1, fS1⟩ := kS.f2
  go_wp2_with fail
  go_call (sLevelIn_v a b c d e lv true HY.out.2.2.1 _) as r W7 ⟨rfl, g1⟩
  clear tP qP0 fP0 qP1 fP1 qP2 fP2 qP3 fP3 qP4 fP4 tX qX0 fX0 qX1 fX1 qX2 fX2 qX3 fX3 qX4 fX4 tR qR0 fR0 qR1 fR1 qR2 fR2 qR3 fR3 qR4 fR4 tS qS0 fS0 qS1 fS1
  have hbs := G.size
  replace kP := kP.below g1 kP.lt
  replace kX := kX.below g1 kX.lt
  replace kR := kR.below g1 kR.lt
  replace kS := kS.below g1 kS.lt
  replace G := G.trans (g1.mono (by omega))
  have z7 := g1.size
  clear g1 hbs
  obtain ⟨tP, qP0, fP0, qP1, fP1, qP2, fP2, qP3, fP3, qP4, fP4⟩ := kP.f5
  obtain ⟨tX, qX0, fX0, qX1, fX1, qX2, fX2, qX3, fX3, qX4, fX4⟩ := kX.f5
  obtain ⟨tR, qR0, fR0, qR1, fR1, qR2, fR2, qR3, fR3, qR4, fR4⟩ := kR.f5
  obtain ⟨tS, qS0, fS0, qS1, fS1⟩ := kS.f2
  have ye0 : W7.cell? ⟨b', off + k * 7, none⟩ = some (.int .i64 s) := ((bcell G).1 _ _ hb').trans y0
  have ye1 : W7.cell? ⟨b', off + k * 7 + 1, none⟩ = some (.int .i64 l) := ((bcell G).1 _ _ hb').trans y1
  have ye2 : W7.cell? ⟨b', off + k * 7 + 2, none⟩ = some (.int .i64 o1) := ((bcell G).1 _ _ hb').trans y2
  have ye3 : W7.cell? ⟨b', off + k * 7 + 3, none⟩ = some (.int .i64 wt) := ((bcell G).1 _ _ hb').trans y3
  have ye4 : W7.cell? ⟨b', off + k * 7 + 4, none⟩ = some (.int .i64 on) := ((bcell G).1 _ _ hb').trans y4
  have ye5 : W7.cell? ⟨b', off + k * 7 + 5, none⟩ = some (.int .i64 v) := ((bcell G).1 _ _ hb').trans y5
  have ye6 : W7.cell? ⟨b', off + k * 7 + 6, none⟩ = some (.int .i64 t) := ((bcell G).1 _ _ hb').trans y6
  go_wp2_with fail
  go_call (sIsOpen_any s l o1 wt on v t _) as r W8 ⟨rfl, g1⟩
  clear tP qP0 fP0 qP1 fP1 qP2 fP2 qP3 fP3 qP4 fP4 tX qX0 fX0 qX1 fX1 qX2 fX2 qX3 fX3 qX4 fX4 tR qR0 fR0 qR1 fR1 qR2 fR2 qR3 fR3 qR4 fR4 tS qS0 fS0 qS1 fS1
  have hbs := G.size
  replace kP := kP.below g1 kP.lt
  replace kX := kX.below g1 kX.lt
  replace kR := kR.below g1 kR.lt
  replace kS := kS.below g1 kS.lt
  replace G := G.trans (g1.mono (by omega))
  have z8 := g1.size
  clear g1 hbs
  clear ye0 ye1 ye2 ye3 ye4 ye5 ye6
  rw [HO.out]
  obtain ⟨tP, qP0, fP0, qP1, fP1, qP2, fP2, qP3, fP3, qP4, fP4⟩ := kP.f5
  obtain ⟨tX, qX0, fX0, qX1, fX1, qX2, fX2, qX3, fX3, qX4, fX4⟩ := kX.f5
  obtain ⟨tR, qR0, fR0, qR1, fR1, qR2, fR2, qR3, fR3, qR4, fR4⟩ := kR.f5
  obtain ⟨tS, qS0, fS0, qS1, fS1⟩ := kS.f2
  go_wp2_with fail
  go_call (hNo.out _ (H.out.below G)) as r W9 ⟨B0, B1, B2, d0, d1, d2, rfl, own, g1⟩
  clear tP qP0 fP0 qP1 fP1 qP2 fP2 qP3 fP3 qP4 fP4 tX qX0 fX0 qX1 fX1 qX2 fX2 qX3 fX3 qX4 fX4 tR qR0 fR0 qR1 fR1 qR2 fR2 qR3 fR3 qR4 fR4 tS qS0 fS0 qS1 fS1
  have hbs := G.size
  replace kP := kP.below g1 kP.lt
  replace kX := kX.below g1 kX.lt
  replace kR := kR.below g1 kR.lt
  replace kS := kS.below g1 kS.lt
  replace G := G.trans (g1.mono (by omega))
  have z9 := g1.size
  clear g1 hbs
  have rC := own
  clear own
  obtain ⟨tP, qP0, fP0, qP1, fP1, qP2, fP2, qP3, fP3, qP4, fP4⟩ := kP.f5
  obtain ⟨tX, qX0, fX0, qX1, fX1, qX2, fX2, qX3, fX3, qX4, fX4⟩ := kX.f5
  obtain ⟨tR, qR0, fR0, qR1, fR1, qR2, fR2, qR3, fR3, qR4, fR4⟩ := kR.f5
  obtain ⟨tS, qS0, fS0, qS1, fS1⟩ := kS.f2
  go_wp2_with fail
  clear tP qP0 fP0 qP1 fP1 qP2 fP2 qP3 fP3 qP4 fP4 tX qX0 fX0 qX1 fX1 qX2 fX2 qX3 fX3 qX4 fX4 tR qR0 fR0 qR1 fR1 qR2 fR2 qR3 fR3 qR4 fR4 tS qS0 fS0 qS1 fS1
  replace kP := kP.far (p := ⟨w.heap.size + 2, 0, none⟩) (show w.heap.size ≠ w.heap.size + 2 by omega) (.slice B0 o.ts.length d0)
  replace kX := kX.far (p := ⟨w.heap.size + 2, 0, none⟩) (show w.heap.size + 1 ≠ w.heap.size + 2 by omega) (.slice B0 o.ts.length d0)
  replace kS := kS.far (p := ⟨w.heap.size + 2, 0, none⟩) (show w.heap.size + 3 ≠ w.heap.size + 2 by omega) (.slice B0 o.ts.length d0)
  replace kR : Blk (W9.setCell ⟨w.heap.size + 2, 0, none⟩ (.slice B0 o.ts.length d0)) (w.heap.size + 2) 34 #[.slice B0 o.ts.length d0, .slice none 0 0, .slice none 0 0, .int .i64 0, .bool false] := kR.set_ 0 (.slice B0 o.ts.length d0)
  replace rC := rC.store (p := ⟨w.heap.size + 2, 0, none⟩) (show w.heap.size + 2 < W8.heap.size ∨ W9.heap.size ≤ w.heap.size + 2 by omega) (.slice B0 o.ts.length d0)
  replace G : Below w.heap.size w (W9.setCell ⟨w.heap.size + 2, 0, none⟩ (.slice B0 o.ts.length d0)) := Below.setCell G (show w.heap.size ≤ w.heap.size + 2 by omega) _
  have z10 : (W9.setCell ⟨w.heap.size + 2, 0, none⟩ (.slice B0 o.ts.length d0)).heap.size = W9.heap.size := by simp [World.setCell]
  generalize W9.setCell ⟨w.heap.size + 2, 0, none⟩ (.slice B0 o.ts.length d0) = W10 at kP kX kR kS rC G z10 ⊢
  replace kP := kP.far (p := ⟨w.heap.size + 2, 1, none⟩) (show w.heap.size ≠ w.heap.size + 2 by omega) (.slice B1 o.ks.length d1)
  replace kX := kX.far (p := ⟨w.heap.size + 2, 1, none⟩) (show w.heap.size + 1 ≠ w.heap.size + 2 by omega) (.slice B1 o.ks.length d1)
  replace kS := kS.far (p := ⟨w.heap.size + 2, 1, none⟩) (show w.heap.size + 3 ≠ w.heap.size + 2 by omega) (.slice B1 o.ks.length d1)
  replace kR : Blk (W10.setCell ⟨w.heap.size + 2, 1, none⟩ (.slice B1 o.ks.length d1)) (w.heap.size + 2) 34 #[.slice B0 o.ts.length d0, .slice B1 o.ks.length d1, .slice none 0 0, .int .i64 0, .bool false] := kR.set_ 1 (.slice B1 o.ks.length d1)
  replace rC := rC.store (p := ⟨w.heap.size + 2, 1, none⟩) (show w.heap.size + 2 < W8.heap.size ∨ W9.heap.size ≤ w.heap.size + 2 by omega) (.slice B1 o.ks.length d1)
  replace G : Below w.heap.size w (W10.setCell ⟨w.heap.size + 2, 1, none⟩ (.slice B1 o.ks.length d1)) := Below.setCell G (show w.heap.size ≤ w.heap.size + 2 by omega) _
  have z11 : (W10.setCell ⟨w.heap.size + 2, 1, none⟩ (.slice B1 o.ks.length d1)).heap.size = W10.heap.size := by simp [World.setCell]
  generalize W10.setCell ⟨w.heap.size + 2, 1, none⟩ (.slice B1 o.ks.length d1) = W11 at kP kX kR kS rC G z11 ⊢
  replace kP := kP.far (p := ⟨w.heap.size + 2, 2, none⟩) (show w.heap.size ≠ w.heap.size + 2 by omega) (.slice B2 o.fs.length d2)
  replace kX := kX.far (p := ⟨w.heap.size + 2, 2, none⟩) (show w.heap.size + 1 ≠ w.heap.size + 2 by omega) (.slice B2 o.fs.length d2)
  replace kS := kS.far (p := ⟨w.heap.size + 2, 2, none⟩) (show w.heap.size + 3 ≠ w.heap.size + 2 by omega) (.slice B2 o.fs.length d2)
  replace kR : Blk (W11.setCell ⟨w.heap.size + 2, 2, none⟩ (.slice B2 o.fs.length d2)) (w.heap.size + 2) 34 #[.slice B0 o.ts.length d0, .slice B1 o.ks.length d1, .slice B2 o.fs.length d2, .int .i64 0, .bool false] := kR.set_ 2 (.slice B2 o.fs.length d2)
  replace rC := rC.store (p := ⟨w.heap.size + 2, 2, none⟩) (show w.heap.size + 2 < W8.heap.size ∨ W9.heap.size ≤ w.heap.size + 2 by omega) (.slice B2 o.fs.length d2)
  replace G : Below w.heap.size w (W11.setCell ⟨w.heap.size + 2, 2, none⟩ (.slice B2 o.fs.length d2)) := Below.setCell G (show w.heap.size ≤ w.heap.size + 2 by omega) _
  have z12 : (W11.setCell ⟨w.heap.size + 2, 2, none⟩ (.slice B2 o.fs.length d2)).heap.size = W11.heap.size := by simp [World.setCell]
  generalize W11.setCell ⟨w.heap.size + 2, 2, none⟩ (.slice B2 o.fs.length d2) = W12 at kP kX kR kS rC G z12 ⊢
  replace kP := kP.far (p := ⟨w.heap.size + 2, 3, none⟩) (show w.heap.size ≠ w.heap.size + 2 by omega) (.int .i64 o.tn)
  replace kX := kX.far (p := ⟨w.heap.size + 2, 3, none⟩) (show w.heap.size + 1 ≠ w.heap.size + 2 by omega) (.int .i64 o.tn)
  replace kS := kS.far (p := ⟨w.heap.size + 2, 3, none⟩) (show w.heap.size + 3 ≠ w.heap.size + 2 by omega) (.int .i64 o.tn)
  replace kR : Blk (W12.setCell ⟨w.heap.size + 2, 3, none⟩ (.int .i64 o.tn)) (w.heap.size + 2) 34 #[.slice B0 o.ts.length d0, .slice B1 o.ks.length d1, .slice B2 o.fs.length d2, .int .i64 o.tn, .bool false] := kR.set_ 3 (.int .i64 o.tn)
  replace rC := rC.store (p := ⟨w.heap.size + 2, 3, none⟩) (show w.heap.size + 2 < W8.heap.size ∨ W9.heap.size ≤ w.heap.size + 2 by omega) (.int .i64 o.tn)
  replace G : Below w.heap.size w (W12.setCell ⟨w.heap.size + 2, 3, none⟩ (.int .i64 o.tn)) := Below.setCell G (show w.heap.size ≤ w.heap.size + 2 by omega) _
  have z13 : (W12.setCell ⟨w.heap.size + 2, 3, none⟩ (.int .i64 o.tn)).heap.size = W12.heap.size := by simp [World.setCell]
  generalize W12.setCell ⟨w.heap.size + 2, 3, none⟩ (.int .i64 o.tn) = W13 at kP kX kR kS rC G z13 ⊢
  replace kP := kP.far (p := ⟨w.heap.size + 2, 4, none⟩) (show w.heap.size ≠ w.heap.size + 2 by omega) (.bool o.st)
  replace kX := kX.far (p := ⟨w.heap.size + 2, 4, none⟩) (show w.heap.size + 1 ≠ w.heap.size + 2 by omega) (.bool o.st)
  replace kS := kS.far (p := ⟨w.heap.size + 2, 4, none⟩) (show w.heap.size + 3 ≠ w.heap.size + 2 by omega) (.bool o.st)
  replace kR : Blk (W13.setCell ⟨w.heap.size + 2, 4, none⟩ (.bool o.st)) (w.heap.size + 2) 34 #[.slice B0 o.ts.length d0, .slice B1 o.ks.length d1, .slice B2 o.fs.length d2, .int .i64 o.tn, .bool o.st] := kR.set_ 4 (.bool o.st)
  replace rC := rC.store (p := ⟨w.heap.size + 2, 4, none⟩) (show w.heap.size + 2 < W8.heap.size ∨ W9.heap.size ≤ w.heap.size + 2 by omega) (.bool o.st)
  replace G : Below w.heap.size w (W13.setCell ⟨w.heap.size + 2, 4, none⟩ (.bool o.st)) := Below.setCell G (show w.heap.size ≤ w.heap.size + 2 by omega) _
  have z14 : (W13.setCell ⟨w.heap.size + 2, 4, none⟩ (.bool o.st)).heap.size = W13.heap.size := by simp [World.setCell]
  generalize W13.setCell ⟨w.heap.size + 2, 4, none⟩ (.bool o.st) = W14 at kP kX kR kS rC G z14 ⊢
  replace kP := kP.far (p := ⟨w.heap.size + 3, 0, none⟩) (show w.heap.size ≠ w.heap.size + 3 by omega) (.int .i64 o.rp)
  replace kX := kX.far (p := ⟨w.heap.size + 3, 0, none⟩) (show w.heap.size + 1 ≠ w.heap.size + 3 by omega) (.int .i64 o.rp)
  replace kR := kR.far (p := ⟨w.heap.size + 3, 0, none⟩) (show w.heap.size + 2 ≠ w.heap.size + 3 by omega) (.int .i64 o.rp)
  replace kS : Blk (W14.setCell ⟨w.heap.size + 3, 0, none⟩ (.int .i64 o.rp)) (w.heap.size + 3) 65 #[.int .i64 o.rp, .int .i64 0] := kS.set_ 0 (.int .i64 o.rp)
  replace rC := rC.store (p := ⟨w.heap.size + 3, 0, none⟩) (show w.heap.size + 3 < W8.heap.size ∨ W9.heap.size ≤ w.heap.size + 3 by omega) (.int .i64 o.rp)
  replace G : Below w.heap.size w (W14.setCell ⟨w.heap.size + 3, 0, none⟩ (.int .i64 o.rp)) := Below.setCell G (show w.heap.size ≤ w.heap.size + 3 by omega) _
  have z15 : (W14.setCell ⟨w.heap.size + 3, 0, none⟩ (.int .i64 o.rp)).heap.size = W14.heap.size := by simp [World.setCell]
  generalize W14.setCell ⟨w.heap.size + 3, 0, none⟩ (.int .i64 o.rp) = W15 at kP kX kR kS rC G z15 ⊢
  replace kP := kP.far (p := ⟨w.heap.size + 3, 1, none⟩) (show w.heap.size ≠ w.heap.size + 3 by omega) (.int .i64 o.ou)
  replace kX := kX.far (p := ⟨w.heap.size + 3, 1, none⟩) (show w.heap.size + 1 ≠ w.heap.size + 3 by omega) (.int .i64 o.ou)
  replace kR := kR.far (p := ⟨w.heap.size + 3, 1, none⟩) (show w.heap.size + 2 ≠ w.heap.size + 3 by omega) (.int .i64 o.ou)
  replace kS : Blk (W15.setCell ⟨w.heap.size + 3, 1, none⟩ (.int .i64 o.ou)) (w.heap.size + 3) 65 #[.int .i64 o.rp, .int .i64 o.ou] := kS.set_ 1 (.int .i64 o.ou)
  replace rC := rC.store (p := ⟨w.heap.size + 3, 1, none⟩) (show w.heap.size + 3 < W8.heap.size ∨ W9.heap.size ≤ w.heap.size + 3 by omega) (.int .i64 o.ou)
  replace G : Below w.heap.size w (W15.setCell ⟨w.heap.size + 3, 1, none⟩ (.int .i64 o.ou)) := Below.setCell G (show w.heap.size ≤ w.heap.size + 3 by omega) _
  have z16 : (W15.setCell ⟨w.heap.size + 3, 1, none⟩ (.int .i64 o.ou)).heap.size = W15.heap.size := by simp [World.setCell]
  generalize W15.setCell ⟨w.heap.size + 3, 1, none⟩ (.int .i64 o.ou) = W16 at kP kX kR kS rC G z16 ⊢
  obtain ⟨tR, qR0, qR1, qR2, qR3, qR4⟩ := kR.q5
  obtain ⟨tS, qS0, qS1⟩ := kS.q2
  exact bodyPost_ret (v := .tuple #[.agg #[.slice B0 o.ts.length d0, .slice B1 o.ks.length d1, .slice B2 o.fs.length d2, .int .i64 o.tn, .bool o.st], .agg #[.int .i64 o.rp, .int .i64 o.ou]]) (by simp [results, Try.results141, go_sem, qR0, qR1, qR2, qR3, qR4, qS0, qS1]) rfl ⟨B0, B1, B2, d0, d1, d2, rfl, rC.wide (by omega) (by omega), G⟩
end Go.Proofs.Ytgncjcnobojgbaa
