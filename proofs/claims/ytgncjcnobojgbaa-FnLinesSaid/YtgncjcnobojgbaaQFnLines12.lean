/- The model's ends of a call: a pool as it is beside a reply, or a pool that was changed where it is right. Lists no longer than a million. -/
import Derived.Test.YtgncjcnobojgbaaQFnLines08
import Derived.Test.YtgncjcnobojgbaaQFnLines10
import Derived.Test.YtgncjcnobojgbaaQFnLines11

namespace Go.Proofs.Ytgncjcnobojgbaa
open Go.RowKit
set_option linter.unusedVariables false

/-- A new pool and an answer. -/
def GavePA (w : World) (ts : List T7) (ks : List Int) (fs : List F2) (tn : Int) (st : Bool) (rp ou : Int) (r : Ending) (w' : World) : Prop :=
  ∃ (A0 A1 A2 : Option Addr) (c0 c1 c2 : Nat), r = .returned (.tuple #[.agg #[.slice A0 ts.length c0, .slice A1 ks.length c1, .slice A2 fs.length c2, .int .i64 tn, .bool st], .agg #[.int .i64 rp, .int .i64 ou]]) ∧ OwnPool w' w.heap.size w'.heap.size ts ks fs A0 A1 A2 c0 c1 c2 ∧ Below w.heap.size w w'
theorem sPoolOk_v (a b c d e : Int) (ts : List T7) (ks : List Int) (fs : List F2) (A0 A1 A2 : Option Addr) (c0 c1 c2 : Nat) (tn : Int) (st : Bool) (z : Bool) (hz : poolB a b c d e ts ks fs tn = z) (w : World) (ht : ts.length ≤ 1048576) (hk : ks.length ≤ 1048576) (hf : fs.length ≤ 1048576) (h : InPool w ts ks fs A0 A1 A2) :
    Calls Try.prog 21 #[.agg #[.int .i64 a, .int .i64 b, .int .i64 c, .int .i64 d, .int .i64 e], .agg #[.slice A0 ts.length c0, .slice A1 ks.length c1, .slice A2 fs.length c2, .int .i64 tn, .bool st]] w fun r w' => r = .returned (.bool z) ∧ Below w.heap.size w w' := hz ▸ sPoolOk_any a b c d e ts ks fs A0 A1 A2 c0 c1 c2 tn st w ht hk hf h

set_option maxRecDepth 100000 in
set_option maxHeartbeats 4000000 in
theorem l6No_yes (a b c d e : Int) (ts : List T7) (ks : List Int) (fs : List F2) (A0 A1 A2 : Option Addr) (c0 c1 c2 : Nat) (tn : Int) (st : Bool) (rp : Int) (w : World) (hz : poolB a b c d e ts ks fs tn = true) (ht : ts.length ≤ 1048576) (hk : ks.length ≤ 1048576) (hf : fs.length ≤ 1048576) (h : InPool w ts ks fs A0 A1 A2) :
    Calls Try.prog 91 #[.agg #[.int .i64 a, .int .i64 b, .int .i64 c, .int .i64 d, .int .i64 e], .agg #[.slice A0 ts.length c0, .slice A1 ks.length c1, .slice A2 fs.length c2, .int .i64 tn, .bool st], .int .i64 rp] w (GavePA w ts ks fs tn st rp 0) := by
  have H := hide h
  have HZ := hide hz
  clear h hz
  go_enter Try.func91, Try.ntmps91
  go_wp2_with fail
  have G := Below.refl w.heap.size w
  have kP := Blk.new w 28 #[.int .i64 a, .int .i64 b, .int .i64 c, .int .i64 d, .int .i64 e]
  have hbs := G.size
  replace G := G.alloc (by omega) (.cells #[.int .i64 a, .int .i64 b, .int .i64 c, .int .i64 d, .int .i64 e] 28)
  have z1 : (w.alloc (.cells #[.int .i64 a, .int .i64 b, .int .i64 c, .int .i64 d, .int .i64 e] 28)).heap.size = w.heap.size + 1 := by simp
  clear hbs
  generalize w.alloc (.cells #[.int .i64 a, .int .i64 b, .int .i64 c, .int .i64 d, .int .i64 e] 28) = W1 at kP G z1 ⊢
  have kX : Blk (W1.alloc (.cells #[.slice A0 ts.length c0, .slice A1 ks.length c1, .slice A2 fs.length c2, .int .i64 tn, .bool st] 34)) (w.heap.size + 1) 34 #[.slice A0 ts.length c0, .slice A1 ks.length c1, .slice A2 fs.length c2, .int .i64 tn, .bool st] := by
    have h := Blk.new W1 34 #[.slice A0 ts.length c0, .slice A1 ks.length c1, .slice A2 fs.length c2, .int .i64 tn, .bool st]
    rw [show W1.heap.size = w.heap.size + 1 by omega] at h
    exact h
  replace kP := kP.alloc (.cells #[.slice A0 ts.length c0, .slice A1 ks.length c1, .slice A2 fs.length c2, .int .i64 tn, .bool st] 34)
  have hbs := G.size
  replace G := G.alloc (by omega) (.cells #[.slice A0 ts.length c0, .slice A1 ks.length c1, .slice A2 fs.length c2, .int .i64 tn, .bool st] 34)
  have z2 : (W1.alloc (.cells #[.slice A0 ts.length c0, .slice A1 ks.length c1, .slice A2 fs.length c2, .int .i64 tn, .bool st] 34)).heap.size = W1.heap.size + 1 := by simp
  clear hbs
  generalize W1.alloc (.cells #[.slice A0 ts.length c0, .slice A1 ks.length c1, .slice A2 fs.length c2, .int .i64 tn, .bool st] 34) = W2 at kP kX G z2 ⊢
  have kR : Blk (W2.alloc (.cells #[.slice none 0 0, .slice none 0 0, .slice none 0 0, .int .i64 0, .bool false] 34)) (w.heap.size + 2) 34 #[.slice none 0 0, .slice none 0 0, .slice none 0 0, .int .i64 0, .bool false] := by
    have h := Blk.new W2 34 #[.slice none 0 0, .slice none 0 0, .slice none 0 0, .int .i64 0, .bool false]
    rw [show W2.heap.size = w.heap.size + 2 by omega] at h
    exact h
  replace kP := kP.alloc (.cells #[.slice none 0 0, .slice none 0 0, .slice none 0 0, .int .i64 0, .bool false] 34)
  replace kX := kX.alloc (.cells #[.slice none 0 0, .slice none 0 0, .slice none 0 0, .int .i64 0, .bool false] 34)
  have hbs := G.size
  replace G := G.alloc (by omega) (.cells #[.slice none 0 0, .slice none 0 0, .slice none 0 0, .int .i64 0, .bool false] 34)
  have z3 : (W2.alloc (.cells #[.slice none 0 0, .slice none 0 0, .slice none 0 0, .int .i64 0, .bool false] 34)).heap.size = W2.heap.size + 1 := by simp
  clear hbs
  generalize W2.alloc (.cells #[.slice none 0 0, .slice none 0 0, .slice none 0 0, .int .i64 0, .bool false] 34) = W3 at kP kX kR G z3 ⊢
  have kS : Blk (W3.alloc (.cells #[.int .i64 0, .int .i64 0] 65)) (w.heap.size + 3) 65 #[.int .i64 0, .int .i64 0] := by
    have h := Blk.new W3 65 #[.int .i64 0, .int .i64 0]
    rw [show W3.heap.size = w.heap.size + 3 by omega] at h
    exact h
  replace kP := kP.alloc (.cells #[.int .i64 0, .int .i64 0] 65)
  replace kX := kX.alloc (.cells #[.int .i64 0, .int .i64 0] 65)
  replace kR := kR.alloc (.cells #[.int .i64 0, .int .i64 0] 65)
  have hbs := G.size
  replace G := G.alloc (by omega) (.cells #[.int .i64 0, .int .i64 0] 65)
  have z4 : (W3.alloc (.cells #[.int .i64 0, .int .i64 0] 65)).heap.size = W3.heap.size + 1 := by simp
  clear hbs
  generalize W3.alloc (.cells #[.int .i64 0, .int .i64 0] 65) = W4 at kP kX kR kS G z4 ⊢
  go_call (sPoolOk_v a b c d e ts ks fs A0 A1 A2 c0 c1 c2 tn st true HZ.out _ ht hk hf (H.out.below G)) as r W5 ⟨rfl, g1⟩
  have hbs := G.size
  replace kP := kP.below g1 kP.lt
  replace kX := kX.below g1 kX.lt
  replace kR := kR.below g1 kR.lt
  replace kS := kS.below g1 kS.lt
  replace G := G.trans (g1.mono (by omega))
  have z5 := g1.size
  clear g1 hbs
  obtain ⟨tP, qP0, fP0, qP1, fP1, qP2, fP2, qP3, fP3, qP4, fP4⟩ := kP.f5
  obtain ⟨tX, qX0, fX0, qX1, fX1, qX2, fX2, qX3, fX3, qX4, fX4⟩ := kX.f5
  obtain ⟨tR, qR0, fR0, qR1, fR1, qR2, fR2, qR3, fR3, qR4, fR4⟩ := kR.f5
  obtain ⟨tS, qS0, fS0, qS1, fS1⟩ := kS.f2
  go_wp2_with fail
  go_call (l3Copy_any ts ks fs A0 A1 A2 c0 c1 c2 tn st _ ht hk hf (H.out.below G)) as r W6 ⟨B0, B1, B2, d0, d1, d2, rfl, own, g1⟩
  clear tP qP0 fP0 qP1 fP1 qP2 fP2 qP3 fP3 qP4 fP4 tX qX0 fX0 qX1 fX1 qX2 fX2 qX3 fX3 qX4 fX4 tR qR0 fR0 qR1 fR1 qR2 fR2 qR3 fR3 qR4 fR4 tS qS0 fS0 qS1 fS1
  have hbs := G.size
  replace kP := kP.below g1 kP.lt
  replace kX := kX.below g1 kX.lt
  replace kR := kR.below g1 kR.lt
  replace kS := kS.below g1 kS.lt
  replace G := G.trans (g1.mono (by omega))
  have z6 := g1.size
  clear g1 hbs
  have rC := own
  clear own
  obtain ⟨tP, qP0, fP0, qP1, fP1, qP2, fP2, qP3, fP3, qP4, fP4⟩ := kP.f5
  obtain ⟨tX, qX0, fX0, qX1, fX1, qX2, fX2, qX3, fX3, qX4, fX4⟩ := kX.f5
  obtain ⟨tR, qR0, fR0, qR1, fR1, qR2, fR2, qR3, fR3, qR4, fR4⟩ := kR.f5
  obtain ⟨tS, qS0, fS0, qS1, fS1⟩ := kS.f2
  go_wp2_with fail
  clear tP qP0 fP0 qP1 fP1 qP2 fP2 qP3 fP3 qP4 fP4 tX qX0 fX0 qX1 fX1 qX2 fX2 qX3 fX3 qX4 fX4 tR qR0 fR0 qR1 fR1 qR2 fR2 qR3 fR3 qR4 fR4 tS qS0 fS0 qS1 fS1
  replace kP := kP.far (p := ⟨w.heap.size + 2, 0, none⟩) (show w.heap.size ≠ w.heap.size + 2 by omega) (.slice B0 ts.length d0)
  replace kX := kX.far (p := ⟨w.heap.size + 2, 0, none⟩) (show w.heap.size + 1 ≠ w.heap.size + 2 by omega) (.slice B0 ts.length d0)
  replace kS := kS.far (p := ⟨w.heap.size + 2, 0, none⟩) (show w.heap.size + 3 ≠ w.heap.size + 2 by omega) (.slice B0 ts.length d0)
  replace kR : Blk (W6.setCell ⟨w.heap.size + 2, 0, none⟩ (.slice B0 ts.length d0)) (w.heap.size + 2) 34 #[.slice B0 ts.length d0, .slice none 0 0, .slice none 0 0, .int .i64 0, .bool false] := kR.set_ 0 (.slice B0 ts.length d0)
  replace rC := rC.store (p := ⟨w.heap.size + 2, 0, none⟩) (show w.heap.size + 2 < W5.heap.size ∨ W6.heap.size ≤ w.heap.size + 2 by omega) (.slice B0 ts.length d0)
  replace G : Below w.heap.size w (W6.setCell ⟨w.heap.size + 2, 0, none⟩ (.slice B0 ts.length d0)) := Below.setCell G (show w.heap.size ≤ w.heap.size + 2 by omega) _
  have z7 : (W6.setCell ⟨w.heap.size + 2, 0, none⟩ (.slice B0 ts.length d0)).heap.size = W6.heap.size := by simp [World.setCell]
  generalize W6.setCell ⟨w.heap.size + 2, 0, none⟩ (.slice B0 ts.length d0) = W7 at kP kX kR kS rC G z7 ⊢
  replace kP := kP.far (p := ⟨w.heap.size + 2, 1, none⟩) (show w.heap.size ≠ w.heap.size + 2 by omega) (.slice B1 ks.length d1)
  replace kX := kX.far (p := ⟨w.heap.size + 2, 1, none⟩) (show w.heap.size + 1 ≠ w.heap.size + 2 by omega) (.slice B1 ks.length d1)
  replace kS := kS.far (p := ⟨w.heap.size + 2, 1, none⟩) (show w.heap.size + 3 ≠ w.heap.size + 2 by omega) (.slice B1 ks.length d1)
  replace kR : Blk (W7.setCell ⟨w.heap.size + 2, 1, none⟩ (.slice B1 ks.length d1)) (w.heap.size + 2) 34 #[.slice B0 ts.length d0, .slice B1 ks.length d1, .slice none 0 0, .int .i64 0, .bool false] := kR.set_ 1 (.slice B1 ks.length d1)
  replace rC := rC.store (p := ⟨w.heap.size + 2, 1, none⟩) (show w.heap.size + 2 < W5.heap.size ∨ W6.heap.size ≤ w.heap.size + 2 by omega) (.slice B1 ks.length d1)
  replace G : Below w.heap.size w (W7.setCell ⟨w.heap.size + 2, 1, none⟩ (.slice B1 ks.length d1)) := Below.setCell G (show w.heap.size ≤ w.heap.size + 2 by omega) _
  have z8 : (W7.setCell ⟨w.heap.size + 2, 1, none⟩ (.slice B1 ks.length d1)).heap.size = W7.heap.size := by simp [World.setCell]
  generalize W7.setCell ⟨w.heap.size + 2, 1, none⟩ (.slice B1 ks.length d1) = W8 at kP kX kR kS rC G z8 ⊢
  replace kP := kP.far (p := ⟨w.heap.size + 2, 2, none⟩) (show w.heap.size ≠ w.heap.size + 2 by omega) (.slice B2 fs.length d2)
  replace kX := kX.far (p := ⟨w.heap.size + 2, 2, none⟩) (show w.heap.size + 1 ≠ w.heap.size + 2 by omega) (.slice B2 fs.length d2)
  replace kS := kS.far (p := ⟨w.heap.size + 2, 2, none⟩) (show w.heap.size + 3 ≠ w.heap.size + 2 by omega) (.slice B2 fs.length d2)
  replace kR : Blk (W8.setCell ⟨w.heap.size + 2, 2, none⟩ (.slice B2 fs.length d2)) (w.heap.size + 2) 34 #[.slice B0 ts.length d0, .slice B1 ks.length d1, .slice B2 fs.length d2, .int .i64 0, .bool false] := kR.set_ 2 (.slice B2 fs.length d2)
  replace rC := rC.store (p := ⟨w.heap.size + 2, 2, none⟩) (show w.heap.size + 2 < W5.heap.size ∨ W6.heap.size ≤ w.heap.size + 2 by omega) (.slice B2 fs.length d2)
  replace G : Below w.heap.size w (W8.setCell ⟨w.heap.size + 2, 2, none⟩ (.slice B2 fs.length d2)) := Below.setCell G (show w.heap.size ≤ w.heap.size + 2 by omega) _
  have z9 : (W8.setCell ⟨w.heap.size + 2, 2, none⟩ (.slice B2 fs.length d2)).heap.size = W8.heap.size := by simp [World.setCell]
  generalize W8.setCell ⟨w.heap.size + 2, 2, none⟩ (.slice B2 fs.length d2) = W9 at kP kX kR kS rC G z9 ⊢
  replace kP := kP.far (p := ⟨w.heap.size + 2, 3, none⟩) (show w.heap.size ≠ w.heap.size + 2 by omega) (.int .i64 tn)
  replace kX := kX.far (p := ⟨w.heap.size + 2, 3, none⟩) (show w.heap.size + 1 ≠ w.heap.size + 2 by omega) (.int .i64 tn)
  replace kS := kS.far (p := ⟨w.heap.size + 2, 3, none⟩) (show w.heap.size + 3 ≠ w.heap.size + 2 by omega) (.int .i64 tn)
  replace kR : Blk (W9.setCell ⟨w.heap.size + 2, 3, none⟩ (.int .i64 tn)) (w.heap.size + 2) 34 #[.slice B0 ts.length d0, .slice B1 ks.length d1, .slice B2 fs.length d2, .int .i64 tn, .bool false] := kR.set_ 3 (.int .i64 tn)
  replace rC := rC.store (p := ⟨w.heap.size + 2, 3, none⟩) (show w.heap.size + 2 < W5.heap.size ∨ W6.heap.size ≤ w.heap.size + 2 by omega) (.int .i64 tn)
  replace G : Below w.heap.size w (W9.setCell ⟨w.heap.size + 2, 3, none⟩ (.int .i64 tn)) := Below.setCell G (show w.heap.size ≤ w.heap.size + 2 by omega) _
  have z10 : (W9.setCell ⟨w.heap.size + 2, 3, none⟩ (.int .i64 tn)).heap.size = W9.heap.size := by simp [World.setCell]
  generalize W9.setCell ⟨w.heap.size + 2, 3, none⟩ (.int .i64 tn) = W10 at kP kX kR kS rC G z10 ⊢
  replace kP := kP.far (p := ⟨w.heap.size + 2, 4, none⟩) (show w.heap.size ≠ w.heap.size + 2 by omega) (.bool st)
  replace kX := kX.far (p := ⟨w.heap.size + 2, 4, none⟩) (show w.heap.size + 1 ≠ w.heap.size + 2 by omega) (.bool st)
  replace kS := kS.far (p := ⟨w.heap.size + 2, 4, none⟩) (show w.heap.size + 3 ≠ w.heap.size + 2 by omega) (.bool st)
  replace kR : Blk (W10.setCell ⟨w.heap.size + 2, 4, none⟩ (.bool st)) (w.heap.size + 2) 34 #[.slice B0 ts.length d0, .slice B1 ks.length d1, .slice B2 fs.length d2, .int .i64 tn, .bool st] := kR.set_ 4 (.bool st)
  replace rC := rC.store (p := ⟨w.heap.size + 2, 4, none⟩) (show w.heap.size + 2 < W5.heap.size ∨ W6.heap.size ≤ w.heap.size + 2 by omega) (.bool st)
  replace G : Below w.heap.size w (W10.setCell ⟨w.heap.size + 2, 4, none⟩ (.bool st)) := Below.setCell G (show w.heap.size ≤ w.heap.size + 2 by omega) _
  have z11 : (W10.setCell ⟨w.heap.size + 2, 4, none⟩ (.bool st)).heap.size = W10.heap.size := by simp [World.setCell]
  generalize W10.setCell ⟨w.heap.size + 2, 4, none⟩ (.bool st) = W11 at kP kX kR kS rC G z11 ⊢
  replace kP := kP.far (p := ⟨w.heap.size + 3, 0, none⟩) (show w.heap.size ≠ w.heap.size + 3 by omega) (.int .i64 rp)
  replace kX := kX.far (p := ⟨w.heap.size + 3, 0, none⟩) (show w.heap.size + 1 ≠ w.heap.size + 3 by omega) (.int .i64 rp)
  replace kR := kR.far (p := ⟨w.heap.size + 3, 0, none⟩) (show w.heap.size + 2 ≠ w.heap.size + 3 by omega) (.int .i64 rp)
  replace kS : Blk (W11.setCell ⟨w.heap.size + 3, 0, none⟩ (.int .i64 rp)) (w.heap.size + 3) 65 #[.int .i64 rp, .int .i64 0] := kS.set_ 0 (.int .i64 rp)
  replace rC := rC.store (p := ⟨w.heap.size + 3, 0, none⟩) (show w.heap.size + 3 < W5.heap.size ∨ W6.heap.size ≤ w.heap.size + 3 by omega) (.int .i64 rp)
  replace G : Below w.heap.size w (W11.setCell ⟨w.heap.size + 3, 0, none⟩ (.int .i64 rp)) := Below.setCell G (show w.heap.size ≤ w.heap.size + 3 by omega) _
  have z12 : (W11.setCell ⟨w.heap.size + 3, 0, none⟩ (.int .i64 rp)).heap.size = W11.heap.size := by simp [World.setCell]
  generalize W11.setCell ⟨w.heap.size + 3, 0, none⟩ (.int .i64 rp) = W12 at kP kX kR kS rC G z12 ⊢
  replace kP := kP.far (p := ⟨w.heap.size + 3, 1, none⟩) (show w.heap.size ≠ w.heap.size + 3 by omega) (.int .i64 0)
  replace kX := kX.far (p := ⟨w.heap.size + 3, 1, none⟩) (show w.heap.size + 1 ≠ w.heap.size + 3 by omega) (.int .i64 0)
  replace kR := kR.far (p := ⟨w.heap.size + 3, 1, none⟩) (show w.heap.size + 2 ≠ w.heap.size + 3 by omega) (.int .i64 0)
  replace kS : Blk (W12.setCell ⟨w.heap.size + 3, 1, none⟩ (.int .i64 0)) (w.heap.size + 3) 65 #[.int .i64 rp, .int .i64 0] := kS.set_ 1 (.int .i64 0)
  replace rC := rC.store (p := ⟨w.heap.size + 3, 1, none⟩) (show w.heap.size + 3 < W5.heap.size ∨ W6.heap.size ≤ w.heap.size + 3 by omega) (.int .i64 0)
  replace G : Below w.heap.size w (W12.setCell ⟨w.heap.size + 3, 1, none⟩ (.int .i64 0)) := Below.setCell G (show w.heap.size ≤ w.heap.size + 3 by omega) _
  have z13 : (W12.setCell ⟨w.heap.size + 3, 1, none⟩ (.int .i64 0)).heap.size = W12.heap.size := by simp [World.setCell]
  generalize W12.setCell ⟨w.heap.size + 3, 1, none⟩ (.int .i64 0) = W13 at kP kX kR kS rC G z13 ⊢
  obtain ⟨tR, qR0, qR1, qR2, qR3, qR4⟩ := kR.q5
  obtain ⟨tS, qS0, qS1⟩ := kS.q2
  exact bodyPost_ret (v := .tuple #[.agg #[.slice B0 ts.length d0, .slice B1 ks.length d1, .slice B2 fs.length d2, .int .i64 tn, .bool st], .agg #[.int .i64 rp, .int .i64 0]]) (by simp [results, Try.results91, go_sem, qR0, qR1, qR2, qR3, qR4, qS0, qS1]) rfl ⟨B0, B1, B2, d0, d1, d2, rfl, rC.wide (by omega) (by omega), G⟩

set_option maxRecDepth 100000 in
set_option maxHeartbeats 4000000 in
theorem l6No_no (a b c d e : Int) (ts : List T7) (ks : List Int) (fs : List F2) (A0 A1 A2 : Option Addr) (c0 c1 c2 : Nat) (tn : Int) (st : Bool) (rp : Int) (w : World) (hz : poolB a b c d e ts ks fs tn = false) (ht : ts.length ≤ 1048576) (hk : ks.length ≤ 1048576) (hf : fs.length ≤ 1048576) (h : InPool w ts ks fs A0 A1 A2) :
    Calls Try.prog 91 #[.agg #[.int .i64 a, .int .i64 b, .int .i64 c, .int .i64 d, .int .i64 e], .agg #[.slice A0 ts.length c0, .slice A1 ks.length c1, .slice A2 fs.length c2, .int .i64 tn, .bool st], .int .i64 rp] w (GavePA w [] [] [] 0 false 8 0) := by
  have H := hide h
  have HZ := hide hz
  clear h hz
  go_enter Try.func91, Try.ntmps91
  go_wp2_with fail
  have G := Below.refl w.heap.size w
  have kP := Blk.new w 28 #[.int .i64 a, .int .i64 b, .int .i64 c, .int .i64 d, .int .i64 e]
  have hbs := G.size
  replace G := G.alloc (by omega) (.cells #[.int .i64 a, .int .i64 b, .int .i64 c, .int .i64 d, .int .i64 e] 28)
  have z1 : (w.alloc (.cells #[.int .i64 a, .int .i64 b, .int .i64 c, .int .i64 d, .int .i64 e] 28)).heap.size = w.heap.size + 1 := by simp
  clear hbs
  generalize w.alloc (.cells #[.int .i64 a, .int .i64 b, .int .i64 c, .int .i64 d, .int .i64 e] 28) = W1 at kP G z1 ⊢
  have kX : Blk (W1.alloc (.cells #[.slice A0 ts.length c0, .slice A1 ks.length c1, .slice A2 fs.length c2, .int .i64 tn, .bool st] 34)) (w.heap.size + 1) 34 #[.slice A0 ts.length c0, .slice A1 ks.length c1, .slice A2 fs.length c2, .int .i64 tn, .bool st] := by
    have h := Blk.new W1 34 #[.slice A0 ts.length c0, .slice A1 ks.length c1, .slice A2 fs.length c2, .int .i64 tn, .bool st]
    rw [show W1.heap.size = w.heap.size + 1 by omega] at h
    exact h
  replace kP := kP.alloc (.cells #[.slice A0 ts.length c0, .slice A1 ks.length c1, .slice A2 fs.length c2, .int .i64 tn, .bool st] 34)
  have hbs := G.size
  replace G := G.alloc (by omega) (.cells #[.slice A0 ts.length c0, .slice A1 ks.length c1, .slice A2 fs.length c2, .int .i64 tn, .bool st] 34)
  have z2 : (W1.alloc (.cells #[.slice A0 ts.length c0, .slice A1 ks.length c1, .slice A2 fs.length c2, .int .i64 tn, .bool st] 34)).heap.size = W1.heap.size + 1 := by simp
  clear hbs
  generalize W1.alloc (.cells #[.slice A0 ts.length c0, .slice A1 ks.length c1, .slice A2 fs.length c2, .int .i64 tn, .bool st] 34) = W2 at kP kX G z2 ⊢
  have kR : Blk (W2.alloc (.cells #[.slice none 0 0, .slice none 0 0, .slice none 0 0, .int .i64 0, .bool false] 34)) (w.heap.size + 2) 34 #[.slice none 0 0, .slice none 0 0, .slice none 0 0, .int .i64 0, .bool false] := by
    have h := Blk.new W2 34 #[.slice none 0 0, .slice none 0 0, .slice none 0 0, .int .i64 0, .bool false]
    rw [show W2.heap.size = w.heap.size + 2 by omega] at h
    exact h
  replace kP := kP.alloc (.cells #[.slice none 0 0, .slice none 0 0, .slice none 0 0, .int .i64 0, .bool false] 34)
  replace kX := kX.alloc (.cells #[.slice none 0 0, .slice none 0 0, .slice none 0 0, .int .i64 0, .bool false] 34)
  have hbs := G.size
  replace G := G.alloc (by omega) (.cells #[.slice none 0 0, .slice none 0 0, .slice none 0 0, .int .i64 0, .bool false] 34)
  have z3 : (W2.alloc (.cells #[.slice none 0 0, .slice none 0 0, .slice none 0 0, .int .i64 0, .bool false] 34)).heap.size = W2.heap.size + 1 := by simp
  clear hbs
  generalize W2.alloc (.cells #[.slice none 0 0, .slice none 0 0, .slice none 0 0, .int .i64 0, .bool false] 34) = W3 at kP kX kR G z3 ⊢
  have kS : Blk (W3.alloc (.cells #[.int .i64 0, .int .i64 0] 65)) (w.heap.size + 3) 65 #[.int .i64 0, .int .i64 0] := by
    have h := Blk.new W3 65 #[.int .i64 0, .int .i64 0]
    rw [show W3.heap.size = w.heap.size + 3 by omega] at h
    exact h
  replace kP := kP.alloc (.cells #[.int .i64 0, .int .i64 0] 65)
  replace kX := kX.alloc (.cells #[.int .i64 0, .int .i64 0] 65)
  replace kR := kR.alloc (.cells #[.int .i64 0, .int .i64 0] 65)
  have hbs := G.size
  replace G := G.alloc (by omega) (.cells #[.int .i64 0, .int .i64 0] 65)
  have z4 : (W3.alloc (.cells #[.int .i64 0, .int .i64 0] 65)).heap.size = W3.heap.size + 1 := by simp
  clear hbs
  generalize W3.alloc (.cells #[.int .i64 0, .int .i64 0] 65) = W4 at kP kX kR kS G z4 ⊢
  go_call (sPoolOk_v a b c d e ts ks fs A0 A1 A2 c0 c1 c2 tn st false HZ.out _ ht hk hf (H.out.below G)) as r W5 ⟨rfl, g1⟩
  have hbs := G.size
  replace kP := kP.below g1 kP.lt
  replace kX := kX.below g1 kX.lt
  replace kR := kR.below g1 kR.lt
  replace kS := kS.below g1 kS.lt
  replace G := G.trans (g1.mono (by omega))
  have z5 := g1.size
  clear g1 hbs
  obtain ⟨tP, qP0, fP0, qP1, fP1, qP2, fP2, qP3, fP3, qP4, fP4⟩ := kP.f5
  obtain ⟨tX, qX0, fX0, qX1, fX1, qX2, fX2, qX3, fX3, qX4, fX4⟩ := kX.f5
  obtain ⟨tR, qR0, fR0, qR1, fR1, qR2, fR2, qR3, fR3, qR4, fR4⟩ := kR.f5
  obtain ⟨tS, qS0, fS0, qS1, fS1⟩ := kS.f2
  go_wp2_with fail
  clear tP qP0 fP0 qP1 fP1 qP2 fP2 qP3 fP3 qP4 fP4 tX qX0 fX0 qX1 fX1 qX2 fX2 qX3 fX3 qX4 fX4 tR qR0 fR0 qR1 fR1 qR2 fR2 qR3 fR3 qR4 fR4 tS qS0 fS0 qS1 fS1
  replace kP := kP.far (p := ⟨w.heap.size + 2, 0, none⟩) (show w.heap.size ≠ w.heap.size + 2 by omega) (.slice none 0 0)
  replace kX := kX.far (p := ⟨w.heap.size + 2, 0, none⟩) (show w.heap.size + 1 ≠ w.heap.size + 2 by omega) (.slice none 0 0)
  replace kS := kS.far (p := ⟨w.heap.size + 2, 0, none⟩) (show w.heap.size + 3 ≠ w.heap.size + 2 by omega) (.slice none 0 0)
  replace kR : Blk (W5.setCell ⟨w.heap.size + 2, 0, none⟩ (.slice none 0 0)) (w.heap.size + 2) 34 #[.slice none 0 0, .slice none 0 0, .slice none 0 0, .int .i64 0, .bool false] := kR.set_ 0 (.slice none 0 0)
  replace G : Below w.heap.size w (W5.setCell ⟨w.heap.size + 2, 0, none⟩ (.slice none 0 0)) := Below.setCell G (show w.heap.size ≤ w.heap.size + 2 by omega) _
  have z6 : (W5.setCell ⟨w.heap.size + 2, 0, none⟩ (.slice none 0 0)).heap.size = W5.heap.size := by simp [World.setCell]
  generalize W5.setCell ⟨w.heap.size + 2, 0, none⟩ (.slice none 0 0) = W6 at kP kX kR kS G z6 ⊢
  replace kP := kP.far (p := ⟨w.heap.size + 2, 1, none⟩) (show w.heap.size ≠ w.heap.size + 2 by omega) (.slice none 0 0)
  replace kX := kX.far (p := ⟨w.heap.size + 2, 1, none⟩) (show w.heap.size + 1 ≠ w.heap.size + 2 by omega) (.slice none 0 0)
  replace kS := kS.far (p := ⟨w.heap.size + 2, 1, none⟩) (show w.heap.size + 3 ≠ w.heap.size + 2 by omega) (.slice none 0 0)
  replace kR : Blk (W6.setCell ⟨w.heap.size + 2, 1, none⟩ (.slice none 0 0)) (w.heap.size + 2) 34 #[.slice none 0 0, .slice none 0 0, .slice none 0 0, .int .i64 0, .bool false] := kR.set_ 1 (.slice none 0 0)
  replace G : Below w.heap.size w (W6.setCell ⟨w.heap.size + 2, 1, none⟩ (.slice none 0 0)) := Below.setCell G (show w.heap.size ≤ w.heap.size + 2 by omega) _
  have z7 : (W6.setCell ⟨w.heap.size + 2, 1, none⟩ (.slice none 0 0)).heap.size = W6.heap.size := by simp [World.setCell]
  generalize W6.setCell ⟨w.heap.size + 2, 1, none⟩ (.slice none 0 0) = W7 at kP kX kR kS G z7 ⊢
  replace kP := kP.far (p := ⟨w.heap.size + 2, 2, none⟩) (show w.heap.size ≠ w.heap.size + 2 by omega) (.slice none 0 0)
  replace kX := kX.far (p := ⟨w.heap.size + 2, 2, none⟩) (show w.heap.size + 1 ≠ w.heap.size + 2 by omega) (.slice none 0 0)
  replace kS := kS.far (p := ⟨w.heap.size + 2, 2, none⟩) (show w.heap.size + 3 ≠ w.heap.size + 2 by omega) (.slice none 0 0)
  replace kR : Blk (W7.setCell ⟨w.heap.size + 2, 2, none⟩ (.slice none 0 0)) (w.heap.size + 2) 34 #[.slice none 0 0, .slice none 0 0, .slice none 0 0, .int .i64 0, .bool false] := kR.set_ 2 (.slice none 0 0)
  replace G : Below w.heap.size w (W7.setCell ⟨w.heap.size + 2, 2, none⟩ (.slice none 0 0)) := Below.setCell G (show w.heap.size ≤ w.heap.size + 2 by omega) _
  have z8 : (W7.setCell ⟨w.heap.size + 2, 2, none⟩ (.slice none 0 0)).heap.size = W7.heap.size := by simp [World.setCell]
  generalize W7.setCell ⟨w.heap.size + 2, 2, none⟩ (.slice none 0 0) = W8 at kP kX kR kS G z8 ⊢
  replace kP := kP.far (p := ⟨w.heap.size + 2, 3, none⟩) (show w.heap.size ≠ w.heap.size + 2 by omega) (.int .i64 0)
  replace kX := kX.far (p := ⟨w.heap.size + 2, 3, none⟩) (show w.heap.size + 1 ≠ w.heap.size + 2 by omega) (.int .i64 0)
  replace kS := kS.far (p := ⟨w.heap.size + 2, 3, none⟩) (show w.heap.size + 3 ≠ w.heap.size + 2 by omega) (.int .i64 0)
  replace kR : Blk (W8.setCell ⟨w.heap.size + 2, 3, none⟩ (.int .i64 0)) (w.heap.size + 2) 34 #[.slice none 0 0, .slice none 0 0, .slice none 0 0, .int .i64 0, .bool false] := kR.set_ 3 (.int .i64 0)
  replace G : Below w.heap.size w (W8.setCell ⟨w.heap.size + 2, 3, none⟩ (.int .i64 0)) := Below.setCell G (show w.heap.size ≤ w.heap.size + 2 by omega) _
  have z9 : (W8.setCell ⟨w.heap.size + 2, 3, none⟩ (.int .i64 0)).heap.size = W8.heap.size := by simp [World.setCell]
  generalize W8.setCell ⟨w.heap.size + 2, 3, none⟩ (.int .i64 0) = W9 at kP kX kR kS G z9 ⊢
  replace kP := kP.far (p := ⟨w.heap.size + 2, 4, none⟩) (show w.heap.size ≠ w.heap.size + 2 by omega) (.bool false)
  replace kX := kX.far (p := ⟨w.heap.size + 2, 4, none⟩) (show w.heap.size + 1 ≠ w.heap.size + 2 by omega) (.bool false)
  replace kS := kS.far (p := ⟨w.heap.size + 2, 4, none⟩) (show w.heap.size + 3 ≠ w.heap.size + 2 by omega) (.bool false)
  replace kR : Blk (W9.setCell ⟨w.heap.size + 2, 4, none⟩ (.bool false)) (w.heap.size + 2) 34 #[.slice none 0 0, .slice none 0 0, .slice none 0 0, .int .i64 0, .bool false] := kR.set_ 4 (.bool false)
  replace G : Below w.heap.size w (W9.setCell ⟨w.heap.size + 2, 4, none⟩ (.bool false)) := Below.setCell G (show w.heap.size ≤ w.heap.size + 2 by omega) _
  have z10 : (W9.setCell ⟨w.heap.size + 2, 4, none⟩ (.bool false)).heap.size = W9.heap.size := by simp [World.setCell]
  generalize W9.setCell ⟨w.heap.size + 2, 4, none⟩ (.bool false) = W10 at kP kX kR kS G z10 ⊢
  replace kP := kP.far (p := ⟨w.heap.size + 3, 0, none⟩) (show w.heap.size ≠ w.heap.size + 3 by omega) (.int .i64 8)
  replace kX := kX.far (p := ⟨w.heap.size + 3, 0, none⟩) (show w.heap.size + 1 ≠ w.heap.size + 3 by omega) (.int .i64 8)
  replace kR := kR.far (p := ⟨w.heap.size + 3, 0, none⟩) (show w.heap.size + 2 ≠ w.heap.size + 3 by omega) (.int .i64 8)
  replace kS : Blk (W10.setCell ⟨w.heap.size + 3, 0, none⟩ (.int .i64 8)) (w.heap.size + 3) 65 #[.int .i64 8, .int .i64 0] := kS.set_ 0 (.int .i64 8)
  replace G : Below w.heap.size w (W10.setCell ⟨w.heap.size + 3, 0, none⟩ (.int .i64 8)) := Below.setCell G (show w.heap.size ≤ w.heap.size + 3 by omega) _
  have z11 : (W10.setCell ⟨w.heap.size + 3, 0, none⟩ (.int .i64 8)).heap.size = W10.heap.size := by simp [World.setCell]
  generalize W10.setCell ⟨w.heap.size + 3, 0, none⟩ (.int .i64 8) = W11 at kP kX kR kS G z11 ⊢
  replace kP := kP.far (p := ⟨w.heap.size + 3, 1, none⟩) (show w.heap.size ≠ w.heap.size + 3 by omega) (.int .i64 0)
  replace kX := kX.far (p := ⟨w.heap.size + 3, 1, none⟩) (show w.heap.size + 1 ≠ w.heap.size + 3 by omega) (.int .i64 0)
  replace kR := kR.far (p := ⟨w.heap.size + 3, 1, none⟩) (show w.heap.size + 2 ≠ w.heap.size + 3 by omega) (.int .i64 0)
  replace kS : Blk (W11.setCell ⟨w.heap.size + 3, 1, none⟩ (.int .i64 0)) (w.heap.size + 3) 65 #[.int .i64 8, .int .i64 0] := kS.set_ 1 (.int .i64 0)
  replace G : Below w.heap.size w (W11.setCell ⟨w.heap.size + 3, 1, none⟩ (.int .i64 0)) := Below.setCell G (show w.heap.size ≤ w.heap.size + 3 by omega) _
  have z12 : (W11.setCell ⟨w.heap.size + 3, 1, none⟩ (.int .i64 0)).heap.size = W11.heap.size := by simp [World.setCell]
  generalize W11.setCell ⟨w.heap.size + 3, 1, none⟩ (.int .i64 0) = W12 at kP kX kR kS G z12 ⊢
  obtain ⟨tR, qR0, qR1, qR2, qR3, qR4⟩ := kR.q5
  obtain ⟨tS, qS0, qS1⟩ := kS.q2
  exact bodyPost_ret (v := .tuple #[.agg #[.slice none 0 0, .slice none 0 0, .slice none 0 0, .int .i64 0, .bool false], .agg #[.int .i64 8, .int .i64 0]]) (by simp [results, Try.results91, go_sem, qR0, qR1, qR2, qR3, qR4, qS0, qS1]) rfl ⟨none, none, none, 0, 0, 0, rfl, ⟨OwnR.nil_ _ _ _ _ _, OwnR.nil_ _ _ _ _ _, OwnR.nil_ _ _ _ _ _⟩, G⟩

set_option maxRecDepth 100000 in
set_option maxHeartbeats 4000000 in
theorem l6Done_yes (a b c d e : Int) (ts : List T7) (ks : List Int) (fs : List F2) (A0 A1 A2 : Option Addr) (c0 c1 c2 : Nat) (tn : Int) (st : Bool) (tsx : List T7) (ksx : List Int) (fsx : List F2) (A0x A1x A2x : Option Addr) (c0x c1x c2x : Nat) (tnx : Int) (stx : Bool) (rp ou : Int) (w : World) (ho : poolB a b c d e ts ks fs tn = true) (hz : poolB a b c d e tsx ksx fsx tnx = true) (ht : ts.length ≤ 1048576) (hk : ks.length ≤ 1048576) (hf : fs.length ≤ 1048576) (htx : tsx.length ≤ 1048576) (hkx : ksx.length ≤ 1048576) (hfx : fsx.length ≤ 1048576) (h : InPool w ts ks fs A0 A1 A2) (hx : InPool w tsx ksx fsx A0x A1x A2x) :
    Calls Try.prog 93 #[.agg #[.int .i64 a, .int .i64 b, .int .i64 c, .int .i64 d, .int .i64 e], .agg #[.slice A0 ts.length c0, .slice A1 ks.length c1, .slice A2 fs.length c2, .int .i64 tn, .bool st], .agg #[.slice A0x tsx.length c0x, .slice A1x ksx.length c1x, .slice A2x fsx.length c2x, .int .i64 tnx, .bool stx], .int .i64 rp, .int .i64 ou] w (fun r w' => r = .returned (.tuple #[.agg #[.slice A0x tsx.length c0x, .slice A1x ksx.length c1x, .slice A2x fsx.length c2x, .int .i64 tnx, .bool stx], .agg #[.int .i64 rp, .int .i64 ou]]) ∧ Below w.heap.size w w') := by
  have H := hide h
  have HX := hide hx
  have HZ := hide (⟨ho, hz⟩ : _ ∧ _)
  clear h hx ho hz
  go_enter Try.func93, Try.ntmps93
  go_wp2_with fail
  have G := Below.refl w.heap.size w
  have kP := Blk.new w 28 #[.int .i64 a, .int .i64 b, .int .i64 c, .int .i64 d, .int .i64 e]
  have hbs := G.size
  replace G := G.alloc (by omega) (.cells #[.int .i64 a, .int .i64 b, .int .i64 c, .int .i64 d, .int .i64 e] 28)
  have z1 : (w.alloc (.cells #[.int .i64 a, .int .i64 b, .int .i64 c, .int .i64 d, .int .i64 e] 28)).heap.size = w.heap.size + 1 := by simp
  clear hbs
  generalize w.alloc (.cells #[.int .i64 a, .int .i64 b, .int .i64 c, .int .i64 d, .int .i64 e] 28) = W1 at kP G z1 ⊢
  have kO : Blk (W1.alloc (.cells #[.slice A0 ts.length c0, .slice A1 ks.length c1, .slice A2 fs.length c2, .int .i64 tn, .bool st] 34)) (w.heap.size + 1) 34 #[.slice A0 ts.length c0, .slice A1 ks.length c1, .slice A2 fs.length c2, .int .i64 tn, .bool st] := by
    have h := Blk.new W1 34 #[.slice A0 ts.length c0, .slice A1 ks.length c1, .slice A2 fs.length c2, .int .i64 tn, .bool st]
    rw [show W1.heap.size = w.heap.size + 1 by omega] at h
    exact h
  replace kP := kP.alloc (.cells #[.slice A0 ts.length c0, .slice A1 ks.length c1, .slice A2 fs.length c2, .int .i64 tn, .bool st] 34)
  have hbs := G.size
  replace G := G.alloc (by omega) (.cells #[.slice A0 ts.length c0, .slice A1 ks.length c1, .slice A2 fs.length c2, .int .i64 tn, .bool st] 34)
  have z2 : (W1.alloc (.cells #[.slice A0 ts.length c0, .slice A1 ks.length c1, .slice A2 fs.length c2, .int .i64 tn, .bool st] 34)).heap.size = W1.heap.size + 1 := by simp
  clear hbs
  generalize W1.alloc (.cells #[.slice A0 ts.length c0, .slice A1 ks.length c1, .slice A2 fs.length c2, .int .i64 tn, .bool st] 34) = W2 at kP kO G z2 ⊢
  have kX : Blk (W2.alloc (.cells #[.slice A0x tsx.length c0x, .slice A1x ksx.length c1x, .slice A2x fsx.length c2x, .int .i64 tnx, .bool stx] 34)) (w.heap.size + 2) 34 #[.slice A0x tsx.length c0x, .slice A1x ksx.length c1x, .slice A2x fsx.length c2x, .int .i64 tnx, .bool stx] := by
    have h := Blk.new W2 34 #[.slice A0x tsx.length c0x, .slice A1x ksx.length c1x, .slice A2x fsx.length c2x, .int .i64 tnx, .bool stx]
    rw [show W2.heap.size = w.heap.size + 2 by omega] at h
    exact h
  replace kP := kP.alloc (.cells #[.slice A0x tsx.length c0x, .slice A1x ksx.length c1x, .slice A2x fsx.length c2x, .int .i64 tnx, .bool stx] 34)
  replace kO := kO.alloc (.cells #[.slice A0x tsx.length c0x, .slice A1x ksx.length c1x, .slice A2x fsx.length c2x, .int .i64 tnx, .bool stx] 34)
  have hbs := G.size
  replace G := G.alloc (by omega) (.cells #[.slice A0x tsx.length c0x, .slice A1x ksx.length c1x, .slice A2x fsx.length c2x, .int .i64 tnx, .bool stx] 34)
  have z3 : (W2.alloc (.cells #[.slice A0x tsx.length c0x, .slice A1x ksx.length c1x, .slice A2x fsx.length c2x, .int .i64 tnx, .bool stx] 34)).heap.size = W2.heap.size + 1 := by simp
  clear hbs
  generalize W2.alloc (.cells #[.slice A0x tsx.length c0x, .slice A1x ksx.length c1x, .slice A2x fsx.length c2x, .int .i64 tnx, .bool stx] 34) = W3 at kP kO kX G z3 ⊢
  have kR : Blk (W3.alloc (.cells #[.slice none 0 0, .slice none 0 0, .slice none 0 0, .int .i64 0, .bool false] 34)) (w.heap.size + 3) 34 #[.slice none 0 0, .slice none 0 0, .slice none 0 0, .int .i64 0, .bool false] := by
    have h := Blk.new W3 34 #[.slice none 0 0, .slice none 0 0, .slice none 0 0, .int .i64 0, .bool false]
    rw [show W3.heap.size = w.heap.size + 3 by omega] at h
    exact h
  replace kP := kP.alloc (.cells #[.slice none 0 0, .slice none 0 0, .slice none 0 0, .int .i64 0, .bool false] 34)
  replace kO := kO.alloc (.cells #[.slice none 0 0, .slice none 0 0, .slice none 0 0, .int .i64 0, .bool false] 34)
  replace kX := kX.alloc (.cells #[.slice none 0 0, .slice none 0 0, .slice none 0 0, .int .i64 0, .bool false] 34)
  have hbs := G.size
  replace G := G.alloc (by omega) (.cells #[.slice none 0 0, .slice none 0 0, .slice none 0 0, .int .i64 0, .bool false] 34)
  have z4 : (W3.alloc (.cells #[.slice none 0 0, .slice none 0 0, .slice none 0 0, .int .i64 0, .bool false] 34)).heap.size = W3.heap.size + 1 := by simp
  clear hbs
  generalize W3.alloc (.cells #[.slice none 0 0, .slice none 0 0, .slice none 0 0, .int .i64 0, .bool false] 34) = W4 at kP kO kX kR G z4 ⊢
  have kS : Blk (W4.alloc (.cells #[.int .i64 0, .int .i64 0] 65)) (w.heap.size + 4) 65 #[.int .i64 0, .int .i64 0] := by
    have h := Blk.new W4 65 #[.int .i64 0, .int .i64 0]
    rw [show W4.heap.size = w.heap.size + 4 by omega] at h
    exact h
  replace kP := kP.alloc (.cells #[.int .i64 0, .int .i64 0] 65)
  replace kO := kO.alloc (.cells #[.int .i64 0, .int .i64 0] 65)
  replace kX := kX.alloc (.cells #[.int .i64 0, .int .i64 0] 65)
  replace kR := kR.alloc (.cells #[.int .i64 0, .int .i64 0] 65)
  have hbs := G.size
  replace G := G.alloc (by omega) (.cells #[.int .i64 0, .int .i64 0] 65)
  have z5 : (W4.alloc (.cells #[.int .i64 0, .int .i64 0] 65)).heap.size = W4.heap.size + 1 := by simp
  clear hbs
  generalize W4.alloc (.cells #[.int .i64 0, .int .i64 0] 65) = W5 at kP kO kX kR kS G z5 ⊢
  go_call (sPoolOk_v a b c d e tsx ksx fsx A0x A1x A2x c0x c1x c2x tnx stx true HZ.out.2 _ htx hkx hfx (HX.out.below G)) as r W6 ⟨rfl, g1⟩
  have hbs := G.size
  replace kP := kP.below g1 kP.lt
  replace kO := kO.below g1 kO.lt
  replace kX := kX.below g1 kX.lt
  replace kR := kR.below g1 kR.lt
  replace kS := kS.below g1 kS.lt
  replace G := G.trans (g1.mono (by omega))
  have z6 := g1.size
  clear g1 hbs
  obtain ⟨tP, qP0, fP0, qP1, fP1, qP2, fP2, qP3, fP3, qP4, fP4⟩ := kP.f5
  obtain ⟨tO, qO0, fO0, qO1, fO1, qO2, fO2, qO3, fO3, qO4, fO4⟩ := kO.f5
  obtain ⟨tX, qX0, fX0, qX1, fX1, qX2, fX2, qX3, fX3, qX4, fX4⟩ := kX.f5
  obtain ⟨tR, qR0, fR0, qR1, fR1, qR2, fR2, qR3, fR3, qR4, fR4⟩ := kR.f5
  obtain ⟨tS, qS0, fS0, qS1, fS1⟩ := kS.f2
  go_wp2_with fail
  clear tP qP0 fP0 qP1 fP1 qP2 fP2 qP3 fP3 qP4 fP4 tO qO0 fO0 qO1 fO1 qO2 fO2 qO3 fO3 qO4 fO4 tX qX0 fX0 qX1 fX1 qX2 fX2 qX3 fX3 qX4 fX4 tR qR0 fR0 qR1 fR1 qR2 fR2 qR3 fR3 qR4 fR4 tS qS0 fS0 qS1 fS1
  replace kP := kP.far (p := ⟨w.heap.size + 3, 0, none⟩) (show w.heap.size ≠ w.heap.size + 3 by omega) (.slice A0x tsx.length c0x)
  replace kO := kO.far (p := ⟨w.heap.size + 3, 0, none⟩) (show w.heap.size + 1 ≠ w.heap.size + 3 by omega) (.slice A0x tsx.length c0x)
  replace kX := kX.far (p := ⟨w.heap.size + 3, 0, none⟩) (show w.heap.size + 2 ≠ w.heap.size + 3 by omega) (.slice A0x tsx.length c0x)
  replace kS := kS.far (p := ⟨w.heap.size + 3, 0, none⟩) (show w.heap.size + 4 ≠ w.heap.size + 3 by omega) (.slice A0x tsx.length c0x)
  replace kR : Blk (W6.setCell ⟨w.heap.size + 3, 0, none⟩ (.slice A0x tsx.length c0x)) (w.heap.size + 3) 34 #[.slice A0x tsx.length c0x, .slice none 0 0, .slice none 0 0, .int .i64 0, .bool false] := kR.set_ 0 (.slice A0x tsx.length c0x)
  replace G : Below w.heap.size w (W6.setCell ⟨w.heap.size + 3, 0, none⟩ (.slice A0x tsx.length c0x)) := Below.setCell G (show w.heap.size ≤ w.heap.size + 3 by omega) _
  have z7 : (W6.setCell ⟨w.heap.size + 3, 0, none⟩ (.slice A0x tsx.length c0x)).heap.size = W6.heap.size := by simp [World.setCell]
  generalize W6.setCell ⟨w.heap.size + 3, 0, none⟩ (.slice A0x tsx.length c0x) = W7 at kP kO kX kR kS G z7 ⊢
  replace kP := kP.far (p := ⟨w.heap.size + 3, 1, none⟩) (show w.heap.size ≠ w.heap.size + 3 by omega) (.slice A1x ksx.length c1x)
  replace kO := kO.far (p := ⟨w.heap.size + 3, 1, none⟩) (show w.heap.size + 1 ≠ w.heap.size + 3 by omega) (.slice A1x ksx.length c1x)
  replace kX := kX.far (p := ⟨w.heap.size + 3, 1, none⟩) (show w.heap.size + 2 ≠ w.heap.size + 3 by omega) (.slice A1x ksx.length c1x)
  replace kS := kS.far (p := ⟨w.heap.size + 3, 1, none⟩) (show w.heap.size + 4 ≠ w.heap.size + 3 by omega) (.slice A1x ksx.length c1x)
  replace kR : Blk (W7.setCell ⟨w.heap.size + 3, 1, none⟩ (.slice A1x ksx.length c1x)) (w.heap.size + 3) 34 #[.slice A0x tsx.length c0x, .slice A1x ksx.length c1x, .slice none 0 0, .int .i64 0, .bool false] := kR.set_ 1 (.slice A1x ksx.length c1x)
  replace G : Below w.heap.size w (W7.setCell ⟨w.heap.size + 3, 1, none⟩ (.slice A1x ksx.length c1x)) := Below.setCell G (show w.heap.size ≤ w.heap.size + 3 by omega) _
  have z8 : (W7.setCell ⟨w.heap.size + 3, 1, none⟩ (.slice A1x ksx.length c1x)).heap.size = W7.heap.size := by simp [World.setCell]
  generalize W7.setCell ⟨w.heap.size + 3, 1, none⟩ (.slice A1x ksx.length c1x) = W8 at kP kO kX kR kS G z8 ⊢
  replace kP := kP.far (p := ⟨w.heap.size + 3, 2, none⟩) (show w.heap.size ≠ w.heap.size + 3 by omega) (.slice A2x fsx.length c2x)
  replace kO := kO.far (p := ⟨w.heap.size + 3, 2, none⟩) (show w.heap.size + 1 ≠ w.heap.size + 3 by omega) (.slice A2x fsx.length c2x)
  replace kX := kX.far (p := ⟨w.heap.size + 3, 2, none⟩) (show w.heap.size + 2 ≠ w.heap.size + 3 by omega) (.slice A2x fsx.length c2x)
  replace kS := kS.far (p := ⟨w.heap.size + 3, 2, none⟩) (show w.heap.size + 4 ≠ w.heap.size + 3 by omega) (.slice A2x fsx.length c2x)
  replace kR : Blk (W8.setCell ⟨w.heap.size + 3, 2, none⟩ (.slice A2x fsx.length c2x)) (w.heap.size + 3) 34 #[.slice A0x tsx.length c0x, .slice A1x ksx.length c1x, .slice A2x fsx.length c2x, .int .i64 0, .bool false] := kR.set_ 2 (.slice A2x fsx.length c2x)
  replace G : Below w.heap.size w (W8.setCell ⟨w.heap.size + 3, 2, none⟩ (.slice A2x fsx.length c2x)) := Below.setCell G (show w.heap.size ≤ w.heap.size + 3 by omega) _
  have z9 : (W8.setCell ⟨w.heap.size + 3, 2, none⟩ (.slice A2x fsx.length c2x)).heap.size = W8.heap.size := by simp [World.setCell]
  generalize W8.setCell ⟨w.heap.size + 3, 2, none⟩ (.slice A2x fsx.length c2x) = W9 at kP kO kX kR kS G z9 ⊢
  replace kP := kP.far (p := ⟨w.heap.size + 3, 3, none⟩) (show w.heap.size ≠ w.heap.size + 3 by omega) (.int .i64 tnx)
  replace kO := kO.far (p := ⟨w.heap.size + 3, 3, none⟩) (show w.heap.size + 1 ≠ w.heap.size + 3 by omega) (.int .i64 tnx)
  replace kX := kX.far (p := ⟨w.heap.size + 3, 3, none⟩) (show w.heap.size + 2 ≠ w.heap.size + 3 by omega) (.int .i64 tnx)
  replace kS := kS.far (p := ⟨w.heap.size + 3, 3, none⟩) (show w.heap.size + 4 ≠ w.heap.size + 3 by omega) (.int .i64 tnx)
  replace kR : Blk (W9.setCell ⟨w.heap.size + 3, 3, none⟩ (.int .i64 tnx)) (w.heap.size + 3) 34 #[.slice A0x tsx.length c0x, .slice A1x ksx.length c1x, .slice A2x fsx.length c2x, .int .i64 tnx, .bool false] := kR.set_ 3 (.int .i64 tnx)
  replace G : Below w.heap.size w (W9.setCell ⟨w.heap.size + 3, 3, none⟩ (.int .i64 tnx)) := Below.setCell G (show w.heap.size ≤ w.heap.size + 3 by omega) _
  have z10 : (W9.setCell ⟨w.heap.size + 3, 3, none⟩ (.int .i64 tnx)).heap.size = W9.heap.size := by simp [World.setCell]
  generalize W9.setCell ⟨w.heap.size + 3, 3, none⟩ (.int .i64 tnx) = W10 at kP kO kX kR kS G z10 ⊢
  replace kP := kP.far (p := ⟨w.heap.size + 3, 4, none⟩) (show w.heap.size ≠ w.heap.size + 3 by omega) (.bool stx)
  replace kO := kO.far (p := ⟨w.heap.size + 3, 4, none⟩) (show w.heap.size + 1 ≠ w.heap.size + 3 by omega) (.bool stx)
  replace kX := kX.far (p := ⟨w.heap.size + 3, 4, none⟩) (show w.heap.size + 2 ≠ w.heap.size + 3 by omega) (.bool stx)
  replace kS := kS.far (p := ⟨w.heap.size + 3, 4, none⟩) (show w.heap.size + 4 ≠ w.heap.size + 3 by omega) (.bool stx)
  replace kR : Blk (W10.setCell ⟨w.heap.size + 3, 4, none⟩ (.bool stx)) (w.heap.size + 3) 34 #[.slice A0x tsx.length c0x, .slice A1x ksx.length c1x, .slice A2x fsx.length c2x, .int .i64 tnx, .bool stx] := kR.set_ 4 (.bool stx)
  replace G : Below w.heap.size w (W10.setCell ⟨w.heap.size + 3, 4, none⟩ (.bool stx)) := Below.setCell G (show w.heap.size ≤ w.heap.size + 3 by omega) _
  have z11 : (W10.setCell ⟨w.heap.size + 3, 4, none⟩ (.bool stx)).heap.size = W10.heap.size := by simp [World.setCell]
  generalize W10.setCell ⟨w.heap.size + 3, 4, none⟩ (.bool stx) = W11 at kP kO kX kR kS G z11 ⊢
  replace kP := kP.far (p := ⟨w.heap.size + 4, 0, none⟩) (show w.heap.size ≠ w.heap.size + 4 by omega) (.int .i64 rp)
  replace kO := kO.far (p := ⟨w.heap.size + 4, 0, none⟩) (show w.heap.size + 1 ≠ w.heap.size + 4 by omega) (.int .i64 rp)
  replace kX := kX.far (p := ⟨w.heap.size + 4, 0, none⟩) (show w.heap.size + 2 ≠ w.heap.size + 4 by omega) (.int .i64 rp)
  replace kR := kR.far (p := ⟨w.heap.size + 4, 0, none⟩) (show w.heap.size + 3 ≠ w.heap.size + 4 by omega) (.int .i64 rp)
  replace kS : Blk (W11.setCell ⟨w.heap.size + 4, 0, none⟩ (.int .i64 rp)) (w.heap.size + 4) 65 #[.int .i64 rp, .int .i64 0] := kS.set_ 0 (.int .i64 rp)
  replace G : Below w.heap.size w (W11.setCell ⟨w.heap.size + 4, 0, none⟩ (.int .i64 rp)) := Below.setCell G (show w.heap.size ≤ w.heap.size + 4 by omega) _
  have z12 : (W11.setCell ⟨w.heap.size + 4, 0, none⟩ (.int .i64 rp)).heap.size = W11.heap.size := by simp [World.setCell]
  generalize W11.setCell ⟨w.heap.size + 4, 0, none⟩ (.int .i64 rp) = W12 at kP kO kX kR kS G z12 ⊢
  replace kP := kP.far (p := ⟨w.heap.size + 4, 1, none⟩) (show w.heap.size ≠ w.heap.size + 4 by omega) (.int .i64 ou)
  replace kO := kO.far (p := ⟨w.heap.size + 4, 1, none⟩) (show w.heap.size + 1 ≠ w.heap.size + 4 by omega) (.int .i64 ou)
  replace kX := kX.far (p := ⟨w.heap.size + 4, 1, none⟩) (show w.heap.size + 2 ≠ w.heap.size + 4 by omega) (.int .i64 ou)
  replace kR := kR.far (p := ⟨w.heap.size + 4, 1, none⟩) (show w.heap.size + 3 ≠ w.heap.size + 4 by omega) (.int .i64 ou)
  replace kS : Blk (W12.setCell ⟨w.heap.size + 4, 1, none⟩ (.int .i64 ou)) (w.heap.size + 4) 65 #[.int .i64 rp, .int .i64 ou] := kS.set_ 1 (.int .i64 ou)
  replace G : Below w.heap.size w (W12.setCell ⟨w.heap.size + 4, 1, none⟩ (.int .i64 ou)) := Below.setCell G (show w.heap.size ≤ w.heap.size + 4 by omega) _
  have z13 : (W12.setCell ⟨w.heap.size + 4, 1, none⟩ (.int .i64 ou)).heap.size = W12.heap.size := by simp [World.setCell]
  generalize W12.setCell ⟨w.heap.size + 4, 1, none⟩ (.int .i64 ou) = W13 at kP kO kX kR kS G z13 ⊢
  obtain ⟨tR, qR0, qR1, qR2, qR3, qR4⟩ := kR.q5
  obtain ⟨tS, qS0, qS1⟩ := kS.q2
  exact bodyPost_ret (v := .tuple #[.agg #[.slice A0x tsx.length c0x, .slice A1x ksx.length c1x, .slice A2x fsx.length c2x, .int .i64 tnx, .bool stx], .agg #[.int .i64 rp, .int .i64 ou]]) (by simp [results, Try.results93, go_sem, qR0, qR1, qR2, qR3, qR4, qS0, qS1]) rfl ⟨rfl, G⟩

set_option maxRecDepth 100000 in
set_option maxHeartbeats 4000000 in
theorem l6Done_full (a b c d e : Int) (ts : List T7) (ks : List Int) (fs : List F2) (A0 A1 A2 : Option Addr) (c0 c1 c2 : Nat) (tn : Int) (st : Bool) (tsx : List T7) (ksx : List Int) (fsx : List F2) (A0x A1x A2x : Option Addr) (c0x c1x c2x : Nat) (tnx : Int) (stx : Bool) (rp ou : Int) (w : World) (ho : poolB a b c d e ts ks fs tn = true) (hz : poolB a b c d e tsx ksx fsx tnx = false) (ht : ts.length ≤ 1048576) (hk : ks.length ≤ 1048576) (hf : fs.length ≤ 1048576) (htx : tsx.length ≤ 1048576) (hkx : ksx.length ≤ 1048576) (hfx : fsx.length ≤ 1048576) (h : InPool w ts ks fs A0 A1 A2) (hx : InPool w tsx ksx fsx A0x A1x A2x) :
    Calls Try.prog 93 #[.agg #[.int .i64 a, .int .i64 b, .int .i64 c, .int .i64 d, .int .i64 e], .agg #[.slice A0 ts.length c0, .slice A1 ks.length c1, .slice A2 fs.length c2, .int .i64 tn, .bool st], .agg #[.slice A0x tsx.length c0x, .slice A1x ksx.length c1x, .slice A2x fsx.length c2x, .int .i64 tnx, .bool stx], .int .i64 rp, .int .i64 ou] w (GavePA w ts ks fs tn st 4 0) := by
  have H := hide h
  have HX := hide hx
  have HZ := hide (⟨ho, hz⟩ : _ ∧ _)
  clear h hx ho hz
  go_enter Try.func93, Try.ntmps93
  go_wp2_with fail
  have G := Below.refl w.heap.size w
  have kP := Blk.new w 28 #[.int .i64 a, .int .i64 b, .int .i64 c, .int .i64 d, .int .i64 e]
  have hbs := G.size
  replace G := G.alloc (by omega) (.cells #[.int .i64 a, .int .i64 b, .int .i64 c, .int .i64 d, .int .i64 e] 28)
  have z1 : (w.alloc (.cells #[.int .i64 a, .int .i64 b, .int .i64 c, .int .i64 d, .int .i64 e] 28)).heap.size = w.heap.size + 1 := by simp
  clear hbs
  generalize w.alloc (.cells #[.int .i64 a, .int .i64 b, .int .i64 c, .int .i64 d, .int .i64 e] 28) = W1 at kP G z1 ⊢
  have kO : Blk (W1.alloc (.cells #[.slice A0 ts.length c0, .slice A1 ks.length c1, .slice A2 fs.length c2, .int .i64 tn, .bool st] 34)) (w.heap.size + 1) 34 #[.slice A0 ts.length c0, .slice A1 ks.length c1, .slice A2 fs.length c2, .int .i64 tn, .bool st] := by
    have h := Blk.new W1 34 #[.slice A0 ts.length c0, .slice A1 ks.length c1, .slice A2 fs.length c2, .int .i64 tn, .bool st]
    rw [show W1.heap.size = w.heap.size + 1 by omega] at h
    exact h
  replace kP := kP.alloc (.cells #[.slice A0 ts.length c0, .slice A1 ks.length c1, .slice A2 fs.length c2, .int .i64 tn, .bool st] 34)
  have hbs := G.size
  replace G := G.alloc (by omega) (.cells #[.slice A0 ts.length c0, .slice A1 ks.length c1, .slice A2 fs.length c2, .int .i64 tn, .bool st] 34)
  have z2 : (W1.alloc (.cells #[.slice A0 ts.length c0, .slice A1 ks.length c1, .slice A2 fs.length c2, .int .i64 tn, .bool st] 34)).heap.size = W1.heap.size + 1 := by simp
  clear hbs
  generalize W1.alloc (.cells #[.slice A0 ts.length c0, .slice A1 ks.length c1, .slice A2 fs.length c2, .int .i64 tn, .bool st] 34) = W2 at kP kO G z2 ⊢
  have kX : Blk (W2.alloc (.cells #[.slice A0x tsx.length c0x, .slice A1x ksx.length c1x, .slice A2x fsx.length c2x, .int .i64 tnx, .bool stx] 34)) (w.heap.size + 2) 34 #[.slice A0x tsx.length c0x, .slice A1x ksx.length c1x, .slice A2x fsx.length c2x, .int .i64 tnx, .bool stx] := by
    have h := Blk.new W2 34 #[.slice A0x tsx.length c0x, .slice A1x ksx.length c1x, .slice A2x fsx.length c2x, .int .i64 tnx, .bool stx]
    rw [show W2.heap.size = w.heap.size + 2 by omega] at h
    exact h
  replace kP := kP.alloc (.cells #[.slice A0x tsx.length c0x, .slice A1x ksx.length c1x, .slice A2x fsx.length c2x, .int .i64 tnx, .bool stx] 34)
  replace kO := kO.alloc (.cells #[.slice A0x tsx.length c0x, .slice A1x ksx.length c1x, .slice A2x fsx.length c2x, .int .i64 tnx, .bool stx] 34)
  have hbs := G.size
  replace G := G.alloc (by omega) (.cells #[.slice A0x tsx.length c0x, .slice A1x ksx.length c1x, .slice A2x fsx.length c2x, .int .i64 tnx, .bool stx] 34)
  have z3 : (W2.alloc (.cells #[.slice A0x tsx.length c0x, .slice A1x ksx.length c1x, .slice A2x fsx.length c2x, .int .i64 tnx, .bool stx] 34)).heap.size = W2.heap.size + 1 := by simp
  clear hbs
  generalize W2.alloc (.cells #[.slice A0x tsx.length c0x, .slice A1x ksx.length c1x, .slice A2x fsx.length c2x, .int .i64 tnx, .bool stx] 34) = W3 at kP kO kX G z3 ⊢
  have kR : Blk (W3.alloc (.cells #[.slice none 0 0, .slice none 0 0, .slice none 0 0, .int .i64 0, .bool false] 34)) (w.heap.size + 3) 34 #[.slice none 0 0, .slice none 0 0, .slice none 0 0, .int .i64 0, .bool false] := by
    have h := Blk.new W3 34 #[.slice none 0 0, .slice none 0 0, .slice none 0 0, .int .i64 0, .bool false]
    rw [show W3.heap.size = w.heap.size + 3 by omega] at h
    exact h
  replace kP := kP.alloc (.cells #[.slice none 0 0, .slice none 0 0, .slice none 0 0, .int .i64 0, .bool false] 34)
  replace kO := kO.alloc (.cells #[.slice none 0 0, .slice none 0 0, .slice none 0 0, .int .i64 0, .bool false] 34)
  replace kX := kX.alloc (.cells #[.slice none 0 0, .slice none 0 0, .slice none 0 0, .int .i64 0, .bool false] 34)
  have hbs := G.size
  replace G := G.alloc (by omega) (.cells #[.slice none 0 0, .slice none 0 0, .slice none 0 0, .int .i64 0, .bool false] 34)
  have z4 : (W3.alloc (.cells #[.slice none 0 0, .slice none 0 0, .slice none 0 0, .int .i64 0, .bool false] 34)).heap.size = W3.heap.size + 1 := by simp
  clear hbs
  generalize W3.alloc (.cells #[.slice none 0 0, .slice none 0 0, .slice none 0 0, .int .i64 0, .bool false] 34) = W4 at kP kO kX kR G z4 ⊢
  have kS : Blk (W4.alloc (.cells #[.int .i64 0, .int .i64 0] 65)) (w.heap.size + 4) 65 #[.int .i64 0, .int .i64 0] := by
    have h := Blk.new W4 65 #[.int .i64 0, .int .i64 0]
    rw [show W4.heap.size = w.heap.size + 4 by omega] at h
    exact h
  replace kP := kP.alloc (.cells #[.int .i64 0, .int .i64 0] 65)
  replace kO := kO.alloc (.cells #[.int .i64 0, .int .i64 0] 65)
  replace kX := kX.alloc (.cells #[.int .i64 0, .int .i64 0] 65)
  replace kR := kR.alloc (.cells #[.int .i64 0, .int .i64 0] 65)
  have hbs := G.size
  replace G := G.alloc (by omega) (.cells #[.int .i64 0, .int .i64 0] 65)
  have z5 : (W4.alloc (.cells #[.int .i64 0, .int .i64 0] 65)).heap.size = W4.heap.size + 1 := by simp
  clear hbs
  generalize W4.alloc (.cells #[.int .i64 0, .int .i64 0] 65) = W5 at kP kO kX kR kS G z5 ⊢
  go_call (sPoolOk_v a b c d e tsx ksx fsx A0x A1x A2x c0x c1x c2x tnx stx false HZ.out.2 _ htx hkx hfx (HX.out.below G)) as r W6 ⟨rfl, g1⟩
  have hbs := G.size
  replace kP := kP.below g1 kP.lt
  replace kO := kO.below g1 kO.lt
  replace kX := kX.below g1 kX.lt
  replace kR := kR.below g1 kR.lt
  replace kS := kS.below g1 kS.lt
  replace G := G.trans (g1.mono (by omega))
  have z6 := g1.size
  clear g1 hbs
  obtain ⟨tP, qP0, fP0, qP1, fP1, qP2, fP2, qP3, fP3, qP4, fP4⟩ := kP.f5
  obtain ⟨tO, qO0, fO0, qO1, fO1, qO2, fO2, qO3, fO3, qO4, fO4⟩ := kO.f5
  obtain ⟨tX, qX0, fX0, qX1, fX1, qX2, fX2, qX3, fX3, qX4, fX4⟩ := kX.f5
  obtain ⟨tR, qR0, fR0, qR1, fR1, qR2, fR2, qR3, fR3, qR4, fR4⟩ := kR.f5
  obtain ⟨tS, qS0, fS0, qS1, fS1⟩ := kS.f2
  go_wp2_with fail
  go_call (l6No_yes a b c d e ts ks fs A0 A1 A2 c0 c1 c2 tn st 4 _ HZ.out.1 ht hk hf (H.out.below G)) as r W7 ⟨B0, B1, B2, d0, d1, d2, rfl, own, g1⟩
  clear tP qP0 fP0 qP1 fP1 qP2 fP2 qP3 fP3 qP4 fP4 tO qO0 fO0 qO1 fO1 qO2 fO2 qO3 fO3 qO4 fO4 tX qX0 fX0 qX1 fX1 qX2 fX2 qX3 fX3 qX4 fX4 tR qR0 fR0 qR1 fR1 qR2 fR2 qR3 fR3 qR4 fR4 tS qS0 fS0 qS1 fS1
  have hbs := G.size
  replace kP := kP.below g1 kP.lt
  replace kO := kO.below g1 kO.lt
  replace kX := kX.below g1 kX.lt
  replace kR := kR.below g1 kR.lt
  replace kS := kS.below g1 kS.lt
  replace G := G.trans (g1.mono (by omega))
  have z7 := g1.size
  clear g1 hbs
  have rC := own
  clear own
  obtain ⟨tP, qP0, fP0, qP1, fP1, qP2, fP2, qP3, fP3, qP4, fP4⟩ := kP.f5
  obtain ⟨tO, qO0, fO0, qO1, fO1, qO2, fO2, qO3, fO3, qO4, fO4⟩ := kO.f5
  obtain ⟨tX, qX0, fX0, qX1, fX1, qX2, fX2, qX3, fX3, qX4, fX4⟩ := kX.f5
  obtain ⟨tR, qR0, fR0, qR1, fR1, qR2, fR2, qR3, fR3, qR4, fR4⟩ := kR.f5
  obtain ⟨tS, qS0, fS0, qS1, fS1⟩ := kS.f2
  go_wp2_with fail
  clear tP qP0 fP0 qP1 fP1 qP2 fP2 qP3 fP3 qP4 fP4 tO qO0 fO0 qO1 fO1 qO2 fO2 qO3 fO3 qO4 fO4 tX qX0 fX0 qX1 fX1 qX2 fX2 qX3 fX3 qX4 fX4 tR qR0 fR0 qR1 fR1 qR2 fR2 qR3 fR3 qR4 fR4 tS qS0 fS0 qS1 fS1
  replace kP := kP.far (p := ⟨w.heap.size + 3, 0, none⟩) (show w.heap.size ≠ w.heap.size + 3 by omega) (.slice B0 ts.length d0)
  replace kO := kO.far (p := ⟨w.heap.size + 3, 0, none⟩) (show w.heap.size + 1 ≠ w.heap.size + 3 by omega) (.slice B0 ts.length d0)
  replace kX := kX.far (p := ⟨w.heap.size + 3, 0, none⟩) (show w.heap.size + 2 ≠ w.heap.size + 3 by omega) (.slice B0 ts.length d0)
  replace kS := kS.far (p := ⟨w.heap.size + 3, 0, none⟩) (show w.heap.size + 4 ≠ w.heap.size + 3 by omega) (.slice B0 ts.length d0)
  replace kR : Blk (W7.setCell ⟨w.heap.size + 3, 0, none⟩ (.slice B0 ts.length d0)) (w.heap.size + 3) 34 #[.slice B0 ts.length d0, .slice none 0 0, .slice none 0 0, .int .i64 0, .bool false] := kR.set_ 0 (.slice B0 ts.length d0)
  replace rC := rC.store (p := ⟨w.heap.size + 3, 0, none⟩) (show w.heap.size + 3 < W6.heap.size ∨ W7.heap.size ≤ w.heap.size + 3 by omega) (.slice B0 ts.length d0)
  replace G : Below w.heap.size w (W7.setCell ⟨w.heap.size + 3, 0, none⟩ (.slice B0 ts.length d0)) := Below.setCell G (show w.heap.size ≤ w.heap.size + 3 by omega) _
  have z8 : (W7.setCell ⟨w.heap.size + 3, 0, none⟩ (.slice B0 ts.length d0)).heap.size = W7.heap.size := by simp [World.setCell]
  generalize W7.setCell ⟨w.heap.size + 3, 0, none⟩ (.slice B0 ts.length d0) = W8 at kP kO kX kR kS rC G z8 ⊢
  replace kP := kP.far (p := ⟨w.heap.size + 3, 1, none⟩) (show w.heap.size ≠ w.heap.size + 3 by omega) (.slice B1 ks.length d1)
  replace kO := kO.far (p := ⟨w.heap.size + 3, 1, none⟩) (show w.heap.size + 1 ≠ w.heap.size + 3 by omega) (.slice B1 ks.length d1)
  replace kX := kX.far (p := ⟨w.heap.size + 3, 1, none⟩) (show w.heap.size + 2 ≠ w.heap.size + 3 by omega) (.slice B1 ks.length d1)
  replace kS := kS.far (p := ⟨w.heap.size + 3, 1, none⟩) (show w.heap.size + 4 ≠ w.heap.size + 3 by omega) (.slice B1 ks.length d1)
  replace kR : Blk (W8.setCell ⟨w.heap.size + 3, 1, none⟩ (.slice B1 ks.length d1)) (w.heap.size + 3) 34 #[.slice B0 ts.length d0, .slice B1 ks.length d1, .slice none 0 0, .int .i64 0, .bool false] := kR.set_ 1 (.slice B1 ks.length d1)
  replace rC := rC.store (p := ⟨w.heap.size + 3, 1, none⟩) (show w.heap.size + 3 < W6.heap.size ∨ W7.heap.size ≤ w.heap.size + 3 by omega) (.slice B1 ks.length d1)
  replace G : Below w.heap.size w (W8.setCell ⟨w.heap.size + 3, 1, none⟩ (.slice B1 ks.length d1)) := Below.setCell G (show w.heap.size ≤ w.heap.size + 3 by omega) _
  have z9 : (W8.setCell ⟨w.heap.size + 3, 1, none⟩ (.slice B1 ks.length d1)).heap.size = W8.heap.size := by simp [World.setCell]
  generalize W8.setCell ⟨w.heap.size + 3, 1, none⟩ (.slice B1 ks.length d1) = W9 at kP kO kX kR kS rC G z9 ⊢
  replace kP := kP.far (p := ⟨w.heap.size + 3, 2, none⟩) (show w.heap.size ≠ w.heap.size + 3 by omega) (.slice B2 fs.length d2)
  replace kO := kO.far (p := ⟨w.heap.size + 3, 2, none⟩) (show w.heap.size + 1 ≠ w.heap.size + 3 by omega) (.slice B2 fs.length d2)
  replace kX := kX.far (p := ⟨w.heap.size + 3, 2, none⟩) (show w.heap.size + 2 ≠ w.heap.size + 3 by omega) (.slice B2 fs.length d2)
  replace kS := kS.far (p := ⟨w.heap.size + 3, 2, none⟩) (show w.heap.size + 4 ≠ w.heap.size + 3 by omega) (.slice B2 fs.length d2)
  replace kR : Blk (W9.setCell ⟨w.heap.size + 3, 2, none⟩ (.slice B2 fs.length d2)) (w.heap.size + 3) 34 #[.slice B0 ts.length d0, .slice B1 ks.length d1, .slice B2 fs.length d2, .int .i64 0, .bool false] := kR.set_ 2 (.slice B2 fs.length d2)
  replace rC := rC.store (p := ⟨w.heap.size + 3, 2, none⟩) (show w.heap.size + 3 < W6.heap.size ∨ W7.heap.size ≤ w.heap.size + 3 by omega) (.slice B2 fs.length d2)
  replace G : Below w.heap.size w (W9.setCell ⟨w.heap.size + 3, 2, none⟩ (.slice B2 fs.length d2)) := Below.setCell G (show w.heap.size ≤ w.heap.size + 3 by omega) _
  have z10 : (W9.setCell ⟨w.heap.size + 3, 2, none⟩ (.slice B2 fs.length d2)).heap.size = W9.heap.size := by simp [World.setCell]
  generalize W9.setCell ⟨w.heap.size + 3, 2, none⟩ (.slice B2 fs.length d2) = W10 at kP kO kX kR kS rC G z10 ⊢
  replace kP := kP.far (p := ⟨w.heap.size + 3, 3, none⟩) (show w.heap.size ≠ w.heap.size + 3 by omega) (.int .i64 tn)
  replace kO := kO.far (p := ⟨w.heap.size + 3, 3, none⟩) (show w.heap.size + 1 ≠ w.heap.size + 3 by omega) (.int .i64 tn)
  replace kX := kX.far (p := ⟨w.heap.size + 3, 3, none⟩) (show w.heap.size + 2 ≠ w.heap.size + 3 by omega) (.int .i64 tn)
  replace kS := kS.far (p := ⟨w.heap.size + 3, 3, none⟩) (show w.heap.size + 4 ≠ w.heap.size + 3 by omega) (.int .i64 tn)
  replace kR : Blk (W10.setCell ⟨w.heap.size + 3, 3, none⟩ (.int .i64 tn)) (w.heap.size + 3) 34 #[.slice B0 ts.length d0, .slice B1 ks.length d1, .slice B2 fs.length d2, .int .i64 tn, .bool false] := kR.set_ 3 (.int .i64 tn)
  replace rC := rC.store (p := ⟨w.heap.size + 3, 3, none⟩) (show w.heap.size + 3 < W6.heap.size ∨ W7.heap.size ≤ w.heap.size + 3 by omega) (.int .i64 tn)
  replace G : Below w.heap.size w (W10.setCell ⟨w.heap.size + 3, 3, none⟩ (.int .i64 tn)) := Below.setCell G (show w.heap.size ≤ w.heap.size + 3 by omega) _
  have z11 : (W10.setCell ⟨w.heap.size + 3, 3, none⟩ (.int .i64 tn)).heap.size = W10.heap.size := by simp [World.setCell]
  generalize W10.setCell ⟨w.heap.size + 3, 3, none⟩ (.int .i64 tn) = W11 at kP kO kX kR kS rC G z11 ⊢
  replace kP := kP.far (p := ⟨w.heap.size + 3, 4, none⟩) (show w.heap.size ≠ w.heap.size + 3 by omega) (.bool st)
  replace kO := kO.far (p := ⟨w.heap.size + 3, 4, none⟩) (show w.heap.size + 1 ≠ w.heap.size + 3 by omega) (.bool st)
  replace kX := kX.far (p := ⟨w.heap.size + 3, 4, none⟩) (show w.heap.size + 2 ≠ w.heap.size + 3 by omega) (.bool st)
  replace kS := kS.far (p := ⟨w.heap.size + 3, 4, none⟩) (show w.heap.size + 4 ≠ w.heap.size + 3 by omega) (.bool st)
  replace kR : Blk (W11.setCell ⟨w.heap.size + 3, 4, none⟩ (.bool st)) (w.heap.size + 3) 34 #[.slice B0 ts.length d0, .slice B1 ks.length d1, .slice B2 fs.length d2, .int .i64 tn, .bool st] := kR.set_ 4 (.bool st)
  replace rC := rC.store (p := ⟨w.heap.size + 3, 4, none⟩) (show w.heap.size + 3 < W6.heap.size ∨ W7.heap.size ≤ w.heap.size + 3 by omega) (.bool st)
  replace G : Below w.heap.size w (W11.setCell ⟨w.heap.size + 3, 4, none⟩ (.bool st)) := Below.setCell G (show w.heap.size ≤ w.heap.size + 3 by omega) _
  have z12 : (W11.setCell ⟨w.heap.size + 3, 4, none⟩ (.bool st)).heap.size = W11.heap.size := by simp [World.setCell]
  generalize W11.setCell ⟨w.heap.size + 3, 4, none⟩ (.bool st) = W12 at kP kO kX kR kS rC G z12 ⊢
  replace kP := kP.far (p := ⟨w.heap.size + 4, 0, none⟩) (show w.heap.size ≠ w.heap.size + 4 by omega) (.int .i64 4)
  replace kO := kO.far (p := ⟨w.heap.size + 4, 0, none⟩) (show w.heap.size + 1 ≠ w.heap.size + 4 by omega) (.int .i64 4)
  replace kX := kX.far (p := ⟨w.heap.size + 4, 0, none⟩) (show w.heap.size + 2 ≠ w.heap.size + 4 by omega) (.int .i64 4)
  replace kR := kR.far (p := ⟨w.heap.size + 4, 0, none⟩) (show w.heap.size + 3 ≠ w.heap.size + 4 by omega) (.int .i64 4)
  replace kS : Blk (W12.setCell ⟨w.heap.size + 4, 0, none⟩ (.int .i64 4)) (w.heap.size + 4) 65 #[.int .i64 4, .int .i64 0] := kS.set_ 0 (.int .i64 4)
  replace rC := rC.store (p := ⟨w.heap.size + 4, 0, none⟩) (show w.heap.size + 4 < W6.heap.size ∨ W7.heap.size ≤ w.heap.size + 4 by omega) (.int .i64 4)
  replace G : Below w.heap.size w (W12.setCell ⟨w.heap.size + 4, 0, none⟩ (.int .i64 4)) := Below.setCell G (show w.heap.size ≤ w.heap.size + 4 by omega) _
  have z13 : (W12.setCell ⟨w.heap.size + 4, 0, none⟩ (.int .i64 4)).heap.size = W12.heap.size := by simp [World.setCell]
  generalize W12.setCell ⟨w.heap.size + 4, 0, none⟩ (.int .i64 4) = W13 at kP kO kX kR kS rC G z13 ⊢
  replace kP := kP.far (p := ⟨w.heap.size + 4, 1, none⟩) (show w.heap.size ≠ w.heap.size + 4 by omega) (.int .i64 0)
  replace kO := kO.far (p := ⟨w.heap.size + 4, 1, none⟩) (show w.heap.size + 1 ≠ w.heap.size + 4 by omega) (.int .i64 0)
  replace kX := kX.far (p := ⟨w.heap.size + 4, 1, none⟩) (show w.heap.size + 2 ≠ w.heap.size + 4 by omega) (.int .i64 0)
  replace kR := kR.far (p := ⟨w.heap.size + 4, 1, none⟩) (show w.heap.size + 3 ≠ w.heap.size + 4 by omega) (.int .i64 0)
  replace kS : Blk (W13.setCell ⟨w.heap.size + 4, 1, none⟩ (.int .i64 0)) (w.heap.size + 4) 65 #[.int .i64 4, .int .i64 0] := kS.set_ 1 (.int .i64 0)
  replace rC := rC.store (p := ⟨w.heap.size + 4, 1, none⟩) (show w.heap.size + 4 < W6.heap.size ∨ W7.heap.size ≤ w.heap.size + 4 by omega) (.int .i64 0)
  replace G : Below w.heap.size w (W13.setCell ⟨w.heap.size + 4, 1, none⟩ (.int .i64 0)) := Below.setCell G (show w.heap.size ≤ w.heap.size + 4 by omega) _
  have z14 : (W13.setCell ⟨w.heap.size + 4, 1, none⟩ (.int .i64 0)).heap.size = W13.heap.size := by simp [World.setCell]
  generalize W13.setCell ⟨w.heap.size + 4, 1, none⟩ (.int .i64 0) = W14 at kP kO kX kR kS rC G z14 ⊢
  obtain ⟨tR, qR0, qR1, qR2, qR3, qR4⟩ := kR.q5
  obtain ⟨tS, qS0, qS1⟩ := kS.q2
  exact bodyPost_ret (v := .tuple #[.agg #[.slice B0 ts.length d0, .slice B1 ks.length d1, .slice B2 fs.length d2, .int .i64 tn, .bool st], .agg #[.int .i64 4, .int .i64 0]]) (by simp [results, Try.results93, go_sem, qR0, qR1, qR2, qR3, qR4, qS0, qS1]) rfl ⟨B0, B1, B2, d0, d1, d2, rfl, rC.wide (by omega) (by omega), G⟩
end Go.Proofs.Ytgncjcnobojgbaa
