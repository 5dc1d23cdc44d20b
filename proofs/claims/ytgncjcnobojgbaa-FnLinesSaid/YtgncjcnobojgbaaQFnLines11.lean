/- The model's new pool: no tasks, no tokens, no future set, turn 1; of a plan that is not right the zero pool. No condition. -/
import Derived.Test.YtgncjcnobojgbaaQFnLines03

namespace Go.Proofs.Ytgncjcnobojgbaa
open Go.RowKit
set_option linter.unusedVariables false

/-- A new row that is a block of the world as it stands. -/
theorem OwnR.made {w : World} {lo : Nat} {e : TypeId} {size g n : Nat} {xs : List Value} {cs : Array Value} (h : Blk w g e cs) (hl : lo ≤ g) (hm : n ≤ maxLen) (hs : cs.size = n * size) (hx : cs.toList = xs) : OwnR w lo w.heap.size e size (.slice (some ⟨g, 0, none⟩) n n) n xs := by
  refine ⟨⟨?_, .inr ⟨g, n, cs, rfl, hl, h, Nat.le_refl _, hm, hs, ?_⟩⟩, fun k hk => ?_⟩
  · rw [← hx, Array.length_toList, hs]
  · rw [← hx, List.take_of_length_le (by rw [Array.length_toList, hs]; exact Nat.le_refl _)]
  · have : g = k := by simpa [Value.ownBlock] using hk
    subst this; exact h.lt
theorem OwnR.nil_ (w : World) (lo hi : Nat) (e : TypeId) (size : Nat) : OwnR w lo hi e size (.slice none 0 0) 0 [] := ⟨World.ownsRow_nil _ _ _ _, fun k hk => by simp [Value.ownBlock] at hk⟩
theorem madeI (n : Nat) (w : World) (lo g : Nat) (hl : lo ≤ g) (hn : n ≤ 1048576) (h : Blk w g 2 (madeCells #[.int .i64 0] n)) : OwnR w lo w.heap.size 2 1 (.slice (some ⟨g, 0, none⟩) (List.replicate n (0 : Int)).length n) (List.replicate n (0 : Int)).length (icells (List.replicate n 0)) := by
  rw [List.length_replicate]
  exact OwnR.made h hl (by unfold maxLen; omega) (by rw [size_madeCells]; omega) (by have := imade n; rw [Nat.mul_one] at this; exact this)
theorem madeF (n : Nat) (w : World) (lo g : Nat) (hl : lo ≤ g) (hn : n ≤ 1048576) (h : Blk w g 90 (madeCells #[.bool false, .int .i64 0] (n * 2))) : OwnR w lo w.heap.size 90 2 (.slice (some ⟨g, 0, none⟩) (List.replicate n (⟨false, 0⟩ : F2)).length n) (List.replicate n (⟨false, 0⟩ : F2)).length (fcells (List.replicate n ⟨false, 0⟩)) := by
  rw [List.length_replicate]
  exact OwnR.made h hl (by unfold maxLen; omega) (by rw [size_madeCells]) (fmade n)
set_option maxRecDepth 100000 in
set_option maxHeartbeats 4000000 in
theorem sNewPool_any (a b c : Int) (d e : Nat) (w : World) (hp : planB a b c d e = true) :
    Calls Try.prog 50 #[.agg #[.int .i64 a, .int .i64 b, .int .i64 c, .int .i64 d, .int .i64 e]] w (MadePool w [] (List.replicate d 0) (List.replicate e ⟨false, 0⟩) 1 false) := by
  have hbd := planB_all hp
  obtain ⟨i0, hi, hz0, hz1, hz2⟩ := info_parts infoInt
  obtain ⟨i1, gi, gz0, gz1, gz2⟩ := info_parts infoFut
  have m0 := fun w => run_make (P := Try.prog) w 31 2 i0 (.int .i64 0) Try.underlying31 hi hz0 .i64 .i64 d d (by omega) (by omega) (by rw [hz2]; omega) (by omega)
  have m1 := fun w => run_make (P := Try.prog) w 32 90 i1 (.agg #[.bool false, .int .i64 0]) Try.underlying32 gi gz0 .i64 .i64 e e (by omega) (by omega) (by rw [gz2]; omega) (by omega)
  rw [hz1] at m0
  rw [gz1] at m1
  simp only [Int.toNat_natCast] at m0 m1
  go_enter Try.func50, Try.ntmps50
  go_wp2_with fail
  have G := Below.refl w.heap.size w
  have kP := Blk.new w 28 #[.int .i64 a, .int .i64 b, .int .i64 c, .int .i64 d, .int .i64 e]
  have hbs := G.size
  replace G := G.alloc (by omega) (.cells #[.int .i64 a, .int .i64 b, .int .i64 c, .int .i64 d, .int .i64 e] 28)
  have z1 : (w.alloc (.cells #[.int .i64 a, .int .i64 b, .int .i64 c, .int .i64 d, .int .i64 e] 28)).heap.size = w.heap.size + 1 := by simp
  clear hbs
  generalize w.alloc (.cells #[.int .i64 a, .int .i64 b, .int .i64 c, .int .i64 d, .int .i64 e] 28) = W1 at kP G z1 ⊢
  have kR : Blk (W1.alloc (.cells #[.slice none 0 0, .slice none 0 0, .slice none 0 0, .int .i64 0, .bool false] 34)) (w.heap.size + 1) 34 #[.slice none 0 0, .slice none 0 0, .slice none 0 0, .int .i64 0, .bool false] := by
    have h := Blk.new W1 34 #[.slice none 0 0, .slice none 0 0, .slice none 0 0, .int .i64 0, .bool false]
    rw [show W1.heap.size = w.heap.size + 1 by omega] at h
    exact h
  replace kP := kP.alloc (.cells #[.slice none 0 0, .slice none 0 0, .slice none 0 0, .int .i64 0, .bool false] 34)
  have hbs := G.size
  replace G := G.alloc (by omega) (.cells #[.slice none 0 0, .slice none 0 0, .slice none 0 0, .int .i64 0, .bool false] 34)
  have z2 : (W1.alloc (.cells #[.slice none 0 0, .slice none 0 0, .slice none 0 0, .int .i64 0, .bool false] 34)).heap.size = W1.heap.size + 1 := by simp
  clear hbs
  generalize W1.alloc (.cells #[.slice none 0 0, .slice none 0 0, .slice none 0 0, .int .i64 0, .bool false] 34) = W2 at kP kR G z2 ⊢
  go_call (sPlanOk_any a b c d e _) as r W3 ⟨rfl, g1⟩
  have hbs := G.size
  replace kP := kP.below g1 kP.lt
  replace kR := kR.below g1 kR.lt
  replace G := G.trans (g1.mono (by omega))
  have z3 := g1.size
  clear g1 hbs
  rw [hp]
  obtain ⟨tP, qP0, fP0, qP1, fP1, qP2, fP2, qP3, fP3, qP4, fP4⟩ := kP.f5
  obtain ⟨tR, qR0, fR0, qR1, fR1, qR2, fR2, qR3, fR3, qR4, fR4⟩ := kR.f5
  go_wp2_with fail
  go_region
  all_goals go_wp2
  · clear tP qP0 fP0 qP1 fP1 qP2 fP2 qP3 fP3 qP4 fP4 tR qR0 fR0 qR1 fR1 qR2 fR2 qR3 fR3 qR4 fR4
    replace kP := kP.far (p := ⟨w.heap.size + 1, 0, none⟩) (show w.heap.size ≠ w.heap.size + 1 by omega) (.slice none 0 0)
    replace kR : Blk (W3.setCell ⟨w.heap.size + 1, 0, none⟩ (.slice none 0 0)) (w.heap.size + 1) 34 #[.slice none 0 0, .slice none 0 0, .slice none 0 0, .int .i64 0, .bool false] := kR.set_ 0 (.slice none 0 0)
    replace G : Below w.heap.size w (W3.setCell ⟨w.heap.size + 1, 0, none⟩ (.slice none 0 0)) := Below.setCell G (show w.heap.size ≤ w.heap.size + 1 by omega) _
    have z4 : (W3.setCell ⟨w.heap.size + 1, 0, none⟩ (.slice none 0 0)).heap.size = W3.heap.size := by simp [World.setCell]
    generalize W3.setCell ⟨w.heap.size + 1, 0, none⟩ (.slice none 0 0) = W4 at kP kR G z4 ⊢
    replace kP := kP.far (p := ⟨w.heap.size + 1, 1, none⟩) (show w.heap.size ≠ w.heap.size + 1 by omega) (.slice (some ⟨W3.heap.size, 0, none⟩) d d)
    replace kR : Blk (W4.setCell ⟨w.heap.size + 1, 1, none⟩ (.slice (some ⟨W3.heap.size, 0, none⟩) d d)) (w.heap.size + 1) 34 #[.slice none 0 0, .slice (some ⟨W3.heap.size, 0, none⟩) d d, .slice none 0 0, .int .i64 0, .bool false] := kR.set_ 1 (.slice (some ⟨W3.heap.size, 0, none⟩) d d)
    replace G : Below w.heap.size w (W4.setCell ⟨w.heap.size + 1, 1, none⟩ (.slice (some ⟨W3.heap.size, 0, none⟩) d d)) := Below.setCell G (show w.heap.size ≤ w.heap.size + 1 by omega) _
    have z5 : (W4.setCell ⟨w.heap.size + 1, 1, none⟩ (.slice (some ⟨W3.heap.size, 0, none⟩) d d)).heap.size = W4.heap.size := by simp [World.setCell]
    generalize W4.setCell ⟨w.heap.size + 1, 1, none⟩ (.slice (some ⟨W3.heap.size, 0, none⟩) d d) = W5 at kP kR G z5 ⊢
    replace kP := kP.far (p := ⟨w.heap.size + 1, 2, none⟩) (show w.heap.size ≠ w.heap.size + 1 by omega) (.slice (some ⟨W3.heap.size + 1, 0, none⟩) e e)
    replace kR : Blk (W5.setCell ⟨w.heap.size + 1, 2, none⟩ (.slice (some ⟨W3.heap.size + 1, 0, none⟩) e e)) (w.heap.size + 1) 34 #[.slice none 0 0, .slice (some ⟨W3.heap.size, 0, none⟩) d d, .slice (some ⟨W3.heap.size + 1, 0, none⟩) e e, .int .i64 0, .bool false] := kR.set_ 2 (.slice (some ⟨W3.heap.size + 1, 0, none⟩) e e)
    replace G : Below w.heap.size w (W5.setCell ⟨w.heap.size + 1, 2, none⟩ (.slice (some ⟨W3.heap.size + 1, 0, none⟩) e e)) := Below.setCell G (show w.heap.size ≤ w.heap.size + 1 by omega) _
    have z6 : (W5.setCell ⟨w.heap.size + 1, 2, none⟩ (.slice (some ⟨W3.heap.size + 1, 0, none⟩) e e)).heap.size = W5.heap.size := by simp [World.setCell]
    generalize W5.setCell ⟨w.heap.size + 1, 2, none⟩ (.slice (some ⟨W3.heap.size + 1, 0, none⟩) e e) = W6 at kP kR G z6 ⊢
    replace kP := kP.far (p := ⟨w.heap.size + 1, 3, none⟩) (show w.heap.size ≠ w.heap.size + 1 by omega) (.int .i64 1)
    replace kR : Blk (W6.setCell ⟨w.heap.size + 1, 3, none⟩ (.int .i64 1)) (w.heap.size + 1) 34 #[.slice none 0 0, .slice (some ⟨W3.heap.size, 0, none⟩) d d, .slice (some ⟨W3.heap.size + 1, 0, none⟩) e e, .int .i64 1, .bool false] := kR.set_ 3 (.int .i64 1)
    replace G : Below w.heap.size w (W6.setCell ⟨w.heap.size + 1, 3, none⟩ (.int .i64 1)) := Below.setCell G (show w.heap.size ≤ w.heap.size + 1 by omega) _
    have z7 : (W6.setCell ⟨w.heap.size + 1, 3, none⟩ (.int .i64 1)).heap.size = W6.heap.size := by simp [World.setCell]
    generalize W6.setCell ⟨w.heap.size + 1, 3, none⟩ (.int .i64 1) = W7 at kP kR G z7 ⊢
    replace kP := kP.far (p := ⟨w.heap.size + 1, 4, none⟩) (show w.heap.size ≠ w.heap.size + 1 by omega) (.bool false)
    replace kR : Blk (W7.setCell ⟨w.heap.size + 1, 4, none⟩ (.bool false)) (w.heap.size + 1) 34 #[.slice none 0 0, .slice (some ⟨W3.heap.size, 0, none⟩) d d, .slice (some ⟨W3.heap.size + 1, 0, none⟩) e e, .int .i64 1, .bool false] := kR.set_ 4 (.bool false)
    replace G : Below w.heap.size w (W7.setCell ⟨w.heap.size + 1, 4, none⟩ (.bool false)) := Below.setCell G (show w.heap.size ≤ w.heap.size + 1 by omega) _
    have z8 : (W7.setCell ⟨w.heap.size + 1, 4, none⟩ (.bool false)).heap.size = W7.heap.size := by simp [World.setCell]
    generalize W7.setCell ⟨w.heap.size + 1, 4, none⟩ (.bool false) = W8 at kP kR G z8 ⊢
    have kI : Blk (W8.alloc (.cells (madeCells #[.int .i64 0] d) 2)) (W3.heap.size) 2 (madeCells #[.int .i64 0] d) := by
      have h := Blk.new W8 2 (madeCells #[.int .i64 0] d)
      rw [show W8.heap.size = W3.heap.size by omega] at h
      exact h
    replace kP := kP.alloc (.cells (madeCells #[.int .i64 0] d) 2)
    replace kR := kR.alloc (.cells (madeCells #[.int .i64 0] d) 2)
    have hbs := G.size
    replace G := G.alloc (by omega) (.cells (madeCells #[.int .i64 0] d) 2)
    have z9 : (W8.alloc (.cells (madeCells #[.int .i64 0] d) 2)).heap.size = W8.heap.size + 1 := by simp
    clear hbs
    generalize W8.alloc (.cells (madeCells #[.int .i64 0] d) 2) = W9 at kP kR kI G z9 ⊢
    have kF : Blk (W9.alloc (.cells (madeCells #[.bool false, .int .i64 0] (e * 2)) 90)) (W3.heap.size + 1) 90 (madeCells #[.bool false, .int .i64 0] (e * 2)) := by
      have h := Blk.new W9 90 (madeCells #[.bool false, .int .i64 0] (e * 2))
      rw [show W9.heap.size = W3.heap.size + 1 by omega] at h
      exact h
    replace kP := kP.alloc (.cells (madeCells #[.bool false, .int .i64 0] (e * 2)) 90)
    replace kR := kR.alloc (.cells (madeCells #[.bool false, .int .i64 0] (e * 2)) 90)
    replace kI := kI.alloc (.cells (madeCells #[.bool false, .int .i64 0] (e * 2)) 90)
    have hbs := G.size
    replace G := G.alloc (by omega) (.cells (madeCells #[.bool false, .int .i64 0] (e * 2)) 90)
    have z10 : (W9.alloc (.cells (madeCells #[.bool false, .int .i64 0] (e * 2)) 90)).heap.size = W9.heap.size + 1 := by simp
    clear hbs
    generalize W9.alloc (.cells (madeCells #[.bool false, .int .i64 0] (e * 2)) 90) = W10 at kP kR kI kF G z10 ⊢
    replace kP := kP.drew
    replace kR := kR.drew
    replace kI := kI.drew
    replace kF := kF.drew
    replace G := G.drew
    have z11 : (W10.drew).heap.size = W10.heap.size := rfl
    generalize W10.drew = W11 at kP kR kI kF G z11 ⊢
    obtain ⟨tR, qR0, qR1, qR2, qR3, qR4⟩ := kR.q5
    exact bodyPost_ret (v := .agg #[.slice none 0 0, .slice (some ⟨W3.heap.size, 0, none⟩) d d, .slice (some ⟨W3.heap.size + 1, 0, none⟩) e e, .int .i64 1, .bool false]) (by simp [results, Try.results50, go_sem, qR0, qR1, qR2, qR3, qR4]) rfl ⟨none, some ⟨W3.heap.size, 0, none⟩, some ⟨W3.heap.size + 1, 0, none⟩, 0, d, e, by simp, ⟨OwnR.nil_ _ _ _ _ _, madeI d _ _ _ (by omega) (by omega) kI, madeF e _ _ _ (by omega) (by omega) kF⟩, G⟩
  · clear tP qP0 fP0 qP1 fP1 qP2 fP2 qP3 fP3 qP4 fP4 tR qR0 fR0 qR1 fR1 qR2 fR2 qR3 fR3 qR4 fR4
    replace kP := kP.far (p := ⟨w.heap.size + 1, 0, none⟩) (show w.heap.size ≠ w.heap.size + 1 by omega) (.slice none 0 0)
    replace kR : Blk (W3.setCell ⟨w.heap.size + 1, 0, none⟩ (.slice none 0 0)) (w.heap.size + 1) 34 #[.slice none 0 0, .slice none 0 0, .slice none 0 0, .int .i64 0, .bool false] := kR.set_ 0 (.slice none 0 0)
    replace G : Below w.heap.size w (W3.setCell ⟨w.heap.size + 1, 0, none⟩ (.slice none 0 0)) := Below.setCell G (show w.heap.size ≤ w.heap.size + 1 by omega) _
    have z4 : (W3.setCell ⟨w.heap.size + 1, 0, none⟩ (.slice none 0 0)).heap.size = W3.heap.size := by simp [World.setCell]
    generalize W3.setCell ⟨w.heap.size + 1, 0, none⟩ (.slice none 0 0) = W4 at kP kR G z4 ⊢
    replace kP := kP.far (p := ⟨w.heap.size + 1, 1, none⟩) (show w.heap.size ≠ w.heap.size + 1 by omega) (.slice (some ⟨W3.heap.size + 1, 0, none⟩) d d)
    replace kR : Blk (W4.setCell ⟨w.heap.size + 1, 1, none⟩ (.slice (some ⟨W3.heap.size + 1, 0, none⟩) d d)) (w.heap.size + 1) 34 #[.slice none 0 0, .slice (some ⟨W3.heap.size + 1, 0, none⟩) d d, .slice none 0 0, .int .i64 0, .bool false] := kR.set_ 1 (.slice (some ⟨W3.heap.size + 1, 0, none⟩) d d)
    replace G : Below w.heap.size w (W4.setCell ⟨w.heap.size + 1, 1, none⟩ (.slice (some ⟨W3.heap.size + 1, 0, none⟩) d d)) := Below.setCell G (show w.heap.size ≤ w.heap.size + 1 by omega) _
    have z5 : (W4.setCell ⟨w.heap.size + 1, 1, none⟩ (.slice (some ⟨W3.heap.size + 1, 0, none⟩) d d)).heap.size = W4.heap.size := by simp [World.setCell]
    generalize W4.setCell ⟨w.heap.size + 1, 1, none⟩ (.slice (some ⟨W3.heap.size + 1, 0, none⟩) d d) = W5 at kP kR G z5 ⊢
    replace kP := kP.far (p := ⟨w.heap.size + 1, 2, none⟩) (show w.heap.size ≠ w.heap.size + 1 by omega) (.slice (some ⟨W3.heap.size, 0, none⟩) e e)
    replace kR : Blk (W5.setCell ⟨w.heap.size + 1, 2, none⟩ (.slice (some ⟨W3.heap.size, 0, none⟩) e e)) (w.heap.size + 1) 34 #[.slice none 0 0, .slice (some ⟨W3.heap.size + 1, 0, none⟩) d d, .slice (some ⟨W3.heap.size, 0, none⟩) e e, .int .i64 0, .bool false] := kR.set_ 2 (.slice (some ⟨W3.heap.size, 0, none⟩) e e)
    replace G : Below w.heap.size w (W5.setCell ⟨w.heap.size + 1, 2, none⟩ (.slice (some ⟨W3.heap.size, 0, none⟩) e e)) := Below.setCell G (show w.heap.size ≤ w.heap.size + 1 by omega) _
    have z6 : (W5.setCell ⟨w.heap.size + 1, 2, none⟩ (.slice (some ⟨W3.heap.size, 0, none⟩) e e)).heap.size = W5.heap.size := by simp [World.setCell]
    generalize W5.setCell ⟨w.heap.size + 1, 2, none⟩ (.slice (some ⟨W3.heap.size, 0, none⟩) e e) = W6 at kP kR G z6 ⊢
    replace kP := kP.far (p := ⟨w.heap.size + 1, 3, none⟩) (show w.heap.size ≠ w.heap.size + 1 by omega) (.int .i64 1)
    replace kR : Blk (W6.setCell ⟨w.heap.size + 1, 3, none⟩ (.int .i64 1)) (w.heap.size + 1) 34 #[.slice none 0 0, .slice (some ⟨W3.heap.size + 1, 0, none⟩) d d, .slice (some ⟨W3.heap.size, 0, none⟩) e e, .int .i64 1, .bool false] := kR.set_ 3 (.int .i64 1)
    replace G : Below w.heap.size w (W6.setCell ⟨w.heap.size + 1, 3, none⟩ (.int .i64 1)) := Below.setCell G (show w.heap.size ≤ w.heap.size + 1 by omega) _
    have z7 : (W6.setCell ⟨w.heap.size + 1, 3, none⟩ (.int .i64 1)).heap.size = W6.heap.size := by simp [World.setCell]
    generalize W6.setCell ⟨w.heap.size + 1, 3, none⟩ (.int .i64 1) = W7 at kP kR G z7 ⊢
    replace kP := kP.far (p := ⟨w.heap.size + 1, 4, none⟩) (show w.heap.size ≠ w.heap.size + 1 by omega) (.bool false)
    replace kR : Blk (W7.setCell ⟨w.heap.size + 1, 4, none⟩ (.bool false)) (w.heap.size + 1) 34 #[.slice none 0 0, .slice (some ⟨W3.heap.size + 1, 0, none⟩) d d, .slice (some ⟨W3.heap.size, 0, none⟩) e e, .int .i64 1, .bool false] := kR.set_ 4 (.bool false)
    replace G : Below w.heap.size w (W7.setCell ⟨w.heap.size + 1, 4, none⟩ (.bool false)) := Below.setCell G (show w.heap.size ≤ w.heap.size + 1 by omega) _
    have z8 : (W7.setCell ⟨w.heap.size + 1, 4, none⟩ (.bool false)).heap.size = W7.heap.size := by simp [World.setCell]
    generalize W7.setCell ⟨w.heap.size + 1, 4, none⟩ (.bool false) = W8 at kP kR G z8 ⊢
    have kF : Blk (W8.alloc (.cells (madeCells #[.bool false, .int .i64 0] (e * 2)) 90)) (W3.heap.size) 90 (madeCells #[.bool false, .int .i64 0] (e * 2)) := by
      have h := Blk.new W8 90 (madeCells #[.bool false, .int .i64 0] (e * 2))
      rw [show W8.heap.size = W3.heap.size by omega] at h
      exact h
    replace kP := kP.alloc (.cells (madeCells #[.bool false, .int .i64 0] (e * 2)) 90)
    replace kR := kR.alloc (.cells (madeCells #[.bool false, .int .i64 0] (e * 2)) 90)
    have hbs := G.size
    replace G := G.alloc (by omega) (.cells (madeCells #[.bool false, .int .i64 0] (e * 2)) 90)
    have z9 : (W8.alloc (.cells (madeCells #[.bool false, .int .i64 0] (e * 2)) 90)).heap.size = W8.heap.size + 1 := by simp
    clear hbs
    generalize W8.alloc (.cells (madeCells #[.bool false, .int .i64 0] (e * 2)) 90) = W9 at kP kR kF G z9 ⊢
    have kI : Blk (W9.alloc (.cells (madeCells #[.int .i64 0] d) 2)) (W3.heap.size + 1) 2 (madeCells #[.int .i64 0] d) := by
      have h := Blk.new W9 2 (madeCells #[.int .i64 0] d)
      rw [show W9.heap.size = W3.heap.size + 1 by omega] at h
      exact h
    replace kP := kP.alloc (.cells (madeCells #[.int .i64 0] d) 2)
    replace kR := kR.alloc (.cells (madeCells #[.int .i64 0] d) 2)
    replace kF := kF.alloc (.cells (madeCells #[.int .i64 0] d) 2)
    have hbs := G.size
    replace G := G.alloc (by omega) (.cells (madeCells #[.int .i64 0] d) 2)
    have z10 : (W9.alloc (.cells (madeCells #[.int .i64 0] d) 2)).heap.size = W9.heap.size + 1 := by simp
    clear hbs
    generalize W9.alloc (.cells (madeCells #[.int .i64 0] d) 2) = W10 at kP kR kF kI G z10 ⊢
    replace kP := kP.drew
    replace kR := kR.drew
    replace kF := kF.drew
    replace kI := kI.drew
    replace G := G.drew
    have z11 : (W10.drew).heap.size = W10.heap.size := rfl
    generalize W10.drew = W11 at kP kR kF kI G z11 ⊢
    obtain ⟨tR, qR0, qR1, qR2, qR3, qR4⟩ := kR.q5
    exact bodyPost_ret (v := .agg #[.slice none 0 0, .slice (some ⟨W3.heap.size + 1, 0, none⟩) d d, .slice (some ⟨W3.heap.size, 0, none⟩) e e, .int .i64 1, .bool false]) (by simp [results, Try.results50, go_sem, qR0, qR1, qR2, qR3, qR4]) rfl ⟨none, some ⟨W3.heap.size + 1, 0, none⟩, some ⟨W3.heap.size, 0, none⟩, 0, d, e, by simp, ⟨OwnR.nil_ _ _ _ _ _, madeI d _ _ _ (by omega) (by omega) kI, madeF e _ _ _ (by omega) (by omega) kF⟩, G⟩
end Go.Proofs.Ytgncjcnobojgbaa
